import PyProof.Rows.All
import Wide.All
import OpenK.AllK
import Wide.FinOn
import HandS.ForMost
import HandS.Wide
import HandS.IsInst
import HandS.Gcd
import HandS.Deep
import HandS.TupAny
import HandS.Style
import PyProof.Rows.SortShell
import HandS.SortRule
import HandS.TryOnly
import PyProof.ReprRoads
import HandS.Iter
import HandS.Dict
import HandS.Star
import HandS.Conv
import HandS.More
import HandS.List
import KE.KDictPairs
import PyProof.RowDictHeap
import PySem.Challenge.RW_everycell_k08_names_put_in_and_worths
set_option Elab.async false
set_option linter.all false
set_option maxRecDepth 100000
set_option maxHeartbeats 2000000
/-! Pure readings: a def's body as a function over trees of data and a store of lists that change. -/
namespace PU
open PySem PySem.Spec PyProof.Rows L2

/-- data: what is within a tree; a list that may change stands in the store, by its number -/
inductive D where
  | non | bl (b : Bool) | int (i : Int) | str (x : Str) | tup (ds : List D) | otp (ds : List D) | lst (ds : List D) | frz (ds : List D) | loc (n : Nat) | ty (n : String) | glb (a : Addr)
/-- a place of the store -/
inductive Ob where
  | lst (ds : List D) | flst (ds : List D) | dct (lk : Bool) (kvs : List (Key × D))
abbrev Env := List (Option D)
abbrev Store := List Ob

/-- where the store lies: its places; and what is set aside (no datum stands there) -/
structure Ws where
  pl : List Addr
  off : List Addr
def Free (ρ : Ws) (a : Addr) : Prop := a ∉ ρ.pl ∧ a ∉ ρ.off

def KT (K : PySem.W.Frag) (a : Addr) (xs : List V) : Prop := ∃ (o : Obj) (its : Array Value) (n : Nat), K.lookup a = some o ∧ o.cls = .type "tuple" ∧ o.dict = none ∧ o.data = .seq its n ∧ its.size ≤ sizeLine ∧ Vals xs its.toList
def KL (K : PySem.W.Frag) (a : Addr) (xs : List V) : Prop := ∃ (o : Obj) (its : Array Value) (n : Nat), K.lookup a = some o ∧ o.cls = .type "list" ∧ o.dict = none ∧ o.data = .seq its n ∧ its.size ≤ sizeLine ∧ Vals xs its.toList
/-- a tuple without a dict of its own -/
def PlT (H : Hp) (a : Addr) (vs : List V) : Prop := ∃ o : Obj, H a = some (.frz o (.tup vs)) ∧ o.dict = none
def TupAt (K : PySem.W.Frag) (ρ : Ws) (H : Hp) (a : Addr) (vs : List V) : Prop := (PlT H a vs ∧ Free ρ a) ∨ KT K a vs
/-- any tuple -/
def OtpAt (K : PySem.W.Frag) (ρ : Ws) (H : Hp) (a : Addr) (vs : List V) : Prop := (Rd H a (.tup vs) ∧ Free ρ a) ∨ KT K a vs
theorem TupAt.o {K : PySem.W.Frag} {ρ : Ws} {H : Hp} {a : Addr} {vs : List V} (h : TupAt K ρ H a vs) : OtpAt K ρ H a vs := h.elim (fun ⟨⟨o, h, _⟩, f⟩ => .inl ⟨.inr ⟨o, h⟩, f⟩) .inr
theorem OtpAt.sq {K : PySem.W.Frag} {ρ : Ws} {H : Hp} {a : Addr} {vs : List V} (h : OtpAt K ρ H a vs) : SqT K H a vs := h.elim (fun h => .inl h.1) (fun ⟨o, its, n, h1, h2, _, h3⟩ => .inr ⟨o, its, n, h1, h2, h3⟩)
def LstAt (ρ : Ws) (H : Hp) (a : Addr) (vs : List V) : Prop := H a = some (.lst vs) ∧ Free ρ a
/-- a list that is only read: frozen, or of the written part -/
def FrzAt (K : PySem.W.Frag) (ρ : Ws) (H : Hp) (a : Addr) (vs : List V) : Prop := (Rd H a (.lst vs) ∧ Free ρ a) ∨ KL K a vs
theorem TupAt.sq {K : PySem.W.Frag} {ρ : Ws} {H : Hp} {a : Addr} {vs : List V} (h : TupAt K ρ H a vs) : SqT K H a vs := h.elim (fun ⟨⟨o, h, _⟩, _⟩ => .inl (.inr ⟨o, h⟩)) (fun ⟨o, its, n, h1, h2, _, h3⟩ => .inr ⟨o, its, n, h1, h2, h3⟩)
theorem LstAt.sq {K : PySem.W.Frag} {ρ : Ws} {H : Hp} {a : Addr} {vs : List V} (h : LstAt ρ H a vs) : SqL K H a vs := .inl (.inl h.1)
theorem FrzAt.sq {K : PySem.W.Frag} {ρ : Ws} {H : Hp} {a : Addr} {vs : List V} (h : FrzAt K ρ H a vs) : SqL K H a vs := h.elim (fun h => .inl h.1) .inr

mutual
inductive Rep (K : PySem.W.Frag) (ρ : Ws) (H : Hp) : D → V → Prop
  | non : Rep K ρ H .non .non
  | bl (b : Bool) : Rep K ρ H (.bl b) (.bl b)
  | int (i : Int) : Rep K ρ H (.int i) (.int i)
  | str (x : Str) : Rep K ρ H (.str x) (.str x)
  | ty (n : String) : Rep K ρ H (.ty n) (.ty n)
  | glb (a : Addr) : Rep K ρ H (.glb a) (.ref a)
  | tup {a : Addr} {ds : List D} {vs : List V} : TupAt K ρ H a vs → Reps K ρ H ds vs → Rep K ρ H (.tup ds) (.ref a)
  | otp {a : Addr} {ds : List D} {vs : List V} : OtpAt K ρ H a vs → Reps K ρ H ds vs → Rep K ρ H (.otp ds) (.ref a)
  | lst {a : Addr} {ds : List D} {vs : List V} : LstAt ρ H a vs → Reps K ρ H ds vs → Rep K ρ H (.lst ds) (.ref a)
  | frz {a : Addr} {ds : List D} {vs : List V} : FrzAt K ρ H a vs → Reps K ρ H ds vs → Rep K ρ H (.frz ds) (.ref a)
  | loc {a : Addr} {n : Nat} : ρ.pl[n]? = some a → Rep K ρ H (.loc n) (.ref a)
inductive Reps (K : PySem.W.Frag) (ρ : Ws) (H : Hp) : List D → List V → Prop
  | nil : Reps K ρ H [] []
  | cons {d : D} {v : V} {ds : List D} {vs : List V} : Rep K ρ H d v → Reps K ρ H ds vs → Reps K ρ H (d :: ds) (v :: vs)
end

/-- the heap goes on: what stands outside the store stays, new places of the store are new objects -/
structure Ext (ρ : Ws) (H : Hp) (ρ' : Ws) (H' : Hp) : Prop where
  more : ∃ τ, ρ'.pl = ρ.pl ++ τ ∧ ∀ a ∈ τ, H a = none
  off : ρ'.off = ρ.off
  keep : ∀ a o, a ∉ ρ.pl → H a = some o → H' a = some o
  live : ∀ a, H a ≠ none → H' a ≠ none
  frz : ∀ a o u, H a = some (.frz o u) → H' a = some (.frz o u)
theorem Ext.refl (ρ : Ws) (H : Hp) : Ext ρ H ρ H := ⟨⟨[], by simp, fun _ h => absurd h (by simp)⟩, rfl, fun _ _ _ h => h, fun _ h => h, fun _ _ _ h => h⟩
theorem Ext.trans {ρ ρ1 ρ2 : Ws} {H H1 H2 : Hp} (x : Ext ρ H ρ1 H1) (y : Ext ρ1 H1 ρ2 H2) : Ext ρ H ρ2 H2 := by
  obtain ⟨τ, e1, h1⟩ := x.more
  obtain ⟨τ2, e2, h2⟩ := y.more
  refine ⟨⟨τ ++ τ2, by rw [e2, e1, List.append_assoc], fun a ha => ?_⟩, y.off.trans x.off, fun a o na h => ?_, fun a h => y.live a (x.live a h), fun a o u h => y.frz a o u (x.frz a o u h)⟩
  · rcases List.mem_append.mp ha with h | h
    · exact h1 a h
    · cases q : H a with
      | none => rfl
      | some o => exact absurd (h2 a h) (x.live a (by rw [q]; intro z; cases z))
  · refine y.keep a o (fun hm => ?_) (x.keep a o na h)
    rw [e1] at hm
    rcases List.mem_append.mp hm with k | k
    · exact na k
    · rw [h1 a k] at h; cases h
theorem Ext.notin {ρ ρ' : Ws} {H H' : Hp} (x : Ext ρ H ρ' H') {a : Addr} (na : a ∉ ρ.pl) (h : H a ≠ none) : a ∉ ρ'.pl := by
  obtain ⟨τ, e, h1⟩ := x.more
  rw [e]
  intro hm
  rcases List.mem_append.mp hm with k | k
  · exact na k
  · exact h (h1 a k)
theorem Ext.free {ρ ρ' : Ws} {H H' : Hp} (x : Ext ρ H ρ' H') {a : Addr} (na : Free ρ a) (h : H a ≠ none) : Free ρ' a := ⟨x.notin na.1 h, by rw [x.off]; exact na.2⟩
theorem Ext.rd {ρ ρ' : Ws} {H H' : Hp} (x : Ext ρ H ρ' H') {a : Addr} {u : HO} (na : Free ρ a) (h : Rd H a u) : Rd H' a u ∧ Free ρ' a := by
  rcases h with h | ⟨o, h⟩
  · exact ⟨.inl (x.keep a _ na.1 h), x.free na (by rw [h]; intro z; cases z)⟩
  · exact ⟨.inr ⟨o, x.keep a _ na.1 h⟩, x.free na (by rw [h]; intro z; cases z)⟩
theorem Ext.get {ρ ρ' : Ws} {H H' : Hp} (x : Ext ρ H ρ' H') {n : Nat} {a : Addr} (h : ρ.pl[n]? = some a) : ρ'.pl[n]? = some a := by
  obtain ⟨τ, e, _⟩ := x.more
  rw [e, List.getElem?_append_left]
  · exact h
  · exact (List.getElem?_eq_some_iff.mp h).1

section
variable {K : PySem.W.Frag} {ρ ρ' : Ws} {H H' : Hp}
mutual
theorem Rep.mono (x : Ext ρ H ρ' H') : ∀ {d : D} {v : V}, Rep K ρ H d v → Rep K ρ' H' d v
  | _, _, .non => .non
  | _, _, .bl b => .bl b
  | _, _, .int i => .int i
  | _, _, .str z => .str z
  | _, _, .ty z => .ty z
  | _, _, .glb z => .glb z
  | _, _, .tup h r => .tup (h.elim (fun ⟨⟨o, h, d⟩, f⟩ => .inl ⟨⟨o, x.frz _ _ _ h, d⟩, x.free f (by rw [h]; intro z; cases z)⟩) .inr) (Reps.mono x r)
  | _, _, .otp h r => .otp (h.elim (fun h => .inl (x.rd h.2 h.1)) .inr) (Reps.mono x r)
  | _, _, .lst h r => .lst ⟨x.keep _ _ h.2.1 h.1, x.free h.2 (by rw [h.1]; intro z; cases z)⟩ (Reps.mono x r)
  | _, _, .frz h r => .frz (h.elim (fun h => .inl (x.rd h.2 h.1)) .inr) (Reps.mono x r)
  | _, _, .loc h => .loc (x.get h)
theorem Reps.mono (x : Ext ρ H ρ' H') : ∀ {ds : List D} {vs : List V}, Reps K ρ H ds vs → Reps K ρ' H' ds vs
  | _, _, .nil => .nil
  | _, _, .cons h r => .cons (Rep.mono x h) (Reps.mono x r)
end
theorem Reps.length : ∀ {ds : List D} {vs : List V}, Reps K ρ H ds vs → ds.length = vs.length
  | _, _, .nil => rfl
  | _, _, .cons _ r => by simp [Reps.length r]
theorem Reps.get : ∀ {ds : List D} {vs : List V} {i : Nat} {d : D}, Reps K ρ H ds vs → ds[i]? = some d → ∃ v, vs[i]? = some v ∧ Rep K ρ H d v
  | _, _, _, _, .nil, e => by simp at e
  | _, _, 0, _, .cons h _, e => by simp at e; subst e; exact ⟨_, rfl, h⟩
  | _, _, i + 1, _, .cons _ r, e => by simpa using Reps.get (i := i) r (by simpa using e)
theorem Reps.append : ∀ {ds es : List D} {vs us : List V}, Reps K ρ H ds vs → Reps K ρ H es us → Reps K ρ H (ds ++ es) (vs ++ us)
  | _, _, _, _, .nil, s => s
  | _, _, _, _, .cons h r, s => .cons h (Reps.append r s)
theorem Reps.set {d : D} {v : V} (h : Rep K ρ H d v) : ∀ {ds : List D} {vs : List V} (i : Nat), Reps K ρ H ds vs → Reps K ρ H (ds.set i d) (vs.set i v)
  | _, _, _, .nil => .nil
  | _, _, 0, .cons _ r => .cons h r
  | _, _, i + 1, .cons q r => .cons q (Reps.set h i r)
theorem Reps.take : ∀ {ds : List D} {vs : List V} (n : Nat), Reps K ρ H ds vs → Reps K ρ H (ds.take n) (vs.take n)
  | _, _, 0, _ => .nil
  | _, _, _ + 1, .nil => .nil
  | _, _, n + 1, .cons h r => .cons h (Reps.take n r)
theorem Reps.drop : ∀ {ds : List D} {vs : List V} (n : Nat), Reps K ρ H ds vs → Reps K ρ H (ds.drop n) (vs.drop n)
  | _, _, 0, r => r
  | _, _, _ + 1, .nil => .nil
  | _, _, n + 1, .cons _ r => Reps.drop n r
theorem Reps.reverse : ∀ {ds : List D} {vs : List V}, Reps K ρ H ds vs → Reps K ρ H ds.reverse vs.reverse
  | _, _, .nil => .nil
  | _, _, .cons h r => by rw [List.reverse_cons, List.reverse_cons]; exact (Reps.reverse r).append (.cons h .nil)
end

/-- an object of the store -/
def ObR (K : PySem.W.Frag) (ρ : Ws) (H : Hp) : Ob → Addr → Prop
  | .lst ds, a => ∃ vs, H a = some (.lst vs) ∧ Reps K ρ H ds vs
  | .flst ds, a => ∃ (vs : List V) (o : Obj), H a = some (.frz o (.lst vs)) ∧ Reps K ρ H ds vs
  | .dct false kvs, a => ∃ vs : List (Key × V), H a = some (.dK vs) ∧ kvs.map Prod.fst = vs.map Prod.fst ∧ Reps K ρ H (kvs.map Prod.snd) (vs.map Prod.snd)
  | .dct true kvs, a => ∃ (vs : List (Key × V)) (o : Obj), H a = some (.frz o (.dK vs)) ∧ kvs.map Prod.fst = vs.map Prod.fst ∧ Reps K ρ H (kvs.map Prod.snd) (vs.map Prod.snd)
theorem ObR.map {K : PySem.W.Frag} {ρ ρ' : Ws} {H H' : Hp} {ob : Ob} {a : Addr} (h : ObR K ρ H ob a) (e : ∀ u, H a = some u → H' a = some u) (f : ∀ ds vs, Reps K ρ H ds vs → Reps K ρ' H' ds vs) : ObR K ρ' H' ob a := by
  match ob, h with
  | .lst ds, ⟨vs, q, r⟩ => exact ⟨vs, e _ q, f _ _ r⟩
  | .flst ds, ⟨vs, o, q, r⟩ => exact ⟨vs, o, e _ q, f _ _ r⟩
  | .dct false kvs, ⟨vs, q, k, r⟩ => exact ⟨vs, e _ q, k, f _ _ r⟩
  | .dct true kvs, ⟨vs, o, q, k, r⟩ => exact ⟨vs, o, e _ q, k, f _ _ r⟩
theorem ObR.live {K : PySem.W.Frag} {ρ : Ws} {H : Hp} {ob : Ob} {a : Addr} (h : ObR K ρ H ob a) : H a ≠ none := by
  match ob, h with
  | .lst ds, ⟨vs, q, r⟩ => rw [q]; intro z; cases z
  | .flst ds, ⟨vs, o, q, r⟩ => rw [q]; intro z; cases z
  | .dct false kvs, ⟨vs, q, k, r⟩ => rw [q]; intro z; cases z
  | .dct true kvs, ⟨vs, o, q, k, r⟩ => rw [q]; intro z; cases z
structure RS (K : PySem.W.Frag) (ρ : Ws) (st : Store) (H : Hp) : Prop where
  nd : ρ.pl.Nodup
  obs : Paired (ObR K ρ H) st ρ.pl
  offl : ∀ a ∈ ρ.off, H a ≠ none ∧ a ∉ ρ.pl
def RepO (K : PySem.W.Frag) (ρ : Ws) (H : Hp) : Option D → Option V → Prop
  | some d, some v => Rep K ρ H d v
  | none, _ => True
  | some _, none => False
structure R (K : PySem.W.Frag) (ρ : Ws) (env : Env) (st : Store) (σ : L2.St) (H : Hp) : Prop where
  s : RS K ρ st H
  e : Paired (RepO K ρ H) env σ

theorem pd_get {α β : Type} {F : α → β → Prop} : ∀ {xs : List α} {ys : List β} {i : Nat} {x : α}, Paired F xs ys → xs[i]? = some x → ∃ y, ys[i]? = some y ∧ F x y
  | _, _, _, _, .nil, e => by simp at e
  | _, _, 0, _, .cons r _, e => by simp at e; subst e; exact ⟨_, rfl, r⟩
  | _, _, i + 1, _, .cons _ t, e => by simpa using pd_get (i := i) t (by simpa using e)
theorem pd_get' {α β : Type} {F : α → β → Prop} : ∀ {xs : List α} {ys : List β} {i : Nat} {y : β}, Paired F xs ys → ys[i]? = some y → ∃ x, xs[i]? = some x ∧ F x y
  | _, _, _, _, .nil, e => by simp at e
  | _, _, 0, _, .cons r _, e => by simp at e; subst e; exact ⟨_, rfl, r⟩
  | _, _, i + 1, _, .cons _ t, e => by simpa using pd_get' (i := i) t (by simpa using e)
theorem pd_set {α β : Type} {F : α → β → Prop} {x : α} {y : β} (h : F x y) : ∀ {xs : List α} {ys : List β} (i : Nat), Paired F xs ys → Paired F (xs.set i x) (ys.set i y)
  | _, _, _, .nil => .nil
  | _, _, 0, .cons _ t => .cons h t
  | _, _, i + 1, .cons q t => .cons q (pd_set h i t)
theorem pd_append {α β : Type} {F : α → β → Prop} : ∀ {xs xs' : List α} {ys ys' : List β}, Paired F xs ys → Paired F xs' ys' → Paired F (xs ++ xs') (ys ++ ys')
  | _, _, _, _, .nil, s => s
  | _, _, _, _, .cons h r, s => .cons h (pd_append r s)

theorem aside_rd {ρ : Ws} {H : Hp} {D' a : Addr} {o u : HO} (hp : H D' = none) (h : Rd H a u) (f : Free ρ a) : Rd (upd H D' o) a u ∧ Free ⟨ρ.pl, D' :: ρ.off⟩ a := by
  have ne : a ≠ D' := by
    rcases h with h | ⟨_, h⟩ <;> exact ne_of_none h hp
  refine ⟨?_, f.1, fun hm => (List.mem_cons.mp hm).elim ne f.2⟩
  rcases h with h | ⟨z, h⟩
  · exact .inl (by rw [upd_ne ne]; exact h)
  · exact .inr ⟨z, by rw [upd_ne ne]; exact h⟩
theorem aside_pl {ρ : Ws} {H : Hp} {D' a : Addr} {o : HO} {vs : List V} (hp : H D' = none) (h : PlT H a vs) (f : Free ρ a) : PlT (upd H D' o) a vs ∧ Free ⟨ρ.pl, D' :: ρ.off⟩ a := by
  obtain ⟨z, h, d⟩ := h
  have ne : a ≠ D' := ne_of_none h hp
  exact ⟨⟨z, by rw [upd_ne ne]; exact h, d⟩, f.1, fun hm => (List.mem_cons.mp hm).elim ne f.2⟩
theorem offw_pl {H : Hp} {D' a : Addr} {o : HO} {vs : List V} (ne : a ≠ D') (h : PlT H a vs) : PlT (upd H D' o) a vs := by
  obtain ⟨z, h, d⟩ := h
  exact ⟨z, by rw [upd_ne ne]; exact h, d⟩
theorem offw_rd {H : Hp} {D' a : Addr} {o u : HO} (ne : a ≠ D') (h : Rd H a u) : Rd (upd H D' o) a u := by
  rcases h with h | ⟨z, h⟩
  · exact .inl (by rw [upd_ne ne]; exact h)
  · exact .inr ⟨z, by rw [upd_ne ne]; exact h⟩
theorem offw_live {H : Hp} {D' a : Addr} {o : HO} (h : H a ≠ none) : upd H D' o a ≠ none := by
  by_cases q : a = D'
  · rw [q, upd_same]; intro z; cases z
  · rw [upd_ne q]; exact h
section
variable {K : PySem.W.Frag} {ρ ρ' : Ws} {H H' : Hp} {st : Store} {env : Env} {σ : L2.St}
theorem RepO.mono (x : Ext ρ H ρ' H') : ∀ {d : Option D} {v : Option V}, RepO K ρ H d v → RepO K ρ' H' d v
  | some _, some _, h => Rep.mono x h
  | none, _, _ => trivial
  | some _, none, h => h.elim
theorem envMono (x : Ext ρ H ρ' H') (h : Paired (RepO K ρ H) env σ) : Paired (RepO K ρ' H') env σ := L2.Paired.mapP h fun _ _ q => RepO.mono x q
theorem RS.live (h : RS K ρ st H) {a : Addr} (ha : a ∈ ρ.pl) : H a ≠ none := by
  obtain ⟨i, hi⟩ := List.getElem?_of_mem ha
  obtain ⟨o, _, q⟩ := pd_get' h.obs hi
  exact q.live
theorem RS.fresh (h : RS K ρ st H) {a : Addr} (ha : H a = none) : Free ρ a := ⟨fun q => h.live q ha, fun q => (h.offl a q).1 ha⟩
/-- an object beside the store is laid -/
theorem ext_new {p : Addr} {o : HO} (hp : H p = none) : Ext ρ H ρ (upd H p o) :=
  ⟨⟨[], by simp, fun _ h => absurd h (by simp)⟩, rfl, fun a u _ e => by rw [upd_ne (ne_of_none e hp)]; exact e, fun a e => by
    by_cases q : a = p
    · rw [q, upd_same]; intro z; cases z
    · rw [upd_ne q]; exact e, fun a o u e => by rw [upd_ne (ne_of_none e hp)]; exact e⟩
theorem ObR.new (x : Ext ρ H ρ' H') {o : Ob} {a : Addr} (h : ObR K ρ H o a) (e : ∀ u, H a = some u → H' a = some u) : ObR K ρ' H' o a := h.map e fun _ _ r => r.mono x
theorem RS.new (h : RS K ρ st H) {p : Addr} {o : HO} (hp : H p = none) : RS K ρ st (upd H p o) :=
  ⟨h.nd, L2.Paired.mapP h.obs fun _ _ q => ObR.new (ext_new hp) q fun u e => by rw [upd_ne (ne_of_none e hp)]; exact e, fun a ha => ⟨(ext_new (ρ := ρ) hp).live a (h.offl a ha).1, (h.offl a ha).2⟩⟩
/-- a new place of the store -/
theorem ext_cell {p : Addr} {o : HO} (hp : H p = none) : Ext ρ H ⟨ρ.pl ++ [p], ρ.off⟩ (upd H p o) :=
  ⟨⟨[p], rfl, fun a ha => by rw [List.mem_singleton.mp ha]; exact hp⟩, rfl, (ext_new (ρ := ρ) hp).keep, (ext_new (ρ := ρ) hp).live, (ext_new (ρ := ρ) hp).frz⟩
theorem RS.cellO (h : RS K ρ st H) {p : Addr} {ob : Ob} {o : HO} (hp : H p = none) (q : ObR K ⟨ρ.pl ++ [p], ρ.off⟩ (upd H p o) ob p) : RS K ⟨ρ.pl ++ [p], ρ.off⟩ (st ++ [ob]) (upd H p o) := by
  have x : Ext ρ H ⟨ρ.pl ++ [p], ρ.off⟩ (upd H p o) := ext_cell hp
  refine ⟨?_, pd_append (L2.Paired.mapP h.obs fun _ _ q => ObR.new x q fun u e => by rw [upd_ne (ne_of_none e hp)]; exact e) (.cons q .nil), fun a ha => ⟨x.live a (h.offl a ha).1, ?_⟩⟩
  · show (ρ.pl ++ [p]).Nodup
    rw [List.nodup_append]
    refine ⟨h.nd, by simp, fun a ha b hb => ?_⟩
    rw [List.mem_singleton.mp hb]
    rintro rfl
    exact (h.fresh hp).1 ha
  · intro hm
    rcases List.mem_append.mp hm with k | k
    · exact (h.offl a ha).2 k
    · rw [List.mem_singleton.mp k] at ha; exact (h.offl p ha).1 hp
theorem RS.cell (h : RS K ρ st H) {p : Addr} {ds : List D} {vs : List V} (hp : H p = none) (r : Reps K ρ H ds vs) : RS K ⟨ρ.pl ++ [p], ρ.off⟩ (st ++ [.lst ds]) (upd H p (.lst vs)) := h.cellO hp ⟨vs, upd_same, r.mono (ext_cell hp)⟩
/-- a place of the store is written -/
theorem ext_wr {n : Nat} {a : Addr} {o : HO} (ha : ρ.pl[n]? = some a) (hf : ∀ z u, H a ≠ some (.frz z u)) : Ext ρ H ρ (upd H a o) :=
  ⟨⟨[], by simp, fun _ h => absurd h (by simp)⟩, rfl, fun b u nb e => by
    rw [upd_ne (fun z => nb (by rw [z]; exact List.mem_of_getElem? ha))]; exact e, fun b e => by
    by_cases q : b = a
    · rw [q, upd_same]; intro z; cases z
    · rw [upd_ne q]; exact e, fun b z u e => by rw [upd_ne (fun q => hf z u (by rw [← q]; exact e))]; exact e⟩
theorem nofrz {H : Hp} {a : Addr} {o : HO} (h : H a = some o) (k : ∀ z u, o ≠ .frz z u) : ∀ z u, H a ≠ some (.frz z u) := fun z u e => by rw [h] at e; cases e; exact k _ _ rfl
theorem pd_all {α β : Type} {F G : α → β → Prop} : ∀ {xs : List α} {ys : List β}, Paired F xs ys → (∀ o b, b ∈ ys → F o b → G o b) → Paired G xs ys
  | _, _, .nil, _ => .nil
  | _, _, .cons r t, f => .cons (f _ _ (by simp) r) (pd_all t fun o b hb => f o b (by simp [hb]))
theorem pd_wr {α β : Type} {F G : α → β → Prop} : ∀ {xs : List α} {ys : List β} {n : Nat} {x : α} {a : β}, Paired F xs ys → ys.Nodup → ys[n]? = some a → G x a → (∀ o b, b ≠ a → F o b → G o b) → Paired G (xs.set n x) ys
  | _, _, _, _, _, .nil, _, e, _, _ => by simp at e
  | _, _, 0, _, _, .cons r t, nd, e, g, f => by
    simp at e; subst e
    have nd' := List.nodup_cons.mp nd
    exact .cons g (pd_all t fun o b hb => f o b fun z => nd'.1 (by rw [← z]; exact hb))
  | _, _, n + 1, _, a, .cons (b := b0) (l₂ := bs) r t, nd, e, g, f => by
    have nd' := List.nodup_cons.mp nd
    have e' : bs[n]? = some a := by simpa using e
    exact .cons (f _ _ (fun z => nd'.1 (by rw [z]; exact List.mem_of_getElem? e')) r) (pd_wr t nd'.2 e' g f)
theorem RS.wrO (h : RS K ρ st H) {n : Nat} {a : Addr} {ob : Ob} {o : HO} (ha : ρ.pl[n]? = some a) (x : Ext ρ H ρ (upd H a o)) (q : ObR K ρ (upd H a o) ob a) : RS K ρ (st.set n ob) (upd H a o) :=
  ⟨h.nd, pd_wr h.obs h.nd ha q fun o b nb q => ObR.new x q fun u e => by rw [upd_ne nb]; exact e, fun a ha => ⟨x.live a (h.offl a ha).1, (h.offl a ha).2⟩⟩
theorem RS.wr (h : RS K ρ st H) {n : Nat} {a : Addr} {ds : List D} {vs vs0 : List V} (ha : ρ.pl[n]? = some a) (hv : H a = some (.lst vs0)) (r : Reps K ρ H ds vs) : RS K ρ (st.set n (.lst ds)) (upd H a (.lst vs)) :=
  have x : Ext ρ H ρ (upd H a (.lst vs)) := ext_wr ha (nofrz hv (by simp))
  h.wrO ha x ⟨vs, upd_same, r.mono x⟩
/-! an object is laid and set aside -/
mutual
theorem Rep.aside {D' : Addr} {o : HO} (hp : H D' = none) : ∀ {d : D} {v : V}, Rep K ρ H d v → Rep K ⟨ρ.pl, D' :: ρ.off⟩ (upd H D' o) d v
  | _, _, .non => .non
  | _, _, .bl b => .bl b
  | _, _, .int i => .int i
  | _, _, .str z => .str z
  | _, _, .ty z => .ty z
  | _, _, .glb z => .glb z
  | _, _, .tup h r => .tup (h.elim (fun h => .inl (aside_pl hp h.1 h.2)) .inr) (Reps.aside hp r)
  | _, _, .otp h r => .otp (h.elim (fun h => .inl (aside_rd hp h.1 h.2)) .inr) (Reps.aside hp r)
  | _, _, .lst h r => .lst ⟨by rw [upd_ne (ne_of_none h.1 hp)]; exact h.1, h.2.1, fun hm => (List.mem_cons.mp hm).elim (ne_of_none h.1 hp) h.2.2⟩ (Reps.aside hp r)
  | _, _, .frz h r => .frz (h.elim (fun h => .inl (aside_rd hp h.1 h.2)) .inr) (Reps.aside hp r)
  | _, _, .loc h => .loc h
theorem Reps.aside {D' : Addr} {o : HO} (hp : H D' = none) : ∀ {ds : List D} {vs : List V}, Reps K ρ H ds vs → Reps K ⟨ρ.pl, D' :: ρ.off⟩ (upd H D' o) ds vs
  | _, _, .nil => .nil
  | _, _, .cons h r => .cons (Rep.aside hp h) (Reps.aside hp r)
end
/-! what is set aside is written -/
mutual
theorem Rep.offw {D' : Addr} {o : HO} (hp : D' ∈ ρ.off) : ∀ {d : D} {v : V}, Rep K ρ H d v → Rep K ρ (upd H D' o) d v
  | _, _, .non => .non
  | _, _, .bl b => .bl b
  | _, _, .int i => .int i
  | _, _, .str z => .str z
  | _, _, .ty z => .ty z
  | _, _, .glb z => .glb z
  | _, _, .tup h r => .tup (h.elim (fun h => .inl ⟨offw_pl (fun z => h.2.2 (by rw [z]; exact hp)) h.1, h.2⟩) .inr) (Reps.offw hp r)
  | _, _, .otp h r => .otp (h.elim (fun h => .inl ⟨offw_rd (fun z => h.2.2 (by rw [z]; exact hp)) h.1, h.2⟩) .inr) (Reps.offw hp r)
  | _, _, .lst h r => .lst ⟨by rw [upd_ne (fun z => h.2.2 (by rw [z]; exact hp))]; exact h.1, h.2⟩ (Reps.offw hp r)
  | _, _, .frz h r => .frz (h.elim (fun h => .inl ⟨offw_rd (fun z => h.2.2 (by rw [z]; exact hp)) h.1, h.2⟩) .inr) (Reps.offw hp r)
  | _, _, .loc h => .loc h
theorem Reps.offw {D' : Addr} {o : HO} (hp : D' ∈ ρ.off) : ∀ {ds : List D} {vs : List V}, Reps K ρ H ds vs → Reps K ρ (upd H D' o) ds vs
  | _, _, .nil => .nil
  | _, _, .cons h r => .cons (Rep.offw hp h) (Reps.offw hp r)
end
/-! what was set aside is so no more -/
mutual
theorem Rep.back {D' : Addr} {off : List Addr} : ∀ {d : D} {v : V}, Rep K ⟨ρ.pl, D' :: off⟩ H d v → Rep K ⟨ρ.pl, off⟩ H d v
  | _, _, .non => .non
  | _, _, .bl b => .bl b
  | _, _, .int i => .int i
  | _, _, .str z => .str z
  | _, _, .ty z => .ty z
  | _, _, .glb z => .glb z
  | _, _, .tup h r => .tup (h.elim (fun h => .inl ⟨h.1, h.2.1, fun hm => h.2.2 (List.mem_cons_of_mem _ hm)⟩) .inr) (Reps.back r)
  | _, _, .otp h r => .otp (h.elim (fun h => .inl ⟨h.1, h.2.1, fun hm => h.2.2 (List.mem_cons_of_mem _ hm)⟩) .inr) (Reps.back r)
  | _, _, .lst h r => .lst ⟨h.1, h.2.1, fun hm => h.2.2 (List.mem_cons_of_mem _ hm)⟩ (Reps.back r)
  | _, _, .frz h r => .frz (h.elim (fun h => .inl ⟨h.1, h.2.1, fun hm => h.2.2 (List.mem_cons_of_mem _ hm)⟩) .inr) (Reps.back r)
  | _, _, .loc h => .loc h
theorem Reps.back {D' : Addr} {off : List Addr} : ∀ {ds : List D} {vs : List V}, Reps K ⟨ρ.pl, D' :: off⟩ H ds vs → Reps K ⟨ρ.pl, off⟩ H ds vs
  | _, _, .nil => .nil
  | _, _, .cons h r => .cons (Rep.back h) (Reps.back r)
end
theorem aside_off (h : RS K ρ st H) {D' : Addr} {o : HO} (hp : H D' = none) (a : Addr) (ha : a ∈ D' :: ρ.off) : upd H D' o a ≠ none ∧ a ∉ ρ.pl := by
  rcases List.mem_cons.mp ha with e | e
  · rw [e, upd_same]
    exact ⟨fun z => (by cases z), (h.fresh hp).1⟩
  · exact ⟨(ext_new (ρ := ρ) hp).live a (h.offl a e).1, (h.offl a e).2⟩
theorem RS.aside (h : RS K ρ st H) {D' : Addr} {o : HO} (hp : H D' = none) : RS K ⟨ρ.pl, D' :: ρ.off⟩ st (upd H D' o) :=
  ⟨h.nd, L2.Paired.mapP h.obs fun ob a q => q.map (fun u e => by rw [upd_ne (ne_of_none e hp)]; exact e) fun _ _ r => r.aside hp, aside_off h hp⟩
theorem RS.offw (h : RS K ρ st H) {D' : Addr} {o : HO} (hp : D' ∈ ρ.off) : RS K ρ st (upd H D' o) :=
  ⟨h.nd, pd_all h.obs fun ob a ha q => q.map (fun u e => by rw [upd_ne (fun z => (h.offl D' hp).2 (by rw [← z]; exact ha))]; exact e) fun _ _ r => r.offw hp, fun a ha => ⟨offw_live (h.offl a ha).1, (h.offl a ha).2⟩⟩
theorem RS.back {D' : Addr} {off : List Addr} (h : RS K ⟨ρ.pl, D' :: off⟩ st H) : RS K ⟨ρ.pl, off⟩ st H :=
  ⟨h.nd, L2.Paired.mapP h.obs fun ob a q => q.map (fun _ e => e) fun _ _ r => r.back, fun a ha => h.offl a (List.mem_cons_of_mem _ ha)⟩
theorem R.mono' (h : R K ρ env st σ H) (x : Ext ρ H ρ' H') {st' : Store} (s : RS K ρ' st' H') : R K ρ' env st' σ H' := ⟨s, envMono x h.e⟩
theorem R.set (h : R K ρ env st σ H) {d : D} {v : V} (r : Rep K ρ H d v) (i : Nat) : R K ρ (env.set i (some d)) st (σ.set i (some v)) H := ⟨h.s, pd_set (F := RepO K ρ H) (x := some d) (y := some v) r i h.e⟩
end

/-- the items of a list, be it in the store or not -/
@[simp] def itemsL (st : Store) : D → Option (List D)
  | .lst ds => some ds
  | .frz ds => some ds
  | .loc n => match st[n]? with
    | some (.lst ds) => some ds
    | some (.flst ds) => some ds
    | _ => none
  | _ => none
/-- .. of one that is no frozen one -/
@[simp] def itemsP (st : Store) : D → Option (List D)
  | .lst ds => some ds
  | .loc n => match st[n]? with
    | some (.lst ds) => some ds
    | _ => none
  | _ => none
@[simp] def itemsT : D → Option (List D)
  | .tup ds => some ds
  | .otp ds => some ds
  | _ => none
theorem repP {K : PySem.W.Frag} {ρ : Ws} {H : Hp} {st : Store} (h : RS K ρ st H) {d : D} {v : V} (r : Rep K ρ H d v) {ds : List D} (e : itemsP st d = some ds) : ∃ a vs, v = .ref a ∧ H a = some (.lst vs) ∧ Reps K ρ H ds vs := by
  cases r with
  | lst l rs =>
    unfold itemsP at e
    cases e
    exact ⟨_, _, rfl, l.1, rs⟩
  | @loc a n l =>
    obtain ⟨o, ho, q⟩ := pd_get' h.obs l
    have e : (match st[n]? with | some (.lst ds) => some ds | _ => none) = some ds := e
    rw [ho] at e
    cases o with
    | lst es =>
      obtain ⟨vs, hq, rs⟩ := q
      cases e
      exact ⟨a, vs, rfl, hq, rs⟩
    | flst es => cases e
    | dct lk kvs => cases e
  | _ => cases e
theorem repL {K : PySem.W.Frag} {ρ : Ws} {H : Hp} {st : Store} (h : RS K ρ st H) {d : D} {v : V} (r : Rep K ρ H d v) {ds : List D} (e : itemsL st d = some ds) : ∃ a vs, v = .ref a ∧ SqL K H a vs ∧ Reps K ρ H ds vs := by
  cases r with
  | frz l rs =>
    unfold itemsL at e
    cases e
    exact ⟨_, _, rfl, l.sq, rs⟩
  | lst l rs =>
    obtain ⟨a, vs, e1, e2, e3⟩ := repP (st := st) h (.lst l rs) e
    exact ⟨a, vs, e1, .inl (.inl e2), e3⟩
  | @loc a n l =>
    obtain ⟨o, ho, q⟩ := pd_get' h.obs l
    have e : (match st[n]? with | some (.lst ds) => some ds | some (.flst ds) => some ds | _ => none) = some ds := e
    rw [ho] at e
    cases o with
    | lst es =>
      obtain ⟨vs, hq, rs⟩ := q
      cases e
      exact ⟨a, vs, rfl, .inl (.inl hq), rs⟩
    | flst es =>
      obtain ⟨vs, o, hq, rs⟩ := q
      cases e
      exact ⟨a, vs, rfl, .inl (.inr ⟨o, hq⟩), rs⟩
    | dct lk kvs => cases e
  | _ => cases e
theorem repT {K : PySem.W.Frag} {ρ : Ws} {H : Hp} {d : D} {v : V} (r : Rep K ρ H d v) {ds : List D} (e : itemsT d = some ds) : ∃ a vs, v = .ref a ∧ SqT K H a vs ∧ Reps K ρ H ds vs := by
  cases r with
  | tup l rs => cases e; exact ⟨_, _, rfl, l.sq, rs⟩
  | otp l rs => cases e; exact ⟨_, _, rfl, l.sq, rs⟩
  | _ => cases e
end PU
set_option Elab.async false
set_option linter.all false
set_option maxRecDepth 100000
set_option maxHeartbeats 2000000
namespace PU
open PySem PySem.Spec PyProof.Rows L2

abbrev FE := Env → Store → Option (D × Store)
abbrev FA := Env → Store → Option (List D × Store)
abbrev FT := Env → Store → Option (Bool × Store)

/-- what is wanted of an expression's end -/
def tP (K : PySem.W.Frag) (f : FE) : TE := fun σ H Q => ∃ ρ env st d st', R K ρ env st σ H ∧ f env st = some (d, st') ∧ ∀ ρ' v H', Ext ρ H ρ' H' → RS K ρ' st' H' → Rep K ρ' H' d v → Q v H'
def tPA (K : PySem.W.Frag) (f : FA) : TA := fun σ H Q => ∃ ρ env st ds st', R K ρ env st σ H ∧ f env st = some (ds, st') ∧ ∀ ρ' vs H', Ext ρ H ρ' H' → RS K ρ' st' H' → Reps K ρ' H' ds vs → Q vs H'
def tPT (K : PySem.W.Frag) (f : FT) : TT := fun σ H Q => ∃ ρ env st b st', R K ρ env st σ H ∧ f env st = some (b, st') ∧ ∀ ρ' H', Ext ρ H ρ' H' → RS K ρ' st' H' → Q b H'
/-- operations by values, that change nothing -/
def rD (K : PySem.W.Frag) (F : Store → D → D → Option D) : R2 := fun x y H Q => ∃ ρ st dx dy d, RS K ρ st H ∧ Rep K ρ H dx x ∧ Rep K ρ H dy y ∧ F st dx dy = some d ∧ ∀ ρ' v H', Ext ρ H ρ' H' → RS K ρ' st H' → Rep K ρ' H' d v → Q v H'
def rDC (K : PySem.W.Frag) (F : Store → List D → Option D) : List V → Hp → VK → Prop := fun vs H Q => ∃ ρ st ds d, RS K ρ st H ∧ Reps K ρ H ds vs ∧ F st ds = some d ∧ ∀ ρ' v H', Ext ρ H ρ' H' → RS K ρ' st H' → Rep K ρ' H' d v → Q v H'

section
variable {X : Cx} {e : Expr} {es : List Expr} {st : Stmt} {sts : List Stmt}
theorem pe_of {t t' : TE} (h : PE X e t) (w : ∀ σ H Q, t' σ H Q → t σ H Q) : PE X e t' := ⟨fun pins s σ H Q I q => h.run pins s σ H Q I (w _ _ _ q)⟩
theorem pt_of {t t' : TT} (h : PT X e t) (w : ∀ σ H Q, t' σ H Q → t σ H Q) : PT X e t' := ⟨fun pins s σ H Q I q => h.run pins s σ H Q I (w _ _ _ q)⟩
theorem pw_of {t t' : TT} (h : PW X e t) (w : ∀ σ H Q, t' σ H Q → t σ H Q) : PW X e t' := ⟨fun wh pins s σ H Q I q => h.run wh pins s σ H Q I (w _ _ _ q)⟩
theorem pa_of {t t' : TA} (h : PA X es t) (w : ∀ σ H Q, t' σ H Q → t σ H Q) : PA X es t' := ⟨fun pos pins s σ H Q I q => h.run pos pins s σ H Q I (w _ _ _ q)⟩
theorem ps_of {t t' : TS} (h : PS X st t) (w : ∀ D σ H, t' D σ H → t D σ H) : PS X st t' := ⟨fun pins s σ H D I q => h.run pins s σ H D I (w _ _ _ q)⟩
theorem pss_of {t t' : TS} (h : PSs X sts t) (w : ∀ D σ H, t' D σ H → t D σ H) : PSs X sts t' := ⟨fun pins s σ H D I q => h.run pins s σ H D I (w _ _ _ q)⟩
end

/-! ### the combinators -/
@[simp] def fVar (i : Nat) : FE := fun env st => match env[i]? with
  | some (some d) => some (d, st)
  | _ => none
@[simp] def fC (d : D) : FE := fun _ st => some (d, st)
@[simp] def fBin (F : Store → D → D → Option D) (f g : FE) : FE := fun env st => (f env st).bind fun p => (g env p.2).bind fun q => (F q.2 p.1 q.1).map fun d => (d, q.2)
@[simp] def fUn (F : Store → D → Option D) (f : FE) : FE := fun env st => (f env st).bind fun p => (F p.2 p.1).map fun d => (d, p.2)
@[simp] def fIf (c : FT) (f g : FE) : FE := fun env st => (c env st).bind fun p => if p.1 = true then f env p.2 else g env p.2
@[simp] def fNil : FA := fun _ st => some ([], st)
@[simp] def fCons (f : FE) (g : FA) : FA := fun env st => (f env st).bind fun p => (g env p.2).map fun q => (p.1 :: q.1, q.2)
@[simp] def fTup (f : FA) : FE := fun env st => (f env st).bind fun p => if p.1.length ≤ 100000 then some (.tup p.1, p.2) else none
@[simp] def fLst (f : FA) : FE := fun env st => (f env st).bind fun p => if p.1.length ≤ 100000 then some (.lst p.1, p.2) else none
@[simp] def fCell (f : FA) : FE := fun env st => (f env st).bind fun p => if p.1.length ≤ 100000 then some (.loc p.2.length, p.2 ++ [.lst p.1]) else none
@[simp] def fCallB (F : Store → List D → Option D) (f : FA) : FE := fun env st => (f env st).bind fun p => (F p.2 p.1).map fun d => (d, p.2)
@[simp] def fCall (g : List D → Store → Option (D × Store)) (f : FA) : FE := fun env st => (f env st).bind fun p => g p.1 p.2
@[simp] def asB : D → Option Bool
  | .bl b => some b
  | _ => none
@[simp] def fB (f : FE) : FT := fun env st => (f env st).bind fun p => (asB p.1).map fun b => (b, p.2)
@[simp] def fTNot (f : FT) : FT := fun env st => (f env st).map fun p => (!p.1, p.2)
@[simp] def fTAnd (f g : FT) : FT := fun env st => (f env st).bind fun p => if p.1 = true then g env p.2 else some (false, p.2)
@[simp] def fTOr (f g : FT) : FT := fun env st => (f env st).bind fun p => if p.1 = true then some (true, p.2) else g env p.2
/-- a test as a value -/
@[simp] def fV (f : FT) : FE := fun env st => (f env st).map fun p => (.bl p.1, p.2)

theorem bindS {α β : Type} {o : Option α} {f : α → Option β} {b : β} (h : o.bind f = some b) : ∃ a, o = some a ∧ f a = some b := Option.bind_eq_some_iff.mp h
theorem mapS {α β : Type} {o : Option α} {f : α → β} {b : β} (h : o.map f = some b) : ∃ a, o = some a ∧ f a = b := Option.map_eq_some_iff.mp h
theorem sz5 {n : Nat} (h : n ≤ 100000) : n ≤ sizeLine := Nat.le_trans h (by decide)

section
variable {X : Cx} {e a b c : Expr} {es : List Expr} {pos : Pos} {f g : FE} {fa : FA} {ft gt : FT}

theorem px_var (i : Nat) {x : Str} (hN : X.N[i]? = some x := by rfl) (hv : Vis X.env.scope x := by first | exact Or.inl rfl | exact Or.inr (Or.inl rfl) | exact Or.inr (Or.inr rfl)) (hd : (x == ("__debug__" : Str)) = false := by decide)
    (hcd : (x == ("__classdict__" : Str)) = false := by decide) : PE X (.Name x pos) (tP X.K (fVar i)) :=
  pe_of (pv i hN hv hd hcd) fun σ H Q ⟨ρ, env, st, d, st', r, h, q⟩ => by
    unfold fVar at h
    split at h
    · next d' hd' =>
      cases h
      obtain ⟨y, hy, ry⟩ := pd_get r.e hd'
      cases y with
      | none => exact ry.elim
      | some v => exact ⟨v, hy, q ρ v H (Ext.refl ρ H) r.s ry⟩
    · cases h
theorem px_c {v : V} {d : D} (h : PE X e (tC v)) (hr : ∀ ρ H, Rep X.K ρ H d v) : PE X e (tP X.K (fC d)) :=
  pe_of h fun σ H Q ⟨ρ, env, st, d', st', r, h, q⟩ => by
    cases h
    exact q ρ v H (Ext.refl ρ H) r.s (hr ρ H)
theorem px_int {i : Int} {j} : PE X (.Constant (.int i) j pos) (tP X.K (fC (.int i))) := px_c pe_int fun _ _ => .int i
theorem px_bl {i : Bool} {j} : PE X (.Constant (.bool i) j pos) (tP X.K (fC (.bl i))) := px_c pe_bl fun _ _ => .bl i
theorem px_non {j} : PE X (.Constant .none j pos) (tP X.K (fC .non)) := px_c pe_non fun _ _ => .non
theorem px_str {x : Str} {j} : PE X (.Constant (.str x) j pos) (tP X.K (fC (.str x))) := px_c pe_str fun _ _ => .str x

theorem run2 {r : R2} {F : Store → D → D → Option D} {ta tb : TE} (hr : r = rD X.K F) (ha : ta = tP X.K f) (hb : tb = tP X.K g) : ∀ σ H Q, tP X.K (fBin F f g) σ H Q → tOp r ta tb σ H Q := by
  subst hr; subst ha; subst hb
  rintro σ H Q ⟨ρ, env, st, d, st', r, h, q⟩
  obtain ⟨⟨x, st1⟩, e1, h⟩ := bindS h
  obtain ⟨⟨y, st2⟩, e2, h⟩ := bindS h
  obtain ⟨d', e3, e4⟩ := mapS h
  cases e4
  exact ⟨ρ, env, st, x, st1, r, e1, fun ρ1 v1 H1 x1 s1 r1 => ⟨ρ1, env, st1, y, st2, r.mono' x1 s1, e2, fun ρ2 v2 H2 x2 s2 r2 =>
    ⟨ρ2, st2, x, y, _, s2, r1.mono x2, r2, e3, fun ρ3 v3 H3 x3 s3 r3 => q ρ3 v3 H3 ((x1.trans x2).trans x3) s3 r3⟩⟩⟩
theorem px_bin {op : Operator} {F : Store → D → D → Option D} (ho : OpR X (binaryOp op) (rD X.K F)) (ha : PE X a (tP X.K f)) (hb : PE X b (tP X.K g)) : PE X (.BinOp a op b pos) (tP X.K (fBin F f g)) :=
  pe_of (pe_op ho ha hb) (run2 rfl rfl rfl)
theorem px_cmp {op : CmpOp} {F : Store → D → D → Option D} (ho : OpR X (compareOp op) (rD X.K F)) (ha : PE X a (tP X.K f)) (hb : PE X b (tP X.K g)) (hm : behindInMarks op b = false := by first | exact nobehind _ (by decide) (by decide) | rfl) :
    PE X (.Compare a [op] [b] pos) (tP X.K (fBin F f g)) := pe_of (pe_cmpR ho ha hb hm) (run2 rfl rfl rfl)
theorem toT {t : TE} (h : ∀ σ H Q, tP X.K f σ H Q → t σ H Q) : ∀ σ H Q, tPT X.K (fB f) σ H Q → tTest t σ H Q := by
  rintro σ H Q ⟨ρ, env, st, b, st', r, hh, q⟩
  obtain ⟨⟨x, st1⟩, e1, hh⟩ := bindS hh
  obtain ⟨k, e2, e3⟩ := mapS hh
  cases e3
  refine h σ H _ ⟨ρ, env, st, x, _, r, e1, fun ρ1 v1 H1 x1 s1 r1 => ?_⟩
  cases x with
  | bl k' =>
    cases e2
    cases r1
    exact ⟨_, rfl, q ρ1 H1 x1 s1⟩
  | _ => cases e2
theorem pt_cmp' {op : CmpOp} {F : Store → D → D → Option D} (ho : OpR X (compareOp op) (rD X.K F)) (ha : PE X a (tP X.K f)) (hb : PE X b (tP X.K g)) (hm : behindInMarks op b = false := by first | exact nobehind _ (by decide) (by decide) | rfl) :
    PT X (.Compare a [op] [b] pos) (tPT X.K (fB (fBin F f g))) := pt_of (pt_cmpR ho ha hb hm) (toT (run2 rfl rfl rfl))
theorem pt_v (h : PE X e (tP X.K f)) (he : ∀ whole, isTrue e X.env whole = (do let v ← whole; standAt e.pos; holding [v] (truthy v)) := by intro _; rfl) : PT X e (tPT X.K (fB f)) :=
  pt_of (pt_val h he) (toT fun _ _ _ h => h)
theorem pt_not' (h : PT X a (tPT X.K ft)) : PT X (.UnaryOp .Not a pos) (tPT X.K (fTNot ft)) :=
  pt_of (pt_not h) fun σ H Q ⟨ρ, env, st, b, st', r, hh, q⟩ => by
    obtain ⟨⟨x, st1⟩, e1, e2⟩ := mapS hh
    cases e2
    exact ⟨ρ, env, st, x, _, r, e1, fun ρ1 H1 x1 s1 => q ρ1 H1 x1 s1⟩
theorem pw_and1' (h : PT X a (tPT X.K ft)) : PW X (.BoolOp .And [a] pos) (tPT X.K ft) := pw_and1 h
theorem pw_or1' (h : PT X a (tPT X.K ft)) : PW X (.BoolOp .Or [a] pos) (tPT X.K ft) := pw_or1 h
theorem runAnd : ∀ σ H Q, tPT X.K (fTAnd ft gt) σ H Q → tAnd (tPT X.K ft) (tPT X.K gt) σ H Q := by
  rintro σ H Q ⟨ρ, env, st, b, st', r, hh, q⟩
  obtain ⟨⟨x, st1⟩, e1, e2⟩ := bindS hh
  refine ⟨ρ, env, st, x, st1, r, e1, fun ρ1 H1 x1 s1 => ?_⟩
  cases x with
  | true => exact ⟨ρ1, env, st1, b, st', r.mono' x1 s1, e2, fun ρ2 H2 x2 s2 => q ρ2 H2 (x1.trans x2) s2⟩
  | false => cases e2; exact q ρ1 H1 x1 s1
theorem runOr : ∀ σ H Q, tPT X.K (fTOr ft gt) σ H Q → tOr (tPT X.K ft) (tPT X.K gt) σ H Q := by
  rintro σ H Q ⟨ρ, env, st, b, st', r, hh, q⟩
  obtain ⟨⟨x, st1⟩, e1, e2⟩ := bindS hh
  refine ⟨ρ, env, st, x, st1, r, e1, fun ρ1 H1 x1 s1 => ?_⟩
  cases x with
  | false => exact ⟨ρ1, env, st1, b, st', r.mono' x1 s1, e2, fun ρ2 H2 x2 s2 => q ρ2 H2 (x1.trans x2) s2⟩
  | true => cases e2; exact q ρ1 H1 x1 s1
theorem pw_and' {rest : List Expr} (ha : PT X a (tPT X.K ft)) (hb : PW X (.BoolOp .And (b :: rest) pos) (tPT X.K gt)) : PW X (.BoolOp .And (a :: b :: rest) pos) (tPT X.K (fTAnd ft gt)) := pw_of (pw_and ha hb) runAnd
theorem pw_or' {rest : List Expr} (ha : PT X a (tPT X.K ft)) (hb : PW X (.BoolOp .Or (b :: rest) pos) (tPT X.K gt)) : PW X (.BoolOp .Or (a :: b :: rest) pos) (tPT X.K (fTOr ft gt)) := pw_of (pw_or ha hb) runOr
/-! .. as values, of bools alone -/
@[simp] def fAnd (f g : FE) : FE := fun env st => (f env st).bind fun p => (asB p.1).bind fun b => if b = true then g env p.2 else some (.bl false, p.2)
@[simp] def fOr (f g : FE) : FE := fun env st => (f env st).bind fun p => (asB p.1).bind fun b => if b = true then some (.bl true, p.2) else g env p.2
@[simp] def fNot (f : FE) : FE := fun env st => (f env st).bind fun p => (asB p.1).map fun b => (.bl (!b), p.2)
theorem px_one {op} (h : PE X a (tP X.K f)) : PE X (.BoolOp op [a] pos) (tP X.K f) := pe_one h
theorem px_and {rest : List Expr} (ha : PE X a (tP X.K f)) (hb : PE X (.BoolOp .And (b :: rest) pos) (tP X.K g)) : PE X (.BoolOp .And (a :: b :: rest) pos) (tP X.K (fAnd f g)) :=
  pe_of (pe_and ha hb) fun σ H Q ⟨ρ, env, st, d, st', r, hh, q⟩ => by
    obtain ⟨⟨x, st1⟩, e1, hh⟩ := bindS hh
    obtain ⟨k, e2, e3⟩ := bindS hh
    refine ⟨ρ, env, st, x, st1, r, e1, fun ρ1 v1 H1 x1 s1 r1 => ?_⟩
    cases x with
    | bl k' =>
      cases e2
      cases r1
      refine ⟨_, rfl, ?_⟩
      cases k with
      | true => exact ⟨ρ1, env, st1, d, st', r.mono' x1 s1, e3, fun ρ2 v2 H2 x2 s2 r2 => q ρ2 v2 H2 (x1.trans x2) s2 r2⟩
      | false => cases e3; exact q ρ1 _ H1 x1 s1 (.bl false)
    | _ => cases e2
theorem px_or {rest : List Expr} (ha : PE X a (tP X.K f)) (hb : PE X (.BoolOp .Or (b :: rest) pos) (tP X.K g)) : PE X (.BoolOp .Or (a :: b :: rest) pos) (tP X.K (fOr f g)) :=
  pe_of (pe_or ha hb) fun σ H Q ⟨ρ, env, st, d, st', r, hh, q⟩ => by
    obtain ⟨⟨x, st1⟩, e1, hh⟩ := bindS hh
    obtain ⟨k, e2, e3⟩ := bindS hh
    refine ⟨ρ, env, st, x, st1, r, e1, fun ρ1 v1 H1 x1 s1 r1 => ?_⟩
    cases x with
    | bl k' =>
      cases e2
      cases r1
      refine ⟨_, rfl, ?_⟩
      cases k with
      | false => exact ⟨ρ1, env, st1, d, st', r.mono' x1 s1, e3, fun ρ2 v2 H2 x2 s2 r2 => q ρ2 v2 H2 (x1.trans x2) s2 r2⟩
      | true => cases e3; exact q ρ1 _ H1 x1 s1 (.bl true)
    | _ => cases e2
theorem px_not (ha : PE X a (tP X.K f)) : PE X (.UnaryOp .Not a pos) (tP X.K (fNot f)) :=
  pe_of (pe_not ha) fun σ H Q ⟨ρ, env, st, d, st', r, hh, q⟩ => by
    obtain ⟨⟨x, st1⟩, e1, hh⟩ := bindS hh
    obtain ⟨k, e2, e3⟩ := mapS hh
    cases e3
    refine ⟨ρ, env, st, x, st1, r, e1, fun ρ1 v1 H1 x1 s1 r1 => ?_⟩
    cases x with
    | bl k' => cases e2; cases r1; exact ⟨_, rfl, q ρ1 _ H1 x1 s1 (.bl _)⟩
    | _ => cases e2
theorem px_if (hc : PT X c (tPT X.K ft)) (ha : PE X a (tP X.K f)) (hb : PE X b (tP X.K g)) : PE X (.IfExp c a b pos) (tP X.K (fIf ft f g)) :=
  pe_of (pe_ifExp hc ha hb) fun σ H Q ⟨ρ, env, st, d, st', r, hh, q⟩ => by
    obtain ⟨⟨x, st1⟩, e1, hh⟩ := bindS hh
    refine ⟨ρ, env, st, x, st1, r, e1, fun ρ1 H1 x1 s1 => ?_⟩
    cases x with
    | true => exact ⟨ρ1, env, st1, d, st', r.mono' x1 s1, hh, fun ρ2 v2 H2 x2 s2 r2 => q ρ2 v2 H2 (x1.trans x2) s2 r2⟩
    | false => exact ⟨ρ1, env, st1, d, st', r.mono' x1 s1, hh, fun ρ2 v2 H2 x2 s2 r2 => q ρ2 v2 H2 (x1.trans x2) s2 r2⟩
theorem px_un {op : UnaryOp} {r : V → Hp → VK → Prop} {F : Store → D → Option D} (ho : UnR X (unaryOp op) r) (hr : ∀ x H Q, (∃ ρ st dx d, RS X.K ρ st H ∧ Rep X.K ρ H dx x ∧ F st dx = some d ∧ ∀ ρ' v H', Ext ρ H ρ' H' → RS X.K ρ' st H' → Rep X.K ρ' H' d v → Q v H') → r x H Q)
    (ha : PE X a (tP X.K f)) : PE X (.UnaryOp op a pos) (tP X.K (fUn F f)) :=
  pe_of (pe_un ho ha) fun σ H Q ⟨ρ, env, st, d, st', r, hh, q⟩ => by
    obtain ⟨⟨x, st1⟩, e1, hh⟩ := bindS hh
    obtain ⟨d', e2, e3⟩ := mapS hh
    cases e3
    exact ⟨ρ, env, st, x, _, r, e1, fun ρ1 v1 H1 x1 s1 r1 => hr _ _ _ ⟨ρ1, _, x, _, s1, r1, e2, fun ρ2 v2 H2 x2 s2 r2 => q ρ2 v2 H2 (x1.trans x2) s2 r2⟩⟩

/-! ### arguments, displays, calls -/
theorem px_nil : PA X [] (tPA X.K fNil) := pa_of pa_nil fun σ H Q ⟨ρ, env, st, ds, st', r, hh, q⟩ => by
  cases hh
  exact q ρ [] H (Ext.refl ρ H) r.s .nil
theorem px_cons (ha : PE X e (tP X.K f)) (hr : PA X es (tPA X.K fa)) (hs : starEach (e :: es) X.env = (false, eval e X.env) :: starEach es X.env := by rfl) : PA X (e :: es) (tPA X.K (fCons f fa)) :=
  pa_of (pa_cons ha hr hs) fun σ H Q ⟨ρ, env, st, ds, st', r, hh, q⟩ => by
    obtain ⟨⟨x, st1⟩, e1, hh⟩ := bindS hh
    obtain ⟨⟨xs, st2⟩, e2, e3⟩ := mapS hh
    cases e3
    exact ⟨ρ, env, st, x, st1, r, e1, fun ρ1 v1 H1 x1 s1 r1 => ⟨ρ1, env, st1, xs, _, r.mono' x1 s1, e2, fun ρ2 vs H2 x2 s2 r2 => q ρ2 _ H2 (x1.trans x2) s2 (.cons (r1.mono x2) r2)⟩⟩
/-- a display: the tuple has no dict -/
def tTupP (t : TA) : TE := fun σ H Q => t σ H fun xs H1 => xs.length ≤ sizeLine ∧ ∀ (p : Addr) (o : Obj), H1 p = none → o.dict = none → Q (.ref p) (upd H1 p (.frz o (.tup xs)))
theorem pe_tupP {t : TA} {x1 : Nat} (h : PA X es t) : PE X (.Tuple es x1 pos) (tTupP t) :=
  ⟨fun pins s σ H Q I hq => wpAny_Tuple_spliced (thn (h.run pos pins s σ H (fun xs H1 => xs.length ≤ sizeLine ∧ ∀ (p : Addr) (o : Obj), H1 p = none → o.dict = none → Q (.ref p) (upd H1 p (.frz o (.tup xs)))) I hq) fun us s1 x => by
    obtain ⟨xs, H1, I1, r, z, q⟩ := x
    refine ⟨by rw [← r.length]; exact z, ?_⟩
    have hf := HOk.fresh I1.hok (Nat.le_refl s1.heap.objs.size)
    refine ⟨.ref s1.heap.objs.size, upd H1 s1.heap.objs.size (.frz { cls := .type "tuple", data := .seq us.toArray } (.tup xs)), ?_, rfl, q _ _ hf rfl⟩
    refine Inv.laid I1 (fun b u e => Heap.get?_push_of_some { cls := Value.type "tuple", data := Data.seq us.toArray } e) (Nat.le_refl _) ⟨Heap.get?_push_size s1.heap rfl, z, us, r, { cls := Value.type "tuple", data := Data.seq us.toArray }, Heap.get?_push_size s1.heap rfl, rfl, 0, rfl⟩)⟩
theorem px_tup {x1} (h : PA X es (tPA X.K fa)) : PE X (.Tuple es x1 pos) (tP X.K (fTup fa)) :=
  pe_of (pe_tupP h) fun σ H Q ⟨ρ, env, st, d, st', r, hh, q⟩ => by
    obtain ⟨⟨xs, st1⟩, e1, hh⟩ := bindS hh
    split at hh
    · next hl =>
      cases hh
      refine ⟨ρ, env, st, xs, _, r, e1, fun ρ1 vs H1 x1 s1 r1 => ⟨sz5 (by rw [← r1.length]; exact hl), fun p o hp ho => ?_⟩⟩
      exact q ρ1 _ _ (x1.trans (ext_new hp)) (s1.new hp) (.tup (.inl ⟨⟨o, upd_same, ho⟩, s1.fresh hp⟩) (r1.mono (ext_new hp)))
    · cases hh
theorem px_lst (h : PA X es (tPA X.K fa)) : PE X (.List es pos) (tP X.K (fLst fa)) :=
  pe_of (pe_lst h) fun σ H Q ⟨ρ, env, st, d, st', r, hh, q⟩ => by
    obtain ⟨⟨xs, st1⟩, e1, hh⟩ := bindS hh
    split at hh
    · next hl =>
      cases hh
      refine ⟨ρ, env, st, xs, _, r, e1, fun ρ1 vs H1 x1 s1 r1 => ⟨sz5 (by rw [← r1.length]; exact hl), fun p hp => ?_⟩⟩
      exact q ρ1 _ _ (x1.trans (ext_new hp)) (s1.new hp) (.lst ⟨upd_same, s1.fresh hp⟩ (r1.mono (ext_new hp)))
    · cases hh
theorem RS.len {K : PySem.W.Frag} {ρ : Ws} {st : Store} {H : Hp} (h : RS K ρ st H) : st.length = ρ.pl.length := Paired.length h.obs
theorem px_cell (h : PA X es (tPA X.K fa)) : PE X (.List es pos) (tP X.K (fCell fa)) :=
  pe_of (pe_lst h) fun σ H Q ⟨ρ, env, st, d, st', r, hh, q⟩ => by
    obtain ⟨⟨xs, st1⟩, e1, hh⟩ := bindS hh
    split at hh
    · next hl =>
      cases hh
      refine ⟨ρ, env, st, xs, st1, r, e1, fun ρ1 vs H1 x1 s1 r1 => ⟨sz5 (by rw [← r1.length]; exact hl), fun p hp => ?_⟩⟩
      refine q _ _ _ (x1.trans (ext_cell hp)) (s1.cell hp r1) (.loc ?_)
      show (ρ1.pl ++ [p])[st1.length]? = some p
      rw [s1.len]; simp
    · cases hh
theorem px_callB {x : Str} {id : String} {p : Pos} {F : Store → List D → Option D} (hc : CallR X (.builtin id) (rDC X.K F)) (hg : Gl X x) (hm : X.mg x = none) (hv : bootBuiltins x = some (.builtin id)) (ha : PA X (e :: es) (tPA X.K fa)) (hn : x ≠ "__name__" := by decide) (hdb : (x == ("__debug__" : Str)) = false := by decide)
    (he : starEach (e :: es) X.env = (false, eval e X.env) :: starEach es X.env := by rfl) (hpl : (backTo pos (starEach es X.env)).any (·.1) = false := by rfl) : PE X (.Call (.Name x p) (e :: es) [] pos) (tP X.K (fCallB F fa)) :=
  pe_of (pe_callB hc hg hm hv ha hn hdb he hpl) fun σ H Q ⟨ρ, env, st, d, st', r, hh, q⟩ => by
    obtain ⟨⟨xs, st1⟩, e1, hh⟩ := bindS hh
    obtain ⟨d', e2, e3⟩ := mapS hh
    cases e3
    exact ⟨ρ, env, st, xs, _, r, e1, fun ρ1 vs H1 x1 s1 r1 => ⟨ρ1, _, xs, _, s1, r1, e2, fun ρ2 v2 H2 x2 s2 r2 => q ρ2 v2 H2 (x1.trans x2) s2 r2⟩⟩
theorem px_callTy {x : Str} {T : String} {p : Pos} {F : Store → List D → Option D} (hc : CallR X (.type T) (rDC X.K F)) (hg : Gl X x) (hm : X.mg x = none) (hv : bootBuiltins x = some (.type T)) (ha : PA X (e :: es) (tPA X.K fa)) (hn : x ≠ "__name__" := by decide) (hdb : (x == ("__debug__" : Str)) = false := by decide)
    (he : starEach (e :: es) X.env = (false, eval e X.env) :: starEach es X.env := by rfl) (hpl : (backTo pos (starEach es X.env)).any (·.1) = false := by rfl) : PE X (.Call (.Name x p) (e :: es) [] pos) (tP X.K (fCallB F fa)) :=
  pe_of (pe_callTy hc hg hm hv ha hn hdb he hpl) fun σ H Q ⟨ρ, env, st, d, st', r, hh, q⟩ => by
    obtain ⟨⟨xs, st1⟩, e1, hh⟩ := bindS hh
    obtain ⟨d', e2, e3⟩ := mapS hh
    cases e3
    exact ⟨ρ, env, st, xs, _, r, e1, fun ρ1 vs H1 x1 s1 r1 => ⟨ρ1, _, xs, _, s1, r1, e2, fun ρ2 v2 H2 x2 s2 r2 => q ρ2 v2 H2 (x1.trans x2) s2 r2⟩⟩
theorem px_callBf {x : Str} {id : String} {p : Pos} {F : Store → List D → Option D} (hc : CallR X (.builtin id) (rDC X.K F)) (hg : Gl X x) (hm : X.mg x = some (.builtin id)) (ha : PA X (e :: es) (tPA X.K fa)) (hdb : (x == ("__debug__" : Str)) = false := by decide)
    (he : starEach (e :: es) X.env = (false, eval e X.env) :: starEach es X.env := by rfl) (hpl : (backTo pos (starEach es X.env)).any (·.1) = false := by rfl) : PE X (.Call (.Name x p) (e :: es) [] pos) (tP X.K (fCallB F fa)) :=
  pe_of (pe_callBfun hc hg hm ha hdb he hpl) fun σ H Q ⟨ρ, env, st, d, st', r, hh, q⟩ => by
    obtain ⟨⟨xs, st1⟩, e1, hh⟩ := bindS hh
    obtain ⟨d', e2, e3⟩ := mapS hh
    cases e3
    exact ⟨ρ, env, st, xs, _, r, e1, fun ρ1 vs H1 x1 s1 r1 => ⟨ρ1, _, xs, _, s1, r1, e2, fun ρ2 v2 H2 x2 s2 r2 => q ρ2 v2 H2 (x1.trans x2) s2 r2⟩⟩
end

/-! ### a def's promise -/
/-- called with n values that stand for ds, over a store st: g's value, g's store -/
def spD (K : PySem.W.Frag) (n : Nat) (g : List D → Store → Option (D × Store)) : Sp := fun vs H Q _ => ∃ ρ ds st d st', RS K ρ st H ∧ Reps K ρ H ds vs ∧ ds.length = n ∧ g ds st = some (d, st') ∧ ∀ ρ' v H', Ext ρ H ρ' H' → RS K ρ' st' H' → Rep K ρ' H' d v → Q v H'
theorem spD_imp {K : PySem.W.Frag} {n : Nat} {g g' : List D → Store → Option (D × Store)} (h : ∀ ds st r, ds.length = n → g' ds st = some r → g ds st = some r) : ∀ vs H Q E, spD K n g' vs H Q E → spD K n g vs H Q E :=
  fun vs H Q E ⟨ρ, ds, st, d, st', s, r, l, e, q⟩ => ⟨ρ, ds, st, d, st', s, r, l, h _ _ _ l e, q⟩
theorem px_call {X : Cx} {k n : Nat} {f : Addr} {fd : FuncData} {ps : List Str} {g : List D → Store → Option (D × Store)} {x : Str} {p pos : Pos} {e : Expr} {es : List Expr} {fa : FA} (F : FnOk X.prog X.w X.K X.mg X.base CX0 k f fd ps (spD X.K n g)) (hr : Room k X.A) (hg : Gl X x) (hm : X.mg x = some (.ref f)) (hk : PySem.W.keepIn X.K (.ref f) = true) (hb : Binds X.K fd ps [])
    (ha : PA X (e :: es) (tPA X.K fa)) (hn : ∀ env st ds st', fa env st = some (ds, st') → ds.length = n) (hdb : (x == ("__debug__" : Str)) = false := by decide) (he : starEach (e :: es) X.env = (false, eval e X.env) :: starEach es X.env := by rfl) (hpl : (backTo pos (starEach es X.env)).any (·.1) = false := by rfl) :
    PE X (.Call (.Name x p) (e :: es) [] pos) (tP X.K (fCall g fa)) :=
  pe_of (pe_call F hr hg hm hk hb .nil pass0 ha hdb he hpl) fun σ H Q ⟨ρ, env, st, d, st', r, hh, q⟩ => by
    obtain ⟨⟨xs, st1⟩, e1, hh⟩ := bindS hh
    refine ⟨ρ, env, st, xs, st1, r, e1, fun ρ1 vs H1 x1 s1 r1 => ⟨ρ1, xs, st1, d, st', s1, by rw [List.append_nil]; exact r1, hn _ _ _ _ e1, hh, fun ρ2 v2 H2 x2 s2 r2 => q ρ2 v2 H2 (x1.trans x2) s2 r2⟩⟩
theorem fn0 (env : Env) (st : Store) (ds : List D) (st' : Store) (h : fNil env st = some (ds, st')) : ds.length = 0 := by cases h; rfl
theorem fn1 {f : FE} {g : FA} {n : Nat} (hg : ∀ env st ds st', g env st = some (ds, st') → ds.length = n) (env : Env) (st : Store) (ds : List D) (st' : Store) (h : fCons f g env st = some (ds, st')) : ds.length = n + 1 := by
  obtain ⟨p, _, h⟩ := bindS h
  obtain ⟨q, e2, e3⟩ := mapS h
  cases e3
  simp [hg _ _ _ _ e2]
end PU
set_option Elab.async false
set_option linter.all false
set_option maxRecDepth 100000
set_option maxHeartbeats 2000000
namespace PU
open PySem PySem.Spec PyProof.Rows L2

/-! ### statements -/
inductive Out where
  | nx (env : Env) (st : Store) | ret (d : D) (st : Store) | bk (env : Env) (st : Store) | ct (env : Env) (st : Store)
abbrev FS := Env → Store → Option Out
def Wnt (K : PySem.W.Frag) (ρ : Ws) (H : Hp) (D : Ends) : Out → Prop
  | .nx e st => ∀ ρ' σ' H', Ext ρ H ρ' H' → R K ρ' e st σ' H' → D.nx σ' H'
  | .ret d st => ∀ ρ' v H', Ext ρ H ρ' H' → RS K ρ' st H' → Rep K ρ' H' d v → D.rt v H'
  | .bk e st => ∀ ρ' σ' H', Ext ρ H ρ' H' → R K ρ' e st σ' H' → D.bk σ' H'
  | .ct e st => ∀ ρ' σ' H', Ext ρ H ρ' H' → R K ρ' e st σ' H' → D.ct σ' H'
def tS (K : PySem.W.Frag) (b : FS) : TS := fun D σ H => ∃ ρ env st out, R K ρ env st σ H ∧ b env st = some out ∧ Wnt K ρ H D out
theorem Wnt.ext {K : PySem.W.Frag} {ρ ρ1 : Ws} {H H1 : Hp} {D : Ends} (x : Ext ρ H ρ1 H1) : ∀ {o : Out}, Wnt K ρ H D o → Wnt K ρ1 H1 D o
  | .nx _ _, w => fun ρ' σ' H' y r => w ρ' σ' H' (x.trans y) r
  | .ret _ _, w => fun ρ' v H' y s r => w ρ' v H' (x.trans y) s r
  | .bk _ _, w => fun ρ' σ' H' y r => w ρ' σ' H' (x.trans y) r
  | .ct _ _, w => fun ρ' σ' H' y r => w ρ' σ' H' (x.trans y) r

@[simp] def fNext : FS := fun env st => some (.nx env st)
@[simp] def fSeq (b c : FS) : FS := fun env st => (b env st).bind fun
  | .nx e s => c e s
  | o => some o
@[simp] def fRet (f : FE) : FS := fun env st => (f env st).map fun p => .ret p.1 p.2
@[simp] def fRetN : FS := fun _ st => some (.ret .non st)
@[simp] def fIfS (c : FT) (a b : FS) : FS := fun env st => (c env st).bind fun p => if p.1 = true then a env p.2 else b env p.2
@[simp] def fDrop (f : FE) : FS := fun env st => (f env st).map fun p => .nx env p.2
@[simp] def fBreak : FS := fun env st => some (.bk env st)
@[simp] def fCont : FS := fun env st => some (.ct env st)

/-! ### targets -/
abbrev FG := D → Env → Option Env
abbrev FGs := List D → Env → Option Env
@[simp] def gNm (i : Nat) : FG := fun d env => some (env.set i (some d))
@[simp] def gTp (g : FGs) : FG := fun d env => (itemsT d).bind fun ds => g ds env
@[simp] def gsNil : FGs := fun ds env => match ds with
  | [] => some env
  | _ => none
@[simp] def gsCons (g : FG) (r : FGs) : FGs := fun ds env => match ds with
  | [] => none
  | d :: ds => (g d env).bind fun e => r ds e
@[simp] def fAsg (f : FE) (g : FG) : FS := fun env st => (f env st).bind fun p => (g p.1 env).map fun e => .nx e p.2
@[simp] def fPar (i j : Nat) (f : FA) : FS := fun env st => (f env st).bind fun p => match p.1 with
  | [x, y] => some (.nx ((env.set i (some x)).set j (some y)) p.2)
  | _ => none

def tG (K : PySem.W.Frag) (vs : List Nat) (g : FG) : TG := fun v σ H Q => ∃ ρ env st d env', R K ρ env st σ H ∧ Rep K ρ H d v ∧ g d env = some env' ∧ ∀ σ', wipe σ' vs = wipe σ vs → R K ρ env' st σ' H → Q σ' H
def tGs (K : PySem.W.Frag) (ws : List Nat) (g : FGs) : TGs := fun vs σ H Q => ∃ ρ env st ds env', R K ρ env st σ H ∧ Reps K ρ H ds vs ∧ g ds env = some env' ∧ ∀ σ', wipe σ' ws = wipe σ ws → R K ρ env' st σ' H → Q σ' H
theorem wipe_set {σ : L2.St} {v : Option V} {i : Nat} : ∀ {vs : List Nat}, i ∈ vs → wipe (σ.set i v) vs = wipe σ vs
  | [], h => absurd h (by simp)
  | j :: vs, h => by
    by_cases e : i = j
    · subst e
      by_cases hm : i ∈ vs
      · show (wipe (σ.set i v) vs).set i none = (wipe σ vs).set i none
        rw [wipe_set hm]
      · have aux : ∀ {us : List Nat}, i ∉ us → wipe (σ.set i v) us = (wipe σ us).set i v := fun {us} => by
          induction us with
          | nil => intro _; rfl
          | cons k us ih =>
            intro hk
            have h1 : i ≠ k := fun z => hk (by simp [z])
            show (wipe (σ.set i v) us).set k none = ((wipe σ us).set k none).set i v
            rw [ih (fun z => hk (by simp [z])), List.set_comm _ _ h1]
        show (wipe (σ.set i v) vs).set i none = (wipe σ vs).set i none
        rw [aux hm, List.set_set]
    · have hm : i ∈ vs := by
        rcases List.mem_cons.mp h with z | z
        · exact absurd z e
        · exact z
      show (wipe (σ.set i v) vs).set j none = (wipe σ vs).set j none
      rw [wipe_set hm]
theorem pg_of {X : Cx} {tgt : Expr} {t t' : TG} (h : PG X tgt t) (w : ∀ v σ H Q, t' v σ H Q → t v σ H Q) : PG X tgt t' := ⟨fun pins s σ H v u Q I r q => h.run pins s σ H v u Q I r (w _ _ _ _ q)⟩
theorem pgs_of {X : Cx} {tgt : List Expr} {t t' : TGs} (h : PGs X tgt t) (w : ∀ v σ H Q, t' v σ H Q → t v σ H Q) : PGs X tgt t' := ⟨fun pins s σ H v u Q I r q => h.run pins s σ H v u Q I r (w _ _ _ _ q)⟩

section
variable {X : Cx} {e a : Expr} {es : List Expr} {pos : Pos} {f : FE} {fa : FA} {ft : FT} {b c : FS} {g : FG} {gs : FGs} {st : Stmt} {sts rest : List Stmt} {vs : List Nat}
theorem px_nm {i : Nat} {x : Str} (hN : X.N.Nodup) (hi : X.N[i]? = some x) (hx : Loc X.env.scope x) (hv : i ∈ vs) (hf : X.fn x = true ∨ X.env.scope.names.lookup x = some .local := by first | exact .inl rfl | exact .inr rfl | assumption) : PG X (.Name x pos) (tG X.K vs (gNm i)) :=
  pg_of (pg_name hN hi hx hf) fun v σ H Q ⟨ρ, env, s, d, env', r, rv, h, q⟩ => by
    cases h
    exact q _ (wipe_set hv) (r.set rv i)
theorem px_gnil : PGs X [] (tGs X.K vs gsNil) := pgs_of pgs_nil fun us σ H Q ⟨ρ, env, s, ds, env', r, rv, h, q⟩ => by
  cases rv with
  | nil => cases h; exact ⟨rfl, q σ rfl r⟩
  | cons _ _ => cases h
theorem px_gcons (h1 : PG X e (tG X.K vs g)) (h2 : PGs X es (tGs X.K vs gs)) (hs : (assignEach (e :: es) X.env).map (·.2) = assign e X.env :: (assignEach es X.env).map (·.2) := by rfl) : PGs X (e :: es) (tGs X.K vs (gsCons g gs)) :=
  pgs_of (pgs_cons h1 h2 hs) fun us σ H Q ⟨ρ, env, s, ds, env', r, rv, h, q⟩ => by
    cases rv with
    | nil => cases h
    | @cons d v ds vs' rd rr =>
      obtain ⟨e1, he, h⟩ := bindS h
      exact ⟨v, vs', rfl, ρ, env, s, d, e1, r, rd, he, fun σ1 w1 r1 => ⟨ρ, e1, s, ds, env', r1, rr, h, fun σ2 w2 r2 => q σ2 (w2.trans w1) r2⟩⟩
theorem px_gtup {k : Nat} {n : Nat} (hc : X.calm = true) (h : PGs X es (tGs X.K vs gs)) (hg : ∀ ds env env', gs ds env = some env' → ds.length = n)
    (hn : (assignEach es X.env).length = n := by rfl) (hst : (assignEach es X.env).findIdx? (·.1) = none := by rfl) : PG X (.Tuple es k pos) (tG X.K vs (gTp gs)) :=
  pg_of (pg_tup hc h hn hst) fun v σ H Q ⟨ρ, env, s, d, env', r, rv, h, q⟩ => by
    obtain ⟨ds, e1, h⟩ := bindS h
    obtain ⟨a, xs, rfl, sq, rr⟩ := repT rv e1
    exact ⟨a, xs, rfl, sq, by rw [← rr.length]; exact hg _ _ _ h, ρ, env, s, ds, env', r, rr, h, q⟩
theorem gn0 (ds : List D) (env env' : Env) (h : gsNil ds env = some env') : ds.length = 0 := by
  cases ds with
  | nil => rfl
  | cons _ _ => cases h
theorem gn1 {n : Nat} (hg : ∀ ds env env', gs ds env = some env' → ds.length = n) (ds : List D) (env env' : Env) (h : gsCons g gs ds env = some env') : ds.length = n + 1 := by
  cases ds with
  | nil => cases h
  | cons _ _ =>
    obtain ⟨_, _, h⟩ := bindS h
    simp [hg _ _ _ h]

theorem px_nx : PSs X [] (tS X.K fNext) := pss_of pss_nil fun D σ H ⟨ρ, env, s, o, r, h, w⟩ => by
  cases h
  exact w ρ σ H (Ext.refl ρ H) r
theorem px_seq (h1 : PS X st (tS X.K b)) (h2 : PSs X rest (tS X.K c)) : PSs X (st :: rest) (tS X.K (fSeq b c)) := pss_of (pss_cons h1 h2) fun D σ H ⟨ρ, env, s, o, r, h, w⟩ => by
  obtain ⟨o1, e1, h⟩ := bindS h
  refine ⟨ρ, env, s, o1, r, e1, ?_⟩
  cases o1 with
  | nx e' s' => exact fun ρ' σ' H' x r' => ⟨ρ', e', s', o, r', h, w.ext x⟩
  | ret d s' => cases h; exact w
  | bk e' s' => cases h; exact w
  | ct e' s' => cases h; exact w
theorem px_one' (h1 : PS X st (tS X.K b)) : PSs X [st] (tS X.K b) := pss_one h1
theorem px_ret (he : PE X e (tP X.K f)) : PS X (.Return (some e) pos) (tS X.K (fRet f)) := ps_of (ps_ret he) fun D σ H ⟨ρ, env, s, o, r, h, w⟩ => by
  obtain ⟨⟨d, s'⟩, e1, e2⟩ := mapS h
  cases e2
  exact ⟨ρ, env, s, d, s', r, e1, w⟩
theorem px_retN : PS X (.Return none pos) (tS X.K fRetN) := ps_of ps_retN fun D σ H ⟨ρ, env, s, o, r, h, w⟩ => by
  cases h
  exact w ρ .non H (Ext.refl ρ H) r.s .non
theorem px_ifS {x : Expr} {as bs : List Stmt} (hc : PT X x (tPT X.K ft)) (ha : PSs X as (tS X.K b)) (hb : PSs X bs (tS X.K c)) : PS X (.If x as bs pos) (tS X.K (fIfS ft b c)) := ps_of (ps_if hc ha hb) fun D σ H ⟨ρ, env, s, o, r, h, w⟩ => by
  obtain ⟨⟨k, s'⟩, e1, h⟩ := bindS h
  refine ⟨ρ, env, s, k, s', r, e1, fun ρ1 H1 x1 s1 => ?_⟩
  cases k with
  | true => exact ⟨ρ1, env, s', o, r.mono' x1 s1, h, w.ext x1⟩
  | false => exact ⟨ρ1, env, s', o, r.mono' x1 s1, h, w.ext x1⟩
theorem px_drop (he : PE X e (tP X.K f)) (hs : swapsWith e none pos.line X.env = pure false := by rfl) : PS X (.Expr e pos) (tS X.K (fDrop f)) := ps_of (ps_expr he hs) fun D σ H ⟨ρ, env, s, o, r, h, w⟩ => by
  obtain ⟨⟨d, s'⟩, e1, e2⟩ := mapS h
  cases e2
  exact ⟨ρ, env, s, d, s', r, e1, fun ρ1 v1 H1 x1 s1 r1 => w ρ1 σ H1 x1 (r.mono' x1 s1)⟩
theorem px_break : PS X (.Break pos) (tS X.K fBreak) := ps_of ps_break fun D σ H ⟨ρ, env, s, o, r, h, w⟩ => by
  cases h
  exact w ρ σ H (Ext.refl ρ H) r
theorem px_cont : PS X (.Continue pos) (tS X.K fCont) := ps_of ps_continue fun D σ H ⟨ρ, env, s, o, r, h, w⟩ => by
  cases h
  exact w ρ σ H (Ext.refl ρ H) r
theorem runAsg : ∀ D σ H, tS X.K (fAsg f g) D σ H → tAsg (tP X.K f) (tG X.K vs g) D σ H := by
  rintro D σ H ⟨ρ, env, s, o, r, h, w⟩
  obtain ⟨⟨d, s'⟩, e1, h⟩ := bindS h
  obtain ⟨env', e2, e3⟩ := mapS h
  cases e3
  exact ⟨ρ, env, s, d, s', r, e1, fun ρ1 v1 H1 x1 s1 r1 => ⟨ρ1, env, s', d, env', r.mono' x1 s1, r1, e2, fun σ' _ r' => w ρ1 σ' H1 x1 r'⟩⟩
theorem px_set {i : Nat} {x : Str} {pos' : Pos} (hN : X.N.Nodup) (hi : X.N[i]? = some x) (hx : Loc X.env.scope x) (he : PE X e (tP X.K f)) (hs : swapsWith e (some (.Name x pos')) pos.line X.env = pure false := by rfl) (hf : X.fn x = true ∨ X.env.scope.names.lookup x = some .local := by first | exact .inl rfl | exact .inr rfl | assumption) :
    PS X (.Assign [.Name x pos'] e pos) (tS X.K (fAsg f (gNm i))) := ps_of (ps_set hN hi hx he hs hf) fun D σ H h => by
  obtain ⟨ρ, env, s, o, r, h, w⟩ := h
  obtain ⟨⟨d, s'⟩, e1, h⟩ := bindS h
  obtain ⟨env', e2, e3⟩ := mapS h
  cases e3
  cases e2
  exact ⟨ρ, env, s, d, s', r, e1, fun ρ1 v1 H1 x1 s1 r1 => w ρ1 _ H1 x1 ((r.mono' x1 s1).set r1 i)⟩
theorem px_asg {tg : Expr} (he : PE X e (tP X.K f)) (hg : PG X tg (tG X.K vs g)) (hs : swapsWithSole [tg] e pos.line X.env = pure false := by rfl) (hw : swappedStores [tg] e X.env = pure none := by rfl)
    (h1 : (assignEach [tg] X.env).map (·.2) = [assign tg X.env] := by rfl) : PS X (.Assign [tg] e pos) (tS X.K (fAsg f g)) := ps_of (ps_asg he hg hs hw h1) runAsg
end
end PU
set_option Elab.async false
set_option linter.all false
set_option maxRecDepth 100000
set_option maxHeartbeats 2000000
namespace PU
open PySem PySem.Spec PyProof.Rows L2

/-! ### loops -/
def fWh (c : FT) (b : FS) : Nat → FS
  | 0 => fun _ _ => none
  | n + 1 => fun env st => (c env st).bind fun p => if p.1 = true then (b env p.2).bind fun
    | .nx e s => fWh c b n e s
    | .ct e s => fWh c b n e s
    | .bk e s => some (.nx e s)
    | .ret d s => some (.ret d s)
    else some (.nx env p.2)
def fWhile (fu : Env → Store → Nat) (c : FT) (b : FS) : FS := fun env st => fWh c b (fu env st) env st
@[simp] def fLoop (g : FG) (b : FS) : List D → FS
  | [] => fun env st => some (.nx env st)
  | d :: ds => fun env st => (g d env).bind fun e => (b e st).bind fun
    | .nx e' s => fLoop g b ds e' s
    | .ct e' s => fLoop g b ds e' s
    | .bk e' s => some (.nx e' s)
    | .ret d s => some (.ret d s)
abbrev FI := Env → Store → Option (List D × Store)
@[simp] def fFor (fi : FI) (g : FG) (b : FS) : FS := fun env st => (fi env st).bind fun p => fLoop g b p.1 env p.2

/-- a later moment: what stood beside the store stands, data are what they were -/
structure Lat (K : PySem.W.Frag) (ρ : Ws) (H : Hp) (ρ' : Ws) (H' : Hp) : Prop where
  keep : ∀ a o, a ∉ ρ.pl → H a = some o → H' a = some o
  rep : ∀ d v, Rep K ρ H d v → Rep K ρ' H' d v
  frz : ∀ a o u, H a = some (.frz o u) → H' a = some (.frz o u)
theorem Ext.lat {K : PySem.W.Frag} {ρ ρ' : Ws} {H H' : Hp} (x : Ext ρ H ρ' H') : Lat K ρ H ρ' H' := ⟨x.keep, fun _ _ r => r.mono x, x.frz⟩
theorem Lat.reps {K : PySem.W.Frag} {ρ ρ' : Ws} {H H' : Hp} (l : Lat K ρ H ρ' H') : ∀ {ds : List D} {vs : List V}, Reps K ρ H ds vs → Reps K ρ' H' ds vs
  | _, _, .nil => .nil
  | _, _, .cons h r => .cons (l.rep _ _ h) (Lat.reps l r)
theorem Lat.ext {K : PySem.W.Frag} {ρ ρ1 ρ2 : Ws} {H H1 H2 : Hp} (l : Lat K ρ H ρ1 H1) (x : Ext ρ1 H1 ρ2 H2) (hp : ∀ a, a ∉ ρ.pl → H a ≠ none → a ∉ ρ1.pl) : Lat K ρ H ρ2 H2 :=
  ⟨fun a o na h => x.keep a o (hp a na (by rw [h]; intro z; cases z)) (l.keep a o na h), fun d v r => (l.rep d v r).mono x, fun a o u h => x.frz a o u (l.frz a o u h)⟩
/-- what a loop walks gives these data, one a turn -/
structure ItOk (K : PySem.W.Frag) (J : It) (items : List D) (ρ : Ws) (H : Hp) : Prop where
  go : ∀ ρ' H' i, Lat K ρ H ρ' H' → i < items.length → J.go i H'
  yld : ∀ ρ' st' H' i x H'' d, Lat K ρ H ρ' H' → RS K ρ' st' H' → items[i]? = some d → J.yld i H' x H'' → Ext ρ' H' ρ' H'' ∧ RS K ρ' st' H'' ∧ Rep K ρ' H'' d x
  stop : ∀ ρ' H' i, Lat K ρ H ρ' H' → items.length ≤ i → J.stop i H'
def tI (K : PySem.W.Frag) (fi : FI) : TI := fun σ H S => ∃ ρ env st items st', R K ρ env st σ H ∧ fi env st = some (items, st') ∧ ∀ ρ' H' J, Ext ρ H ρ' H' → RS K ρ' st' H' → ItOk K J items ρ' H' → S J H'
theorem pi_of {X : Cx} {tg it : Expr} {t t' : TI} (h : PI X tg it t) (w : ∀ σ H S, t' σ H S → t σ H S) : PI X tg it t' := ⟨fun pins s σ H S I q => h.run pins s σ H S I (w _ _ _ q)⟩

/-! ### what is walked -/
@[simp] def itemsF : D → Option (List D)
  | .lst ds => some ds
  | .frz ds => some ds
  | _ => none
@[simp] def fiL (f : FE) : FI := fun env st => (f env st).bind fun p => (itemsF p.1).map fun ds => (ds, p.2)
@[simp] def fiT (f : FE) : FI := fun env st => (f env st).bind fun p => (itemsT p.1).map fun ds => (ds, p.2)
def rangeD (lo : Int) (n : Nat) : List D := (List.range n).map fun (k : Nat) => D.int (lo + (k : Int))
@[simp] def fiR1 (f : FA) : FI := fun env st => (f env st).bind fun p => match p.1 with
  | [.int j] => if -(2 ^ 62) ≤ j ∧ j < 2 ^ 62 then some (rangeD 0 j.toNat, p.2) else none
  | _ => none
@[simp] def fiR2 (f : FA) : FI := fun env st => (f env st).bind fun p => match p.1 with
  | [.int i, .int j] => if -(2 ^ 62) ≤ i ∧ i < 2 ^ 62 ∧ -(2 ^ 62) ≤ j ∧ j < 2 ^ 62 then some (rangeD i (j - i).toNat, p.2) else none
  | _ => none
theorem rd_later {K : PySem.W.Frag} {ρ ρ' : Ws} {H H' : Hp} (l : Lat K ρ H ρ' H') {a : Addr} {u : HO} (na : a ∉ ρ.pl) (h : Rd H a u) : Rd H' a u := by
  rcases h with h | ⟨o, h⟩
  · exact .inl (l.keep a _ na h)
  · exact .inr ⟨o, l.keep a _ na h⟩
theorem sql_inj {K : PySem.W.Frag} {H : Hp} {a : Addr} {xs ys : List V} (h : Rd H a (.lst xs)) (h' : Rd H a (.lst ys)) : xs = ys := by
  rcases h with h | ⟨o, h⟩ <;> rcases h' with h' | ⟨o', h'⟩ <;> rw [h] at h' <;> cases h' <;> rfl
theorem itL {K : PySem.W.Frag} {ρ : Ws} {H : Hp} {a : Addr} {ds : List D} {vs : List V} (h : ∀ ρ' H', Lat K ρ H ρ' H' → SqL K H' a vs) (rs : Reps K ρ H ds vs) : ItOk K (Itl K a) ds ρ H where
  go := fun ρ' H' i l hi => by
    have hd : ds[i]? = some ds[i] := List.getElem?_eq_getElem hi
    obtain ⟨v, hv, _⟩ := rs.get hd
    exact ⟨vs, v, h ρ' H' l, hv⟩
  yld := fun ρ' st' H' i x H'' d l s hd y => by
    obtain ⟨rfl, y⟩ := y
    obtain ⟨v, hv, r⟩ := rs.get hd
    have e := y vs (h ρ' _ l)
    rw [hv] at e
    cases e
    exact ⟨Ext.refl _ _, s, l.rep _ _ r⟩
  stop := fun ρ' H' i l hi => ⟨vs, h ρ' H' l, by rw [← rs.length]; exact hi⟩
theorem itT {K : PySem.W.Frag} {ρ : Ws} {H : Hp} {a : Addr} {ds : List D} {vs : List V} (h : ∀ ρ' H', Lat K ρ H ρ' H' → SqT K H' a vs) (rs : Reps K ρ H ds vs) : ItOk K (Itt K a) ds ρ H where
  go := fun ρ' H' i l hi => by
    have hd : ds[i]? = some ds[i] := List.getElem?_eq_getElem hi
    obtain ⟨v, hv, _⟩ := rs.get hd
    exact ⟨vs, v, h ρ' H' l, hv⟩
  yld := fun ρ' st' H' i x H'' d l s hd y => by
    obtain ⟨rfl, y⟩ := y
    obtain ⟨v, hv, r⟩ := rs.get hd
    have e := y vs (h ρ' _ l)
    rw [hv] at e
    cases e
    exact ⟨Ext.refl _ _, s, l.rep _ _ r⟩
  stop := fun ρ' H' i l hi => ⟨vs, h ρ' H' l, by rw [← rs.length]; exact hi⟩
theorem itR {K : PySem.W.Frag} {ρ : Ws} {H : Hp} (lo : Int) (n : Nat) : ItOk K (Itr lo n) (rangeD lo n) ρ H where
  go := fun ρ' H' i l hi => by
    show i < n
    simpa [rangeD] using hi
  yld := fun ρ' st' H' i x H'' d l s hd y => by
    obtain ⟨rfl, rfl⟩ := y
    refine ⟨Ext.refl _ _, s, ?_⟩
    have hi : i < n := by
      have := (List.getElem?_eq_some_iff.mp hd).1
      simpa [rangeD] using this
    have e : d = .int (lo + (i : Int)) := by
      simp [rangeD, List.getElem?_range hi] at hd
      exact hd.symm
    rw [e]
    exact .int _
  stop := fun ρ' H' i l hi => by
    show n ≤ i
    simpa [rangeD] using hi
section
variable {X : Cx} {tg l e a b : Expr} {f : FE} {fa : FA} {p pos : Pos}
theorem px_iL (hl : PE X l (tP X.K f)) : PI X tg l (tI X.K (fiL f)) := pi_of (pi_list hl) fun σ H S ⟨ρ, env, s, items, s', r, h, q⟩ => by
  obtain ⟨⟨d, s1⟩, e1, h⟩ := bindS h
  obtain ⟨ds, e2, e3⟩ := mapS h
  cases e3
  refine ⟨ρ, env, s, d, s1, r, e1, fun ρ1 v1 H1 x1 r1 rv => ?_⟩
  cases rv with
  | @lst a' ds' vs la rs =>
    cases e2
    refine ⟨a', rfl, ⟨vs, la.sq⟩, q ρ1 H1 _ x1 r1 (itL (vs := vs) (fun ρ' H' l => .inl (.inl (l.keep _ _ la.2.1 la.1))) rs)⟩
  | @frz a' ds' vs la rs =>
    cases e2
    refine ⟨a', rfl, ⟨vs, la.sq⟩, q ρ1 H1 _ x1 r1 (itL (vs := vs) (fun ρ' H' l => ?_) rs)⟩
    rcases la with la | la
    · exact .inl (rd_later l la.2.1 la.1)
    · exact .inr la
  | _ => cases e2
theorem px_iT (hl : PE X l (tP X.K f)) : PI X tg l (tI X.K (fiT f)) := pi_of (pi_tup hl) fun σ H S ⟨ρ, env, s, items, s', r, h, q⟩ => by
  obtain ⟨⟨d, s1⟩, e1, h⟩ := bindS h
  obtain ⟨ds, e2, e3⟩ := mapS h
  cases e3
  refine ⟨ρ, env, s, d, s1, r, e1, fun ρ1 v1 H1 x1 r1 rv => ?_⟩
  cases rv with
  | @tup a' ds' vs la rs =>
    cases e2
    exact ⟨a', rfl, ⟨vs, la.sq⟩, q ρ1 H1 _ x1 r1 (itT (vs := vs) (fun ρ' H' l => TupAt.sq (ρ := ⟨[], []⟩) (la.elim (fun ⟨⟨o, h, d⟩, f⟩ => .inl ⟨⟨o, l.frz _ _ _ h, d⟩, by simp [Free]⟩) .inr)) rs)⟩
  | @otp a' ds' vs la rs =>
    cases e2
    exact ⟨a', rfl, ⟨vs, la.sq⟩, q ρ1 H1 _ x1 r1 (itT (vs := vs) (fun ρ' H' l => OtpAt.sq (ρ := ⟨[], []⟩) (la.elim (fun h => .inl ⟨rd_later l h.2.1 h.1, by simp [Free]⟩) .inr)) rs)⟩
  | _ => cases e2
theorem px_iR1 (hg : Gl X "range") (hm : X.mg "range" = none) (ha : PA X [a] (tPA X.K fa)) (hs : starEach [a] X.env = [(false, eval a X.env)] := by rfl) : PI X tg (.Call (.Name "range" p) [a] [] pos) (tI X.K (fiR1 fa)) :=
  pi_of (pi_range1 hg hm ha hs) fun σ H S ⟨ρ, env, s, items, s', r, h, q⟩ => by
  obtain ⟨⟨ds, s1⟩, e1, h⟩ := bindS h
  refine ⟨ρ, env, s, ds, s1, r, e1, fun ρ1 vs H1 x1 r1 rv => ?_⟩
  split at h
  · next j hj =>
    cases hj
    split at h
    · next hb =>
      cases h
      cases rv with
      | cons r2 r3 =>
        cases r3
        cases r2
        exact ⟨_, rfl, hb.1, hb.2, q ρ1 H1 _ x1 r1 (itR 0 _)⟩
    · cases h
  · cases h
theorem px_iR2 (hg : Gl X "range") (hm : X.mg "range" = none) (ha : PA X [a, b] (tPA X.K fa)) (hs : starEach [a, b] X.env = [(false, eval a X.env), (false, eval b X.env)] := by rfl) (hs2 : starEach [b] X.env = [(false, eval b X.env)] := by rfl) :
    PI X tg (.Call (.Name "range" p) [a, b] [] pos) (tI X.K (fiR2 fa)) :=
  pi_of (pi_range2 hg hm ha hs hs2) fun σ H S ⟨ρ, env, s, items, s', r, h, q⟩ => by
  obtain ⟨⟨ds, s1⟩, e1, h⟩ := bindS h
  refine ⟨ρ, env, s, ds, s1, r, e1, fun ρ1 vs H1 x1 r1 rv => ?_⟩
  split at h
  · next i j hj =>
    cases hj
    split at h
    · next hb =>
      cases h
      cases rv with
      | cons r2 r3 =>
        cases r2
        cases r3 with
        | cons r4 r5 =>
          cases r4
          cases r5
          exact ⟨_, _, rfl, hb, q ρ1 H1 _ x1 r1 (itR _ _)⟩
    · cases h
  · cases h
end

section
variable {X : Cx} {x tg it : Expr} {pos : Pos} {ft : FT} {b : FS} {g : FG} {fi : FI} {body : List Stmt} {vs : List Nat}
theorem px_while (fu : Env → Store → Nat) (hp : PassesOwn (model X.prog X.w) X.A X.env X.xe) (hc : PT X x (tPT X.K ft)) (hb : PSs X body (tS X.K b)) : PS X (.While x body [] pos) (tS X.K (fWhile fu ft b)) :=
  ps_of (ps_while hp hc hb) fun D σ H ⟨ρ, env, s, o, r, h, w⟩ => by
  refine ⟨fun m σ H => ∃ ρ env st out, R X.K ρ env st σ H ∧ fWh ft b m env st = some out ∧ Wnt X.K ρ H D out, ⟨_, ρ, env, s, o, r, h, w⟩, fun m σ H hW => ?_⟩
  obtain ⟨ρ, env, s, o, r, h, w⟩ := hW
  cases m with
  | zero => cases h
  | succ m =>
    obtain ⟨⟨k, s'⟩, e1, h⟩ := bindS h
    refine ⟨ρ, env, s, k, s', r, e1, fun ρ1 H1 x1 s1 => ?_⟩
    cases k with
    | false =>
      cases h
      exact w ρ1 σ H1 x1 (r.mono' x1 s1)
    | true =>
      have h : ((b env s').bind fun
        | .nx e s => fWh ft b m e s
        | .ct e s => fWh ft b m e s
        | .bk e s => some (.nx e s)
        | .ret d s => some (.ret d s)) = some o := h
      obtain ⟨o1, e2, h⟩ := bindS h
      refine ⟨fun σ' H' => ∃ ρ env st out, R X.K ρ env st σ' H' ∧ fWh ft b m env st = some out ∧ Wnt X.K ρ H' D out, fun σ' H' hN => ⟨m, Nat.lt_succ_self m, hN⟩, ρ1, env, s', o1, r.mono' x1 s1, e2, ?_⟩
      have w1 := w.ext x1
      cases o1 with
      | nx e' s2 => exact fun ρ' σ' H' x r' => ⟨ρ', e', s2, o, r', h, w1.ext x⟩
      | ct e' s2 => exact fun ρ' σ' H' x r' => ⟨ρ', e', s2, o, r', h, w1.ext x⟩
      | bk e' s2 => cases h; exact w1
      | ret d s2 => cases h; exact w1
theorem px_for (hp : PassesOwn (model X.prog X.w) X.A X.env X.xe) (hc : X.calm = true) (hi : PI X tg it (tI X.K fi)) (hg : PG X tg (tG X.K vs g)) (hb : PSs X body (tS X.K b)) (hs : ∀ x, foldedSetIterable it X.env x = pure x := by intro _; rfl) : PS X (.For tg it body [] pos) (tS X.K (fFor fi g b)) :=
  ps_of (ps_for hp hc hi hg hb hs) fun D σ H ⟨ρ, env, s, o, r, h, w⟩ => by
  obtain ⟨⟨items, s'⟩, e1, h⟩ := bindS h
  refine ⟨ρ, env, s, items, s', r, e1, fun ρ0 H0 J x0 s0 ok => ?_⟩
  refine ⟨fun i m σ H => m = items.length - i ∧ ∃ ρ1 env st out, Lat X.K ρ0 H0 ρ1 H ∧ (∀ a, a ∉ ρ0.pl → H0 a ≠ none → a ∉ ρ1.pl) ∧ R X.K ρ1 env st σ H ∧ fLoop g b (items.drop i) env st = some out ∧ Wnt X.K ρ1 H D out,
    ⟨_, rfl, ρ0, env, s', o, (Ext.refl ρ0 H0).lat, fun _ z _ => z, r.mono' x0 s0, h, w.ext x0⟩, fun i m σ H hW => ?_⟩
  obtain ⟨hm, ρ1, env, s, o, la, hpl, r, h, w⟩ := hW
  by_cases hi : i < items.length
  · refine .inr ⟨ok.go ρ1 H i la hi, fun σ' H' => items.length - (i + 1) = items.length - (i + 1) ∧ ∃ ρ1 env st out, Lat X.K ρ0 H0 ρ1 H' ∧ (∀ a, a ∉ ρ0.pl → H0 a ≠ none → a ∉ ρ1.pl) ∧ R X.K ρ1 env st σ' H' ∧ fLoop g b (items.drop (i + 1)) env st = some out ∧ Wnt X.K ρ1 H' D out, fun σ' H' hN => ⟨items.length - (i + 1), by omega, hN⟩, fun v H' y => ?_⟩
    have hd : items[i]? = some items[i] := List.getElem?_eq_getElem hi
    obtain ⟨x2, s2, rv⟩ := ok.yld ρ1 s H i v H' items[i] la r.s hd y
    rw [List.drop_eq_getElem_cons hi] at h
    obtain ⟨env1, e2, h⟩ := bindS h
    obtain ⟨o1, e3, h⟩ := bindS h
    refine ⟨ρ1, env, s, items[i], env1, r.mono' x2 s2, rv, e2, fun σ2 _ r2 => ⟨ρ1, env1, s, o1, r2, e3, ?_⟩⟩
    have w1 := w.ext x2
    have hpl' : ∀ {ρ' : Ws} {H'' : Hp}, Ext ρ1 H' ρ' H'' → ∀ a, a ∉ ρ0.pl → H0 a ≠ none → a ∉ ρ'.pl := fun x a na h0 => by
      refine x.notin (hpl a na h0) ?_
      cases q : H0 a with
      | none => exact absurd q h0
      | some ob => exact x2.live a (by rw [la.keep a ob na q]; intro z; cases z)
    cases o1 with
    | nx e' s3 => exact fun ρ' σ' H'' x r' => ⟨rfl, ρ', e', s3, o, (la.ext x2 hpl).ext x (fun a na h0 => hpl a na h0), hpl' x, r', h, w1.ext x⟩
    | ct e' s3 => exact fun ρ' σ' H'' x r' => ⟨rfl, ρ', e', s3, o, (la.ext x2 hpl).ext x (fun a na h0 => hpl a na h0), hpl' x, r', h, w1.ext x⟩
    | bk e' s3 => cases h; exact w1
    | ret d s3 => cases h; exact w1
  · refine .inl ⟨ok.stop ρ1 H i la (by omega), ?_⟩
    rw [List.drop_eq_nil_of_le (by omega)] at h
    cases h
    exact w ρ1 σ H (Ext.refl ρ1 H) r
end
end PU
set_option Elab.async false
set_option linter.all false
set_option maxRecDepth 100000
set_option maxHeartbeats 2000000
namespace PU
open PySem PySem.Spec PyProof.Rows L2

/-! ### list comprehensions -/
@[simp] def wipeE (env : Env) : List Nat → Env
  | [] => env
  | v :: vs => (wipeE env vs).set v none
@[simp] def fLcLoop (g : FG) (t : FT) (f : FE) (env0 : Env) : List D → Store → List D → Option (List D × Store)
  | [], st, acc => some (acc, st)
  | d :: ds, st, acc => (g d env0).bind fun e => (t e st).bind fun p =>
    if p.1 = true then (f e p.2).bind fun q => if acc.length < 100000 then fLcLoop g t f env0 ds q.2 (acc ++ [q.1]) else none
    else fLcLoop g t f env0 ds p.2 acc
@[simp] def fLc (fi : FI) (g : FG) (t : FT) (f : FE) (vs : List Nat) : FE := fun env st => (fi env st).bind fun p => (fLcLoop g t f (wipeE env vs) p.1 p.2 []).map fun q => (.lst q.1, q.2)
@[simp] def fTYes : FT := fun _ st => some (true, st)
theorem wipe_pd {K : PySem.W.Frag} {ρ : Ws} {H : Hp} {env : Env} {σ : L2.St} (h : Paired (RepO K ρ H) env σ) : ∀ vs : List Nat, Paired (RepO K ρ H) (wipeE env vs) (wipe σ vs)
  | [] => h
  | v :: vs => pd_set (F := RepO K ρ H) (x := none) (y := none) trivial v (wipe_pd h vs)
theorem wipe_get (σ : L2.St) (j : Nat) : ∀ vs : List Nat, (wipe σ vs)[j]? = if j ∈ vs then (σ[j]?).map (fun _ => none) else σ[j]?
  | [] => by simp [wipe]
  | v :: vs => by
    show ((wipe σ vs).set v none)[j]? = _
    rw [List.getElem?_set, wipe_length, wipe_get σ j vs]
    by_cases h : v = j
    · subst h
      by_cases hl : v < σ.length
      · simp [hl, List.getElem?_eq_getElem hl]
      · have : σ[v]? = none := List.getElem?_eq_none (by omega)
        simp [hl, this]
    · have h2 : j ≠ v := fun z => h z.symm
      by_cases hm : j ∈ vs <;> simp [h, h2, hm]
theorem wipe_wipe (σ : L2.St) (vs : List Nat) : wipe (wipe σ vs) vs = wipe σ vs := by
  apply List.ext_getElem?
  intro j
  rw [wipe_get, wipe_get]
  by_cases h : j ∈ vs
  · simp only [h, if_true]
    cases σ[j]? <;> rfl
  · simp [h]
def tPTs (K : PySem.W.Frag) (f : FT) : TT := tPT K f
section
variable {X : Cx} {c : Expr} {ft : FT}
theorem pts_of {ifs : List Expr} {t t' : TT} (h : PTs X ifs t) (w : ∀ σ H Q, t' σ H Q → t σ H Q) : PTs X ifs t' := ⟨fun pins s σ H Q I q => h.run pins s σ H Q I (w _ _ _ q)⟩
theorem px_ts0 : PTs X [] (tPT X.K fTYes) := pts_of pts_nil fun σ H Q ⟨ρ, env, s, b, s', r, h, q⟩ => by
  cases h
  exact q ρ H (Ext.refl ρ H) r.s
theorem px_ts1 (h : PT X c (tPT X.K ft)) : PTs X [c] (tPT X.K ft) := pts_one h
end
theorem lat_aside {K : PySem.W.Frag} {ρ : Ws} {H : Hp} {p : Addr} {o : HO} (hp : H p = none) : Lat K ρ H ⟨ρ.pl, p :: ρ.off⟩ (upd H p o) :=
  ⟨fun a u _ h => by rw [upd_ne (ne_of_none h hp)]; exact h, fun d v r => r.aside hp, fun a o u h => by rw [upd_ne (ne_of_none h hp)]; exact h⟩
theorem reps_snoc {K : PySem.W.Frag} {ρ : Ws} {H : Hp} {ds : List D} {vs : List V} {d : D} {v : V} (h : Reps K ρ H ds vs) (r : Rep K ρ H d v) : Reps K ρ H (ds ++ [d]) (vs ++ [v]) := h.append (.cons r .nil)
/-- the reading, over any rule of a comprehension -/
theorem runLc {K : PySem.W.Frag} {fi : FI} {g : FG} {ft : FT} {f : FE} {vs : List Nat} : ∀ σ H Q, tP K (fLc fi g ft f vs) σ H Q → tLc (tI K fi) (tG K vs g) (tPT K ft) (tP K f) vs σ H Q := by
  rintro σ H Q ⟨ρ, env, s, d, st', r, h, q⟩
  obtain ⟨⟨items, s'⟩, e1, h⟩ := bindS h
  obtain ⟨⟨accF, sF⟩, e2, e3⟩ := mapS h
  cases e3
  refine ⟨ρ, env, s, items, s', r, e1, fun ρ0 H0 J x0 s0 ok => ?_⟩
  intro p hp
  have hpl0 : ∀ a, a ∉ ρ0.pl → H0 a ≠ none → a ∉ (⟨ρ0.pl, p :: ρ0.off⟩ : Ws).pl := fun _ z _ => z
  refine ⟨fun i m H => m = items.length - i ∧ ∃ ρ1 st1 acc vacc, Lat K ρ0 H0 ρ1 H ∧ (∀ a, a ∉ ρ0.pl → H0 a ≠ none → a ∉ ρ1.pl) ∧ ρ1.off = p :: ρ0.off ∧ Ext ρ0 H0 ⟨ρ1.pl, ρ0.off⟩ H ∧ H p = some (.lst vacc) ∧ RS K ρ1 st1 H ∧ Reps K ρ1 H acc vacc ∧ Paired (RepO K ρ1 H) (wipeE env vs) (wipe σ vs) ∧ acc.length ≤ 100000 ∧
      fLcLoop g ft f (wipeE env vs) (items.drop i) st1 acc = some (accF, sF), ⟨_, rfl, ⟨ρ0.pl, p :: ρ0.off⟩, s', [], [], lat_aside hp, hpl0, rfl, ext_new hp, upd_same, s0.aside hp, .nil, ?_, by decide, e2⟩, fun i m H hW => ?_⟩
  · have h0 := wipe_pd (envMono x0 r.e) vs
    refine L2.Paired.mapP h0 fun a b q => ?_
    cases a with
    | none => trivial
    | some a =>
      cases b with
      | none => exact q.elim
      | some b => exact Rep.aside hp q
  obtain ⟨hm, ρ1, st1, acc, vacc, la, hpl, hoff, hx, hD, rs, hacc, hen, hlen, hl⟩ := hW
  have hpo : p ∈ ρ1.off := by rw [hoff]; simp
  by_cases hi : i < items.length
  · have hd : items[i]? = some items[i] := List.getElem?_eq_getElem hi
    rw [List.drop_eq_getElem_cons hi] at hl
    refine .inr ⟨ok.go ρ1 H i la hi, fun H' => items.length - (i + 1) = items.length - (i + 1) ∧ ∃ ρ1 st1 acc vacc, Lat K ρ0 H0 ρ1 H' ∧ (∀ a, a ∉ ρ0.pl → H0 a ≠ none → a ∉ ρ1.pl) ∧ ρ1.off = p :: ρ0.off ∧ Ext ρ0 H0 ⟨ρ1.pl, ρ0.off⟩ H' ∧ H' p = some (.lst vacc) ∧ RS K ρ1 st1 H' ∧ Reps K ρ1 H' acc vacc ∧ Paired (RepO K ρ1 H') (wipeE env vs) (wipe σ vs) ∧ acc.length ≤ 100000 ∧
      fLcLoop g ft f (wipeE env vs) (items.drop (i + 1)) st1 acc = some (accF, sF), fun H' hN => ⟨items.length - (i + 1), by omega, hN⟩, fun v H' y => ?_⟩
    obtain ⟨x2, s2, rv⟩ := ok.yld ρ1 st1 H i v H' items[i] la rs hd y
    obtain ⟨env1, e4, hl⟩ := bindS hl
    obtain ⟨⟨b, st2⟩, e5, hl⟩ := bindS hl
    refine ⟨ρ1, _, st1, items[i], env1, ⟨s2, envMono x2 hen⟩, rv, e4, fun σ2 hw r2 => ⟨hw.trans (wipe_wipe σ vs), ρ1, env1, st1, b, st2, r2, e5, fun ρ3 H3 x3 s3 => ?_⟩⟩
    -- what stays true at a later moment (ρ', H''), the list itself being written or not
    have later : ∀ {ρ' : Ws} {H'' : Hp}, Ext ρ1 H' ρ' H'' → Lat K ρ0 H0 ρ' H'' ∧ (∀ a, a ∉ ρ0.pl → H0 a ≠ none → a ∉ ρ'.pl) ∧ ρ'.off = p :: ρ0.off ∧ Ext ρ0 H0 ⟨ρ'.pl, ρ0.off⟩ H'' ∧ H'' p = some (.lst vacc) ∧ Reps K ρ' H'' acc vacc ∧ Paired (RepO K ρ' H'') (wipeE env vs) (wipe σ vs) := fun {ρ' H''} x => by
      have xx := x2.trans x
      refine ⟨la.ext xx hpl, fun a na h0 => ?_, xx.off.trans hoff, ⟨?_, rfl, fun a o na h0 => ?_, fun a h0 => xx.live a (hx.live a h0), fun a o u h0 => xx.frz a o u (hx.frz a o u h0)⟩, xx.keep p _ (rs.offl p hpo).2 hD, hacc.mono xx, envMono xx hen⟩
      · refine xx.notin (hpl a na h0) ?_
        cases q : H0 a with
        | none => exact absurd q h0
        | some ob => rw [la.keep a ob na q]; intro z; cases z
      · obtain ⟨τ, et, ht⟩ := hx.more
        obtain ⟨τ2, et2, ht2⟩ := xx.more
        refine ⟨τ ++ τ2, ?_, fun a ha => ?_⟩
        · have et : ρ1.pl = ρ0.pl ++ τ := et
          show ρ'.pl = _
          rw [et2, et, List.append_assoc]
        · rcases List.mem_append.mp ha with k | k
          · exact ht a k
          · cases q : H0 a with
            | none => rfl
            | some o => exact absurd (ht2 a k) (hx.live a (by rw [q]; intro z; cases z))
      · exact xx.keep a o (hpl a na (by rw [h0]; intro z; cases z)) (hx.keep a o na h0)
    cases b with
    | false =>
      have hl : fLcLoop g ft f (wipeE env vs) (items.drop (i + 1)) st2 acc = some (accF, sF) := hl
      obtain ⟨a1, a2, a3, a4, a5, a6, a7⟩ := later x3
      exact ⟨rfl, ρ3, st2, acc, vacc, a1, a2, a3, a4, a5, s3, a6, a7, hlen, hl⟩
    | true =>
      have hl : ((f env1 st2).bind fun q => if acc.length < 100000 then fLcLoop g ft f (wipeE env vs) (items.drop (i + 1)) q.2 (acc ++ [q.1]) else none) = some (accF, sF) := hl
      obtain ⟨⟨z, st3⟩, e6, hl⟩ := bindS hl
      split at hl
      · next hlt =>
        refine ⟨ρ3, env1, st2, z, st3, ?_, e6, fun ρ4 w H4 x4 s4 rz => ?_⟩
        · exact r2.mono' x3 s3
        · obtain ⟨a1, a2, a3, a4, a5, a6, a7⟩ := later (x3.trans x4)
          have hp4 : p ∈ ρ4.off := by rw [a3]; simp
          refine ⟨vacc, a5, Nat.lt_of_lt_of_le (by rw [← hacc.length]; exact hlt) (by decide), rfl, ρ4, st3, acc ++ [z], vacc ++ [w], ⟨fun a o na h0 => ?_, fun d v r => (a1.rep d v r).offw hp4, fun a o u h0 => by rw [upd_ne (ne_of_none h0 hp)]; exact a1.frz a o u h0⟩, a2, a3, ⟨a4.more, rfl, fun a o na h0 => ?_, fun a h0 => offw_live (a4.live a h0), fun a o u h0 => by rw [upd_ne (ne_of_none h0 hp)]; exact a4.frz a o u h0⟩, upd_same, s4.offw hp4, (reps_snoc a6 rz).offw hp4, ?_, ?_, hl⟩
          · rw [upd_ne (ne_of_none h0 hp)]; exact a1.keep a o na h0
          · rw [upd_ne (ne_of_none h0 hp)]; exact a4.keep a o na h0
          · refine L2.Paired.mapP a7 fun a b q => ?_
            cases a with
            | none => trivial
            | some a =>
              cases b with
              | none => exact q.elim
              | some b => exact Rep.offw hp4 q
          · rw [List.length_append, List.length_singleton]; omega
      · cases hl
  · refine .inl ⟨ok.stop ρ1 H i la (by omega), ?_⟩
    rw [List.drop_eq_nil_of_le (by omega)] at hl
    cases hl
    have rs' : RS K ⟨ρ1.pl, p :: ρ0.off⟩ sF H := by rw [← hoff]; exact rs
    have ac' : Reps K ⟨ρ1.pl, p :: ρ0.off⟩ H accF vacc := by rw [← hoff]; exact hacc
    refine q ⟨ρ1.pl, ρ0.off⟩ (.ref p) H (x0.trans hx) rs'.back (.lst ⟨hD, (rs.offl p hpo).2, ?_⟩ ac'.back)
    intro hm
    exact (s0.offl p hm).1 hp
section
variable {X : Cx} {elt tg iter : Expr} {ifs : List Expr} {scope : Scope} {own : List (Str × Nat)} {pos spos : Pos} {fi : FI} {g : FG} {ft : FT} {f : FE}
theorem px_lc (hc : X.calm = true) (hN : X.N.Nodup) (hi : PI X tg iter (tI X.K fi)) (ok : BlkOk X.N X.env.scope scope own)
    (hg : ∀ (s : Shared) (H : Hp) (C : Addr) (cl : List (Str × Addr)) (fp : List Addr), PG (X.blk s H scope (compEnvC scope cl C X.env) fp) tg (tG X.K (own.map (·.2)) g)) (ht : ∀ (s : Shared) (H : Hp) (C : Addr) (cl : List (Str × Addr)) (fp : List Addr), PTs (X.blk s H scope (compEnvC scope cl C X.env) fp) ifs (tPT X.K ft))
    (he : ∀ (s : Shared) (H : Hp) (C : Addr) (cl : List (Str × Addr)) (fp : List Addr), PE (X.blk s H scope (compEnvC scope cl C X.env) fp) elt (tP X.K f)) (hs : ∀ x, foldedSetIterable iter X.env x = pure x := by intro _; rfl) :
    PE X (.ListComp elt [⟨tg, iter, ifs, 0⟩] scope pos) (tP X.K (fLc fi g ft f (own.map (·.2)))) := pe_of (pe_lc hc hN hi ok hg ht he hs) runLc
end
end PU
set_option Elab.async false
set_option linter.all false
set_option maxRecDepth 100000
set_option maxHeartbeats 2000000
namespace PU
open PySem PySem.Spec PyProof.Rows L2

section
variable {X : Cx} {elt tg iter : Expr} {ifs : List Expr} {scope : Scope} {own : List (Str × Nat)} {pos spos : Pos} {fi : FI} {g : FG} {ft : FT} {f : FE}
theorem px_setLc {i : Nat} {y : Str} {py : Pos} (hc : X.calm = true) (hN : X.N.Nodup) (hy : X.N[i]? = some y) (hyl : X.env.scope.names.lookup y = some .local)
    (hsw : swapsWith (.ListComp elt [⟨tg, iter, ifs, 0⟩] scope pos) (some (.Name y py)) spos.line X.env = pure true) (hi : PI X tg iter (tI X.K fi)) (ok : BlkOk X.N X.env.scope scope own)
    (hg : ∀ (s : Shared) (H : Hp) (C : Addr) (cl : List (Str × Addr)) (fp : List Addr), PG (X.blk s H scope (compEnvC scope cl C X.env) fp) tg (tG X.K (own.map (·.2)) g)) (ht : ∀ (s : Shared) (H : Hp) (C : Addr) (cl : List (Str × Addr)) (fp : List Addr), PTs (X.blk s H scope (compEnvC scope cl C X.env) fp) ifs (tPT X.K ft))
    (he : ∀ (s : Shared) (H : Hp) (C : Addr) (cl : List (Str × Addr)) (fp : List Addr), PE (X.blk s H scope (compEnvC scope cl C X.env) fp) elt (tP X.K f)) (hs : ∀ x, foldedSetIterable iter X.env x = pure x := by intro _; rfl) :
    PS X (.Assign [.Name y py] (.ListComp elt [⟨tg, iter, ifs, 0⟩] scope pos) spos) (tS X.K (fAsg (fLc fi g ft f (own.map (·.2))) (gNm i))) :=
  ps_of (ps_setLc hc hN hy hyl hsw hi ok hg ht he hs) fun D σ H ⟨ρ, env, s, o, r, h, w⟩ => by
    obtain ⟨⟨d, s'⟩, e1, h⟩ := bindS h
    obtain ⟨env', e2, e3⟩ := mapS h
    cases e3
    cases e2
    exact runLc _ _ _ ⟨ρ, env, s, d, s', r, e1, fun ρ1 v1 H1 x1 s1 r1 => w ρ1 _ H1 x1 ((r.mono' x1 s1).set r1 i)⟩
end
section
variable {X : Cx} {pos : Pos} {f g h : FE} {fa : FA}
theorem px_par {i j : Nat} {x y : Str} {a b : Expr} {px py pt : Pos} {kt k2 pt2} (hc : X.calm = true) (hN : X.N.Nodup) (hi : X.N[i]? = some x) (hj : X.N[j]? = some y) (hij : i ≠ j)
    (hx : X.env.scope.names.lookup x = some .local) (hy : X.env.scope.names.lookup y = some .local) (ha : PA X [a, b] (tPA X.K fa))
    (hw : swappedStores [.Tuple [.Name x px, .Name y py] kt pt] (.Tuple [a, b] k2 pt2) X.env = pure (some [x, y]))
    (hs : swapsWithSole [.Tuple [.Name x px, .Name y py] kt pt] (.Tuple [a, b] k2 pt2) pos.line X.env = pure false := by rfl) :
    PS X (.Assign [.Tuple [.Name x px, .Name y py] kt pt] (.Tuple [a, b] k2 pt2) pos) (tS X.K (fPar i j fa)) :=
  ps_of (ps_par hc hN hi hj hij hx hy ha hw hs) fun D σ H ⟨ρ, env, s, o, r, h, w⟩ => by
    obtain ⟨⟨ds, s'⟩, e1, h⟩ := bindS h
    refine ⟨ρ, env, s, ds, s', r, e1, fun ρ1 vs H1 x1 s1 r1 => ?_⟩
    split at h
    · next u v hu =>
      cases hu
      cases h
      cases r1 with
      | cons ra rb =>
        cases rb with
        | cons rb rn =>
          cases rn
          exact ⟨_, _, rfl, w ρ1 _ H1 x1 (((r.mono' x1 s1).set ra i).set rb j)⟩
    · cases h
/-! ### what changes a list of the store -/
/-- o.append(e) -/
@[simp] def fApp (f : FE) (g : FE) : FE := fun env st => (f env st).bind fun p => (itemsP p.2 p.1).bind fun _ => (g env p.2).bind fun q => match p.1 with
  | .loc n => match q.2[n]? with
    | some (.lst ds) => if ds.length < 100000 then some (.non, q.2.set n (.lst (ds ++ [q.1]))) else none
    | _ => none
  | _ => none
theorem px_app {o e : Expr} {apos cpos : Pos} (ho : PE X o (tP X.K f)) (he : PE X e (tP X.K g))
    (hbase : attributeBase o "append" X.env (eval o X.env) = eval o X.env := by rfl)
    (hfew : ((backTo cpos (starEach [e] X.env)).all (fun x => !x.1) && (backToKw cpos (keywordEach [] X.env)).all (fun x => x.1.isSome)
      && decide ([e].length + ([] : List Keyword).length + (if ([] : List Keyword).isEmpty then 0 else 1) < 30)) = true := by rfl)
    (hline : (apos.endLine == cpos.line) = true := by rfl) (hs : starEach [e] X.env = (false, eval e X.env) :: starEach [] X.env := by rfl) (hplain : (backTo cpos (starEach [] X.env)).any (·.1) = false := by rfl) :
    PE X (.Call (.Attribute o "append" apos) [e] [] cpos) (tP X.K (fApp f g)) :=
  pe_of (pe_bm PySem.F.plainAttrs_list PySem.F.slot_list_append PySem.F.type_list_append mt_append ho (pa_cons he pa_nil hs) hbase hfew hline hs hplain) fun σ H Q ⟨ρ, env, s, d, s', r, h, q⟩ => by
    obtain ⟨⟨x, s1⟩, e1, h⟩ := bindS h
    obtain ⟨ds0, e0, h⟩ := bindS h
    obtain ⟨⟨y, s2⟩, e2, h⟩ := bindS h
    refine ⟨ρ, env, s, x, s1, r, e1, fun ρ1 v1 H1 x1 r1 rv => ?_⟩
    obtain ⟨a, vs0, rfl, hp, _⟩ := repP r1 rv e0
    refine ⟨.inl ⟨rfl, _, .inl (.inl hp)⟩, ρ1, env, s1, y, s2, r.mono' x1 r1, e2, fun ρ2 v2 H2 x2 r2 rw2 => ?_⟩
    cases x with
    | loc n =>
      cases rv with
      | loc hn =>
        have hn2 := x2.get hn
        obtain ⟨o, ho, hob⟩ := pd_get' r2.obs hn2
        cases o with
        | lst ds =>
          simp only [ho] at h
          split at h
          · next hl =>
            cases h
            obtain ⟨vs, hv, rs⟩ := hob
            refine ⟨a, vs, v2, rfl, rfl, hv, Nat.lt_of_lt_of_le (by rw [← rs.length]; exact hl) (by decide), ?_⟩
            exact q ρ2 _ _ ((x1.trans x2).trans (ext_wr hn2 (nofrz hv (by simp)))) (r2.wr hn2 hv (reps_snoc rs rw2)) .non
          · cases h
        | flst es => simp only [ho] at h; cases h
        | dct lk kvs => simp only [ho] at h; cases h
    | _ => cases h
/-- o[i] = e -/
@[simp] def fSetIx (fe fo fi : FE) : FS := fun env st => (fe env st).bind fun p => (fo env p.2).bind fun q => (fi env q.2).bind fun r => match q.1, r.1 with
  | .loc n, .int k => match r.2[n]? with
    | some (.lst ds) => (ixN ds.length k).map fun j => .nx env (r.2.set n (.lst (ds.set j p.1)))
    | _ => none
  | _, _ => none
theorem px_setIx {o i e : Expr} {spos : Pos} (he : PE X e (tP X.K f)) (ho : PE X o (tP X.K g)) (hi : PE X i (tP X.K h))
    (ha : ∀ v, assign (.Subscript o i spos) X.env v = (do
      let ov ← holding [v] (eval o X.env)
      let iv ← holding [v, ov] (eval i X.env)
      standAt spos
      holding [v, ov, iv] (setItem ov iv v)
      release [v, ov, iv] []) := by intro _; rfl)
    (hs : swapsWithSole [.Subscript o i spos] e pos.line X.env = pure false := by rfl) (hw : swappedStores [.Subscript o i spos] e X.env = pure none := by rfl)
    (h1 : (assignEach [.Subscript o i spos] X.env).map (·.2) = [assign (.Subscript o i spos) X.env] := by rfl) : PS X (.Assign [.Subscript o i spos] e pos) (tS X.K (fSetIx f g h)) :=
  ps_of (ps_asg he (pg_sub ho hi set_list ha) hs hw h1) fun D σ H ⟨ρ, env, s, o, r, hh, w⟩ => by
    obtain ⟨⟨x, s1⟩, e1, hh⟩ := bindS hh
    obtain ⟨⟨y, s2⟩, e2, hh⟩ := bindS hh
    obtain ⟨⟨z, s3⟩, e3, hh⟩ := bindS hh
    refine ⟨ρ, env, s, x, s1, r, e1, fun ρ1 v1 H1 x1 r1 rv1 => ⟨ρ1, env, s1, y, s2, r.mono' x1 r1, e2, fun ρ2 v2 H2 x2 r2 rv2 => ⟨ρ2, env, s2, z, s3, r.mono' (x1.trans x2) r2, e3, fun ρ3 v3 H3 x3 r3 rv3 => ?_⟩⟩⟩
    cases y with
    | loc n =>
      cases z with
      | int k =>
        cases rv2 with
        | loc hn =>
          have hn3 := x3.get hn
          obtain ⟨o', ho', hob⟩ := pd_get' r3.obs hn3
          cases o' with
          | lst ds =>
            simp only [ho'] at hh
            obtain ⟨j, hj, e4⟩ := mapS hh
            cases e4
            cases rv3
            obtain ⟨vs, hv, rs⟩ := hob
            refine ⟨_, vs, k, j, rfl, rfl, hv, by rw [← rs.length]; exact hj, ?_⟩
            have xx := (x1.trans x2).trans x3
            have xw := ext_wr (ρ := ρ3) (o := .lst (vs.set j v1)) hn3 (nofrz hv (by simp))
            refine w ρ3 σ _ (xx.trans xw) ⟨r3.wr hn3 hv (rs.set (rv1.mono (x2.trans x3)) j), envMono (xx.trans xw) r.e⟩
          | flst es => simp only [ho'] at hh; cases hh
          | dct lk kvs => simp only [ho'] at hh; cases hh
      | _ => cases hh
    | _ => cases hh
end

/-! ### a def by its body -/
@[simp] def runP (n : Nat) (b : FS) : List D → Store → Option (D × Store) := fun ds st => (b (ds.map some ++ List.replicate (n - ds.length) none) st).bind fun
  | .ret d s => some (d, s)
  | .nx _ s => some (.non, s)
  | _ => none
theorem env_start {K : PySem.W.Frag} {ρ : Ws} {H : Hp} {ds : List D} {vs : List V} (r : Reps K ρ H ds vs) (n : Nat) : Paired (RepO K ρ H) (ds.map some ++ List.replicate (n - ds.length) none) (vs.map some ++ List.replicate (n - vs.length) none) := by
  rw [r.length]
  refine pd_append ?_ ?_
  · have aux : ∀ {ds : List D} {vs : List V}, Reps K ρ H ds vs → Paired (RepO K ρ H) (ds.map some) (vs.map some) := fun {ds vs} r => by
      induction vs generalizing ds with
      | nil => cases r; exact .nil
      | cons v vs ih => cases r with | cons h r => exact .cons h (ih r)
    exact aux r
  · generalize n - vs.length = m
    induction m with
    | zero => exact .nil
    | succ m ih => exact .cons trivial ih
theorem fn_ok {P : Program} {w : World} {K : PySem.W.Frag} {mg : Str → Option Value} {base : Heap} {x qual : Str} {st : Stmt} {f : Addr} {fd : FuncData} {N ps : List Str} {k : Nat} {b : FS} (F : Fun K x qual st f fd) (S : FnScope N ps (defScope st))
    (hb : ∀ (cdv : Value) (A : Around) (outer : List PySem.Env) (s : Shared) (H : Hp) (E : XK), Room k (A.deeper (envOfC qual (defScope st) s.heap.objs.size f cdv)) → PSs (cxOf CX0 P w K mg base N qual (defScope st) f cdv A outer s H E).nox (defBody st) (tS K b)) :
    FnOk P w K mg base CX0 (k + 1) f fd ps (spD K ps.length (runP N.length b)) := by
  refine F.ok S (fun vs H Q E h => ?_) (fun cdv A outer s H vs Q E hr h => ?_)
  · obtain ⟨ρ, ds, st, d, st', rs, r, l, _⟩ := h
    rw [← r.length]; exact l
  · obtain ⟨ρ, ds, s0, d, st', rs, r, l, e, q⟩ := h
    refine ⟨tS K b, hb cdv A outer s H E hr, ?_⟩
    obtain ⟨o, e1, e2⟩ := bindS e
    refine ⟨ρ, _, s0, o, ⟨rs, env_start r N.length⟩, e1, ?_⟩
    cases o with
    | ret d' s' => cases e2; exact fun ρ' v H' x s r => q ρ' v H' x s r
    | nx e' s' => cases e2; exact fun ρ' σ' H' x r => q ρ' .non H' x r.s .non
    | bk e' s' => cases e2
    | ct e' s' => cases e2
end PU
set_option Elab.async false
set_option linter.all false
set_option maxRecDepth 100000
set_option maxHeartbeats 2000000
namespace PU
open PySem PySem.Spec PyProof.Rows L2

/-! ### what a def has made in the store and no one holds any more -/
def frzAll (f : D → Option D) : List D → Option (List D)
  | [] => some []
  | d :: ds => (f d).bind fun x => (frzAll f ds).map fun xs => x :: xs
def frzD (base : Nat) (st : Store) : Nat → D → Option D
  | 0, _ => none
  | k + 1, d => match d with
    | .tup ds => (frzAll (frzD base st k) ds).map .tup
    | .otp ds => (frzAll (frzD base st k) ds).map .otp
    | .lst ds => (frzAll (frzD base st k) ds).map .lst
    | .frz ds => (frzAll (frzD base st k) ds).map .frz
    | .loc n => if n < base then some (.loc n) else match st[n]? with
      | some (.lst ds) => (frzAll (frzD base st k) ds).map .lst
      | _ => none
    | d => some d
open Classical in
noncomputable def trimD (g : List D → Store → Option (D × Store)) : List D → Store → Option (D × Store) := fun ds st => (g ds st).bind fun p => (frzD st.length p.2 40 p.1).bind fun d => if p.2.take st.length = st then some (d, st) else none
section
variable {K : PySem.W.Frag} {ρ ρ' : Ws} {H H' : Hp} {τ : List Addr}
theorem free_less (hp : ρ'.pl = ρ.pl ++ τ) (ho : ρ'.off = ρ.off) {a : Addr} (h : Free ρ' a) : Free ρ a := ⟨fun m => h.1 (by rw [hp]; exact List.mem_append_left _ m), by rw [← ho]; exact h.2⟩
mutual
theorem Rep.less (hp : ρ'.pl = ρ.pl ++ τ) (ho : ρ'.off = ρ.off) : ∀ {d : D} {v v0 : V} {H0 : Hp}, Rep K ρ H0 d v0 → Rep K ρ' H d v → Rep K ρ H d v
  | _, _, _, _, .non, .non => .non
  | _, _, _, _, .bl _, .bl b => .bl b
  | _, _, _, _, .int _, .int i => .int i
  | _, _, _, _, .str _, .str z => .str z
  | _, _, _, _, .ty _, .ty z => .ty z
  | _, _, _, _, .glb _, .glb z => .glb z
  | _, _, _, _, .tup _ r0, .tup h r => .tup (h.elim (fun h => .inl ⟨h.1, free_less hp ho h.2⟩) .inr) (Reps.less hp ho r0 r)
  | _, _, _, _, .otp _ r0, .otp h r => .otp (h.elim (fun h => .inl ⟨h.1, free_less hp ho h.2⟩) .inr) (Reps.less hp ho r0 r)
  | _, _, _, _, .lst _ r0, .lst h r => .lst ⟨h.1, free_less hp ho h.2⟩ (Reps.less hp ho r0 r)
  | _, _, _, _, .frz _ r0, .frz h r => .frz (h.elim (fun h => .inl ⟨h.1, free_less hp ho h.2⟩) .inr) (Reps.less hp ho r0 r)
  | _, _, _, _, .loc (n := n) h0, .loc (a := a) h => .loc (by
      rw [hp, List.getElem?_append_left (List.getElem?_eq_some_iff.mp h0).1] at h
      exact h)
theorem Reps.less (hp : ρ'.pl = ρ.pl ++ τ) (ho : ρ'.off = ρ.off) : ∀ {ds : List D} {vs vs0 : List V} {H0 : Hp}, Reps K ρ H0 ds vs0 → Reps K ρ' H ds vs → Reps K ρ H ds vs
  | _, _, _, _, .nil, .nil => .nil
  | _, _, _, _, .cons h0 r0, .cons h r => .cons (Rep.less hp ho h0 h) (Reps.less hp ho r0 r)
end
theorem frzAll_rep {f : D → Option D} (hf : ∀ d d' v, f d = some d' → Rep K ρ' H d v → Rep K ρ H d' v) : ∀ {ds ds' : List D} {vs : List V}, frzAll f ds = some ds' → Reps K ρ' H ds vs → Reps K ρ H ds' vs
  | [], _, _, e, r => by
    cases r
    cases e
    exact .nil
  | d :: ds, _, _, e, r => by
    obtain ⟨x, e1, e⟩ := bindS e
    obtain ⟨xs, e2, e3⟩ := mapS e
    cases e3
    cases r with
    | cons h r => exact .cons (hf _ _ _ e1 h) (frzAll_rep hf e2 r)
theorem frz_rep {st : Store} (hp : ρ'.pl = ρ.pl ++ τ) (ho : ρ'.off = ρ.off) (s : RS K ρ' st H) : ∀ (k : Nat) (d d' : D) (v : V), frzD ρ.pl.length st k d = some d' → Rep K ρ' H d v → Rep K ρ H d' v
  | 0, _, _, _, e, _ => by cases e
  | k + 1, d, d', v, e, r => by
    have ih := frz_rep hp ho s k
    cases r with
    | non => cases e; exact .non
    | bl b => cases e; exact .bl b
    | int i => cases e; exact .int i
    | str z => cases e; exact .str z
    | ty z => cases e; exact .ty z
    | glb z => cases e; exact .glb z
    | tup h r =>
      obtain ⟨xs, e2, e3⟩ := mapS e
      cases e3
      exact .tup (h.elim (fun h => .inl ⟨h.1, free_less hp ho h.2⟩) .inr) (frzAll_rep ih e2 r)
    | otp h r =>
      obtain ⟨xs, e2, e3⟩ := mapS e
      cases e3
      exact .otp (h.elim (fun h => .inl ⟨h.1, free_less hp ho h.2⟩) .inr) (frzAll_rep ih e2 r)
    | lst h r =>
      obtain ⟨xs, e2, e3⟩ := mapS e
      cases e3
      exact .lst ⟨h.1, free_less hp ho h.2⟩ (frzAll_rep ih e2 r)
    | frz h r =>
      obtain ⟨xs, e2, e3⟩ := mapS e
      cases e3
      exact .frz (h.elim (fun h => .inl ⟨h.1, free_less hp ho h.2⟩) .inr) (frzAll_rep ih e2 r)
    | @loc a n h =>
      have e : (if n < ρ.pl.length then some (D.loc n) else match st[n]? with
        | some (.lst ds) => (frzAll (frzD ρ.pl.length st k) ds).map .lst
        | _ => none) = some d' := e
      split at e
      · next hn =>
        cases e
        refine .loc ?_
        rw [hp, List.getElem?_append_left hn] at h
        exact h
      · next hn =>
        obtain ⟨o, hob, q⟩ := pd_get' s.obs h
        cases o with
        | lst ds =>
          rw [hob] at e
          obtain ⟨xs, e2, e3⟩ := mapS e
          cases e3
          obtain ⟨vs, hv, rs⟩ := q
          refine .lst ⟨hv, fun hm => ?_, fun hm => (s.offl a (by rw [ho]; exact hm)).2 (List.mem_of_getElem? h)⟩ (frzAll_rep ih e2 rs)
          have nd := s.nd
          rw [hp] at nd h
          rw [List.getElem?_append_right (by omega)] at h
          have hm2 : a ∈ τ := List.mem_of_getElem? h
          exact (List.nodup_append.mp nd).2.2 a hm a hm2 rfl
        | flst es => rw [hob] at e; cases e
        | dct lk kvs => rw [hob] at e; cases e
end
theorem pd_take {α β : Type} {F : α → β → Prop} : ∀ {xs : List α} {ys : List β} (n : Nat), Paired F xs ys → Paired F (xs.take n) (ys.take n)
  | _, _, 0, _ => .nil
  | _, _, _ + 1, .nil => .nil
  | _, _, n + 1, .cons h r => .cons h (pd_take n r)
theorem pd_both {α β : Type} {F G M : α → β → Prop} (h : ∀ a b, F a b → G a b → M a b) : ∀ {xs : List α} {ys : List β}, Paired F xs ys → Paired G xs ys → Paired M xs ys
  | _, _, .nil, .nil => .nil
  | _, _, .cons f r, .cons g s => .cons (h _ _ f g) (pd_both h r s)
theorem trim_ok {K : PySem.W.Frag} {n : Nat} {g : List D → Store → Option (D × Store)} : ∀ vs H Q E, spD K n (trimD g) vs H Q E → spD K n g vs H Q E := by
  rintro vs H Q E ⟨ρ, ds, st, d, st', rs, r, l, e, q⟩
  obtain ⟨⟨d0, s0⟩, e0, e⟩ := bindS e
  obtain ⟨d1, e1, e⟩ := bindS e
  split at e
  · next ht =>
    cases e
    have ht : s0.take st.length = st := ht
    refine ⟨ρ, ds, st, d0, s0, rs, r, l, e0, fun ρ' v H' x s rv => ?_⟩
    obtain ⟨τ, hp, hτ⟩ := x.more
    have e1 : frzD ρ.pl.length s0 40 d0 = some d := by rw [← rs.len]; exact e1
    have ob := pd_take st.length s.obs
    rw [ht, hp, rs.len, List.take_left] at ob
    refine q ρ v H' ⟨⟨[], by simp, fun _ h => absurd h (by simp)⟩, rfl, x.keep, x.live, x.frz⟩ ⟨rs.nd, ?_, fun a ha => ⟨x.live a (rs.offl a ha).1, (rs.offl a ha).2⟩⟩ (frz_rep hp x.off s 40 d0 d v e1 rv)
    refine pd_both (fun o a h1 h2 => ?_) rs.obs ob
    match o, h1, h2 with
    | .lst ds, ⟨vs1, _, r1⟩, ⟨vs2, hv, r2⟩ => exact ⟨vs2, hv, Reps.less hp x.off r1 r2⟩
    | .flst ds, ⟨vs1, _, _, r1⟩, ⟨vs2, o, hv, r2⟩ => exact ⟨vs2, o, hv, Reps.less hp x.off r1 r2⟩
    | .dct false kvs, ⟨vs1, _, _, r1⟩, ⟨vs2, hv, hk, r2⟩ => exact ⟨vs2, hv, hk, Reps.less hp x.off r1 r2⟩
    | .dct true kvs, ⟨vs1, _, _, _, r1⟩, ⟨vs2, o, hv, hk, r2⟩ => exact ⟨vs2, o, hv, hk, Reps.less hp x.off r1 r2⟩
  · cases e
/-! .. the same where elder cells were changed, but hold nothing of what is gone -/
def frzOb (base : Nat) (st : Store) : Ob → Prop
  | .lst ds => frzAll (frzD base st 40) ds = some ds
  | .flst ds => frzAll (frzD base st 40) ds = some ds
  | .dct _ kvs => frzAll (frzD base st 40) (kvs.map Prod.snd) = some (kvs.map Prod.snd)
def oldOk (st st' : Store) : Prop := ∀ i ob, i < st.length → st'[i]? = some ob → st[i]? = some ob ∨ frzOb st.length st' ob
open Classical in
noncomputable def trimE (g : List D → Store → Option (D × Store)) : List D → Store → Option (D × Store) := fun ds st => (g ds st).bind fun p => (frzD st.length p.2 40 p.1).bind fun d => if oldOk st p.2 then some (d, p.2.take st.length) else none
theorem pd_all2 {α β : Type} {F G : α → β → Prop} : ∀ {xs : List α} {ys : List β}, Paired F xs ys → (∀ (i : Nat) (a : α) (b : β), xs[i]? = some a → ys[i]? = some b → F a b → G a b) → Paired G xs ys
  | _, _, .nil, _ => .nil
  | _, _, .cons f r, h => .cons (h 0 _ _ rfl rfl f) (pd_all2 r fun i a b e1 e2 q => h (i + 1) a b (by simpa using e1) (by simpa using e2) q)
theorem trimE_ok {K : PySem.W.Frag} {n : Nat} {g : List D → Store → Option (D × Store)} : ∀ vs H Q E, spD K n (trimE g) vs H Q E → spD K n g vs H Q E := by
  rintro vs H Q E ⟨ρ, ds, st, d, st', rs, r, l, e, q⟩
  obtain ⟨⟨d0, s0⟩, e0, e⟩ := bindS e
  obtain ⟨d1, e1, e⟩ := bindS e
  split at e
  · next ht =>
    cases e
    have ht : oldOk st s0 := ht
    refine ⟨ρ, ds, st, d0, s0, rs, r, l, e0, fun ρ' v H' x s rv => ?_⟩
    obtain ⟨τ, hp, hτ⟩ := x.more
    have e1 : frzD ρ.pl.length s0 40 d0 = some d := by rw [← rs.len]; exact e1
    have ob := pd_take st.length s.obs
    rw [hp, rs.len, List.take_left, ← rs.len] at ob
    refine q ρ v H' ⟨⟨[], by simp, fun _ h => absurd h (by simp)⟩, rfl, x.keep, x.live, x.frz⟩ ⟨rs.nd, ?_, fun a ha => ⟨x.live a (rs.offl a ha).1, (rs.offl a ha).2⟩⟩ (frz_rep hp x.off s 40 d0 d v e1 rv)
    refine pd_all2 ob fun i o a h1 h2 h3 => ?_
    have hi : i < st.length := by
      have := (List.getElem?_eq_some_iff.mp h2).1
      rw [rs.len]; exact this
    have h1' : s0[i]? = some o := by rw [List.getElem?_take, if_pos hi] at h1; exact h1
    rcases ht i o hi h1' with h4 | h4
    · obtain ⟨a', ha', h5⟩ := pd_get rs.obs h4
      rw [h2] at ha'
      cases ha'
      match o, h5, h3 with
      | .lst ds, ⟨vs1, _, r1⟩, ⟨vs2, hv, r2⟩ => exact ⟨vs2, hv, Reps.less hp x.off r1 r2⟩
      | .flst ds, ⟨vs1, _, _, r1⟩, ⟨vs2, o, hv, r2⟩ => exact ⟨vs2, o, hv, Reps.less hp x.off r1 r2⟩
      | .dct false kvs, ⟨vs1, _, _, r1⟩, ⟨vs2, hv, hk, r2⟩ => exact ⟨vs2, hv, hk, Reps.less hp x.off r1 r2⟩
      | .dct true kvs, ⟨vs1, _, _, _, r1⟩, ⟨vs2, o, hv, hk, r2⟩ => exact ⟨vs2, o, hv, hk, Reps.less hp x.off r1 r2⟩
    · rw [rs.len] at h4
      have ih := frz_rep (K := K) hp x.off s 40
      match o, h4, h3 with
      | .lst ds, h4, ⟨vs2, hv, r2⟩ => exact ⟨vs2, hv, frzAll_rep (fun d d' v e r => ih d d' v e r) h4 r2⟩
      | .flst ds, h4, ⟨vs2, o, hv, r2⟩ => exact ⟨vs2, o, hv, frzAll_rep (fun d d' v e r => ih d d' v e r) h4 r2⟩
      | .dct false kvs, h4, ⟨vs2, hv, hk, r2⟩ => exact ⟨vs2, hv, hk, frzAll_rep (fun d d' v e r => ih d d' v e r) h4 r2⟩
      | .dct true kvs, h4, ⟨vs2, o, hv, hk, r2⟩ => exact ⟨vs2, o, hv, hk, frzAll_rep (fun d d' v e r => ih d d' v e r) h4 r2⟩
  · cases e
end PU
set_option Elab.async false
set_option linter.all false
set_option maxRecDepth 100000
set_option maxHeartbeats 2000000
namespace PU
open PySem PySem.Spec PyProof.Rows L2

/-! ### numbers -/
@[simp] def addL (st : Store) (a b : D) : Option D := (itemsP st a).bind fun x => (itemsP st b).bind fun y => if x.length + y.length ≤ 100000 then some (.lst (x ++ y)) else none
@[simp] def addT (a b : D) : Option D := (itemsT a).bind fun x => (itemsT b).bind fun y => if x.length + y.length ≤ 100000 then some (.otp (x ++ y)) else none
@[simp] def addD (st : Store) : D → D → Option D
  | .int i, .int j => some (.int (i + j))
  | .str x, .str y => if x.length + y.length ≤ 100000 then some (.str (x ++ y)) else none
  | .tup x, b => addT (.tup x) b
  | .otp x, b => addT (.otp x) b
  | .lst x, b => addL st (.lst x) b
  | .loc n, b => addL st (.loc n) b
  | _, _ => none
@[simp] def subD (_ : Store) : D → D → Option D
  | .int i, .int j => some (.int (i - j))
  | _, _ => none
def mulOk (i j : Int) : Bool := decide (i.natAbs < 2 ^ 64) || decide (j.natAbs < 2 ^ 64) || decide (i.natAbs.log2 + j.natAbs.log2 < 1000000)
@[simp] def mulD (_ : Store) : D → D → Option D
  | .int i, .int j => if mulOk i j = true then some (.int (i * j)) else none
  | _, _ => none
def divOk (j : Int) : Bool := decide (j ≠ 0) && decide (j.natAbs.log2 < 9000)
@[simp] def fdivD (_ : Store) : D → D → Option D
  | .int i, .int j => if divOk j = true then some (.int (i.fdiv j)) else none
  | _, _ => none
@[simp] def modD (_ : Store) : D → D → Option D
  | .int i, .int j => if 0 < j then some (.int (i % j)) else none
  | _, _ => none
@[simp] def powD (_ : Store) : D → D → Option D
  | .int i, .int j => if 0 ≤ j ∧ j ≤ 1000 ∧ i.natAbs < 2 ^ 64 then some (.int (i ^ j.toNat)) else none
  | _, _ => none
@[simp] def negD (_ : Store) : D → Option D
  | .int i => some (.int (-i))
  | _ => none
section
variable {X : Cx}
theorem ints2 {K : PySem.W.Frag} {ρ : Ws} {H : Hp} {i j : Int} {x y : V} (r1 : Rep K ρ H (.int i) x) (r2 : Rep K ρ H (.int j) y) : x = .int i ∧ y = .int j := by cases r1; cases r2; exact ⟨rfl, rfl⟩
theorem repTo {K : PySem.W.Frag} {ρ : Ws} {H : Hp} {d : D} {v : V} (r : Rep K ρ H d v) {ds : List D} (e : itemsT d = some ds) : ∃ a vs, v = .ref a ∧ OtpAt K ρ H a vs ∧ Reps K ρ H ds vs := by
  cases r with
  | tup l rs => cases e; exact ⟨_, _, rfl, l.o, rs⟩
  | otp l rs => cases e; exact ⟨_, _, rfl, l, rs⟩
  | _ => cases e
theorem od_add : OpR X (binaryOp .Add) (rD X.K addD) := by
  rintro pins s σ H x y v u Q I rx ry ⟨ρ, st, dx, dy, d, rs, r1, r2, e, q⟩
  have lists : ∀ {a b : D}, Rep X.K ρ H a x → Rep X.K ρ H b y → addL st a b = some d → wpAny (model X.prog X.w) X.A (binaryOp .Add v u) (EP X pins σ Q) X.xe s := fun {a b} ra rb e => by
    obtain ⟨xs, e1, e⟩ := bindS e
    obtain ⟨ys, e2, e⟩ := bindS e
    split at e
    · next hl =>
      cases e
      obtain ⟨a1, vs, rfl, h1, q1⟩ := repP rs ra e1
      obtain ⟨a2, us, rfl, h2, q2⟩ := repP rs rb e2
      refine op_cat pins s σ H _ _ v u Q I rx ry ⟨a1, a2, vs, us, rfl, rfl, h1, h2, sz5 (by rw [← q1.length, ← q2.length]; exact hl), fun p hp => ?_⟩
      exact q ρ _ _ (ext_new hp) (rs.new hp) (.lst ⟨upd_same, rs.fresh hp⟩ ((q1.append q2).mono (ext_new hp)))
    · cases e
  have tups : ∀ {a b : D}, Rep X.K ρ H a x → Rep X.K ρ H b y → addT a b = some d → wpAny (model X.prog X.w) X.A (binaryOp .Add v u) (EP X pins σ Q) X.xe s := fun {a b} ra rb e => by
    obtain ⟨xs, e1, e⟩ := bindS e
    obtain ⟨ys, e2, e⟩ := bindS e
    split at e
    · next hl =>
      cases e
      obtain ⟨a1, vs, rfl, h1, q1⟩ := repTo ra e1
      obtain ⟨a2, us, rfl, h2, q2⟩ := repTo rb e2
      refine op_catA pins s σ H _ _ v u Q I rx ry ⟨a1, a2, vs, us, rfl, rfl, h1.sq, h2.sq, sz5 (by rw [← q1.length, ← q2.length]; exact hl), fun e => ?_, fun _ e => ?_, fun _ _ p hp => ?_⟩
      · subst e
        cases q1
        exact q ρ _ H (Ext.refl ρ H) rs (.otp h2 q2)
      · subst e
        cases q2
        rw [List.append_nil] at q
        exact q ρ _ H (Ext.refl ρ H) rs (.otp h1 q1)
      · exact q ρ _ _ (ext_new hp) (rs.new hp) (.otp (.inl ⟨.inl upd_same, rs.fresh hp⟩) ((q1.append q2).mono (ext_new hp)))
    · cases e
  cases dx with
  | int i =>
    cases dy with
    | int j =>
      cases e
      obtain ⟨rfl, rfl⟩ := ints2 r1 r2
      exact op_add pins s σ H _ _ v u Q I rx ry ⟨i, j, rfl, rfl, q ρ _ H (Ext.refl ρ H) rs (.int _)⟩
    | _ => cases e
  | str a =>
    cases dy with
    | str b =>
      cases r1
      cases r2
      have e : (if a.length + b.length ≤ 100000 then some (D.str (a ++ b)) else none) = some d := e
      split at e
      · next hl =>
        cases e
        exact op_add_str pins s σ H _ _ v u Q I rx ry ⟨a, b, rfl, rfl, sz5 hl, q ρ _ H (Ext.refl ρ H) rs (.str _)⟩
      · cases e
    | _ => cases e
  | tup a => exact tups r1 r2 (by cases dy <;> exact e)
  | otp a => exact tups r1 r2 (by cases dy <;> exact e)
  | lst a => exact lists r1 r2 (by cases dy <;> exact e)
  | loc a => exact lists r1 r2 (by cases dy <;> exact e)
  | non => cases dy <;> cases e
  | bl b => cases dy <;> cases e
  | frz b => cases dy <;> cases e
  | ty b => cases dy <;> cases e
  | glb b => cases dy <;> cases e
theorem od_sub : OpR X (binaryOp .Sub) (rD X.K subD) := by
  rintro pins s σ H x y v u Q I rx ry ⟨ρ, st, dx, dy, d, rs, r1, r2, e, q⟩
  cases dx with
  | int i =>
    cases dy with
    | int j =>
      cases e
      obtain ⟨rfl, rfl⟩ := ints2 r1 r2
      exact op_sub pins s σ H _ _ v u Q I rx ry ⟨i, j, rfl, rfl, q ρ _ H (Ext.refl ρ H) rs (.int _)⟩
    | _ => cases e
  | _ => cases dy <;> cases e
theorem od_mul : OpR X (binaryOp .Mult) (rD X.K mulD) := by
  rintro pins s σ H x y v u Q I rx ry ⟨ρ, st, dx, dy, d, rs, r1, r2, e, q⟩
  cases dx with
  | int i =>
    cases dy with
    | int j =>
      have e : (if mulOk i j = true then some (D.int (i * j)) else none) = some d := e
      split at e
      · next hm =>
        cases e
        obtain ⟨rfl, rfl⟩ := ints2 r1 r2
        have fin := q ρ _ H (Ext.refl ρ H) rs (.int _)
        unfold mulOk at hm
        simp only [Bool.or_eq_true, decide_eq_true_eq] at hm
        rcases hm with (hm | hm) | hm
        · exact op_mul pins s σ H _ _ v u Q I rx ry ⟨i, j, rfl, rfl, .inl ⟨by omega, by omega⟩, fin⟩
        · exact op_mul pins s σ H _ _ v u Q I rx ry ⟨i, j, rfl, rfl, .inr ⟨by omega, by omega⟩, fin⟩
        · exact op_mulW pins s σ H _ _ v u Q I rx ry ⟨i, j, rfl, rfl, hm, fin⟩
      · cases e
    | _ => cases e
  | _ => cases dy <;> cases e
/-- the floor of a quotient, whatever the sign -/
theorem op_fdivZ : OpR X (binaryOp .FloorDiv) (rI (fun _ j => j ≠ 0 ∧ j.natAbs.log2 < 9000) fun i j => .int (i.fdiv j)) := opI fun i j _ _ _ _ _ hc q => floordiv_int hc.1 q (.inl (PyProof.noPylong_of_log2 hc.2))
theorem od_fdiv : OpR X (binaryOp .FloorDiv) (rD X.K fdivD) := by
  rintro pins s σ H x y v u Q I rx ry ⟨ρ, st, dx, dy, d, rs, r1, r2, e, q⟩
  cases dx with
  | int i =>
    cases dy with
    | int j =>
      have e : (if divOk j = true then some (D.int (i.fdiv j)) else none) = some d := e
      split at e
      · next hm =>
        cases e
        obtain ⟨rfl, rfl⟩ := ints2 r1 r2
        unfold divOk at hm
        simp only [Bool.and_eq_true, decide_eq_true_eq] at hm
        exact op_fdivZ pins s σ H _ _ v u Q I rx ry ⟨i, j, rfl, rfl, hm, q ρ _ H (Ext.refl ρ H) rs (.int _)⟩
      · cases e
    | _ => cases e
  | _ => cases dy <;> cases e
theorem od_mod : OpR X (binaryOp .Mod) (rD X.K modD) := by
  rintro pins s σ H x y v u Q I rx ry ⟨ρ, st, dx, dy, d, rs, r1, r2, e, q⟩
  cases dx with
  | int i =>
    cases dy with
    | int j =>
      have e : (if 0 < j then some (D.int (i % j)) else none) = some d := e
      split at e
      · next hm =>
        cases e
        obtain ⟨rfl, rfl⟩ := ints2 r1 r2
        exact op_mod pins s σ H _ _ v u Q I rx ry ⟨i, j, rfl, rfl, hm, q ρ _ H (Ext.refl ρ H) rs (.int _)⟩
      · cases e
    | _ => cases e
  | _ => cases dy <;> cases e
theorem od_pow : OpR X (binaryOp .Pow) (rD X.K powD) := by
  rintro pins s σ H x y v u Q I rx ry ⟨ρ, st, dx, dy, d, rs, r1, r2, e, q⟩
  cases dx with
  | int i =>
    cases dy with
    | int j =>
      have e : (if 0 ≤ j ∧ j ≤ 1000 ∧ i.natAbs < 2 ^ 64 then some (D.int (i ^ j.toNat)) else none) = some d := e
      split at e
      · next hm =>
        cases e
        obtain ⟨rfl, rfl⟩ := ints2 r1 r2
        exact op_pow pins s σ H _ _ v u Q I rx ry ⟨i, j, rfl, rfl, ⟨hm.1, by omega, hm.2.2⟩, q ρ _ H (Ext.refl ρ H) rs (.int _)⟩
      · cases e
    | _ => cases e
  | _ => cases dy <;> cases e
theorem px_neg {a : Expr} {pos : Pos} {f : FE} (ha : PE X a (tP X.K f)) : PE X (.UnaryOp .USub a pos) (tP X.K (fUn negD f)) := px_un un_neg (fun x H Q ⟨ρ, st, dx, d, rs, r, e, q⟩ => by
  cases dx with
  | int i => cases e; cases r; exact ⟨i, rfl, q ρ _ H (Ext.refl ρ H) rs (.int _)⟩
  | _ => cases e) ha

/-! ### order -/
@[simp] def cmpD (p : Int → Int → Bool) (s : List Nat → List Nat → Bool) (_ : Store) : D → D → Option D
  | .int i, .int j => some (.bl (p i j))
  | .str x, .str y => some (.bl (s x.cps.toList y.cps.toList))
  | _, _ => none
theorem od_cmp {op : CmpOp} {p : Int → Int → Bool} {s : List Nat → List Nat → Bool} (hi : OpR X (compareOp op) (rI0 fun i j => .bl (p i j))) (hs : OpR X (compareOp op) (fun x y H Q => ∃ i j, x = .str i ∧ y = .str j ∧ Q (.bl (s i.cps.toList j.cps.toList)) H)) : OpR X (compareOp op) (rD X.K (cmpD p s)) := by
  rintro pins s' σ H x y v u Q I rx ry ⟨ρ, st, dx, dy, d, rs, r1, r2, e, q⟩
  cases dx with
  | int i =>
    cases dy with
    | int j =>
      cases e
      obtain ⟨rfl, rfl⟩ := ints2 r1 r2
      exact hi pins s' σ H _ _ v u Q I rx ry ⟨i, j, rfl, rfl, q ρ _ H (Ext.refl ρ H) rs (.bl _)⟩
    | _ => cases e
  | str i =>
    cases dy with
    | str j =>
      cases e
      cases r1
      cases r2
      exact hs pins s' σ H _ _ v u Q I rx ry ⟨i, j, rfl, rfl, q ρ _ H (Ext.refl ρ H) rs (.bl _)⟩
    | _ => cases e
  | _ => cases dy <;> cases e
@[simp] def ltD := cmpD (fun i j => decide (i < j)) (fun a b => decide (a < b))
@[simp] def leD := cmpD (fun i j => decide (i ≤ j)) (fun a b => !decide (b < a))
@[simp] def gtD := cmpD (fun i j => decide (j < i)) (fun a b => decide (b < a))
@[simp] def geD := cmpD (fun i j => decide (j ≤ i)) (fun a b => !decide (a < b))
theorem od_lt : OpR X (compareOp .Lt) (rD X.K ltD) := od_cmp op_lt op_lt_str
theorem od_le : OpR X (compareOp .LtE) (rD X.K leD) := od_cmp op_le op_le_str
theorem od_gt : OpR X (compareOp .Gt) (rD X.K gtD) := od_cmp op_gt op_gt_str
theorem od_ge : OpR X (compareOp .GtE) (rD X.K geD) := od_cmp op_ge op_ge_str
end

/-! ### alike -/
mutual
@[simp] def toPD : D → Option PyData
  | .non => some .none
  | .bl b => some (.bool b)
  | .int i => some (.int i)
  | .str x => some (.str x)
  | .tup ds => (toPDs ds).map .tuple
  | .otp ds => (toPDs ds).map .tuple
  | .lst ds => (toPDs ds).map .list
  | .frz ds => (toPDs ds).map .list
  | .loc _ => none
  | .ty _ => none
  | .glb _ => none
@[simp] def toPDs : List D → Option (List PyData)
  | [] => some []
  | d :: ds => (toPD d).bind fun x => (toPDs ds).map fun xs => x :: xs
end
@[simp] def topPD (st : Store) : D → Option PyData
  | .loc n => match st[n]? with
    | some (.lst ds) => (toPDs ds).map .list
    | some (.flst ds) => (toPDs ds).map .list
    | _ => none
  | d => toPD d
section
variable {K : PySem.W.Frag} {ρ : Ws} {H : Hp}
mutual
theorem dp_of : ∀ {d : D} {v : V} {p : PyData}, Rep K ρ H d v → toPD d = some p → Dp K H v p
  | _, _, _, .non, e => by cases e; exact .non
  | _, _, _, .bl b, e => by cases e; exact .bl b
  | _, _, _, .int i, e => by cases e; exact .int i
  | _, _, _, .str z, e => by cases e; exact .str z
  | _, _, _, .tup h r, e => by
    unfold toPD at e
    obtain ⟨xs, e1, e2⟩ := mapS e
    cases e2
    exact .tup h.sq (dps_of r e1)
  | _, _, _, .otp h r, e => by
    unfold toPD at e
    obtain ⟨xs, e1, e2⟩ := mapS e
    cases e2
    exact .tup h.sq (dps_of r e1)
  | _, _, _, .lst h r, e => by
    unfold toPD at e
    obtain ⟨xs, e1, e2⟩ := mapS e
    cases e2
    exact .lst h.sq (dps_of r e1)
  | _, _, _, .frz h r, e => by
    unfold toPD at e
    obtain ⟨xs, e1, e2⟩ := mapS e
    cases e2
    exact .lst h.sq (dps_of r e1)
  | _, _, _, .loc h, e => by
    unfold toPD at e
    cases e
  | _, _, _, .ty h, e => by
    unfold toPD at e
    cases e
  | _, _, _, .glb h, e => by
    unfold toPD at e
    cases e
theorem dps_of : ∀ {ds : List D} {vs : List V} {ps : List PyData}, Reps K ρ H ds vs → toPDs ds = some ps → DpAll K H vs ps
  | _, _, _, .nil, e => by
    unfold toPDs at e
    cases e
    exact .nil
  | _, _, _, .cons h r, e => by
    unfold toPDs at e
    obtain ⟨x, e1, e⟩ := bindS e
    obtain ⟨xs, e2, e3⟩ := mapS e
    cases e3
    exact .cons (dp_of h e1) (dps_of r e2)
end
theorem dp_top {st : Store} (rs : RS K ρ st H) {d : D} {v : V} {p : PyData} (r : Rep K ρ H d v) (e : topPD st d = some p) : Dp K H v p := by
  cases r with
  | @loc a n h =>
    obtain ⟨o, ho, q⟩ := pd_get' rs.obs h
    cases o with
    | lst ds =>
      have e : (match st[n]? with
        | some (.lst ds) => (toPDs ds).map .list
        | some (.flst ds) => (toPDs ds).map .list
        | _ => none) = some p := e
      rw [ho] at e
      obtain ⟨xs, e1, e2⟩ := mapS e
      cases e2
      obtain ⟨vs, hv, r⟩ := q
      exact .lst (.inl (.inl hv)) (dps_of r e1)
    | flst ds =>
      have e : (match st[n]? with
        | some (.lst ds) => (toPDs ds).map .list
        | some (.flst ds) => (toPDs ds).map .list
        | _ => none) = some p := e
      rw [ho] at e
      obtain ⟨xs, e1, e2⟩ := mapS e
      cases e2
      obtain ⟨vs, o, hv, r⟩ := q
      exact .lst (.inl (.inr ⟨o, hv⟩)) (dps_of r e1)
    | dct lk kvs =>
      have e : (match st[n]? with
        | some (.lst ds) => (toPDs ds).map .list
        | some (.flst ds) => (toPDs ds).map .list
        | _ => none) = some p := e
      rw [ho] at e
      cases e
  | non => exact dp_of (ρ := ρ) .non e
  | bl b => exact dp_of (ρ := ρ) (.bl b) e
  | int b => exact dp_of (ρ := ρ) (.int b) e
  | str b => exact dp_of (ρ := ρ) (.str b) e
  | ty b => exact dp_of (ρ := ρ) (.ty b) e
  | glb b => exact dp_of (ρ := ρ) (.glb b) e
  | tup h r => exact dp_of (.tup h r) e
  | otp h r => exact dp_of (.otp h r) e
  | lst h r => exact dp_of (.lst h r) e
  | frz h r => exact dp_of (.frz h r) e
end
@[simp] def eqG (st : Store) (a b : D) : Option D := (topPD st a).bind fun x => (topPD st b).bind fun y => if SeqAt.shaped x = true ∧ SeqAt.shaped y = true then some (.bl (PyData.eqv x y)) else none
@[simp] def neG (st : Store) (a b : D) : Option D := (topPD st a).bind fun x => (topPD st b).bind fun y => if SeqAt.shaped x = true ∧ SeqAt.shaped y = true then some (.bl (!PyData.eqv x y)) else none
@[simp] def eqD (st : Store) (a b : D) : Option D := match a, b with
  | .str x, .str y => some (.bl (decide (x = y)))
  | a, b => eqG st a b
@[simp] def neD (st : Store) (a b : D) : Option D := match a, b with
  | .str x, .str y => some (.bl (!decide (x = y)))
  | a, b => neG st a b
theorem str_dec (x y : Str) : decide (V.str x = V.str y) = decide (x = y) := by
  by_cases h : x = y
  · simp [h]
  · simp [h]
section
variable {X : Cx}
theorem od_eq (hu : X.A.units + 64 < cLine) : OpR X (compareOp .Eq) (rD X.K eqD) := by
  rintro pins s σ H x y v u Q I rx ry ⟨ρ, st, dx, dy, d, rs, r1, r2, e, q⟩
  have gen : eqG st dx dy = some d → wpAny (model X.prog X.w) X.A (compareOp .Eq v u) (EP X pins σ Q) X.xe s := fun e => by
    obtain ⟨p1, e1, e⟩ := bindS e
    obtain ⟨p2, e2, e⟩ := bindS e
    split at e
    · next hs => cases e; exact op_eqD hu pins s σ H x y v u Q I rx ry ⟨p1, p2, dp_top rs r1 e1, dp_top rs r2 e2, hs.1, hs.2, q ρ _ H (Ext.refl ρ H) rs (.bl _)⟩
    · cases e
  cases dx with
  | str a =>
    cases dy with
    | str b =>
      cases e
      cases r1
      cases r2
      refine op_eq pins s σ H _ _ v u Q I rx ry ⟨rfl, ?_⟩
      rw [str_dec]
      exact q ρ _ H (Ext.refl ρ H) rs (.bl _)
    | _ => exact gen e
  | _ => exact gen e
theorem od_ne (hu : X.A.units + 64 < cLine) : OpR X (compareOp .NotEq) (rD X.K neD) := by
  rintro pins s σ H x y v u Q I rx ry ⟨ρ, st, dx, dy, d, rs, r1, r2, e, q⟩
  have gen : neG st dx dy = some d → wpAny (model X.prog X.w) X.A (compareOp .NotEq v u) (EP X pins σ Q) X.xe s := fun e => by
    obtain ⟨p1, e1, e⟩ := bindS e
    obtain ⟨p2, e2, e⟩ := bindS e
    split at e
    · next hs => cases e; exact op_neD hu pins s σ H x y v u Q I rx ry ⟨p1, p2, dp_top rs r1 e1, dp_top rs r2 e2, hs.1, hs.2, q ρ _ H (Ext.refl ρ H) rs (.bl _)⟩
    · cases e
  cases dx with
  | str a =>
    cases dy with
    | str b =>
      cases e
      cases r1
      cases r2
      refine op_ne pins s σ H _ _ v u Q I rx ry ⟨rfl, ?_⟩
      rw [str_dec]
      exact q ρ _ H (Ext.refl ρ H) rs (.bl _)
    | _ => exact gen e
  | _ => exact gen e
/-! is None -/
@[simp] def isNon : D → Bool
  | .non => true
  | _ => false
theorem isNon_rep {K : PySem.W.Frag} {ρ : Ws} {H : Hp} {d : D} {v : V} (r : Rep K ρ H d v) : decide (v = .non) = isNon d := by cases r <;> rfl
@[simp] def fIsN (f : FE) : FT := fun env st => (f env st).map fun p => (isNon p.1, p.2)
@[simp] def fNotN (f : FE) : FT := fun env st => (f env st).map fun p => (!isNon p.1, p.2)
variable {a : Expr} {f : FE} {pos pos' : Pos}
theorem px_isN {j} (ha : PE X a (tP X.K f)) : PE X (.Compare a [.Is] [.Constant .none j pos'] pos) (tP X.K (fV (fIsN f))) := pe_of (pe_cmp (pc_isN ha)) fun σ H Q ⟨ρ, env, s, d, s', r, h, q⟩ => by
  obtain ⟨⟨b, s1⟩, e1, e2⟩ := mapS h
  cases e2
  obtain ⟨⟨x, s2⟩, e3, e4⟩ := mapS e1
  cases e4
  refine ⟨ρ, env, s, x, _, r, e3, fun ρ1 v1 H1 x1 s1 r1 => ?_⟩
  dsimp only
  rw [isNon_rep r1]
  exact q ρ1 _ H1 x1 s1 (.bl _)
theorem px_notN {j} (ha : PE X a (tP X.K f)) : PE X (.Compare a [.IsNot] [.Constant .none j pos'] pos) (tP X.K (fV (fNotN f))) := pe_of (pe_cmp (pc_notN ha)) fun σ H Q ⟨ρ, env, s, d, s', r, h, q⟩ => by
  obtain ⟨⟨b, s1⟩, e1, e2⟩ := mapS h
  cases e2
  obtain ⟨⟨x, s2⟩, e3, e4⟩ := mapS e1
  cases e4
  refine ⟨ρ, env, s, x, _, r, e3, fun ρ1 v1 H1 x1 s1 r1 => ?_⟩
  dsimp only
  rw [isNon_rep r1]
  exact q ρ1 _ H1 x1 s1 (.bl _)
theorem pt_isN {j} (ha : PE X a (tP X.K f)) : PT X (.Compare a [.Is] [.Constant .none j pos'] pos) (tPT X.K (fIsN f)) := pt_of (pt_cmp (pc_isN ha)) fun σ H Q ⟨ρ, env, s, d, s', r, h, q⟩ => by
  obtain ⟨⟨x, s2⟩, e3, e4⟩ := mapS h
  cases e4
  refine ⟨ρ, env, s, x, _, r, e3, fun ρ1 v1 H1 x1 s1 r1 => ?_⟩
  dsimp only
  rw [isNon_rep r1]
  exact ⟨_, rfl, q ρ1 H1 x1 s1⟩
theorem pt_notN {j} (ha : PE X a (tP X.K f)) : PT X (.Compare a [.IsNot] [.Constant .none j pos'] pos) (tPT X.K (fNotN f)) := pt_of (pt_cmp (pc_notN ha)) fun σ H Q ⟨ρ, env, s, d, s', r, h, q⟩ => by
  obtain ⟨⟨x, s2⟩, e3, e4⟩ := mapS h
  cases e4
  refine ⟨ρ, env, s, x, _, r, e3, fun ρ1 v1 H1 x1 s1 r1 => ?_⟩
  dsimp only
  rw [isNon_rep r1]
  exact ⟨_, rfl, q ρ1 H1 x1 s1⟩
end

/-! ### in -/
@[simp] def flatD : D → Bool
  | .non => true
  | .bl _ => true
  | .int _ => true
  | .str _ => true
  | _ => false
@[simp] def eqF : D → D → Bool
  | .non, .non => true
  | .bl a, .bl b => a == b
  | .bl a, .int b => (if a then 1 else 0) == b
  | .int a, .bl b => a == (if b then 1 else 0)
  | .int a, .int b => a == b
  | .str a, .str b => a == b
  | _, _ => false
@[simp] def seqD (st : Store) : D → Option (List D)
  | .tup ds => some ds
  | .otp ds => some ds
  | d => itemsL st d
@[simp] def inD (st : Store) (x c : D) : Option D := (seqD st c).bind fun ds => if flatD x = true ∧ ds.all flatD = true then some (.bl (ds.any fun y => eqF y x)) else none
@[simp] def ninD (st : Store) (x c : D) : Option D := (seqD st c).bind fun ds => if flatD x = true ∧ ds.all flatD = true then some (.bl (!ds.any fun y => eqF y x)) else none
section
variable {X : Cx} {K : PySem.W.Frag} {ρ : Ws} {H : Hp}
theorem flat_rep {d : D} {v : V} (r : Rep K ρ H d v) : flatD d = flatV v := by cases r <;> rfl
theorem flats_rep : ∀ {ds : List D} {vs : List V}, Reps K ρ H ds vs → ds.all flatD = vs.all flatV
  | _, _, .nil => rfl
  | _, _, .cons h r => by simp only [List.all_cons, flat_rep h, flats_rep r]
theorem eqF_rep {d e : D} {v w : V} (r : Rep K ρ H d v) (q : Rep K ρ H e w) : eqF d e = eqV v w := by cases r <;> cases q <;> rfl
theorem anyF_rep {e : D} {w : V} (q : Rep K ρ H e w) : ∀ {ds : List D} {vs : List V}, Reps K ρ H ds vs → (ds.any fun y => eqF y e) = inV w vs
  | _, _, .nil => rfl
  | _, _, .cons h r => by
    unfold inV
    have := anyF_rep q r
    unfold inV at this
    simp only [List.any_cons, eqF_rep h q, this]
theorem seq_rep {st : Store} (rs : RS K ρ st H) {d : D} {v : V} (r : Rep K ρ H d v) {ds : List D} (e : seqD st d = some ds) : ∃ a vs, v = .ref a ∧ (SqL K H a vs ∨ SqT K H a vs) ∧ Reps K ρ H ds vs := by
  cases r with
  | tup h r => cases e; exact ⟨_, _, rfl, .inr h.sq, r⟩
  | otp h r => cases e; exact ⟨_, _, rfl, .inr h.sq, r⟩
  | lst h r => obtain ⟨a, vs, e1, e2, e3⟩ := repL rs (.lst h r) (ds := ds) e; exact ⟨a, vs, e1, .inl e2, e3⟩
  | frz h r => obtain ⟨a, vs, e1, e2, e3⟩ := repL rs (.frz h r) (ds := ds) e; exact ⟨a, vs, e1, .inl e2, e3⟩
  | loc h => obtain ⟨a, vs, e1, e2, e3⟩ := repL rs (.loc h) (ds := ds) e; exact ⟨a, vs, e1, .inl e2, e3⟩
  | _ => cases e
theorem od_in : OpR X (compareOp .In) (rD X.K inD) := by
  rintro pins s σ H x y v u Q I rx ry ⟨ρ, st, dx, dy, d, rs, r1, r2, e, q⟩
  obtain ⟨ds, e1, e⟩ := bindS e
  split at e
  · next hs =>
    cases e
    obtain ⟨a, vs, rfl, hq, rr⟩ := seq_rep rs r2 e1
    refine op_in_seq pins s σ H x _ v u Q I rx ry ⟨a, vs, rfl, hq, by rw [← flat_rep r1]; exact hs.1, by rw [← flats_rep rr]; exact hs.2, ?_⟩
    have := q ρ _ H (Ext.refl ρ H) rs (.bl _)
    rw [anyF_rep r1 rr] at this
    exact this
  · cases e
theorem od_nin : OpR X (compareOp .NotIn) (rD X.K ninD) := by
  rintro pins s σ H x y v u Q I rx ry ⟨ρ, st, dx, dy, d, rs, r1, r2, e, q⟩
  obtain ⟨ds, e1, e⟩ := bindS e
  split at e
  · next hs =>
    cases e
    obtain ⟨a, vs, rfl, hq, rr⟩ := seq_rep rs r2 e1
    refine op_notIn_seq pins s σ H x _ v u Q I rx ry ⟨a, vs, rfl, hq, by rw [← flat_rep r1]; exact hs.1, by rw [← flats_rep rr]; exact hs.2, ?_⟩
    have := q ρ _ H (Ext.refl ρ H) rs (.bl _)
    rw [anyF_rep r1 rr] at this
    exact this
  · cases e

/-! ### subscripts -/
@[simp] def ixD (st : Store) (a i : D) : Option D := match i with
  | .int k => (seqD st a).bind fun ds => atI ds k
  | _ => none
theorem atI_rep {ds : List D} {vs : List V} (r : Reps K ρ H ds vs) {i : Int} {d : D} (e : atI ds i = some d) : ∃ v, atI vs i = some v ∧ Rep K ρ H d v := by
  unfold atI at e ⊢
  rw [r.length] at e
  obtain ⟨j, e1, e2⟩ := bindS e
  obtain ⟨v, hv, rv⟩ := r.get e2
  exact ⟨v, by rw [e1]; exact hv, rv⟩
variable {a b : Expr} {f g : FE} {pos : Pos}
theorem px_ix (ha : PE X a (tP X.K f)) (hb : PE X b (tP X.K g)) (hs : PlainIx b := by exact fun _ _ => rfl) : PE X (.Subscript a b pos) (tP X.K (fBin ixD f g)) :=
  pe_of (pe_ix (IxR.or ix_list ix_tup) ha hb hs) fun σ H Q ⟨ρ, env, s, d, s', r, h, q⟩ => by
    obtain ⟨⟨x, s1⟩, e1, h⟩ := bindS h
    obtain ⟨⟨y, s2⟩, e2, h⟩ := bindS h
    obtain ⟨d', e3, e4⟩ := mapS h
    cases e4
    refine ⟨ρ, env, s, x, s1, r, e1, fun ρ1 v1 H1 x1 r1 rv1 => ⟨ρ1, env, s1, y, s2, r.mono' x1 r1, e2, fun ρ2 v2 H2 x2 r2 rv2 => ?_⟩⟩
    cases y with
    | int k =>
      cases rv2
      obtain ⟨ds, e5, e6⟩ := bindS e3
      obtain ⟨a, vs, rfl, hq, rr⟩ := seq_rep r2 (rv1.mono x2) e5
      obtain ⟨v, hv, rv⟩ := atI_rep rr e6
      have fin := q ρ2 v H2 (x1.trans x2) r2 rv
      rcases hq with hq | hq
      · exact .inl ⟨a, vs, k, v, rfl, rfl, hq, hv, fin⟩
      · exact .inr ⟨a, vs, k, v, rfl, rfl, hq, hv, fin⟩
    | _ => cases e3
end
end PU
set_option Elab.async false
set_option linter.all false
set_option maxRecDepth 100000
set_option maxHeartbeats 2000000
namespace PU
open PySem PySem.Spec PyProof.Rows L2

/-! ### built-in functions -/
@[simp] def tyName (st : Store) : D → Option String
  | .non => some "NoneType"
  | .bl _ => some "bool"
  | .int _ => some "int"
  | .str _ => some "str"
  | .tup _ => some "tuple"
  | .otp _ => some "tuple"
  | .lst _ => some "list"
  | .frz _ => some "list"
  | .loc n => match st[n]? with
    | some (.lst _) => some "list"
    | some (.flst _) => some "list"
    | some (.dct _ _) => some "dict"
    | none => none
  | _ => none
def subTy (t n : String) : Bool := t == n || (t == "bool" && n == "int")
def tys1 : List String := ["NoneType", "bool", "int", "str", "tuple", "list", "dict"]
def tys2 : List String := ["bool", "int", "str", "tuple", "list", "dict"]
@[simp] def isiD (st : Store) : List D → Option D
  | [x, .ty n] => (tyName st x).bind fun t => if n ∈ tys2 then some (.bl (subTy t n)) else none
  | _ => none
theorem kit_tbl (K : PySem.W.Frag) {t n : String} (ht : t ∈ tys1) (hn : n ∈ tys2) : PySem.W.kitOne K (.type t) (.type n) = some (subTy t n) := by
  unfold tys1 at ht
  unfold tys2 at hn
  simp only [List.mem_cons, List.not_mem_nil, or_false] at ht hn
  rcases ht with rfl | rfl | rfl | rfl | rfl | rfl | rfl <;> rcases hn with rfl | rfl | rfl | rfl | rfl | rfl <;> rfl
theorem tyx_of {K : PySem.W.Frag} {ρ : Ws} {H : Hp} {st : Store} (rs : RS K ρ st H) {d : D} {v : V} {t : String} (r : Rep K ρ H d v) (e : tyName st d = some t) : TyX K H v (.type t) ∧ t ∈ tys1 := by
  cases r with
  | non => cases e; exact ⟨.base .non, by decide⟩
  | bl b => cases e; exact ⟨.base (.bl b), by decide⟩
  | int b => cases e; exact ⟨.base (.int b), by decide⟩
  | str b => cases e; exact ⟨.base (.str b), by decide⟩
  | tup h r =>
    cases e
    refine ⟨?_, by decide⟩
    rcases h with ⟨⟨o, h, _⟩, _⟩ | ⟨o, its, n, h, hc, _⟩
    · exact .fTuple h
    · exact .kTuple h hc
  | otp h r =>
    cases e
    refine ⟨?_, by decide⟩
    rcases h with ⟨h | ⟨o, h⟩, _⟩ | ⟨o, its, n, h, hc, _⟩
    · exact .base (.tup h)
    · exact .fTuple h
    · exact .kTuple h hc
  | lst h r => cases e; exact ⟨.base (.lst h.1), by decide⟩
  | frz h r =>
    cases e
    refine ⟨?_, by decide⟩
    rcases h with ⟨h | ⟨o, h⟩, _⟩ | ⟨o, its, n, h, hc, _⟩
    · exact .base (.lst h)
    · exact .base (.frz h)
    · exact .kList h hc
  | @loc a n h =>
    obtain ⟨o, ho, q⟩ := pd_get' rs.obs h
    have e : (match st[n]? with
      | some (.lst _) => some "list"
      | some (.flst _) => some "list"
      | some (.dct _ _) => some "dict"
      | none => none) = some t := e
    rw [ho] at e
    match o, q, e with
    | .lst ds, ⟨vs, hv, _⟩, e => cases e; exact ⟨.base (.lst hv), by decide⟩
    | .flst ds, ⟨vs, o, hv, _⟩, e => cases e; exact ⟨.base (.frz hv), by decide⟩
    | .dct false ds, ⟨vs, hv, _⟩, e => cases e; exact ⟨.base (.dK hv), by decide⟩
    | .dct true ds, ⟨vs, o, hv, _⟩, e => cases e; exact ⟨.fDict hv, by decide⟩
  | ty n => cases e
  | glb a => cases e
@[simp] def lenD (st : Store) : List D → Option D
  | [.str x] => if x.length ≤ 100000 then some (.int x.length) else none
  | [d] => (seqD st d).map fun ds => .int ds.length
  | _ => none
@[simp] def absD (_ : Store) : List D → Option D
  | [.int i] => some (.int (if i < 0 then -i else i))
  | _ => none
@[simp] def intD (_ : Store) : List D → Option D
  | [.int i] => some (.int i)
  | [.bl b] => some (.int (if b then 1 else 0))
  | _ => none
@[simp] def max2D (_ : Store) : List D → Option D
  | [.int i, .int j] => some (.int (if j > i then j else i))
  | _ => none
@[simp] def min2D (_ : Store) : List D → Option D
  | [.int i, .int j] => some (.int (if j < i then j else i))
  | _ => none
@[simp] def gcdD (_ : Store) : List D → Option D
  | [.int i, .int j] => some (.int ((Nat.gcd i.natAbs j.natAbs : Nat) : Int))
  | _ => none
@[simp] def asInts : List D → Option (List Int)
  | [] => some []
  | .int i :: ds => (asInts ds).map fun is => i :: is
  | _ => none
@[simp] def sumD (st : Store) : List D → Option D
  | [d] => (itemsL st d).bind fun ds => (asInts ds).map fun is => .int is.sum
  | _ => none
theorem ints_rep {K : PySem.W.Frag} {ρ : Ws} {H : Hp} : ∀ {ds : List D} {vs : List V} {is : List Int}, asInts ds = some is → Reps K ρ H ds vs → vs = is.map V.int
  | [], _, _, e, r => by cases e; cases r; rfl
  | d :: ds, _, _, e, r => by
    cases r with
    | cons h r =>
      cases h with
      | int i =>
        have e : (asInts ds).map (fun is => i :: is) = some _ := e
        obtain ⟨is, e1, e2⟩ := mapS e
        cases e2
        rw [ints_rep e1 r]
        rfl
      | _ => cases e
section
variable {X : Cx}
theorem cd_isi : CallR X (.builtin "isinstance") (rDC X.K isiD) := by
  rintro pins s σ H vs us Q I rv ⟨ρ, st, ds, d, rs, r, e, q⟩
  cases r with
  | nil => cases e
  | cons r1 r =>
    cases r with
    | nil => cases e
    | cons r2 r =>
      cases r with
      | cons _ _ => cases r2 <;> cases e
      | nil =>
        cases r2 with
        | ty n =>
          obtain ⟨t, e1, e⟩ := bindS e
          split at e
          · next hn =>
            cases e
            obtain ⟨h1, h2⟩ := tyx_of rs r1 e1
            exact call_isi pins s σ H _ us Q I rv ⟨_, _, .type t, .type n, _, rfl, .ty n, h1, kit_tbl X.K h2 hn, q ρ _ H (Ext.refl ρ H) rs (.bl _)⟩
          · cases e
        | _ => cases e
theorem cd_len : CallR X (.builtin "len") (rDC X.K lenD) := by
  rintro pins s σ H vs us Q I rv ⟨ρ, st, ds, d, rs, r, e, q⟩
  cases r with
  | nil => cases e
  | @cons x v _ _ r1 r =>
    cases r with
    | cons _ _ => cases r1 <;> cases e
    | nil =>
      have seq : (seqD st x).map (fun ds => D.int ds.length) = some d → wpAny (model X.prog X.w) X.A (call (.builtin "len") us) (EP X pins σ Q) X.xe s := fun e => by
        obtain ⟨ds, e1, e2⟩ := mapS e
        cases e2
        obtain ⟨a, vs, rfl, hq, rr⟩ := seq_rep rs r1 e1
        refine call_len_seq pins s σ H _ us Q I rv ⟨a, vs, rfl, hq, ?_⟩
        have := q ρ _ H (Ext.refl ρ H) rs (.int _)
        rw [rr.length] at this
        exact this
      cases x with
      | str z =>
        have e : (if z.length ≤ 100000 then some (D.int z.length) else none) = some d := e
        split at e
        · next hl =>
          cases e
          cases r1
          exact call_len_str pins s σ H _ us Q I rv ⟨z, rfl, sz5 hl, q ρ _ H (Ext.refl ρ H) rs (.int _)⟩
        · cases e
      | _ => exact seq e
theorem one_of {K : PySem.W.Frag} {ρ : Ws} {H : Hp} {x : D} {vs : List V} (r : Reps K ρ H [x] vs) : ∃ v, vs = [v] ∧ Rep K ρ H x v := by
  cases r with
  | cons h r => cases r; exact ⟨_, rfl, h⟩
theorem two_of {K : PySem.W.Frag} {ρ : Ws} {H : Hp} {x y : D} {vs : List V} (r : Reps K ρ H [x, y] vs) : ∃ v w, vs = [v, w] ∧ Rep K ρ H x v ∧ Rep K ρ H y w := by
  cases r with
  | cons h r =>
    cases r with
    | cons h2 r => cases r; exact ⟨_, _, rfl, h, h2⟩
theorem cd_abs : CallR X (.builtin "abs") (rDC X.K absD) := by
  rintro pins s σ H vs us Q I rv ⟨ρ, st, ds, d, rs, r, e, q⟩
  unfold absD at e
  split at e
  · obtain ⟨v, rfl, h⟩ := one_of r
    cases h
    cases e
    exact call_abs pins s σ H _ us Q I rv ⟨_, rfl, q ρ _ H (Ext.refl ρ H) rs (.int _)⟩
  · cases e
theorem cd_int : CallR X (.type "int") (rDC X.K intD) := by
  rintro pins s σ H vs us Q I rv ⟨ρ, st, ds, d, rs, r, e, q⟩
  unfold intD at e
  split at e
  · obtain ⟨v, rfl, h⟩ := one_of r
    cases h
    cases e
    exact call_int1 pins s σ H _ us Q I rv (.inl ⟨_, rfl, q ρ _ H (Ext.refl ρ H) rs (.int _)⟩)
  · obtain ⟨v, rfl, h⟩ := one_of r
    cases h
    cases e
    exact call_int1 pins s σ H _ us Q I rv (.inr ⟨_, rfl, q ρ _ H (Ext.refl ρ H) rs (.int _)⟩)
  · cases e
theorem cd_max2 (hc : X.calm = true) : CallR X (.builtin "max") (rDC X.K max2D) := by
  rintro pins s σ H vs us Q I rv ⟨ρ, st, ds, d, rs, r, e, q⟩
  unfold max2D at e
  split at e
  · obtain ⟨v, w, rfl, h, h2⟩ := two_of r
    cases h
    cases h2
    cases e
    exact call_max2 hc pins s σ H _ us Q I rv ⟨_, _, rfl, q ρ _ H (Ext.refl ρ H) rs (.int _)⟩
  · cases e
theorem cd_min2 (hc : X.calm = true) : CallR X (.builtin "min") (rDC X.K min2D) := by
  rintro pins s σ H vs us Q I rv ⟨ρ, st, ds, d, rs, r, e, q⟩
  unfold min2D at e
  split at e
  · obtain ⟨v, w, rfl, h, h2⟩ := two_of r
    cases h
    cases h2
    cases e
    exact call_min2 hc pins s σ H _ us Q I rv ⟨_, _, rfl, q ρ _ H (Ext.refl ρ H) rs (.int _)⟩
  · cases e
theorem cd_gcd : CallR X (.builtin "math.gcd") (rDC X.K gcdD) := by
  rintro pins s σ H vs us Q I rv ⟨ρ, st, ds, d, rs, r, e, q⟩
  unfold gcdD at e
  split at e
  · obtain ⟨v, w, rfl, h, h2⟩ := two_of r
    cases h
    cases h2
    cases e
    exact cr_gcd pins s σ H _ us Q I rv ⟨_, _, rfl, q ρ _ H (Ext.refl ρ H) rs (.int _)⟩
  · cases e
theorem cd_sum (hc : X.calm = true) : CallR X (.builtin "sum") (rDC X.K sumD) := by
  rintro pins s σ H vs us Q I rv ⟨ρ, st, ds, d, rs, r, e, q⟩
  unfold sumD at e
  split at e
  · obtain ⟨v, rfl, h⟩ := one_of r
    obtain ⟨ds, e1, e⟩ := bindS e
    obtain ⟨is, e2, e3⟩ := mapS e
    cases e3
    obtain ⟨a, vs, rfl, hq, rr⟩ := repL rs h e1
    rw [ints_rep e2 rr] at hq
    exact cr_sum hc pins s σ H _ us Q I rv ⟨a, is, rfl, hq, q ρ _ H (Ext.refl ρ H) rs (.int _)⟩
  · cases e

/-! ### slices of lists -/
def cutD (xs : List D) (lo hi : Option Int) : List D := (xs.drop (HT.sIx xs.length 0 lo)).take (HT.sIx xs.length xs.length hi - HT.sIx xs.length 0 lo)
variable {a : Expr} {f : FE} {pos p2 : Pos}
/-- a part of a slice that is written -/
@[simp] def fPart : Option FE → Env → Store → Option (Option Int × Store)
  | none => fun _ st => some (none, st)
  | some f => fun env st => (f env st).bind fun p => match p.1 with
    | .int i => some (some i, p.2)
    | _ => none
def tPO (K : PySem.W.Frag) (g : Env → Store → Option (Option Int × Store)) : TO := fun σ H Q => ∃ ρ env st o st', R K ρ env st σ H ∧ g env st = some (o, st') ∧ ∀ ρ' H', Ext ρ H ρ' H' → RS K ρ' st' H' → Q o H'
theorem po_of {X : Cx} {e : Option Expr} {t t' : TO} (h : PO X e t) (w : ∀ σ H Q, t' σ H Q → t σ H Q) : PO X e t' := ⟨fun pins s σ H Q I q => h.run pins s σ H Q I (w _ _ _ q)⟩
theorem px_po0 : PO X none (tPO X.K (fPart none)) := po_of po_none fun σ H Q ⟨ρ, env, st, o, st', r, h, q⟩ => by
  cases h
  exact q ρ H (Ext.refl ρ H) r.s
theorem px_po1 {e : Expr} (he : PE X e (tP X.K f)) : PO X (some e) (tPO X.K (fPart (some f))) := po_of (po_some he) fun σ H Q ⟨ρ, env, st, o, st', r, h, q⟩ => by
  obtain ⟨⟨x, s1⟩, e1, h⟩ := bindS h
  refine ⟨ρ, env, st, x, s1, r, e1, fun ρ1 v1 H1 x1 r1 rv => ?_⟩
  split at h
  · next i hx => cases hx; cases h; cases rv; exact ⟨_, rfl, q ρ1 H1 x1 r1⟩
  · cases h
@[simp] def fSlice (f : FE) (lo hi : Option FE) : FE := fun env st => (f env st).bind fun p => (fPart lo env p.2).bind fun l => (fPart hi env l.2).bind fun u => match p.1 with
  | .tup ds => if HT.sIx ds.length 0 l.1 = 0 ∧ HT.sIx ds.length ds.length u.1 = ds.length then none else some (.otp (cutD ds l.1 u.1), u.2)
  | d => (itemsL u.2 d).map fun ds => (.lst (cutD ds l.1 u.1), u.2)
theorem cut_rep {K : PySem.W.Frag} {ρ : Ws} {H : Hp} {ds : List D} {vs : List V} (r : Reps K ρ H ds vs) (lo hi : Option Int) : Reps K ρ H (cutD ds lo hi) (cutV vs lo hi) := by
  unfold cutD cutV
  rw [r.length]
  exact (r.drop _).take _
theorem px_slice {lo hi : Option Expr} {fl fh : Option FE} (ha : PE X a (tP X.K f)) (hl : PO X lo (tPO X.K (fPart fl))) (hh : PO X hi (tPO X.K (fPart fh))) : PE X (.Subscript a (.Slice lo hi none p2) pos) (tP X.K (fSlice f fl fh)) :=
  pe_of (pe_slice (SlR.or sl_list sl_tup) ha hl hh) fun σ H Q ⟨ρ, env, st, d, st', r, h, q⟩ => by
  obtain ⟨⟨x, s1⟩, e1, h⟩ := bindS h
  obtain ⟨⟨l, s2⟩, e2, h⟩ := bindS h
  obtain ⟨⟨u, s3⟩, e3, h⟩ := bindS h
  refine ⟨ρ, env, st, x, s1, r, e1, fun ρ1 v1 H1 x1 r1 rv1 => ⟨ρ1, env, s1, l, s2, r.mono' x1 r1, e2, fun ρ2 H2 x2 r2 => ⟨ρ2, env, s2, u, s3, r.mono' (x1.trans x2) r2, e3, fun ρ3 H3 x3 r3 => ?_⟩⟩⟩
  have rv3 := rv1.mono (x2.trans x3)
  have xx := (x1.trans x2).trans x3
  have lists : (itemsL s3 x).map (fun ds => (D.lst (cutD ds l u), s3)) = some (d, st') → (rSlL X.K v1 l u H3 Q ∨ rSlT X.K v1 l u H3 Q) := fun h => by
    obtain ⟨ds, e4, e5⟩ := mapS h
    cases e5
    obtain ⟨a, vs, rfl, hq, rr⟩ := repL r3 rv3 e4
    refine .inl ⟨a, vs, rfl, hq, fun p hp => q ρ3 _ _ (xx.trans (ext_new hp)) (r3.new hp) (.lst ⟨upd_same, r3.fresh hp⟩ ((cut_rep rr l u).mono (ext_new hp)))⟩
  cases x with
  | tup ds =>
    have h : (if HT.sIx ds.length 0 l = 0 ∧ HT.sIx ds.length ds.length u = ds.length then none else some (D.otp (cutD ds l u), s3)) = some (d, st') := h
    split at h
    · cases h
    · next hn =>
      cases h
      cases rv3 with
      | @tup a _ vs ht rr =>
        refine .inr ⟨a, vs, rfl, ht.sq, by rw [← rr.length]; exact hn, fun p hp => q ρ3 _ _ (xx.trans (ext_new hp)) (r3.new hp) (.otp (.inl ⟨.inl upd_same, r3.fresh hp⟩) ((cut_rep rr l u).mono (ext_new hp)))⟩
  | _ => exact lists h
@[simp] def fRev (f : FE) : FE := fun env st => (f env st).bind fun p => (itemsL p.2 p.1).map fun ds => (.lst ds.reverse, p.2)
theorem px_rev {k : Nat} {p1 p3 : Pos} (ha : PE X a (tP X.K f)) : PE X (.Subscript a (.Slice none none (some (.UnaryOp .USub (.Constant (.int 1) k p1) p2)) p3) pos) (tP X.K (fRev f)) :=
  pe_of (pe_revL ha) fun σ H Q ⟨ρ, env, st, d, st', r, h, q⟩ => by
  obtain ⟨⟨x, s1⟩, e1, h⟩ := bindS h
  obtain ⟨ds, e2, e3⟩ := mapS h
  cases e3
  refine ⟨ρ, env, st, x, _, r, e1, fun ρ1 v1 H1 x1 r1 rv1 => ?_⟩
  obtain ⟨a, vs, rfl, hq, rr⟩ := repL r1 rv1 e2
  exact ⟨a, vs, rfl, hq, fun p hp => q ρ1 _ _ (x1.trans (ext_new hp)) (r1.new hp) (.lst ⟨upd_same, r1.fresh hp⟩ (rr.reverse.mono (ext_new hp)))⟩
end
end PU
set_option Elab.async false
set_option linter.all false
set_option maxRecDepth 100000
set_option maxHeartbeats 2000000
namespace PU
open PySem PySem.Spec PyProof.Rows L2

/-! ### how often a thing stands in a list -/
@[simp] def cntD (st : Store) (c x : D) : Option D := (itemsL st c).bind fun ds => if flatD x = true ∧ ds.all flatD = true then some (.int ((ds.countP fun y => eqF y x : Nat) : Int)) else none
theorem cnt_rep {K : PySem.W.Frag} {ρ : Ws} {H : Hp} {e : D} {w : V} (q : Rep K ρ H e w) : ∀ {ds : List D} {vs : List V} {us : List Value}, Reps K ρ H ds vs → Vals vs us → vs.all flatV = true → us.countP (eqU w) = ds.countP fun y => eqF y e
  | _, _, _, .nil, .nil, _ => rfl
  | _, _, _, .cons h r, .cons rv rvs, f => by
    rw [List.all_cons, Bool.and_eq_true] at f
    have ih := cnt_rep q r rvs f.2
    rw [List.countP_cons, List.countP_cons, ih, eqU_of rv f.1, eqF_rep h q]
def rCntF (K : PySem.W.Frag) : V → List V → Hp → VK → Prop := fun x xs H Q => ∃ ρ st c e d, RS K ρ st H ∧ Rep K ρ H c x ∧ Reps K ρ H [e] xs ∧ cntD st c e = some d ∧ ∀ v, Rep K ρ H d v → Q v H
section
variable {X : Cx}
theorem mt_cntF : MtR X "list.count" (rCntF X.K) := by
  rintro pins s σ H x xs v us Q I rx rxs ⟨ρ, st, c, e, d, rs, rc, re, hd, q⟩
  obtain ⟨ds, e1, hd⟩ := bindS hd
  split at hd
  · next hf =>
    cases hd
    obtain ⟨a, vs, rfl, hq, rr⟩ := repL rs rc e1
    obtain ⟨w, rfl, rw2⟩ := one_of re
    cases rx
    obtain ⟨u, rfl, ru⟩ := rxs.one
    obtain ⟨its, rv, ⟨⟨cls, dd, data, sl⟩, n, ho, hcls, hdict, hdata⟩, hlen⟩ := I.list hq
    dsimp only at hcls hdata
    subst hcls
    subst hdata
    have fw : flatV w = true := by rw [← flat_rep rw2]; exact hf.1
    have fvs : vs.all flatV = true := by rw [← flats_rep rr]; exact hf.2
    have hc := cnt_rep rw2 rr rv fvs
    refine call_meets PySem.F.slot_list_count ⟨_, ho, rfl⟩ PySem.F.entry_list_count (PySem.F.args_list_count_2 _ _) (SeqAt.list_countAt a its.toArray n dd sl u (eqU w)) ⟨ho, fun y hy => ?_, ?_⟩
    · exact mem_eqAt ru fw rv fvs y (by simpa using hy)
    · refine ⟨.int _, H, I.tok _, ⟨s.toks, rfl⟩, ?_⟩
      have hc' : List.countP (eqU w) its.toArray.toList = List.countP (fun y => eqF y e) ds := hc
      rw [hc']
      exact q _ (.int _)
  · cases hd
variable {o e : Expr} {f g : FE} {apos cpos : Pos}
/-- o.count(e) -/
@[simp] def fCnt (f g : FE) : FE := fun env st => (f env st).bind fun p => (itemsL p.2 p.1).bind fun _ => (g env p.2).bind fun q => (cntD q.2 p.1 q.1).map fun d => (d, q.2)
theorem px_cnt (ho : PE X o (tP X.K f)) (he : PE X e (tP X.K g))
    (hbase : attributeBase o "count" X.env (eval o X.env) = eval o X.env := by rfl)
    (hfew : ((backTo cpos (starEach [e] X.env)).all (fun x => !x.1) && (backToKw cpos (keywordEach [] X.env)).all (fun x => x.1.isSome)
      && decide ([e].length + ([] : List Keyword).length + (if ([] : List Keyword).isEmpty then 0 else 1) < 30)) = true := by rfl)
    (hline : (apos.endLine == cpos.line) = true := by rfl) (hs : starEach [e] X.env = (false, eval e X.env) :: starEach [] X.env := by rfl) (hplain : (backTo cpos (starEach [] X.env)).any (·.1) = false := by rfl) :
    PE X (.Call (.Attribute o "count" apos) [e] [] cpos) (tP X.K (fCnt f g)) :=
  pe_of (pe_bm PySem.F.plainAttrs_list PySem.F.slot_list_count PySem.F.type_list_count mt_cntF ho (pa_cons he pa_nil hs) hbase hfew hline hs hplain) fun σ H Q ⟨ρ, env, s, d, s', r, h, q⟩ => by
    obtain ⟨⟨x, s1⟩, e1, h⟩ := bindS h
    obtain ⟨ds0, hl, h⟩ := bindS h
    obtain ⟨⟨y, s2⟩, e2, h⟩ := bindS h
    obtain ⟨d', e3, e4⟩ := mapS h
    cases e4
    refine ⟨ρ, env, s, x, s1, r, e1, fun ρ1 v1 H1 x1 r1 rv1 => ⟨?_, ρ1, env, s1, y, _, r.mono' x1 r1, e2, fun ρ2 v2 H2 x2 r2 rv2 => ?_⟩⟩
    · -- its type
      cases rv1 with
      | lst hh rr => exact .inl ⟨rfl, _, hh.sq⟩
      | frz hh rr => exact .inl ⟨rfl, _, hh.sq⟩
      | loc hh =>
        obtain ⟨ob, hob, qq⟩ := pd_get' r1.obs hh
        cases ob with
        | lst es => obtain ⟨vs, hv, _⟩ := qq; exact .inl ⟨rfl, _, .inl (.inl hv)⟩
        | flst es => obtain ⟨vs, o, hv, _⟩ := qq; exact .inl ⟨rfl, _, .inl (.inr ⟨o, hv⟩)⟩
        | dct lk kvs => simp [hob] at hl
      | _ => cases hl
    · exact ⟨ρ2, s2, x, y, _, r2, rv1.mono x2, .cons rv2 .nil, e3, fun v rv => q ρ2 v H2 (x1.trans x2) r2 rv⟩

/-! ### sorted of pairs of whole numbers -/
/-- which two whole numbers stand in a pair -/
@[simp] def pairD : D → Option (Int × Int)
  | .tup [.int i, .int j] => some (i, j)
  | _ => none
@[simp] def asPairs : List D → Option (List (Int × Int))
  | [] => some []
  | d :: ds => (pairD d).bind fun p => (asPairs ds).map fun ps => p :: ps
@[simp] def insP (p : Int × Int) : List (Int × Int) → List (Int × Int)
  | [] => [p]
  | q :: r => if SrtO.lexB q p = true then q :: insP p r else p :: q :: r
@[simp] def sortP : List (Int × Int) → List (Int × Int)
  | [] => []
  | p :: r => insP p (sortP r)
@[simp] def unpair (p : Int × Int) : D := .tup [.int p.1, .int p.2]
@[simp] def sortedPD (st : Store) : List D → Option D
  | [d] => (itemsL st d).bind fun ds => (asPairs ds).map fun ps => .lst ((sortP ps).map unpair)
  | _ => none

theorem insP_perm (p : Int × Int) : ∀ l, (insP p l).Perm (p :: l)
  | [] => List.Perm.refl _
  | q :: r => by
    unfold insP
    split
    · exact ((insP_perm p r).cons q).trans (List.Perm.swap p q r)
    · exact List.Perm.refl _
theorem sortP_perm : ∀ l, (sortP l).Perm l
  | [] => List.Perm.refl _
  | p :: r => (insP_perm p (sortP r)).trans ((sortP_perm r).cons p)
abbrev SrP (l : List (Int × Int)) : Prop := l.Pairwise fun a b => SrtO.lexB b a = false
theorem insP_srt (p : Int × Int) : ∀ l, SrP l → SrP (insP p l)
  | [], _ => by unfold insP; exact List.pairwise_singleton ..
  | q :: r, h => by
    unfold insP
    obtain ⟨h1, h2⟩ := List.pairwise_cons.mp h
    split
    · next hq =>
      refine List.pairwise_cons.mpr ⟨fun x hx => ?_, insP_srt p r h2⟩
      rcases List.mem_cons.mp ((insP_perm p r).mem_iff.mp hx) with rfl | hx
      · rw [SrtO.lexB_iff] at hq
        rw [SrtO.lexB_no]
        omega
      · exact h1 x hx
    · next hq =>
      have hq : SrtO.lexB q p = false := by simpa using hq
      refine List.pairwise_cons.mpr ⟨fun x hx => ?_, h⟩
      rcases List.mem_cons.mp hx with rfl | hx
      · exact hq
      · have h3 := h1 x hx
        rw [SrtO.lexB_no] at hq h3 ⊢
        omega
theorem sortP_srt : ∀ l, SrP (sortP l)
  | [] => List.Pairwise.nil
  | p :: r => insP_srt p _ (sortP_srt r)
theorem srt_uniq : ∀ {l m : List (Int × Int)}, SrP l → SrP m → l.Perm m → l = m
  | [], m, _, _, h => (List.Perm.eq_nil h.symm).symm
  | x :: l, [], _, _, h => absurd h.length_eq (by simp)
  | x :: l, y :: m, hl, hm, h => by
    obtain ⟨l1, l2⟩ := List.pairwise_cons.mp hl
    obtain ⟨m1, m2⟩ := List.pairwise_cons.mp hm
    have e : x = y := by
      rcases List.mem_cons.mp (h.mem_iff.mp (List.mem_cons_self (a := x) (l := l))) with e | hx
      · exact e
      · rcases List.mem_cons.mp (h.mem_iff.mpr (List.mem_cons_self (a := y) (l := m))) with e | hy
        · exact e.symm
        · have a := m1 x hx
          have b := l1 y hy
          rw [SrtO.lexB_no] at a b
          exact Prod.ext (by omega) (by omega)
    subst e
    rw [srt_uniq l2 m2 h.cons_inv]
/-- the pair that stands there -/
def kOf (h : Heap) (v : Value) : Int × Int := match v with
  | .ref a => match h.get? a with
    | some o => match o.data with
      | .seq its _ => match its.toList with
        | [.int x _, .int y _] => (x, y)
        | _ => (0, 0)
      | _ => (0, 0)
    | none => (0, 0)
  | _ => (0, 0)
section
variable {X : Cx} {pins : List (Addr × Obj)} {σ : L2.St} {H : Hp} {s : Shared} {ρ : Ws}
theorem pair_rep (I : Inv X pins σ H s) {d : D} {p : Int × Int} {v : V} {u : Value} (r : Rep X.K ρ H d v) (ru : RelV v u) (e : pairD d = some p) : kOf s.heap u = p ∧ Srt.IsPair s.heap u p.1 p.2 ∧ d = unpair p ∧ (∃ b, u = .ref b) ∧ v = L2.backV u := by
  unfold pairD at e
  split at e
  · next i j =>
    cases e
    cases r with
    | @tup a _ vs h rr =>
      obtain ⟨v1, v2, rfl, r1, r2⟩ := two_of rr
      cases r1
      cases r2
      obtain ⟨its, rv, ⟨o, ho, hc, n, hd⟩, hz⟩ := I.tuple h.sq
      obtain ⟨u1, u2, rfl, ⟨t1, rfl⟩, ⟨t2, rfl⟩⟩ := vals2 rv
      cases ru
      refine ⟨?_, ⟨a, o, t1, t2, n, rfl, ho, hc, hd⟩, rfl, ⟨a, rfl⟩, rfl⟩
      unfold kOf
      simp only [ho, hd]
  · cases e
theorem pairs_rep (I : Inv X pins σ H s) : ∀ {ds : List D} {ps : List (Int × Int)} {vs : List V} {us : List Value}, Reps X.K ρ H ds vs → Vals vs us → asPairs ds = some ps →
    us.map (kOf s.heap) = ps ∧ ∀ u ∈ us, Srt.IsPair s.heap u (kOf s.heap u).1 (kOf s.heap u).2 ∧ Rep X.K ρ H (unpair (kOf s.heap u)) (L2.backV u) ∧ ∃ b, u = .ref b
  | [], _, _, _, r, rv, e => by
    cases r
    cases rv
    cases e
    exact ⟨rfl, fun u hu => absurd hu (by simp)⟩
  | d :: ds, _, _, _, r, rv, e => by
    obtain ⟨p, e1, e⟩ := bindS e
    obtain ⟨ps, e2, e3⟩ := mapS e
    cases e3
    cases r with
    | cons h r =>
      cases rv with
      | cons hv rv =>
        obtain ⟨i1, i2⟩ := pairs_rep I r rv e2
        obtain ⟨k1, k2, k3, k4, k5⟩ := pair_rep I h hv e1
        refine ⟨by rw [List.map_cons, i1, k1], fun u hu => ?_⟩
        rcases List.mem_cons.mp hu with rfl | hu
        · rw [k1]
          refine ⟨k2, ?_, k4⟩
          rw [← k3, ← k5]
          exact h
        · exact i2 u hu
theorem cd_sortedP : CallR X (.builtin "sorted") (rDC X.K sortedPD) := by
  rintro pins s σ H vs us Q I rv ⟨ρ, st, ds, d, rs, r, e, q⟩
  unfold sortedPD at e
  split at e
  · next x =>
    obtain ⟨v, rfl, h⟩ := one_of r
    obtain ⟨es, e1, e⟩ := bindS e
    obtain ⟨ps, e2, e3⟩ := mapS e
    cases e3
    obtain ⟨a, ws, rfl, hq, rr⟩ := repL rs h e1
    obtain ⟨its, rits, hl, hz⟩ := I.list hq
    obtain ⟨u, rfl, ru⟩ := vals1 rv
    obtain rfl : u = Value.ref a := ru
    obtain ⟨hk, hall⟩ := pairs_rep I rr rits e2
    have hlen := rits.length
    refine SrtO.sorted_pairsO (k := kOf s.heap) hl.isList (by omega) (fun v hv => (hall v hv).1) fun h' d out h1 h2 kp hd hn => ?_
    have hp : (out.map (kOf s.heap)).Perm ps := by rw [← hk]; exact h2.perm.map _
    have hs : SrP (out.map (kOf s.heap)) := List.pairwise_map.mpr h1
    have heq : out.map (kOf s.heap) = sortP ps := srt_uniq hs (sortP_srt ps) (hp.trans (sortP_perm ps).symm)
    have hm : ∀ u ∈ out, u ∈ its := fun u hu => h2.perm.mem_iff.mp hu
    have h3 : ∀ u ∈ out, ∃ a, u = Value.ref a := fun u hu => (hall u (hm u hu)).2.2
    have reps : ∀ os : List Value, (∀ u ∈ os, u ∈ its) → Reps X.K ρ H ((os.map (kOf s.heap)).map unpair) (os.map L2.backV) := fun os => by
      induction os with
      | nil => intro _; exact .nil
      | cons o os ih => intro ho; exact .cons (hall o (ho o (by simp))).2.1 (ih fun u hu => ho u (by simp [hu]))
    obtain ⟨n, hn⟩ := hn
    have ol : out.length = its.length := h2.perm.length_eq
    have hd0 : H d = none := I.hok.fresh hd
    refine ⟨.ref d, upd H d (.lst (out.map L2.backV)), I.laid (t' := s.toks) kp hd ⟨?_, out, n, L2.vals_back h3, hn⟩, rfl, ?_⟩
    · rw [List.length_map]; omega
    · refine q ρ _ _ (ext_new hd0) (rs.new hd0) (.lst ⟨upd_same, rs.fresh hd0⟩ ?_)
      rw [← heq]
      exact (reps out hm).mono (ext_new hd0)
  · cases e
end
end
end PU
set_option Elab.async false
set_option linter.all false
set_option maxRecDepth 100000
set_option maxHeartbeats 2000000
namespace PU
open PySem PySem.Spec PyProof.Rows L2

abbrev GF := List D → Store → Option (D × Store)
/-- a def of the module, by what it promises -/
structure Cal (P : Program) (w : World) (K : PySem.W.Frag) (mg : Str → Option Value) (base : Heap) (x : Str) (k n : Nat) (g : GF) : Prop where
  ex : ∃ f fd ps, FnOk P w K mg base CX0 k f fd ps (spD K n g) ∧ mg x = some (.ref f) ∧ PySem.W.keepIn K (.ref f) = true ∧ Binds K fd ps []
theorem Cal.imp {P : Program} {w : World} {K : PySem.W.Frag} {mg : Str → Option Value} {base : Heap} {x : Str} {k n : Nat} {g g' : GF} (c : Cal P w K mg base x k n g) (h : ∀ ds st r, ds.length = n → g' ds st = some r → g ds st = some r) : Cal P w K mg base x k n g' := by
  obtain ⟨f, fd, ps, F, a, b, c⟩ := c.ex
  exact ⟨f, fd, ps, F.imp (spD_imp h), a, b, c⟩
theorem Cal.trim {P : Program} {w : World} {K : PySem.W.Frag} {mg : Str → Option Value} {base : Heap} {x : Str} {k n : Nat} {g : GF} (c : Cal P w K mg base x k n g) : Cal P w K mg base x k n (trimD g) := by
  obtain ⟨f, fd, ps, F, a, b, c⟩ := c.ex
  exact ⟨f, fd, ps, F.imp trim_ok, a, b, c⟩
section
variable {X : Cx} {e : Expr} {es : List Expr} {fa : FA} {x : Str} {p pos : Pos}
theorem px_cal {k n : Nat} {g : GF} (F : Cal X.prog X.w X.K X.mg X.base x k n g) (hr : Room k X.A) (hg : Gl X x) (ha : PA X (e :: es) (tPA X.K fa)) (hn : ∀ env st ds st', fa env st = some (ds, st') → ds.length = n)
    (hdb : (x == ("__debug__" : Str)) = false := by decide) (he : starEach (e :: es) X.env = (false, eval e X.env) :: starEach es X.env := by rfl) (hpl : (backTo pos (starEach es X.env)).any (·.1) = false := by rfl) :
    PE X (.Call (.Name x p) (e :: es) [] pos) (tP X.K (fCall g fa)) := by
  obtain ⟨f, fd, ps, F, a, b, c⟩ := F.ex
  exact px_call F hr hg a b c ha hn hdb he hpl
theorem px_ty {T : String} (hg : Gl X x) (hm : X.mg x = none) (hv : bootBuiltins x = some (.type T)) (hn : x ≠ "__name__" := by decide) (hd : (x == ("__debug__" : Str)) = false := by decide) : PE X (.Name x pos) (tP X.K (fC (.ty T))) :=
  px_c (pe_bltn (v := .ty T) hg hm hv rfl hn hd) fun _ _ => .ty T
end
/-- (a, b, ..) = a list of that length -/
@[simp] def gTl (g : FGs) : FG := fun d env => (itemsF d).bind fun ds => g ds env
theorem px_gl {X : Cx} {es : List Expr} {gs : FGs} {vs : List Nat} {pos : Pos} {k : Nat} {n : Nat} (hc : X.calm = true) (h : PGs X es (tGs X.K vs gs)) (hg : ∀ ds env env', gs ds env = some env' → ds.length = n)
    (hn : (assignEach es X.env).length = n := by rfl) (hst : (assignEach es X.env).findIdx? (·.1) = none := by rfl) : PG X (.Tuple es k pos) (tG X.K vs (gTl gs)) :=
  pg_of (pg_lst hc h hn hst) fun v σ H Q ⟨ρ, env, s, d, env', r, rv, h, q⟩ => by
    obtain ⟨ds, e1, h⟩ := bindS h
    have fin : ∀ {a : Addr} {xs : List V}, SqL X.K H a xs → Reps X.K ρ H ds xs → gLst X.K n (tGs X.K vs gs) (.ref a) σ H Q := fun {a xs} sq rr =>
      ⟨a, xs, rfl, sq, by rw [← rr.length]; exact hg _ _ _ h, ρ, env, s, ds, env', r, rr, h, q⟩
    cases rv with
    | lst l rr => cases e1; exact fin l.sq rr
    | frz l rr => cases e1; exact fin l.sq rr
    | _ => cases e1
/-- the sum of two lists, to be changed -/
@[simp] def fAddC (f g : FE) : FE := fun env st => (f env st).bind fun p => (g env p.2).bind fun q => (itemsP q.2 p.1).bind fun x => (itemsP q.2 q.1).bind fun y => if x.length + y.length ≤ 100000 then some (.loc q.2.length, q.2 ++ [.lst (x ++ y)]) else none
theorem px_addC {X : Cx} {a b : Expr} {f g : FE} {pos : Pos} (ha : PE X a (tP X.K f)) (hb : PE X b (tP X.K g)) : PE X (.BinOp a .Add b pos) (tP X.K (fAddC f g)) :=
  pe_of (pe_op op_cat ha hb) fun σ H Q ⟨ρ, env, s, d, s', r, h, q⟩ => by
    obtain ⟨⟨x, s1⟩, e1, h⟩ := bindS h
    obtain ⟨⟨y, s2⟩, e2, h⟩ := bindS h
    obtain ⟨xs, e3, h⟩ := bindS h
    obtain ⟨ys, e4, h⟩ := bindS h
    split at h
    · next hl =>
      cases h
      refine ⟨ρ, env, s, x, s1, r, e1, fun ρ1 v1 H1 x1 r1 rv1 => ⟨ρ1, env, s1, y, s2, r.mono' x1 r1, e2, fun ρ2 v2 H2 x2 r2 rv2 => ?_⟩⟩
      obtain ⟨a1, vs, rfl, h1, q1⟩ := repP r2 (rv1.mono x2) e3
      obtain ⟨a2, us, rfl, h2, q2⟩ := repP r2 rv2 e4
      refine ⟨a1, a2, vs, us, rfl, rfl, h1, h2, sz5 (by rw [← q1.length, ← q2.length]; exact hl), fun p hp => ?_⟩
      refine q _ _ _ ((x1.trans x2).trans (ext_cell hp)) (r2.cell hp (q1.append q2)) (.loc ?_)
      show (ρ2.pl ++ [p])[s2.length]? = some p
      rw [r2.len]; simp
    · cases h
/-- the facts of a def as the top has left it -/
theorem cal_mk {P : Program} {w : World} {K : PySem.W.Frag} {mg : Str → Option Value} {base : Heap} {x : Str} {k n : Nat} {g : GF} {st : Stmt} {f : Addr} {fd : FuncData} {ps : List Str} (F : Fun K x x st f fd) (hm : mg x = some (.ref f)) (hb : Binds K fd ps [])
    (ok : FnOk P w K mg base CX0 k f fd ps (spD K n g)) : Cal P w K mg base x k n g := ⟨f, fd, ps, ok, hm, F.kp, hb⟩
end PU
set_option Elab.async false
set_option linter.all false
set_option maxRecDepth 100000
set_option maxHeartbeats 2000000
namespace PU
open PySem PySem.Spec PyProof.Rows L2

/-! ### defs where nothing is being shown: repr of lists wants that -/
structure FnG (P : Program) (w : World) (K : PySem.W.Frag) (mg : Str → Option Value) (base : Heap) (k : Nat) (f : Addr) (fd : FuncData) (ps : List Str) (sp : Sp) : Prop where
  len : ∀ vs H Q E, sp vs H Q E → vs.length = ps.length
  run : ∀ (A : Around) (outer : List PySem.Env) (s : Shared) (H : Hp) (args : Args) (us : List Value) (vs : List V) (Q : VK) (E : XK), Room k A → A.guards = some [] →
    Env0 P w K mg base A outer s H → BindsTo s fd args (ps.zip us) → Vals vs us → sp vs H Q E → codeAny (model P w) A (.call (.ref f) args) (CR CX0 outer P w H s Q E) s
section
variable {P : Program} {w : World} {K : PySem.W.Frag} {mg : Str → Option Value} {base : Heap}
theorem FnG.imp {k : Nat} {f : Addr} {fd : FuncData} {ps : List Str} {sp sp' : Sp} (F : FnG P w K mg base k f fd ps sp) (h : ∀ vs H Q E, sp' vs H Q E → sp vs H Q E) : FnG P w K mg base k f fd ps sp' :=
  ⟨fun vs H Q E q => F.len vs H Q E (h _ _ _ _ q), fun A outer s H args us vs Q E hr hg e0 hb hv q => F.run A outer s H args us vs Q E hr hg e0 hb hv (h _ _ _ _ q)⟩
theorem bindsLoc {N ps : List Str} {sc : Scope} (S : FnScope N ps sc) (us : List Value) (n : Nat) : ∀ y ∈ ps.zip us, sc.names.lookup y.1 = some .local ∨ (sc.names.lookup y.1 = some .cell ∧ ((cellsFrom n sc.names []).lookup y.1).isSome = true) := by
  intro y hy
  obtain ⟨x, v⟩ := y
  cases S.par x (List.of_mem_zip hy).1 with
  | inl q => exact Or.inl q
  | inr q => exact Or.inr ⟨q, PySem.W.cellsFrom_some _ _ _ (Or.inl q)⟩
theorem fnG_ok {x qual : Str} {st : Stmt} {f : Addr} {fd : FuncData} {N ps : List Str} {k : Nat} {b : FS} (F : Fun K x qual st f fd) (S : FnScope N ps (defScope st))
    (hb : ∀ (cdv : Value) (A : Around) (outer : List PySem.Env) (s : Shared) (H : Hp) (E : XK), Room k (A.deeper (envOfC qual (defScope st) s.heap.objs.size f cdv)) → A.guards = some [] → PSs (cxOf CX0 P w K mg base N qual (defScope st) f cdv A outer s H E).nox (defBody st) (tS K b)) :
    FnG P w K mg base (k + 1) f fd ps (spD K ps.length (runP N.length b)) := by
  obtain ⟨oc, od, kV, doc, pm, an, cdv, ct, osl, rfl, lk, hcd⟩ := F.ex
  have hlen : ∀ vs H Q E, spD K ps.length (runP N.length b) vs H Q E → vs.length = ps.length := fun vs H Q E h => by
    obtain ⟨ρ, ds, st, d, st', rs, r, l, _⟩ := h
    rw [← r.length]
    exact l
  refine ⟨hlen, ?_⟩
  intro A outer s H args us vs Q E hr hg e0 hbd hv hsp
  have there : ∀ b o, base.get? b = some o → s.heap.get? b = some o := fun b o e => (e0.bs b o e).1
  have KX := e0.mod.kin.keeps there
  have lim := e0.mod.nolimit.keeps there
  refine codeAny_call_function hr.depth (KX _ _ lk) rfl S.co S.gen rfl (PySem.W.codeRec_of KX hcd) (hbd _ _ _ _ (wpAny_newFunctionEnv_cells S.kind (bindsLoc S us _) ?_))
  intro env he s1 inC
  subst he
  refine ⟨lim.keeps inC.toInCall.keep, codeAny_func ?_⟩
  have I := inv_start (CX := CX0) (P := P) (w := w) (K := K) (mg := mg) (base := base) (E := E) S hr.hd e0 (hlen _ _ _ _ hsp) hv inC
  obtain ⟨ρ, ds, s0, d, st', rs, r, l, e, q⟩ := hsp
  obtain ⟨o, e1, e2⟩ := bindS e
  have body := ((hb cdv A outer s H E (hr.deeper _) hg).nox).run [] s1 (start N vs) H { nx := fun _ H' => Q .non H', rt := Q } I ⟨ρ, _, s0, o, ⟨rs, env_start r N.length⟩, e1, by
    cases o with
    | ret d' s' => cases e2; exact fun ρ' v H' x s r => q ρ' v H' x s r
    | nx e' s' => cases e2; exact fun ρ' σ' H' x r => q ρ' .non H' x r.s .non
    | bk e' s' => cases e2
    | ct e' s' => cases e2⟩
  refine wpAny_mono body ?_ fun e s' hs => hs
  intro fl s' hs
  cases fl with
  | ret u =>
    obtain ⟨v, σ', H', J, rv, q'⟩ := hs
    exact ⟨v, H', J.os, J.bare, J.base, J.hok, rv, q'⟩
  | next =>
    obtain ⟨σ', H', J, q'⟩ := hs
    exact ⟨.non, H', J.os, J.bare, J.base, J.hok, rfl, q'⟩
  | brk => obtain ⟨_, _, _, q'⟩ := hs; exact q'.elim
  | cont => obtain ⟨_, _, _, q'⟩ := hs; exact q'.elim
/-- a def of the module, by what it promises -/
structure CalG (P : Program) (w : World) (K : PySem.W.Frag) (mg : Str → Option Value) (base : Heap) (x : Str) (k n : Nat) (g : GF) : Prop where
  ex : ∃ f fd ps, FnG P w K mg base k f fd ps (spD K n g) ∧ mg x = some (.ref f) ∧ PySem.W.keepIn K (.ref f) = true ∧ Binds K fd ps []
theorem CalG.imp {x : Str} {k n : Nat} {g g' : GF} (c : CalG P w K mg base x k n g) (h : ∀ ds st r, ds.length = n → g' ds st = some r → g ds st = some r) : CalG P w K mg base x k n g' := by
  obtain ⟨f, fd, ps, F, a, b, c⟩ := c.ex
  exact ⟨f, fd, ps, F.imp (spD_imp h), a, b, c⟩
theorem CalG.trim {x : Str} {k n : Nat} {g : GF} (c : CalG P w K mg base x k n g) : CalG P w K mg base x k n (trimD g) := by
  obtain ⟨f, fd, ps, F, a, b, c⟩ := c.ex
  exact ⟨f, fd, ps, F.imp trim_ok, a, b, c⟩
theorem CalG.trimE {x : Str} {k n : Nat} {g : GF} (c : CalG P w K mg base x k n g) : CalG P w K mg base x k n (PU.trimE g) := by
  obtain ⟨f, fd, ps, F, a, b, c⟩ := c.ex
  exact ⟨f, fd, ps, F.imp trimE_ok, a, b, c⟩
theorem calG_mk {x : Str} {k n : Nat} {g : GF} {st : Stmt} {f : Addr} {fd : FuncData} {ps : List Str} (F : Fun K x x st f fd) (hm : mg x = some (.ref f)) (hb : Binds K fd ps [])
    (ok : FnG P w K mg base k f fd ps (spD K n g)) : CalG P w K mg base x k n g := ⟨f, fd, ps, ok, hm, F.kp, hb⟩
end
section
variable {X : Cx} {e : Expr} {es : List Expr} {fa : FA} {x : Str} {p pos : Pos}
theorem runCallG {k : Nat} {f : Addr} {fd : FuncData} {ps : List Str} {sp : Sp} {pins : List (Addr × Obj)} {σ : L2.St} {H : Hp} {s : Shared} {Q : VK} {us : List Value} {vs : List V} (F : FnG X.prog X.w X.K X.mg X.base k f fd ps sp) (hr : Room k X.A) (hG : X.A.guards = some [])
    (hb : Binds X.K fd ps []) (I : Inv X pins σ H s) (r : Vals vs us) (h : sp vs H Q E0) : wpAny (model X.prog X.w) X.A (call (.ref f) us) (EP X pins σ Q) X.xe s := by
  have hl : us.length = ps.length := by rw [← r.length]; exact F.len _ _ _ _ h
  have bd := hb s us I.kIn (by rw [List.append_nil]; exact hl)
  rw [List.append_nil] at bd
  refine wpAny_call (codeAny_mono (F.run X.A X.stack s H ⟨us, []⟩ us vs Q E0 hr hG I.env0 bd r h) ?_)
  intro res s' hq
  match res, hq with
  | .error e, hq => exact hq.elim
  | .ok (.ret u), hq => exact I.after hq
  | .ok .next, hq => exact hq.elim
  | .ok .brk, hq => exact hq.elim
  | .ok .cont, hq => exact hq.elim
theorem px_calG {k n : Nat} {g : GF} (F : CalG X.prog X.w X.K X.mg X.base x k n g) (hr : Room k X.A) (hG : X.A.guards = some []) (hg : Gl X x) (ha : PA X (e :: es) (tPA X.K fa)) (hn : ∀ env st ds st', fa env st = some (ds, st') → ds.length = n)
    (hdb : (x == ("__debug__" : Str)) = false := by decide) (he : starEach (e :: es) X.env = (false, eval e X.env) :: starEach es X.env := by rfl) (hpl : (backTo pos (starEach es X.env)).any (·.1) = false := by rfl) :
    PE X (.Call (.Name x p) (e :: es) [] pos) (tP X.K (fCall g fa)) := by
  obtain ⟨f, fd, ps, F, hm, hk, hb⟩ := F.ex
  refine ⟨fun pins s σ H Q I h => ?_⟩
  obtain ⟨ρ, env, st, d, st', r, hh, q⟩ := h
  obtain ⟨⟨xs, st1⟩, e1, hh⟩ := bindS hh
  refine wpAny_Call_Name_kw (ld_glob I hg hm ?_ hdb)
  refine PySem.W.callWith_K (h₀ := X.base) I.ok.mod.kin hk (thn (ha.run pos pins s σ H (fun vs H1 => spD X.K n g vs H1 Q E0) I ⟨ρ, env, st, xs, st1, r, e1, fun ρ1 vs H1 x1 s1 r1 => ⟨ρ1, xs, st1, d, st', s1, r1, hn _ _ _ _ e1, hh, fun ρ2 v2 H2 x2 s2 r2 => q ρ2 v2 H2 (x1.trans x2) s2 r2⟩⟩) ?_) he hpl
  intro us s1 hq
  obtain ⟨vs, H1, I1, rv, q1⟩ := hq
  exact ⟨I1.kIn, runCallG F hr hG hb I1 rv q1⟩
end
end PU
set_option Elab.async false
set_option linter.all false
set_option maxRecDepth 100000
set_option maxHeartbeats 2000000
namespace PU
open PySem PySem.Spec PyProof.Rows L2

/-! ### the law's own call, nothing being shown -/
theorem reps_ints {K : PySem.W.Frag} {ρ : Ws} {H : Hp} : ∀ ns : List Int, Reps K ρ H (ns.map D.int) (ns.map V.int)
  | [] => .nil
  | n :: ns => .cons (.int n) (reps_ints ns)
/-- the law tells True of every script -/
def LawTrue (g : GF) (m : Nat) : Prop := ∀ ns : List Int, ns.length ≤ m → ∃ st', g [.frz (ns.map D.int)] [] = some (.bl true, st')
/-- what is known of the script alone -/
structure Lone (K : PySem.W.Frag) (P : Program) (w : World) (H : Hp) (h : Heap) (a : Addr) (xs : List V) : Prop where
  sq : SqL K H a xs
  ok : HOk P w H h
  only : ∀ b, H b ≠ none → b = a ∧ ∃ o, H b = some (.frz o (.lst xs))
  noK : H a ≠ none → K.lookup a = none
theorem lone_of {K : PySem.W.Frag} {P : Program} {w : World} {h : Heap} {a : Addr} {vs : List Value} {ns : List Int} (KX : K.In h) (ha : h.get? a = some { cls := .type "list", data := .seq vs.toArray }) (hi : IntsAre vs ns) (hl : ns.length ≤ sizeLine) :
    ∃ H, Lone K P w H h a (ns.map V.int) := by
  have rv := vals_ints hi
  cases hk : K.lookup a with
  | some o =>
    have e := KX a o hk
    rw [ha] at e
    cases e
    refine ⟨fun _ => none, .inr ⟨_, vs.toArray, _, hk, rfl, rfl, rfl, ?_, by simpa using rv⟩, fun b u z => (by cases z), fun b z => absurd rfl z, fun z => absurd rfl z⟩
    rw [List.size_toArray, hi.length]
    exact hl
  | none =>
    refine ⟨fun b => if b = a then some (.frz { cls := .type "list", data := .seq vs.toArray } (.lst (ns.map V.int))) else none, .inl (.inr ⟨_, if_pos rfl⟩), ?_, ?_, fun _ => hk⟩
    · intro b u z
      dsimp only at z
      by_cases hb : b = a
      · rw [if_pos hb] at z
        cases z
        rw [hb]
        exact ⟨ha, by rw [List.length_map]; exact hl, vs, _, rv, ha⟩
      · rw [if_neg hb] at z
        cases z
    · intro b z
      by_cases hb : b = a
      · exact ⟨hb, _, if_pos hb⟩
      · exact absurd (if_neg hb) z
theorem Lone.noDict {K : PySem.W.Frag} {P : Program} {w : World} {H : Hp} {h : Heap} {a : Addr} {xs : List V} {vs : List Value} (L : Lone K P w H h a xs) (ha : h.get? a = some { cls := .type "list", data := .seq vs.toArray }) {b : Addr} {o : Obj} {es : Array DictEntry} {ep : Nat}
    (e : h.get? b = some o) (d : o.data = .dict es ep) : H b = none := by
  by_cases q : H b = none
  · exact q
  · have e' := (L.only b q).1
    rw [e', ha] at e
    cases e
    exact absurd d (by simp)
theorem call_lawG {P : Program} {w : World} {K : PySem.W.Frag} {mg mb : Str → Option Value} {k m : Nat} {fa a : Addr} {fd : FuncData} {x : Str} {g : GF} {s : Shared} {vs : List Value} {ns : List Int}
    (KX : K.In s.heap) (hns : s.heap.Ns mainGlobals mg) (hb : s.heap.Ns builtinsNs mb) (hbb : ∀ x : Str, x ≠ "__name__" → mb x = bootBuiltins x) (hlim : s.heap.NoLimit) (hg : s.gens = #[])
    (ha : s.heap.get? a = some { cls := .type "list", data := .seq vs.toArray }) (hi : IntsAre vs ns) (hm : ns.length ≤ m) (hl : m ≤ sizeLine) (hr : Room k callerA)
    (F : ∀ base : Heap, K.In base → base.Ns mainGlobals mg → FnG P w K mg base k fa fd [x] (spD K 1 g)) (hbind : ∀ (s : Shared) (u : Value), BindsTo s fd ⟨[u], []⟩ [(x, u)]) (hT : LawTrue g m) :
    codeAny (model P w) callerA (.call (.ref fa) ⟨[.ref a], []⟩) (fun r s' => r = .ok (.ret (.bool true)) ∧ OldK s.heap s'.heap ∧ s'.os = s.os ∧ AllBare s'.gens) s := by
  obtain ⟨H, L⟩ := lone_of (P := P) (w := w) KX ha hi (Nat.le_trans hm hl)
  have toNs : ∀ {b : Addr} {m : Str → Option Value}, s.heap.Ns b m → (hidT s.heap H).Ns b m := fun {b m} n => by
    obtain ⟨o, es, ep, e, d, r⟩ := n
    exact ⟨o, es, ep, hidT_get e (L.noDict ha e d), d, r⟩
  have inK : K.In (hidT s.heap H) := fun b o e => hidT_get (KX b o e) (by
    by_cases q : H b = none
    · exact q
    · obtain ⟨hba, _⟩ := L.only b q
      rw [hba] at e q
      rw [L.noK q] at e
      cases e)
  obtain ⟨mc, l1, l2⟩ := hlim
  have e0 : Env0 P w K mg (hidT s.heap H) callerA [] s H := {
    frames := rfl
    mod := ⟨inK, toNs hns, ⟨mb, toNs hb, hbb⟩, ⟨mc, toNs l1, l2⟩⟩
    bs := fun b o e => of_hidT e
    bsz := Nat.le_of_eq (hidT_size _ _)
    funs := trivial
    frf := fun b z => absurd z (List.not_mem_nil (a := b))
    hok := L.ok
    bare := .of_eq hg }
  obtain ⟨st', ev⟩ := hT ns hm
  have hsp : spD K 1 g [.ref a] H (fun v _ => v = .bl true) E0 := by
    refine ⟨⟨[], []⟩, [.frz (ns.map D.int)], [], .bl true, st', ⟨List.nodup_nil, .nil, fun _ h => absurd h (by simp)⟩, .cons (.frz ?_ (reps_ints ns)) .nil, rfl, ev, fun ρ' v H' _ _ r => ?_⟩
    · rcases L.sq with q | q
      · exact .inl ⟨q, by simp [Free]⟩
      · exact .inr q
    · cases r
      rfl
  have run := (F _ inK (toNs hns)).run callerA [] s H ⟨[.ref a], []⟩ [.ref a] [.ref a] _ _ hr rfl e0 (hbind s (.ref a)) (.cons rfl .nil) hsp
  refine codeAny_mono run ?_
  intro r s' q
  match r, q with
  | .error e, q => exact q.elim
  | .ok .next, q => exact q.elim
  | .ok .brk, q => exact q.elim
  | .ok .cont, q => exact q.elim
  | .ok (.ret u), q =>
    obtain ⟨v, H', os, bare, un, hok', rv, qv⟩ := q
    have qv : v = .bl true := qv
    subst qv
    obtain rfl : u = Value.bool true := rv
    refine ⟨rfl, OldK.of_keep fun b o e => ?_, os, bare⟩
    by_cases q : H b = none
    · exact un.keep b o e q (fun z => absurd z (List.not_mem_nil (a := b))) (List.not_mem_nil (a := b))
    · obtain ⟨_, ob, z⟩ := L.only b q
      have z2 := hok' b _ (un.frzs b ob _ z)
      have z1 := L.ok b _ z
      have z1 : s.heap.get? b = some ob ∧ _ := z1
      have z2 : s'.heap.get? b = some ob ∧ _ := z2
      rw [z1.1] at e
      cases e
      exact z2.1
theorem walk_G {l : PySem.W.OpenLaw} {n k : Nat} {q : Program} {loose : List Str} {XP : (Str → Option Value) → Heap → Prop} {YP : World → Heap → Prop} {d : DefRec} {K : Params → PySem.W.Frag} {x : Str} (g : GF)
    (hn : l.most = some n) (hn2 : n ≤ sizeLine) (hdf : d.params.defaults = []) (hr : Room k callerA) (hY : ∀ (w : World) (h : Heap), YP w h → (K w.params).In h)
    (F : ∀ (w : World) (mg : Str → Option Value) (fa : Addr) (h : Heap), (K w.params).In h → h.Ns mainGlobals mg → mg d.name = some (.ref fa) →
      ∃ fd : FuncData, (∀ (s : Shared) (u : Value), BindsTo s fd ⟨[u], []⟩ [(x, u)]) ∧ ∀ base : Heap, (K w.params).In base → base.Ns mainGlobals mg → FnG l.prog w (K w.params) mg base k fa fd [x] (spD (K w.params) 1 g)) (hT : LawTrue g n) :
    PySem.W.WalkO q loose XP YP l.row.toRowW d [] (fun f vs => PySem.call f vs) := by
  refine Att.attach_call hn hdf ?_
  intro w s0 s1 mg mb fa o pm cd doc a vs ns G Y ho hd hcd hmg hobj hints hlen hg
  obtain ⟨fd, hb, hF⟩ := F w mg fa _ (hY w _ Y) G.T.g hmg
  exact call_lawG (hY w _ Y) G.T.g G.T.b G.T.builtins G.T.nolimit hg hobj hints hlen hn2 hr hF hb hT

/-! ### repr -/
@[simp] def reprD (st : Store) : List D → Option D
  | [d] => (topPD st d).bind fun p => if p.showable = true ∧ p.depth ≤ 50 ∧ p.shown.length ≤ 16000000 then some (.str p.shown) else none
  | _ => none
mutual
theorem Dp.noDict {K : PySem.W.Frag} {H : Hp} : ∀ {v : V} {d : PyData}, Dp K H v d → d.hasDict = false
  | _, _, .non => rfl
  | _, _, .bl _ => rfl
  | _, _, .int _ => rfl
  | _, _, .str _ => rfl
  | _, _, .lst _ r => by unfold PyData.hasDict; exact DpAll.noDict r
  | _, _, .tup _ r => by unfold PyData.hasDict; exact DpAll.noDict r
theorem DpAll.noDict {K : PySem.W.Frag} {H : Hp} : ∀ {vs : List V} {ds : List PyData}, DpAll K H vs ds → PyData.hasDictAll ds = false
  | _, _, .nil => rfl
  | _, _, .cons h r => by unfold PyData.hasDictAll; rw [Dp.noDict h, DpAll.noDict r]; rfl
end
theorem cd_repr {X : Cx} (hG : X.A.guards = some []) (hu : X.A.units + 64 < cLine) : CallR X (.builtin "repr") (rDC X.K reprD) := by
  rintro pins s σ H vs us Q I rv ⟨ρ, st, ds, d, rs, r, e, q⟩
  unfold reprD at e
  split at e
  · next x =>
    obtain ⟨v, rfl, h⟩ := one_of r
    obtain ⟨p, e1, e⟩ := bindS e
    split at e
    · next hp =>
      cases e
      obtain ⟨h1, h2, h3⟩ := hp
      have D := dp_top rs h e1
      have hsz : p.shown.length ≤ sizeLine := Nat.le_trans h3 (by decide)
      have fin : ∀ {s' : Shared} (u : Tok) (J : Inv X pins σ H s'), EP X pins σ Q (.str p.shown u) s' := fun u J => ⟨.str p.shown, H, J, ⟨u, rfl⟩, q ρ _ H (Ext.refl ρ H) rs (.str _)⟩
      obtain ⟨u, rfl, ru⟩ := vals1 rv
      obtain ⟨as, rd⟩ := Dp.reads I p v u D ru
      have hnd := Dp.noDict D
      cases D with
      | non =>
        cases ru
        exact PySem.P.repr_of_none (fin _ (I.tok _))
      | bl b =>
        cases ru
        exact PySem.P.repr_of_bool (by have f := fin s.toks (I.tok (s.toks + 1)); cases b <;> exact f)
      | int i =>
        obtain ⟨t, rfl⟩ := ru
        exact PySem.P.repr_of_int (of_decide_eq_true h1) (fin _ (I.tok _))
      | str z =>
        obtain ⟨t, rfl⟩ := ru
        exact PySem.P.repr_of_str (fin _ (I.tok _)) hsz
      | lst l rr =>
        cases ru
        exact repr_of_reads' rd h1 (fun z => by rw [hnd] at z; cases z) hG (by omega) (fun _ _ z => z) (fun h' u tk hk => fin u (I.kept (t' := tk) hk)) hsz
      | tup l rr =>
        cases ru
        exact repr_of_reads' rd h1 (fun z => by rw [hnd] at z; cases z) hG (by omega) (fun _ _ z => z) (fun h' u tk hk => fin u (I.kept (t' := tk) hk)) hsz
    · cases e
  · cases e
end PU
set_option Elab.async false
set_option linter.all false
set_option maxRecDepth 100000
set_option maxHeartbeats 2000000
namespace PU
open PySem PySem.Spec PyProof.Rows L2

/-! ### dicts of the store, by numbers and texts -/
@[simp] def keyD : D → Option Key
  | .int i => some (.inl i)
  | .str x => some (.inr x)
  | _ => none
@[simp] def dKey : Key → D
  | .inl i => .int i
  | .inr x => .str x
def dGet (kvs : List (Key × D)) (k : Key) : Option D := (kvs.find? fun kv => decide (kv.1 = k)).map Prod.snd
def dPut (kvs : List (Key × D)) (k : Key) (d : D) : List (Key × D) := if kvs.any fun kv => decide (kv.1 = k) then kvs.map fun kv => if kv.1 = k then (kv.1, d) else kv else kvs ++ [(k, d)]
@[simp] def dctAt (st : Store) : D → Option (List (Key × D))
  | .loc n => match st[n]? with
    | some (.dct _ kvs) => some kvs
    | _ => none
  | _ => none
section
variable {K : PySem.W.Frag} {ρ ρ' : Ws} {H H' : Hp} {st : Store}
theorem rep_dKey (ρ : Ws) (H : Hp) (k : Key) : Rep K ρ H (dKey k) (kV k) := by
  cases k with
  | inl i => exact .int i
  | inr x => exact .str x
theorem rep_keyD {d : D} {v : V} {k : Key} (r : Rep K ρ H d v) (e : keyD d = some k) : v = kV k := by
  cases r <;> cases e <;> rfl
/-- entries alike -/
def RepKs (K : PySem.W.Frag) (ρ : Ws) (H : Hp) (kvs : List (Key × D)) (vs : List (Key × V)) : Prop := kvs.map Prod.fst = vs.map Prod.fst ∧ Reps K ρ H (kvs.map Prod.snd) (vs.map Prod.snd)
theorem repKs_nil : RepKs K ρ H [] [] := ⟨rfl, .nil⟩
theorem repKs_cons {k : Key} {d : D} {v : V} {kvs : List (Key × D)} {vs : List (Key × V)} (h : Rep K ρ H d v) (r : RepKs K ρ H kvs vs) : RepKs K ρ H ((k, d) :: kvs) ((k, v) :: vs) := ⟨by simp [r.1], .cons h r.2⟩
theorem repKs_ind {P : List (Key × D) → List (Key × V) → Prop} (h0 : P [] []) (h1 : ∀ k d v kvs vs, Rep K ρ H d v → RepKs K ρ H kvs vs → P kvs vs → P ((k, d) :: kvs) ((k, v) :: vs)) : ∀ {kvs : List (Key × D)} {vs : List (Key × V)}, RepKs K ρ H kvs vs → P kvs vs
  | [], [], _ => h0
  | [], _ :: _, r => by cases r.1
  | _ :: _, [], r => by cases r.1
  | (k, d) :: kvs, (k', v) :: vs, ⟨e, r⟩ => by
    simp only [List.map_cons, List.cons.injEq] at e r
    obtain ⟨rfl, e⟩ := e
    cases r with
    | cons h r => exact h1 _ _ _ _ _ h ⟨e, r⟩ (repKs_ind h0 h1 ⟨e, r⟩)
theorem repKs_get {kvs : List (Key × D)} {vs : List (Key × V)} {k : Key} (r : RepKs K ρ H kvs vs) : match dGet kvs k with
    | some d => ∃ v, valV vs k = some v ∧ Rep K ρ H d v
    | none => valV vs k = none := by
  refine repKs_ind (P := fun kvs vs => match dGet kvs k with
    | some d => ∃ v, valV vs k = some v ∧ Rep K ρ H d v
    | none => valV vs k = none) rfl (fun k' d v kvs vs h _ ih => ?_) r
  by_cases e : k' = k
  · have a : dGet ((k', d) :: kvs) k = some d := by simp [dGet, e]
    have b : valV ((k', v) :: vs) k = some v := by simp [valV, e]
    rw [a]
    exact ⟨v, b, h⟩
  · have a : dGet ((k', d) :: kvs) k = dGet kvs k := by simp [dGet, e]
    have b : valV ((k', v) :: vs) k = valV vs k := by simp [valV, e]
    rw [a, b]
    exact ih
theorem repKs_len {kvs : List (Key × D)} {vs : List (Key × V)} (r : RepKs K ρ H kvs vs) : kvs.length = vs.length := by
  have := congrArg List.length r.1
  simpa using this
theorem repKs_app {a b : List (Key × D)} {x y : List (Key × V)} (r : RepKs K ρ H a x) (s : RepKs K ρ H b y) : RepKs K ρ H (a ++ b) (x ++ y) := ⟨by simp [r.1, s.1], by simpa using r.2.append s.2⟩
theorem repKs_put {kvs : List (Key × D)} {vs : List (Key × V)} {k : Key} {d : D} {v : V} (r : RepKs K ρ H kvs vs) (h : Rep K ρ H d v) : RepKs K ρ H (dPut kvs k d) (putK vs k v) := by
  have ea : (kvs.any fun kv => decide (kv.1 = k)) = (vs.any fun kv => decide (kv.1 = k)) :=
    repKs_ind (P := fun kvs vs => (kvs.any fun kv => decide (kv.1 = k)) = (vs.any fun kv => decide (kv.1 = k))) rfl (fun k' d v kvs vs _ _ ih => by simp [ih]) r
  have em : RepKs K ρ H (kvs.map fun kv => if kv.1 = k then (kv.1, d) else kv) (vs.map fun kv => if kv.1 = k then (kv.1, v) else kv) :=
    repKs_ind (P := fun kvs vs => RepKs K ρ H (kvs.map fun kv => if kv.1 = k then (kv.1, d) else kv) (vs.map fun kv => if kv.1 = k then (kv.1, v) else kv)) repKs_nil (fun k' d' v' kvs vs h' _ ih => by
      by_cases e : k' = k
      · simp only [List.map_cons, e, if_true]; exact repKs_cons h ih
      · simp only [List.map_cons, e, if_false]; exact repKs_cons h' ih) r
  unfold dPut putK
  rw [ea]
  split
  · exact em
  · exact repKs_app r (repKs_cons h repKs_nil)
theorem repKs_mono (x : Ext ρ H ρ' H') {kvs : List (Key × D)} {vs : List (Key × V)} (r : RepKs K ρ H kvs vs) : RepKs K ρ' H' kvs vs := ⟨r.1, r.2.mono x⟩
/-- what stands at a dict's place -/
theorem dct_at (rs : RS K ρ st H) {d : D} {v : V} {kvs : List (Key × D)} (r : Rep K ρ H d v) (e : dctAt st d = some kvs) : ∃ n lk a vs, d = .loc n ∧ v = .ref a ∧ ρ.pl[n]? = some a ∧ st[n]? = some (.dct lk kvs) ∧ RepKs K ρ H kvs vs ∧ ((lk = false ∧ H a = some (.dK vs)) ∨ (lk = true ∧ ∃ o, H a = some (.frz o (.dK vs)))) := by
  cases r with
  | @loc a n h =>
    obtain ⟨o, ho, q⟩ := pd_get' rs.obs h
    have e : (match st[n]? with
      | some (.dct _ kvs) => some kvs
      | _ => none) = some kvs := e
    rw [ho] at e
    cases o with
    | lst ds => cases e
    | flst ds => cases e
    | dct lk kvs' =>
      cases e
      cases lk with
      | false => obtain ⟨vs, hv, hk, rr⟩ := q; exact ⟨n, false, a, vs, rfl, rfl, h, ho, ⟨hk, rr⟩, .inl ⟨rfl, hv⟩⟩
      | true => obtain ⟨vs, o, hv, hk, rr⟩ := q; exact ⟨n, true, a, vs, rfl, rfl, h, ho, ⟨hk, rr⟩, .inr ⟨rfl, o, hv⟩⟩
  | _ => cases e
theorem dct_rd (rs : RS K ρ st H) {d : D} {v : V} {kvs : List (Key × D)} (r : Rep K ρ H d v) (e : dctAt st d = some kvs) : ∃ a vs, v = .ref a ∧ Rd H a (.dK vs) ∧ RepKs K ρ H kvs vs := by
  obtain ⟨n, lk, a, vs, _, hv, _, _, rk, q⟩ := dct_at rs r e
  exact ⟨a, vs, hv, q.elim (fun q => .inl q.2) (fun q => .inr q.2), rk⟩
theorem ob_dct {kvs : List (Key × D)} {vs : List (Key × V)} {a : Addr} (h : H a = some (.dK vs)) (r : RepKs K ρ H kvs vs) : ObR K ρ H (.dct false kvs) a := ⟨vs, h, r.1, r.2⟩
theorem ob_dctF {kvs : List (Key × D)} {vs : List (Key × V)} {a : Addr} {o : Obj} (h : H a = some (.frz o (.dK vs))) (r : RepKs K ρ H kvs vs) : ObR K ρ H (.dct true kvs) a := ⟨vs, o, h, r.1, r.2⟩
end
section
variable {X : Cx} {e o i x : Expr} {pos apos cpos : Pos} {f g h : FE}
@[simp] def fDNew : FE := fun _ st => some (.loc st.length, st ++ [.dct false []])
theorem px_dnew : PE X (.Dict [] [] pos) (tP X.K fDNew) :=
  pe_of pe_dnewK fun σ H Q ⟨ρ, env, s, d, s', r, h, q⟩ => by
    cases h
    intro p hp
    refine q _ _ _ (ext_cell hp) (r.s.cellO hp (ob_dct upd_same repKs_nil)) (.loc ?_)
    show (ρ.pl ++ [p])[s.length]? = some p
    rw [r.s.len]; simp
@[simp] def fDGet (f g : FE) : FE := fun env st => (f env st).bind fun p => (g env p.2).bind fun q => (dctAt q.2 p.1).bind fun kvs => (keyD q.1).bind fun k => (dGet kvs k).map fun d => (d, q.2)
theorem px_dget (hu : X.A.units + 1 < cLine) (ho : PE X o (tP X.K f)) (hi : PE X i (tP X.K g)) (hs : NoSl i := by intro _ _; rfl) : PE X (.Subscript o i pos) (tP X.K (fDGet f g)) :=
  pe_of (pe_dget hu ho hi hs) fun σ H Q ⟨ρ, env, s, d, s', r, h, q⟩ => by
    obtain ⟨⟨x, s1⟩, e1, h⟩ := bindS h
    obtain ⟨⟨y, s2⟩, e2, h⟩ := bindS h
    obtain ⟨kvs, e3, h⟩ := bindS h
    obtain ⟨k, e4, h⟩ := bindS h
    obtain ⟨d', e5, e6⟩ := mapS h
    cases e6
    refine ⟨ρ, env, s, x, s1, r, e1, fun ρ1 v1 H1 x1 r1 rv1 => ⟨ρ1, env, s1, y, _, r.mono' x1 r1, e2, fun ρ2 v2 H2 x2 r2 rv2 => ?_⟩⟩
    obtain ⟨a, vs, rfl, hd, rk⟩ := dct_rd r2 (rv1.mono x2) e3
    have gk := repKs_get (k := k) rk
    rw [e5] at gk
    obtain ⟨v, hv, rv⟩ := gk
    exact ⟨a, v, rfl, .inl ⟨vs, k, hd, rep_keyD rv2 e4, hv.symm⟩, q ρ2 v H2 (x1.trans x2) r2 rv⟩
@[simp] def fDGet2 (f g h : FE) : FE := fun env st => (f env st).bind fun p => (dctAt p.2 p.1).bind fun _ => (g env p.2).bind fun q => (h env q.2).bind fun r => (dctAt r.2 p.1).bind fun kvs => (keyD q.1).map fun k => ((dGet kvs k).getD r.1, r.2)
theorem px_dget2 (hu : X.A.units + 1 < cLine) (ho : PE X o (tP X.K f)) (hi : PE X i (tP X.K g)) (hx : PE X x (tP X.K h)) (m : M2 X o "get" apos i x cpos := by exact ⟨rfl, rfl, rfl, rfl⟩) : PE X (.Call (.Attribute o "get" apos) [i, x] [] cpos) (tP X.K (fDGet2 f g h)) :=
  pe_of (pe_dget2 hu ho hi hx m) fun σ H Q ⟨ρ, env, s, d, s', r, h, q⟩ => by
    obtain ⟨⟨x, s1⟩, e1, h⟩ := bindS h
    obtain ⟨kvs0, e0, h⟩ := bindS h
    obtain ⟨⟨y, s2⟩, e2, h⟩ := bindS h
    obtain ⟨⟨z, s3⟩, e3, h⟩ := bindS h
    obtain ⟨kvs, e4, h⟩ := bindS h
    obtain ⟨k, e5, e6⟩ := mapS h
    cases e6
    refine ⟨ρ, env, s, x, s1, r, e1, fun ρ1 v1 H1 x1 r1 rv1 => ?_⟩
    obtain ⟨a, vs0, rfl, hd0, rk0⟩ := dct_rd r1 rv1 e0
    refine ⟨a, rfl, .inl ⟨vs0, hd0⟩, ρ1, env, s1, y, s2, r.mono' x1 r1, e2, fun ρ2 v2 H2 x2 r2 rv2 => ⟨ρ2, env, s2, z, _, r.mono' (x1.trans x2) r2, e3, fun ρ3 v3 H3 x3 r3 rv3 => ?_⟩⟩
    obtain ⟨a', vs, ea, hd, rk⟩ := dct_rd r3 (rv1.mono (x2.trans x3)) e4
    cases ea
    have gk := repKs_get (k := k) rk
    have xx := (x1.trans x2).trans x3
    refine ⟨valV vs k, .inl ⟨vs, k, hd, rep_keyD rv2 e5, rfl⟩, ?_⟩
    dsimp only at q
    cases eg : dGet kvs k with
    | some d' =>
      rw [eg] at gk q
      obtain ⟨v, hv, rv⟩ := gk
      rw [hv]
      exact q ρ3 v H3 xx r3 rv
    | none =>
      rw [eg] at gk q
      rw [gk]
      exact q ρ3 v3 H3 xx r3 rv3
/-- d[k] = e -/
@[simp] def fDPut (fe fo fi : FE) : FS := fun env st => (fe env st).bind fun p => (fo env p.2).bind fun q => (fi env q.2).bind fun r => match q.1 with
  | .loc n => match r.2[n]? with
    | some (.dct false kvs) => (keyD r.1).bind fun k => if kvs.length < 100000 then some (.nx env (r.2.set n (.dct false (dPut kvs k p.1)))) else none
    | _ => none
  | _ => none
theorem px_dput {spos : Pos} (hu : X.A.units + 1 < cLine) (he : PE X e (tP X.K f)) (ho : PE X o (tP X.K g)) (hi : PE X i (tP X.K h)) (hs : swapsWith e (some (.Subscript o i spos)) pos.line X.env = pure false := by rfl) : PS X (.Assign [.Subscript o i spos] e pos) (tS X.K (fDPut f g h)) :=
  ps_of (ps_dput hu ho hi he hs) fun D σ H ⟨ρ, env, s, o, r, hh, w⟩ => by
    obtain ⟨⟨x, s1⟩, e1, hh⟩ := bindS hh
    obtain ⟨⟨y, s2⟩, e2, hh⟩ := bindS hh
    obtain ⟨⟨z, s3⟩, e3, hh⟩ := bindS hh
    refine ⟨ρ, env, s, x, s1, r, e1, fun ρ1 v1 H1 x1 r1 rv1 => ⟨ρ1, env, s1, y, s2, r.mono' x1 r1, e2, fun ρ2 v2 H2 x2 r2 rv2 => ⟨ρ2, env, s2, z, s3, r.mono' (x1.trans x2) r2, e3, fun ρ3 v3 H3 x3 r3 rv3 => ?_⟩⟩⟩
    cases y with
    | loc n =>
      cases rv2 with
      | @loc a _ hn =>
        have hn3 := x3.get hn
        obtain ⟨o', ho', hob⟩ := pd_get' r3.obs hn3
        simp only [ho'] at hh
        match o', ho', hob, hh with
        | .dct false kvs, ho', ⟨vs, hv, hk, rr⟩, hh =>
          obtain ⟨k, e4, hh⟩ := bindS hh
          split at hh
          · next hl =>
            cases hh
            have rk : RepKs X.K ρ3 H3 kvs vs := ⟨hk, rr⟩
            refine ⟨a, _, rfl, .inl ⟨vs, k, hv, rep_keyD rv3 e4, Nat.lt_of_lt_of_le (by rw [← repKs_len rk]; exact hl) (by decide), rfl⟩, ?_⟩
            have xw := ext_wr (ρ := ρ3) (o := .dK (putK vs k v1)) hn3 (nofrz hv (by simp))
            have xx := ((x1.trans x2).trans x3).trans xw
            exact w ρ3 σ _ xx ⟨r3.wrO hn3 xw (ob_dct upd_same (repKs_put (repKs_mono xw rk) (rv1.mono ((x2.trans x3).trans xw)))), envMono xx r.e⟩
          · cases hh
        | .dct true kvs, _, _, hh => cases hh
        | .lst _, _, _, hh => cases hh
        | .flst _, _, _, hh => cases hh
    | _ => cases hh
/-- k in d -/
@[simp] def fDIn (f g : FE) : FE := fun env st => (f env st).bind fun p => (g env p.2).bind fun q => (keyD p.1).bind fun k => (dctAt q.2 q.1).map fun kvs => (.bl (dGet kvs k).isSome, q.2)
theorem pc_of {op : CmpOp} {a b : Expr} {t t' : TE} (h : PC X op a b t) (w : ∀ σ H Q, t' σ H Q → t σ H Q) : PC X op a b t' := ⟨fun pins s σ H Q I q => h.run pins s σ H Q I (w _ _ _ q)⟩
theorem pxc_din (hu : X.A.units + 1 < cLine) (hi : PE X i (tP X.K f)) (ho : PE X o (tP X.K g)) : PC X .In i o (tP X.K (fDIn f g)) :=
  pc_of (pc_din hu hi ho) fun σ H Q ⟨ρ, env, s, d, s', r, h, q⟩ => by
    obtain ⟨⟨y, s1⟩, e1, h⟩ := bindS h
    obtain ⟨⟨z, s2⟩, e2, h⟩ := bindS h
    obtain ⟨k, e3, h⟩ := bindS h
    obtain ⟨kvs, e4, e5⟩ := mapS h
    cases e5
    refine ⟨ρ, env, s, y, s1, r, e1, fun ρ1 v1 H1 x1 r1 rv1 => ⟨ρ1, env, s1, z, _, r.mono' x1 r1, e2, fun ρ2 v2 H2 x2 r2 rv2 => ?_⟩⟩
    obtain ⟨a, vs, rfl, hd, rk⟩ := dct_rd r2 rv2 e4
    refine ⟨a, valV vs k, rfl, .inl ⟨vs, k, hd, rep_keyD rv1 e3, rfl⟩, ?_⟩
    have gk := repKs_get (k := k) rk
    have es : (valV vs k).isSome = (dGet kvs k).isSome := by
      cases eg : dGet kvs k with
      | some d' => rw [eg] at gk; obtain ⟨v, hv, _⟩ := gk; rw [hv]; rfl
      | none => rw [eg] at gk; rw [gk]; rfl
    rw [es]
    exact q ρ2 _ H2 (x1.trans x2) r2 (.bl _)
end
end PU
set_option Elab.async false
set_option linter.all false
set_option maxRecDepth 100000
set_option maxHeartbeats 2000000
namespace PU
open PySem PySem.Spec PyProof.Rows L2

/-! ### texts in order -/
def ltS (a b : Str) : Bool := ltCps a.cps.toList b.cps.toList
theorem ltS_iff {a b : Str} : ltS a b = true ↔ a.cps.toList < b.cps.toList := by unfold ltS; rw [ltCps_eq]; exact decide_eq_true_iff
theorem ltS_no {a b : Str} : ltS a b = false ↔ b.cps.toList ≤ a.cps.toList := by
  unfold ltS
  rw [ltCps_eq, decide_eq_false_iff_not]
  exact List.not_lt
theorem str_ext {a b : Str} (h : a.cps.toList = b.cps.toList) : a = b := by
  cases a; cases b
  exact congrArg _ (Array.toList_inj.mp h)
@[simp] def insS (p : Str) : List Str → List Str
  | [] => [p]
  | q :: r => if ltS q p = true then q :: insS p r else p :: q :: r
@[simp] def sortS : List Str → List Str
  | [] => []
  | p :: r => insS p (sortS r)
theorem insS_perm (p : Str) : ∀ l, (insS p l).Perm (p :: l)
  | [] => List.Perm.refl _
  | q :: r => by
    unfold insS
    split
    · exact ((insS_perm p r).cons q).trans (List.Perm.swap p q r)
    · exact List.Perm.refl _
theorem sortS_perm : ∀ l, (sortS l).Perm l
  | [] => List.Perm.refl _
  | p :: r => (insS_perm p (sortS r)).trans ((sortS_perm r).cons p)
abbrev SrS (l : List Str) : Prop := l.Pairwise fun a b => ltS b a = false
theorem insS_srt (p : Str) : ∀ l, SrS l → SrS (insS p l)
  | [], _ => by unfold insS; exact List.pairwise_singleton ..
  | q :: r, h => by
    unfold insS
    obtain ⟨h1, h2⟩ := List.pairwise_cons.mp h
    split
    · next hq =>
      refine List.pairwise_cons.mpr ⟨fun x hx => ?_, insS_srt p r h2⟩
      rcases List.mem_cons.mp ((insS_perm p r).mem_iff.mp hx) with rfl | hx
      · rw [ltS_iff] at hq
        rw [ltS_no]
        exact List.le_of_lt hq
      · exact h1 x hx
    · next hq =>
      have hq : ltS q p = false := by simpa using hq
      refine List.pairwise_cons.mpr ⟨fun x hx => ?_, h⟩
      rcases List.mem_cons.mp hx with rfl | hx
      · exact hq
      · have h3 := h1 x hx
        rw [ltS_no] at hq h3 ⊢
        exact List.le_trans hq h3
theorem sortS_srt : ∀ l, SrS (sortS l)
  | [] => List.Pairwise.nil
  | p :: r => insS_srt p _ (sortS_srt r)
theorem srS_uniq : ∀ {l m : List Str}, SrS l → SrS m → l.Perm m → l = m
  | [], m, _, _, h => (List.Perm.eq_nil h.symm).symm
  | x :: l, [], _, _, h => absurd h.length_eq (by simp)
  | x :: l, y :: m, hl, hm, h => by
    obtain ⟨l1, l2⟩ := List.pairwise_cons.mp hl
    obtain ⟨m1, m2⟩ := List.pairwise_cons.mp hm
    have e : x = y := by
      rcases List.mem_cons.mp (h.mem_iff.mp (List.mem_cons_self (a := x) (l := l))) with e | hx
      · exact e
      · rcases List.mem_cons.mp (h.mem_iff.mpr (List.mem_cons_self (a := y) (l := m))) with e | hy
        · exact e.symm
        · have a := m1 x hx
          have b := l1 y hy
          rw [ltS_no] at a b
          exact str_ext (List.le_antisymm b a)
    subst e
    rw [srS_uniq l2 m2 h.cons_inv]
theorem rising_srt : ∀ (l : List Str) (x : Str), risingS x l = true → SrS (x :: l)
  | [], x, _ => List.pairwise_singleton ..
  | y :: r, x, h => by
    unfold risingS at h
    rw [Bool.and_eq_true, Bool.not_eq_true'] at h
    have ih := rising_srt r y h.2
    refine List.pairwise_cons.mpr ⟨fun z hz => ?_, ih⟩
    have h1 : ltS y x = false := h.1
    rcases List.mem_cons.mp hz with rfl | hz
    · exact h1
    · have h2 := (List.pairwise_cons.mp ih).1 z hz
      rw [ltS_no] at h1 h2 ⊢
      exact List.le_trans h1 h2
theorem sorted_uniq {ks ys : List Str} (h : ys.Perm ks) (s : sortedS ys = true) : ys = sortS ks := by
  refine srS_uniq ?_ (sortS_srt ks) (h.trans (sortS_perm ks).symm)
  cases ys with
  | nil => exact List.Pairwise.nil
  | cons x r => exact rising_srt r x s

@[simp] def allStr : List Key → Option (List Str)
  | [] => some []
  | .inr x :: r => (allStr r).map fun xs => x :: xs
  | .inl _ :: _ => none
theorem allStr_eq : ∀ {ks : List Key} {xs : List Str}, allStr ks = some xs → ks = xs.map Sum.inr
  | [], _, e => by cases e; rfl
  | .inr x :: r, _, e => by
    obtain ⟨ys, e1, e2⟩ := mapS e
    cases e2
    rw [allStr_eq e1]
    rfl
  | .inl _ :: _, _, e => by cases e
theorem reps_strs {K : PySem.W.Frag} {ρ : Ws} {H : Hp} : ∀ xs : List Str, Reps K ρ H (xs.map D.str) (xs.map V.str)
  | [] => .nil
  | x :: xs => .cons (.str x) (reps_strs xs)
/-- sorted(d), d a dict by texts -/
@[simp] def sortedDD (st : Store) : List D → Option D
  | [d] => (dctAt st d).bind fun kvs => (allStr (kvs.map Prod.fst)).bind fun ks => if ks.length < 64 then some (.lst ((sortS ks).map D.str)) else none
  | _ => none
theorem one_of' {K : PySem.W.Frag} {ρ : Ws} {H : Hp} {x : D} {vs : List V} (r : Reps K ρ H [x] vs) : ∃ v, vs = [v] ∧ Rep K ρ H x v := by
  cases r with
  | cons h r => cases r; exact ⟨_, rfl, h⟩
section
variable {X : Cx}
theorem cd_sortedD (hc : X.calm = true) : CallR X (.builtin "sorted") (rDC X.K sortedDD) := by
  intro pins s σ H vs us Q I rv h
  obtain ⟨ρ, st, ds, d, rs, r, e, q⟩ := h
  refine call_sortedD hc pins s σ H vs us Q I rv ?_
  unfold sortedDD at e
  split at e
  · next x =>
    obtain ⟨v, rfl, hx⟩ := one_of' r
    obtain ⟨kvs, e1, e⟩ := bindS e
    obtain ⟨ks, e2, e⟩ := bindS e
    split at e
    · next hl =>
      cases e
      obtain ⟨a, ws, rfl, hd, rk⟩ := dct_rd rs hx e1
      refine ⟨a, ws, ks, rfl, hd, by rw [← rk.1]; exact allStr_eq e2, hl, fun ys p hp hs hn => ?_⟩
      rw [sorted_uniq hp hs]
      exact q ρ _ _ (ext_new hn) (rs.new hn) (.lst ⟨upd_same, rs.fresh hn⟩ ((reps_strs _)))
    · cases e
  · cases e
/-- tuple(a), a a list or a tuple; list(a) -/
@[simp] def tupleD (st : Store) : List D → Option D
  | [.tup ds] => some (.tup ds)
  | [d] => (itemsL st d).map .tup
  | _ => none
theorem call_tupP : CallR X (.type "tuple") (fun xs H Q => ∃ p ys, xs = [.ref p] ∧ ((SqL X.K H p ys ∧ ∀ (l : Addr) (o : Obj), H l = none → o.dict = none → Q (.ref l) (upd H l (.frz o (.tup ys)))) ∨ (SqT X.K H p ys ∧ Q (.ref p) H))) := by
  intro pins s σ H xs us Q I rv h
  obtain ⟨p, ys, rfl, h⟩ := h
  obtain ⟨u, rfl, rx⟩ := L2.vals1 rv
  obtain rfl : u = Value.ref p := rx
  rcases h with ⟨hq, q⟩ | ⟨hq, q⟩
  · obtain ⟨its, r', pl, hz⟩ := I.list hq
    refine call_tuple_list pl.isList (fun h' kp => ?_) ?_
    · have I1 := I.kept (t' := s.toks) kp
      have hf := HOk.fresh I1.hok (Nat.le_refl h'.objs.size)
      refine ⟨.ref h'.objs.size, upd H h'.objs.size (.frz { cls := .type "tuple", data := .seq its.toArray } (.tup ys)), ?_, rfl, q _ _ hf rfl⟩
      exact Inv.laid (s := { heap := h', gens := s.gens, drawn := s.drawn, toks := s.toks, os := s.os }) I1 (fun b o e => Heap.get?_push_of_some { cls := Value.type "tuple", data := Data.seq its.toArray } e) (Nat.le_refl _) ⟨Heap.get?_push_size h' rfl, hz, its, r', IsTup.new h' its.toArray⟩
    · rw [List.size_toArray, ← r'.length]
      exact hz
  · exact call_tuple_of pins s σ H _ _ Q I rv ⟨p, ys, rfl, .inr ⟨hq, q⟩⟩
@[simp] def listD (st : Store) : List D → Option D
  | [d] => match itemsL st d with
    | some ds => some (.lst ds)
    | none => (itemsT d).map .lst
  | _ => none
theorem cd_tuple : CallR X (.type "tuple") (rDC X.K tupleD) := by
  intro pins s σ H vs us Q I rv h
  obtain ⟨ρ, st, ds, d, rs, r, e, q⟩ := h
  refine call_tupP pins s σ H vs us Q I rv ?_
  unfold tupleD at e
  split at e
  · next es =>
    obtain ⟨v, rfl, hx⟩ := one_of' r
    cases e
    cases hx with
    | tup ht rr => exact ⟨_, _, rfl, .inr ⟨ht.sq, q ρ _ H (Ext.refl ρ H) rs (.tup ht rr)⟩⟩
  · next x _ =>
    obtain ⟨v, rfl, hx⟩ := one_of' r
    obtain ⟨es, e1, e2⟩ := mapS e
    cases e2
    obtain ⟨a, ws, rfl, hq, rr⟩ := repL rs hx e1
    exact ⟨a, ws, rfl, .inl ⟨hq, fun l o hn ho => q ρ _ _ (ext_new hn) (rs.new hn) (.tup (.inl ⟨⟨o, upd_same, ho⟩, rs.fresh hn⟩) (rr.mono (ext_new hn)))⟩⟩
  · cases e
theorem cd_list : CallR X (.type "list") (rDC X.K listD) := by
  intro pins s σ H vs us Q I rv h
  obtain ⟨ρ, st, ds, d, rs, r, e, q⟩ := h
  refine call_list_of pins s σ H vs us Q I rv ?_
  unfold listD at e
  split at e
  · next x =>
    obtain ⟨v, rfl, hx⟩ := one_of' r
    split at e
    · next es e1 =>
      cases e
      obtain ⟨a, ws, rfl, hq, rr⟩ := repL rs hx e1
      exact ⟨a, ws, rfl, .inl hq, fun l hn => q ρ _ _ (ext_new hn) (rs.new hn) (.lst ⟨upd_same, rs.fresh hn⟩ (rr.mono (ext_new hn)))⟩
    · obtain ⟨es, e1, e2⟩ := mapS e
      cases e2
      obtain ⟨a, ws, rfl, hq, rr⟩ := repT hx e1
      exact ⟨a, ws, rfl, .inr hq, fun l hn => q ρ _ _ (ext_new hn) (rs.new hn) (.lst ⟨upd_same, rs.fresh hn⟩ (rr.mono (ext_new hn)))⟩
  · cases e
end

/-! ### dict(ps), ps a list of pairs -/
@[simp] def pairKD : D → Option (Key × D)
  | .tup [k, d] => (keyD k).map fun k => (k, d)
  | _ => none
@[simp] def pairsKD : List D → Option (List (Key × D))
  | [] => some []
  | d :: ds => (pairKD d).bind fun p => (pairsKD ds).map fun ps => p :: ps
def mergeD (kvs more : List (Key × D)) : List (Key × D) := more.foldl (fun acc kv => dPut acc kv.1 kv.2) kvs
section
variable {K : PySem.W.Frag} {ρ : Ws} {H : Hp}
theorem repKs_merge {more : List (Key × D)} {mv : List (Key × V)} (r : RepKs K ρ H more mv) : ∀ {kvs : List (Key × D)} {vs : List (Key × V)}, RepKs K ρ H kvs vs → RepKs K ρ H (mergeD kvs more) (mergeK vs mv) := by
  refine repKs_ind (P := fun more mv => ∀ {kvs : List (Key × D)} {vs : List (Key × V)}, RepKs K ρ H kvs vs → RepKs K ρ H (mergeD kvs more) (mergeK vs mv)) (fun r => r) (fun k d v more mv h _ ih kvs vs r => ?_) r
  exact ih (repKs_put r h)
theorem pairs_at : ∀ {ds : List D} {ps : List (Key × D)} {vs : List V}, Reps K ρ H ds vs → pairsKD ds = some ps → ∃ (as : List Addr) (kvs : List (Key × V)), vs = as.map V.ref ∧ RepKs K ρ H ps kvs ∧ Paired (fun p kv => SqT K H p [kV kv.1, kv.2]) as kvs
  | [], _, _, r, e => by cases r; cases e; exact ⟨[], [], rfl, repKs_nil, .nil⟩
  | d :: ds, _, _, r, e => by
    obtain ⟨p, e1, e⟩ := bindS e
    obtain ⟨ps, e2, e3⟩ := mapS e
    cases e3
    cases r with
    | cons h r =>
      obtain ⟨as, kvs, rfl, rk, pr⟩ := pairs_at r e2
      unfold pairKD at e1
      split at e1
      · next k d' =>
        obtain ⟨k', e4, e5⟩ := mapS e1
        cases e5
        cases h with
        | @tup a _ ws ht rr =>
          cases rr with
          | cons h1 rr =>
            cases rr with
            | cons h2 rr =>
              cases rr
              have sq := ht.sq
              rw [rep_keyD h1 e4] at sq
              exact ⟨a :: as, (k', _) :: kvs, rfl, repKs_cons h2 rk, .cons sq pr⟩
      · cases e1
end
section
variable {X : Cx} {e : Expr} {p pos : Pos} {fa : FA}
@[simp] def fDictP (f : FA) : FE := fun env st => (f env st).bind fun p => match p.1 with
  | [d] => (itemsL p.2 d).bind fun ds => (pairsKD ds).map fun ps => (.loc p.2.length, p.2 ++ [.dct false (mergeD [] ps)])
  | _ => none
theorem px_dictP {es : List Expr} {x : Str} (hc : X.calm = true) (hg : Gl X x) (hm : X.mg x = none) (hv : bootBuiltins x = some (.type "dict")) (ha : PA X (e :: es) (tPA X.K fa)) (hn : x ≠ "__name__" := by decide) (hdb : (x == ("__debug__" : Str)) = false := by decide)
    (he : starEach (e :: es) X.env = (false, eval e X.env) :: starEach es X.env := by rfl) (hpl : (backTo pos (starEach es X.env)).any (·.1) = false := by rfl) : PE X (.Call (.Name x p) (e :: es) [] pos) (tP X.K (fDictP fa)) :=
  pe_of (pe_callTy (call_dictP hc) hg hm hv ha hn hdb he hpl) fun σ H Q ⟨ρ, env, st, d, st', r, hh, q⟩ => by
    obtain ⟨⟨xs, st1⟩, e1, hh⟩ := bindS hh
    refine ⟨ρ, env, st, xs, st1, r, e1, fun ρ1 vs H1 x1 s1 r1 => ?_⟩
    split at hh
    · next d' hd =>
      cases hd
      obtain ⟨ds, e2, hh⟩ := bindS hh
      obtain ⟨ps, e3, e4⟩ := mapS hh
      cases e4
      obtain ⟨v, rfl, hx⟩ := one_of' r1
      obtain ⟨a, ws, rfl, hq, rr⟩ := repL s1 hx e2
      obtain ⟨as, kvs, rfl, rk, pr⟩ := pairs_at rr e3
      refine ⟨a, as, kvs, rfl, hq, pr, fun l hn => ?_⟩
      refine q _ _ _ (x1.trans (ext_cell hn)) (s1.cellO hn (ob_dct upd_same (repKs_mono (ext_cell hn) (repKs_merge rk repKs_nil)))) (.loc ?_)
      show (ρ1.pl ++ [l])[st1.length]? = some l
      rw [s1.len]; simp
    · cases hh
end

/-! ### stars -/
@[simp] def itemsA (st : Store) (d : D) : Option (List D) := match itemsL st d with
  | some ds => some ds
  | none => itemsT d
@[simp] def fStar (f : FE) (g : FA) : FA := fun env st => (f env st).bind fun p => (itemsA p.2 p.1).bind fun ds => (g env p.2).map fun q => (ds ++ q.1, q.2)
section
variable {X : Cx} {e o i x : Expr} {es : List Expr} {p pos apos cpos : Pos} {f g h : FE} {fa : FA}
theorem px_star (he : PE X e (tP X.K f)) (ha : PA X es (tPA X.K fa)) (hs : starEach (.Starred e p :: es) X.env = (true, eval e X.env) :: starEach es X.env := by rfl) : PA X (.Starred e p :: es) (tPA X.K (fStar f fa)) :=
  pa_of (StX.pa_star he ha hs) fun σ H Q ⟨ρ, env, s, d, s', r, hh, q⟩ => by
    obtain ⟨⟨x, s1⟩, e1, hh⟩ := bindS hh
    obtain ⟨ds, e2, hh⟩ := bindS hh
    obtain ⟨⟨ys, s2⟩, e3, e4⟩ := mapS hh
    cases e4
    refine ⟨ρ, env, s, x, s1, r, e1, fun ρ1 v1 H1 x1 r1 rv1 => ?_⟩
    have fin : ∀ {a : Addr} {ws : List V}, (SqT X.K H1 a ws ∨ SqL X.K H1 a ws) → Reps X.K ρ1 H1 ds ws → ∃ p xs, V.ref a = V.ref p ∧ (SqT X.K H1 p xs ∨ SqL X.K H1 p xs) ∧ tPA X.K fa σ H1 (fun ys H2 => Q (xs ++ ys) H2) := fun {a ws} sq rr =>
      ⟨a, ws, rfl, sq, ρ1, env, s1, ys, _, r.mono' x1 r1, e3, fun ρ2 vs H2 x2 r2 rv2 => q ρ2 _ H2 (x1.trans x2) r2 ((rr.mono x2).append rv2)⟩
    have e2 : (match itemsL s1 x with
      | some ds => some ds
      | none => itemsT x) = some ds := e2
    split at e2
    · next es' e5 =>
      cases e2
      obtain ⟨a, ws, rfl, hq, rr⟩ := repL r1 rv1 e5
      exact fin (.inr hq) rr
    · obtain ⟨a, ws, rfl, hq, rr⟩ := repT rv1 e2
      exact fin (.inl hq) rr
end

/-! ### what a dict is gone through by: it is locked -/
theorem pe_frz {X : Cx} {e : Expr} {td : TE} (h : PE X e td) : PE X e (fun σ H Q => td σ H fun v H1 => ∃ d u, v = .ref d ∧ ((∃ o, H1 d = some (.frz o u) ∧ Q v H1) ∨ (H1 d = some u ∧ Mut (some u) ∧ ∀ o, Q v (upd H1 d (.frz o u))))) :=
  ⟨fun pins s σ H Q I q => wpAny_mono (h.run pins s σ H _ I q) (fun u s' ⟨v, H', J, rv, d, ob, hv, k⟩ => by
    rcases k with ⟨o, _, k⟩ | ⟨hd, hm, k⟩
    · exact ⟨v, H', J, rv, k⟩
    · obtain ⟨od, J'⟩ := J.lock hd hm
      exact ⟨v, _, J', rv, k od⟩) fun _ _ hs => hs⟩
@[simp] def fiItems (f : FE) : FI := fun env st => (f env st).bind fun p => match p.1 with
  | .loc n => match p.2[n]? with
    | some (.dct _ kvs) => some (kvs.map (fun kv => D.otp [dKey kv.1, kv.2]), p.2.set n (.dct true kvs))
    | _ => none
  | _ => none
@[simp] def fiKeys (f : FE) : FI := fun env st => (f env st).bind fun p => match p.1 with
  | .loc n => match p.2[n]? with
    | some (.dct _ kvs) => some (kvs.map (fun kv => dKey kv.1), p.2.set n (.dct true kvs))
    | _ => none
  | _ => none
section
variable {K : PySem.W.Frag} {ρ : Ws} {H : Hp} {st : Store}
theorem repKs_at {kvs : List (Key × D)} {vs : List (Key × V)} {i : Nat} {k : Key} {d : D} (r : RepKs K ρ H kvs vs) (e : kvs[i]? = some (k, d)) : ∃ v, vs[i]? = some (k, v) ∧ Rep K ρ H d v := by
  have h1 : (vs.map Prod.fst)[i]? = some k := by rw [← r.1, List.getElem?_map, e]; rfl
  have h2 : (kvs.map Prod.snd)[i]? = some d := by rw [List.getElem?_map, e]; rfl
  obtain ⟨v, hv, rv⟩ := r.2.get h2
  rw [List.getElem?_map] at h1 hv
  cases q : vs[i]? with
  | none => rw [q] at h1; cases h1
  | some p =>
    rw [q] at h1 hv
    cases p
    cases h1
    cases hv
    exact ⟨_, rfl, rv⟩
theorem lat_ks {ρ' : Ws} {H' : Hp} (l : Lat K ρ H ρ' H') {kvs : List (Key × D)} {vs : List (Key × V)} (r : RepKs K ρ H kvs vs) : RepKs K ρ' H' kvs vs := ⟨r.1, l.reps r.2⟩
theorem itItems {d : Addr} {o : Obj} {kvs : List (Key × D)} {vs : List (Key × V)} (h : H d = some (.frz o (.dK vs))) (r : RepKs K ρ H kvs vs) : ItOk K (Iti d o vs) (kvs.map fun kv => D.otp [dKey kv.1, kv.2]) ρ H where
  go := fun ρ' H' i l hi => ⟨l.frz _ _ _ h, by rw [List.length_map, repKs_len r] at hi; exact hi⟩
  yld := fun ρ' st' H' i x H'' dd l s hd y => by
    obtain ⟨T, k, v, hv, rfl, hn, rfl⟩ := y
    rw [List.getElem?_map] at hd
    cases hq : kvs[i]? with
    | none => rw [hq] at hd; cases hd
    | some p =>
      rw [hq] at hd
      cases hd
      obtain ⟨k', d'⟩ := p
      obtain ⟨v', hv', rv⟩ := repKs_at (lat_ks l r) hq
      rw [hv] at hv'
      cases hv'
      refine ⟨ext_new hn, s.new hn, .otp (.inl ⟨.inl upd_same, s.fresh hn⟩) (.cons (rep_dKey _ _ _) (.cons (rv.mono (ext_new hn)) .nil))⟩
  stop := fun ρ' H' i l hi => ⟨l.frz _ _ _ h, by rw [List.length_map, repKs_len r] at hi; exact hi⟩
theorem ext_lock {n : Nat} {a : Addr} {vs : List (Key × V)} {o : Obj} (ha : ρ.pl[n]? = some a) (h : H a = some (.dK vs)) : Ext ρ H ρ (upd H a (.frz o (.dK vs))) := ext_wr ha (nofrz h (by simp))
theorem set_same {xs : Store} {n : Nat} {x : Ob} (h : xs[n]? = some x) : xs.set n x = xs := by
  apply List.ext_getElem?
  intro j
  rw [List.getElem?_set]
  split
  · next e =>
    subst e
    split
    · exact h.symm
    · next hl => rw [List.getElem?_eq_none (by omega)]
  · rfl
/-- at a dict's place: it is locked, or is being locked -/
theorem lock_at (rs : RS K ρ st H) {d : D} {v : V} {kvs : List (Key × D)} (r : Rep K ρ H d v) (e : dctAt st d = some kvs) {Q : VK} (n : Nat) (hn : d = .loc n)
    (q : ∀ H1 a o vs, v = .ref a → Ext ρ H ρ H1 → RS K ρ (st.set n (.dct true kvs)) H1 → H1 a = some (.frz o (.dK vs)) → RepKs K ρ H1 kvs vs → Q v H1) :
    ∃ d' u, v = .ref d' ∧ ((∃ o, H d' = some (.frz o u) ∧ Q v H) ∨ (H d' = some u ∧ Mut (some u) ∧ ∀ o, Q v (upd H d' (.frz o u)))) := by
  obtain ⟨n', lk, a, vs, hd, rfl, ha, hs, rk, k⟩ := dct_at rs r e
  rw [hd] at hn
  cases hn
  refine ⟨a, .dK vs, rfl, ?_⟩
  rcases k with ⟨rfl, k⟩ | ⟨rfl, o, k⟩
  · refine .inr ⟨k, trivial, fun o => ?_⟩
    have x := ext_lock (o := o) ha k
    exact q _ a o vs rfl x (rs.wrO ha x (ob_dctF upd_same (repKs_mono x rk))) upd_same (repKs_mono x rk)
  · refine .inl ⟨o, k, q H a o vs rfl (Ext.refl ρ H) ?_ k rk⟩
    rw [set_same hs]
    exact rs
end
section
variable {X : Cx} {tg e : Expr} {apos cpos tpos : Pos} {elts : List Expr} {kk : Nat} {f : FE}
theorem px_iItems (hl : PE X e (tP X.K f)) (hb : attributeBase e "items" X.env (eval e X.env) = eval e X.env := by rfl) (hline : (apos.endLine == cpos.line) = true := by rfl) :
    PI X (.Tuple elts kk tpos) (.Call (.Attribute e "items" apos) [] [] cpos) (tI X.K (fiItems f)) :=
  pi_of (pi_items (pe_frz hl) hb hline) fun σ H S ⟨ρ, env, s, items, s', r, h, q⟩ => by
  obtain ⟨⟨d, s1⟩, e1, h⟩ := bindS h
  refine ⟨ρ, env, s, d, s1, r, e1, fun ρ1 v1 H1 x1 r1 rv => ?_⟩
  split at h
  · next n hn =>
    have hn : d = .loc n := hn
    subst hn
    split at h
    · next lk kvs hk =>
      cases h
      have hk : s1[n]? = some (.dct lk kvs) := hk
      refine lock_at r1 rv (kvs := kvs) (by simp [hk]) (Q := fun x H1 => ∃ d o kvs, x = V.ref d ∧ H1 d = some (HO.frz o (HO.dK kvs)) ∧ S (Iti d o kvs) H1) n rfl fun H2 a o vs hv x2 r2 ha rk => ?_
      exact ⟨a, o, vs, hv, ha, q ρ1 H2 _ (x1.trans x2) r2 (itItems ha rk)⟩
    · cases h
  · cases h
end
end PU
set_option Elab.async false
set_option linter.all false
set_option maxRecDepth 100000
set_option maxHeartbeats 2000000
namespace PU
open PySem PySem.Spec PyProof.Rows L2

theorem L2room1 {k : Nat} {A : Around} (hr : Room k A) : A.units + 1 < cLine := by have := hr.un; omega
theorem L2room64 {k : Nat} {A : Around} (hr : Room k A) : A.units + 64 < cLine := by have := hr.un; omega
/-! ### all, any of a list of truths -/
@[simp] def bools : List D → Option (List Bool)
  | [] => some []
  | .bl b :: r => (bools r).map fun bs => b :: bs
  | _ :: _ => none
@[simp] def allD (st : Store) : List D → Option D
  | [d] => (itemsL st d).bind fun ds => (bools ds).map fun bs => .bl (bs.all id)
  | _ => none
@[simp] def anyD (st : Store) : List D → Option D
  | [d] => (itemsL st d).bind fun ds => (bools ds).map fun bs => .bl (bs.any id)
  | _ => none
theorem bools_rep {K : PySem.W.Frag} {ρ : Ws} {H : Hp} : ∀ {ds : List D} {bs : List Bool} {vs : List V}, bools ds = some bs → Reps K ρ H ds vs → vs = bs.map V.bl
  | [], _, _, e, r => by cases e; cases r; rfl
  | d :: ds, _, _, e, r => by
    cases r with
    | cons h r =>
      cases d with
      | bl b =>
        obtain ⟨bs, e1, e2⟩ := mapS e
        cases e2
        cases h
        rw [bools_rep e1 r]
        rfl
      | _ => cases e
section
variable {X : Cx}
theorem cd_all (hc : X.calm = true) : CallR X (.builtin "all") (rDC X.K allD) := by
  intro pins s σ H vs us Q I rv h
  obtain ⟨ρ, st, ds, d, rs, r, e, q⟩ := h
  unfold allD at e
  split at e
  · obtain ⟨v, rfl, h⟩ := one_of' r
    obtain ⟨ds, e1, e⟩ := bindS e
    obtain ⟨is, e2, e3⟩ := mapS e
    cases e3
    obtain ⟨a, vs, rfl, hq, rr⟩ := repL rs h e1
    rw [bools_rep e2 rr] at hq
    exact cr_all hc pins s σ H _ us Q I rv ⟨a, is, rfl, hq, q ρ _ H (Ext.refl ρ H) rs (.bl _)⟩
  · cases e
theorem cd_any (hc : X.calm = true) : CallR X (.builtin "any") (rDC X.K anyD) := by
  intro pins s σ H vs us Q I rv h
  obtain ⟨ρ, st, ds, d, rs, r, e, q⟩ := h
  unfold anyD at e
  split at e
  · obtain ⟨v, rfl, h⟩ := one_of' r
    obtain ⟨ds, e1, e⟩ := bindS e
    obtain ⟨is, e2, e3⟩ := mapS e
    cases e3
    obtain ⟨a, vs, rfl, hq, rr⟩ := repL rs h e1
    rw [bools_rep e2 rr] at hq
    exact cr_any hc pins s σ H _ us Q I rv ⟨a, is, rfl, hq, q ρ _ H (Ext.refl ρ H) rs (.bl _)⟩
  · cases e
end
/-! ### x += e, of whole numbers; o.extend(e) -/
@[simp] def fAug (i : Nat) (F : Int → Int → Int) (f : FE) : FS := fun env st => (match env[i]? with
    | some (some (.int x)) => some x
    | _ => none).bind fun x => (f env st).bind fun p => match p.1 with
    | .int y => some (.nx (env.set i (some (.int (F x y)))) p.2)
    | _ => none
section
variable {X : Cx} {o e : Expr} {pos apos cpos pos' : Pos} {f g : FE}
theorem px_aug {i : Nat} {x : Str} {op : Operator} {F : Int → Int → Int} (hN : X.N.Nodup) (hi : X.N[i]? = some x) (hx : Loc X.env.scope x) (he : PE X e (tP X.K f)) (ho : PIp X op (ipI F)) (hf : X.fn x = true ∨ X.env.scope.names.lookup x = some .local := by first | exact .inl rfl | exact .inr rfl | assumption) :
    PS X (.AugAssign (.Name x pos') op e pos) (tS X.K (fAug i F f)) :=
  ps_of (ps_aug hN hi hx he ho hf) fun D σ H ⟨ρ, env, s, o, r, h, w⟩ => by
    obtain ⟨k, e0, h⟩ := bindS h
    obtain ⟨⟨d, s'⟩, e1, h⟩ := bindS h
    split at e0
    · next x' hx' =>
      cases e0
      obtain ⟨y, hy, ry⟩ := pd_get r.e hx'
      cases y with
      | none => exact ry.elim
      | some v =>
        cases ry
        refine ⟨_, hy, ρ, env, s, d, s', r, e1, fun ρ1 v1 H1 x1 r1 rv => ?_⟩
        split at h
        · next y' hy' =>
          have hy' : d = .int y' := hy'
          subst hy'
          cases h
          cases rv
          exact ⟨_, _, rfl, rfl, w ρ1 _ H1 x1 ((r.mono' x1 r1).set (.int _) i)⟩
        · cases h
    · cases e0
@[simp] def fExt (f g : FE) : FE := fun env st => (f env st).bind fun p => (itemsP p.2 p.1).bind fun _ => (g env p.2).bind fun q => (itemsP q.2 q.1).bind fun es => match p.1 with
  | .loc n => match q.2[n]? with
    | some (.lst ds) => if ds.length + es.length ≤ 100000 then some (.non, q.2.set n (.lst (ds ++ es))) else none
    | _ => none
  | _ => none
theorem px_ext (ho : PE X o (tP X.K f)) (he : PE X e (tP X.K g))
    (hbase : attributeBase o "extend" X.env (eval o X.env) = eval o X.env := by rfl)
    (hfew : ((backTo cpos (starEach [e] X.env)).all (fun x => !x.1) && (backToKw cpos (keywordEach [] X.env)).all (fun x => x.1.isSome)
      && decide ([e].length + ([] : List Keyword).length + (if ([] : List Keyword).isEmpty then 0 else 1) < 30)) = true := by rfl)
    (hline : (apos.endLine == cpos.line) = true := by rfl) (hs : starEach [e] X.env = (false, eval e X.env) :: starEach [] X.env := by rfl) (hplain : (backTo cpos (starEach [] X.env)).any (·.1) = false := by rfl) :
    PE X (.Call (.Attribute o "extend" apos) [e] [] cpos) (tP X.K (fExt f g)) :=
  pe_of (pe_bm PySem.F.plainAttrs_list PySem.F.slot_list_extend PySem.F.type_list_extend mt_extend ho (pa_cons he pa_nil hs) hbase hfew hline hs hplain) fun σ H Q ⟨ρ, env, s, d, s', r, h, q⟩ => by
    obtain ⟨⟨x, s1⟩, e1, h⟩ := bindS h
    obtain ⟨ds0, e0, h⟩ := bindS h
    obtain ⟨⟨y, s2⟩, e2, h⟩ := bindS h
    obtain ⟨es, e3, h⟩ := bindS h
    refine ⟨ρ, env, s, x, s1, r, e1, fun ρ1 v1 H1 x1 r1 rv => ?_⟩
    obtain ⟨a, vs0, rfl, hp, _⟩ := repP r1 rv e0
    refine ⟨.inl ⟨rfl, _, .inl (.inl hp)⟩, ρ1, env, s1, y, s2, r.mono' x1 r1, e2, fun ρ2 v2 H2 x2 r2 rw2 => ?_⟩
    obtain ⟨b, us, rfl, hb, ru⟩ := repP r2 rw2 e3
    cases x with
    | loc n =>
      cases rv with
      | loc hn =>
        have hn2 := x2.get hn
        obtain ⟨o, ho, hob⟩ := pd_get' r2.obs hn2
        cases o with
        | lst ds =>
          simp only [ho] at h
          split at h
          · next hl =>
            cases h
            obtain ⟨vs, hv, rs⟩ := hob
            refine ⟨a, b, vs, us, rfl, rfl, hv, hb, sz5 (by rw [← rs.length, ← ru.length]; exact hl), ?_⟩
            exact q ρ2 _ _ ((x1.trans x2).trans (ext_wr hn2 (nofrz hv (by simp)))) (r2.wr hn2 hv (rs.append ru)) .non
          · cases h
        | flst es => simp only [ho] at h; cases h
        | dct lk kvs => simp only [ho] at h; cases h
    | _ => cases h
end
end PU
set_option Elab.async false
set_option linter.all false
set_option maxRecDepth 100000
set_option maxHeartbeats 2000000
namespace PU
open PySem PySem.Spec PyProof.Rows L2

/-! ### repr of small data: told, and alike for alike data -/
theorem int_len {i : Int} (h : i.natAbs < 10 ^ 100) : (PyData.int i).shown.length ≤ 101 := by
  show (Str.ofString (toString i)).length ≤ 101
  by_cases hi : 0 ≤ i
  · have := toString_length_le hi (k := 100) (by decide) (by omega)
    omega
  · rw [len_text_neg (by omega)]
    have := toString_length_le (v := 0 - i) (by omega) (k := 100) (by decide) (by omega)
    omega
theorem int_log {i : Int} (h : i.natAbs < 10 ^ 100) : i.natAbs.log2 < 333 := by
  by_cases z : i.natAbs = 0
  · rw [z]; decide
  · rw [Nat.log2_lt z]
    exact Nat.lt_of_lt_of_le h (by decide)
mutual
@[simp] def okD : D → Bool
  | .non => true
  | .bl _ => true
  | .int i => decide (i.natAbs < 10 ^ 100)
  | .str x => decide (x.cps.size ≤ 100) && x.cps.toList.all fun c => decide (c < 16 ^ 8)
  | .tup ds => okDs ds
  | .otp ds => okDs ds
  | .lst ds => okDs ds
  | .frz ds => okDs ds
  | _ => false
@[simp] def okDs : List D → Bool
  | [] => true
  | d :: ds => okD d && okDs ds
end
mutual
@[simp] def cntN : D → Nat
  | .tup ds => cntNs ds + 1
  | .otp ds => cntNs ds + 1
  | .lst ds => cntNs ds + 1
  | .frz ds => cntNs ds + 1
  | _ => 1
@[simp] def cntNs : List D → Nat
  | [] => 0
  | d :: ds => cntN d + cntNs ds
end
mutual
@[simp] def depN : D → Nat
  | .tup ds => depNs ds + 1
  | .otp ds => depNs ds + 1
  | .lst ds => depNs ds + 1
  | .frz ds => depNs ds + 1
  | _ => 0
@[simp] def depNs : List D → Nat
  | [] => 0
  | d :: ds => max (depN d) (depNs ds)
end
mutual
theorem ok_pd : ∀ d : D, okD d = true → ∃ p, toPD d = some p ∧ p.showable = true ∧ p.depth = depN d ∧ PyData.leavesShort 101 p = true ∧ p.weight + 1 ≤ 335 * cntN d
  | .non, _ => ⟨_, rfl, rfl, rfl, rfl, by simp [PyData.weight, cntN]⟩
  | .bl _, _ => ⟨_, rfl, rfl, rfl, rfl, by simp [PyData.weight, cntN]⟩
  | .int i, h => by
    have h : i.natAbs < 10 ^ 100 := of_decide_eq_true h
    have hl := int_log h
    refine ⟨_, rfl, ?_, rfl, ?_, ?_⟩
    · unfold PyData.showable; exact decide_eq_true (by omega)
    · unfold PyData.leavesShort; exact decide_eq_true (int_len h)
    · unfold PyData.weight cntN
      split <;> omega
  | .str x, h => by
    unfold okD at h
    rw [Bool.and_eq_true, decide_eq_true_iff] at h
    refine ⟨_, rfl, rfl, rfl, ?_, ?_⟩
    · unfold PyData.leavesShort; exact h.2
    · unfold PyData.weight cntN; omega
  | .tup ds, h => by
    obtain ⟨xs, e, h1, h2, h3, h4⟩ := ok_pds ds (by simpa using h)
    exact ⟨.tuple xs, by simp [e], by unfold PyData.showable; exact h1, by unfold PyData.depth depN; rw [h2], by unfold PyData.leavesShort; exact h3, by unfold PyData.weight cntN; omega⟩
  | .otp ds, h => by
    obtain ⟨xs, e, h1, h2, h3, h4⟩ := ok_pds ds (by simpa using h)
    exact ⟨.tuple xs, by simp [e], by unfold PyData.showable; exact h1, by unfold PyData.depth depN; rw [h2], by unfold PyData.leavesShort; exact h3, by unfold PyData.weight cntN; omega⟩
  | .lst ds, h => by
    obtain ⟨xs, e, h1, h2, h3, h4⟩ := ok_pds ds (by simpa using h)
    exact ⟨.list xs, by simp [e], by unfold PyData.showable; exact h1, by unfold PyData.depth depN; rw [h2], by unfold PyData.leavesShort; exact h3, by unfold PyData.weight cntN; omega⟩
  | .frz ds, h => by
    obtain ⟨xs, e, h1, h2, h3, h4⟩ := ok_pds ds (by simpa using h)
    exact ⟨.list xs, by simp [e], by unfold PyData.showable; exact h1, by unfold PyData.depth depN; rw [h2], by unfold PyData.leavesShort; exact h3, by unfold PyData.weight cntN; omega⟩
  | .loc _, h => by simp at h
  | .ty _, h => by simp at h
  | .glb _, h => by simp at h
theorem ok_pds : ∀ ds : List D, okDs ds = true → ∃ xs, toPDs ds = some xs ∧ PyData.showableAll xs = true ∧ PyData.depthAll xs = depNs ds ∧ PyData.leavesShortAll 101 xs = true ∧ PyData.weightAll xs ≤ 335 * cntNs ds
  | [], _ => ⟨[], rfl, rfl, rfl, rfl, by simp [PyData.weightAll]⟩
  | d :: ds, h => by
    rw [okDs, Bool.and_eq_true] at h
    obtain ⟨p, e, h1, h2, h3, h4⟩ := ok_pd d h.1
    obtain ⟨xs, e', g1, g2, g3, g4⟩ := ok_pds ds h.2
    refine ⟨p :: xs, by simp [e, e'], ?_, ?_, ?_, ?_⟩
    · unfold PyData.showableAll; rw [h1, g1]; rfl
    · unfold PyData.depthAll depNs; rw [h2, g2]
    · unfold PyData.leavesShortAll; rw [h3, g3]; rfl
    · unfold PyData.weightAll cntNs; omega
end
/-- what repr tells of it -/
def shwD (d : D) : Str := match toPD d with
  | some p => p.shown
  | none => ⟨#[]⟩
theorem repr_ev {st : Store} {d : D} (h : okD d = true) (hc : cntN d ≤ 400) (hd : depN d ≤ 50) : reprD st [d] = some (.str (shwD d)) := by
  obtain ⟨p, e, h1, h2, h3, h4⟩ := ok_pd d h
  have et : topPD st d = some p := by
    cases d with
    | loc n => simp at h
    | _ => exact e
  have hl := PyData.shown_le 101 (by decide) p h3
  have hp : p.showable = true ∧ p.depth ≤ 50 ∧ p.shown.length ≤ 16000000 := ⟨h1, by omega, by omega⟩
  unfold reprD
  dsimp only
  rw [et]
  dsimp only [Option.bind]
  rw [if_pos hp]
  unfold shwD
  rw [e]
end PU
set_option Elab.async false
set_option linter.all false
set_option maxRecDepth 100000
set_option maxHeartbeats 2000000
namespace PU
open PySem PySem.Spec PyProof.Rows L2

/-! ### dict(ps), ps a tuple of pairs -/
theorem pairs_list {h : Heap} : ∀ {prs : List (Key × Value)} {as : List Addr}, prs.length = as.length → (∀ (j : Nat) (q : Key × Value), prs[j]? = some q → ∃ b u, as[j]? = some b ∧ IsTup h b #[u, q.2] ∧ keyIs q.1 u = true) →
    ∃ ps : List (Value × Value), ps.length = prs.length ∧ ∀ (j : Nat) (k v : Value), ps[j]? = some (k, v) → ∃ b key, as[j]? = some b ∧ IsTup h b #[k, v] ∧ prs[j]? = some (key, v) ∧ keyIs key k = true
  | [], _, _, _ => ⟨[], rfl, fun j k v e => by simp at e⟩
  | q :: prs, [], hl, _ => by simp at hl
  | q :: prs, a :: as, hl, H => by
    obtain ⟨ps, h1, h2⟩ := pairs_list (prs := prs) (as := as) (by simpa using hl) fun j q' e => by simpa using H (j + 1) q' (by simpa using e)
    obtain ⟨b, u, e1, e2, e3⟩ := H 0 q rfl
    simp at e1
    subst e1
    refine ⟨(u, q.2) :: ps, by simp [h1], fun j k v e => ?_⟩
    cases j with
    | zero =>
      simp at e
      obtain ⟨rfl, rfl⟩ := e
      exact ⟨a, q.1, rfl, e2, rfl, e3⟩
    | succ j => simpa using h2 j k v (by simpa using e)
theorem plainAt {X : Cx} {pins : List (Addr × Obj)} {σ : L2.St} {H : Hp} {s : Shared} {ρ : Ws} (I : Inv X pins σ H s) {a : Addr} {vs : List V} (h : TupAt X.K ρ H a vs) : ∃ its : List Value, Vals vs its ∧ PySem.PlainSeq "tuple" s.heap a its.toArray ∧ vs.length ≤ sizeLine := by
  rcases h with ⟨⟨o, h, hd⟩, _⟩ | ⟨o, its, n, h1, h2, h3, h4, h5, h6⟩
  · have k := I.hok a _ h
    obtain ⟨ho, hz, its, rv, o', ho', hc, n, hdt⟩ := k
    rw [ho] at ho'
    cases ho'
    exact ⟨its, rv, ⟨o, n, ho, hc, hd, hdt⟩, hz⟩
  · refine ⟨its.toList, h6, ⟨o, n, I.kIn a o h1, h2, h3, by rw [h4]⟩, ?_⟩
    rw [h6.length]
    simpa using h5
theorem get_lt {h : Heap} {a : Addr} {o : Obj} (e : h.get? a = some o) : a < h.objs.size := by
  unfold Heap.get? at e
  cases q : h.objs[a]? with
  | none => rw [q] at e; cases e
  | some o' => exact (Array.getElem?_eq_some_iff.mp q).1
section
variable {X : Cx}
theorem call_dictT (hc : X.calm = true) {ρ : Ws} : CallR X (.type "dict") (fun xs H Q => ∃ (a : Addr) (as : List Addr) (kvs : List (Key × V)), xs = [.ref a] ∧ TupAt X.K ρ H a (as.map V.ref) ∧ Paired (fun p kv => SqT X.K H p [kV kv.1, kv.2]) as kvs ∧ ∀ p, H p = none → Q (.ref p) (upd H p (.dK (mergeK [] kvs)))) := by
  intro pins s σ H xs us Q I rv h
  obtain ⟨a, as, kvs, rfl, ht, pr, q⟩ := h
  obtain ⟨u, rfl, rx⟩ := L2.vals1 rv
  obtain rfl : u = Value.ref a := rx
  obtain ⟨its, r', pl, hz⟩ := plainAt I ht
  obtain ⟨prs, kv, hl, hp⟩ := pairs_of I pr
  obtain ⟨ps, h1, h2⟩ := pairs_list hl hp
  have hits : its = as.map Value.ref := by
    have aux : ∀ {as : List Addr} {its : List Value}, Vals (as.map V.ref) its → its = as.map Value.ref := fun {as} => by
      induction as with
      | nil => intro its r; cases r; rfl
      | cons b bs ih =>
        intro its r
        cases r with
        | cons e r => rw [ih r]; obtain rfl := (show _ = Value.ref b from e); rfl
    exact aux r'
  have hk : kvs.length = prs.length := kv.length
  have PA := PySem.PairArg.tuple (prog := X.prog) (w := X.w) a its.toArray (fun j => (as[j]?).getD 0) ps
  refine PySem.call_dict_pairs (knd := mixKind X.prog X.w) (kvs := prs) PA (I.ok.hd hc) ⟨pl, ?_, fun j k v e => ?_⟩ ⟨h1.symm, fun i key v e => ?_⟩ ?_ fun h' tk hd kp => ?_
  · rw [List.size_toArray, hits, List.length_map, h1, hl]
  · obtain ⟨b, key, e1, ⟨o, o1, o2, n, o3⟩, _, _⟩ := h2 j k v e
    refine ⟨?_, ?_⟩
    · rw [hits]
      simp [e1]
    · show PySem.PairAt s.heap ((as[j]?).getD 0) k v
      rw [e1]
      exact .inl ⟨o, o1, o2, n, o3⟩
  · obtain ⟨b, k', e1, _, e3, e4⟩ := h2 i key v e
    exact ⟨k', e3, e4⟩
  · rw [h1, hl]
    simpa using hz
  · have hs : (s.heap.objs.size == sysModules) = false := ?_
    have hm : KV (mergeK [] kvs) (merged [] prs) := KV.merge kv .nil
    have I2 := Inv.laid (t' := tk) I (fun b o e => kp b o (by simp) e) (Nat.le_refl _) (dk_new (H' := upd H s.heap.objs.size (.dK (mergeK [] kvs))) ?_ hs hm hd)
    exact ⟨.ref s.heap.objs.size, _, I2, rfl, q _ (HOk.fresh I.hok (Nat.le_refl _))⟩
    · have h3 := length_mergeK kvs []
      have hz' : as.length ≤ sizeLine := by simpa using hz
      have h5 : prs.length = as.length := hl
      have h6 : kvs.length = prs.length := hk
      have h7 : kvs.length ≤ sizeLine := by rw [h6, h5]; exact hz'
      exact Nat.le_trans h3 (by rw [List.length_nil, Nat.zero_add]; exact h7)
    · have h0 : s.heap.objs.size > mainGlobals := by
        obtain ⟨_, ⟨o, es, ep, e, _⟩, _, _⟩ := I.ok.mod
        have e1 := (I.ok.bs _ _ e).1
        have l1 : mainGlobals < X.s_0.heap.objs.size := get_lt e1
        obtain ⟨m, ⟨o2, es2, ep2, e2, _⟩, _⟩ := I.loc
        have l2 : X.env.locals < s.heap.objs.size := get_lt e2
        have l3 := I.ok.above
        exact Nat.lt_of_lt_of_le l1 (Nat.le_trans l3 (Nat.le_of_lt l2))
      exact beq_false_of_ne fun z => absurd (z ▸ h0) (by decide)
end
section
variable {X : Cx} {e : Expr} {p pos : Pos} {fa : FA}
@[simp] def fDictT (f : FA) : FE := fun env st => (f env st).bind fun p => match p.1 with
  | [.tup ds] => (pairsKD ds).map fun ps => (.loc p.2.length, p.2 ++ [.dct false (mergeD [] ps)])
  | _ => none
theorem px_dictT {es : List Expr} {x : Str} (hc : X.calm = true) (hg : Gl X x) (hm : X.mg x = none) (hv : bootBuiltins x = some (.type "dict")) (ha : PA X (e :: es) (tPA X.K fa)) (hn : x ≠ "__name__" := by decide) (hdb : (x == ("__debug__" : Str)) = false := by decide)
    (he : starEach (e :: es) X.env = (false, eval e X.env) :: starEach es X.env := by rfl) (hpl : (backTo pos (starEach es X.env)).any (·.1) = false := by rfl) : PE X (.Call (.Name x p) (e :: es) [] pos) (tP X.K (fDictT fa)) :=
  pe_of (pe_callTy (r := fun xs H Q => ∃ ρ : Ws, ∃ (a : Addr) (as : List Addr) (kvs : List (Key × V)), xs = [.ref a] ∧ TupAt X.K ρ H a (as.map V.ref) ∧ Paired (fun p kv => SqT X.K H p [kV kv.1, kv.2]) as kvs ∧ ∀ p, H p = none → Q (.ref p) (upd H p (.dK (mergeK [] kvs))))
      (fun pins s σ H xs us Q I rv ⟨ρ, h⟩ => call_dictT hc (ρ := ρ) pins s σ H xs us Q I rv h) hg hm hv ha hn hdb he hpl) fun σ H Q ⟨ρ, env, st, d, st', r, hh, q⟩ => by
    obtain ⟨⟨xs, st1⟩, e1, hh⟩ := bindS hh
    refine ⟨ρ, env, st, xs, st1, r, e1, fun ρ1 vs H1 x1 s1 r1 => ?_⟩
    split at hh
    · next ds hd =>
      cases hd
      obtain ⟨ps, e3, e4⟩ := mapS hh
      cases e4
      obtain ⟨v, rfl, hx⟩ := one_of' r1
      cases hx with
      | tup ht rr =>
        obtain ⟨as, kvs, rfl, rk, pr⟩ := pairs_at rr e3
        refine ⟨ρ1, _, as, kvs, rfl, ht, pr, fun l hn => ?_⟩
        refine q _ _ _ (x1.trans (ext_cell hn)) (s1.cellO hn (ob_dct upd_same (repKs_mono (ext_cell hn) (repKs_merge rk repKs_nil)))) (.loc ?_)
        show (ρ1.pl ++ [l])[st1.length]? = some l
        rw [s1.len]; simp
    · cases hh
end
end PU
set_option Elab.async false
set_option linter.all false
set_option maxRecDepth 100000
set_option maxHeartbeats 2000000
namespace PU
open PySem PySem.Spec PyProof.Rows L2

/-! ### {k: v, ..} -/
@[simp] def fPairs : List (FE × FE) → Env → Store → Option (List (Key × D) × Store)
  | [] => fun _ st => some ([], st)
  | fg :: r => fun env st => (fg.1 env st).bind fun p => (fg.2 env p.2).bind fun q => (keyD p.1).bind fun k => (fPairs r env q.2).map fun s => ((k, q.1) :: s.1, s.2)
@[simp] def fDisp (ps : List (FE × FE)) : FE := fun env st => (fPairs ps env (st ++ [.dct false []])).bind fun p => match p.2[st.length]? with
  | some (.dct false []) => if p.1.length ≤ 15 then some (.loc st.length, p.2.set st.length (.dct false (mergeD [] p.1))) else none
  | _ => none
structure PDs (X : Cx) (pos : Pos) (keys : List (Option Expr)) (values : List Expr) (ps : List (FE × FE)) : Prop where
  h : PPs X pos keys values (ps.map fun q => (tP X.K q.1, tP X.K q.2))
section
variable {X : Cx} {pos : Pos} {keys : List (Option Expr)} {values : List Expr} {ps : List (FE × FE)} {k v e : Expr} {es : List Expr} {f g : FE} {fa : FA}
theorem px_pd0 : PDs X pos [] [] [] := ⟨pps_nil⟩
theorem px_pd1 (hk : PE X k (tP X.K f)) (hv : PE X v (tP X.K g)) (hr : PDs X pos keys values ps) : PDs X pos (some k :: keys) (v :: values) ((f, g) :: ps) := ⟨pps_cons hk hv hr.h⟩
theorem pairs_run {K : PySem.W.Frag} : ∀ (ps : List (FE × FE)) (σ : L2.St) (H : Hp) (Q : List (V × V) → Hp → Prop), (∃ ρ env st kvs st', R K ρ env st σ H ∧ fPairs ps env st = some (kvs, st') ∧ ∀ ρ' (vs : List (Key × V)) H', Ext ρ H ρ' H' → RS K ρ' st' H' → RepKs K ρ' H' kvs vs → Q (vs.map fun kv => (kV kv.1, kv.2)) H') → tPairs (ps.map fun q => (tP K q.1, tP K q.2)) σ H Q
  | [], σ, H, Q, ⟨ρ, env, st, kvs, st', r, e, q⟩ => by
    cases e
    exact q ρ [] H (Ext.refl ρ H) r.s repKs_nil
  | (f, g) :: ps, σ, H, Q, ⟨ρ, env, st, kvs, st', r, e, q⟩ => by
    obtain ⟨⟨x, s1⟩, e1, e⟩ := bindS e
    obtain ⟨⟨y, s2⟩, e2, e⟩ := bindS e
    obtain ⟨k, e3, e⟩ := bindS e
    obtain ⟨⟨kvs', s3⟩, e4, e5⟩ := mapS e
    cases e5
    refine ⟨ρ, env, st, x, s1, r, e1, fun ρ1 v1 H1 x1 r1 rv1 => ⟨ρ1, env, s1, y, s2, r.mono' x1 r1, e2, fun ρ2 v2 H2 x2 r2 rv2 => pairs_run ps σ H2 _ ⟨ρ2, env, s2, kvs', s3, r.mono' (x1.trans x2) r2, e4, fun ρ3 vs H3 x3 r3 rk => ?_⟩⟩⟩
    have h := q ρ3 ((k, v2) :: vs) H3 ((x1.trans x2).trans x3) r3 (repKs_cons (rv2.mono x3) rk)
    rw [rep_keyD rv1 e3]
    exact h
theorem px_disp (h : PDs X pos keys values ps) (hall : keys.all (·.isSome) = true := by rfl) (hl : keys.length = values.length := by rfl) (h0 : keys ≠ [] := by intro z; cases z) (h15 : keys.length ≤ 15 := by decide) : PE X (.Dict keys values pos) (tP X.K (fDisp ps)) :=
  pe_of (pe_disp h.h hall hl h0 h15) fun σ H Q ⟨ρ, env, st, d, st', r, e, q⟩ p hp => by
    obtain ⟨⟨kvs, s1⟩, e1, e⟩ := bindS e
    split at e
    · next hs =>
      split at e
      · next hl =>
        cases e
        have x0 : Ext ρ H ⟨ρ.pl ++ [p], ρ.off⟩ (upd H p (.dK [])) := ext_cell hp
        have r0 : RS X.K ⟨ρ.pl ++ [p], ρ.off⟩ (st ++ [.dct false []]) (upd H p (.dK [])) := r.s.cellO hp (ob_dct upd_same repKs_nil)
        refine pairs_run ps σ _ _ ⟨_, env, _, kvs, s1, r.mono' x0 r0, e1, fun ρ1 vs H1 x1 r1 rk => ?_⟩
        have hn : (ρ.pl ++ [p])[st.length]? = some p := by rw [r.s.len]; simp
        have hn1 := x1.get hn
        obtain ⟨ob, ho, hob⟩ := pd_get' r1.obs hn1
        have hs : s1[st.length]? = some (.dct false []) := hs
        rw [hs] at ho
        cases ho
        obtain ⟨vs0, hv, hk, rr⟩ := hob
        have hv0 : vs0 = [] := by
          cases vs0 with
          | nil => rfl
          | cons a b => cases hk
        subst hv0
        have lv : vs.length ≤ 15 := by rw [← repKs_len rk]; exact hl
        refine ⟨hv, vs, rfl, lv, ?_⟩
        have xw := ext_wr (ρ := ρ1) (o := .dK (mergeK [] vs)) hn1 (nofrz hv (by simp))
        exact q ρ1 _ _ ((x0.trans x1).trans xw) (r1.wrO hn1 xw (ob_dct upd_same (repKs_merge (repKs_mono xw rk) repKs_nil))) (.loc hn1)
      · cases e
    · cases e

/-! ### dict(d) -/
@[simp] def fDictC (f : FA) : FE := fun env st => (f env st).bind fun p => match p.1 with
  | [d] => (dctAt p.2 d).map fun kvs => (.loc p.2.length, p.2 ++ [.dct false kvs])
  | _ => none
theorem px_dictC {x : Str} {p : Pos} (hg : Gl X x) (hm : X.mg x = none) (hv : bootBuiltins x = some (.type "dict")) (ha : PA X (e :: es) (tPA X.K fa)) (hn : x ≠ "__name__" := by decide) (hdb : (x == ("__debug__" : Str)) = false := by decide)
    (he : starEach (e :: es) X.env = (false, eval e X.env) :: starEach es X.env := by rfl) (hpl : (backTo pos (starEach es X.env)).any (·.1) = false := by rfl) : PE X (.Call (.Name x p) (e :: es) [] pos) (tP X.K (fDictC fa)) :=
  pe_of (pe_callTy call_dictD hg hm hv ha hn hdb he hpl) fun σ H Q ⟨ρ, env, st, d, st', r, hh, q⟩ => by
    obtain ⟨⟨xs, st1⟩, e1, hh⟩ := bindS hh
    refine ⟨ρ, env, st, xs, st1, r, e1, fun ρ1 vs H1 x1 s1 r1 => ?_⟩
    split at hh
    · next d' hd =>
      cases hd
      obtain ⟨kvs, e2, e4⟩ := mapS hh
      cases e4
      obtain ⟨v, rfl, hx⟩ := one_of' r1
      obtain ⟨a, ws, rfl, hq, rk⟩ := dct_rd s1 hx e2
      refine ⟨a, ws, rfl, hq, fun l hn => ?_⟩
      refine q _ _ _ (x1.trans (ext_cell hn)) (s1.cellO hn (ob_dct upd_same (repKs_mono (ext_cell hn) rk))) (.loc ?_)
      show (ρ1.pl ++ [l])[st1.length]? = some l
      rw [s1.len]; simp
    · cases hh
end

/-! ### for k in d -/
theorem itKeys {K : PySem.W.Frag} {ρ : Ws} {H : Hp} {d : Addr} {o : Obj} {kvs : List (Key × D)} {vs : List (Key × V)} (h : H d = some (.frz o (.dK vs))) (r : RepKs K ρ H kvs vs) : ItOk K (Itk d o vs) (kvs.map fun kv => dKey kv.1) ρ H where
  go := fun ρ' H' i l hi => ⟨l.frz _ _ _ h, by rw [List.length_map, repKs_len r] at hi; exact hi⟩
  yld := fun ρ' st' H' i x H'' dd l s hd y => by
    obtain ⟨rfl, k, v, hv, rfl⟩ := y
    rw [List.getElem?_map] at hd
    cases hq : kvs[i]? with
    | none => rw [hq] at hd; cases hd
    | some p =>
      rw [hq] at hd
      cases hd
      obtain ⟨k', d'⟩ := p
      obtain ⟨v', hv', rv⟩ := repKs_at (lat_ks l r) hq
      rw [hv] at hv'
      cases hv'
      exact ⟨Ext.refl _ _, s, rep_dKey _ _ _⟩
  stop := fun ρ' H' i l hi => ⟨l.frz _ _ _ h, by rw [List.length_map, repKs_len r] at hi; exact hi⟩
theorem px_iKeys {X : Cx} {tg e : Expr} {f : FE} (hl : PE X e (tP X.K f)) : PI X tg e (tI X.K (fiKeys f)) :=
  pi_of (pi_keys (pe_frz hl)) fun σ H S ⟨ρ, env, s, items, s', r, h, q⟩ => by
  obtain ⟨⟨d, s1⟩, e1, h⟩ := bindS h
  refine ⟨ρ, env, s, d, s1, r, e1, fun ρ1 v1 H1 x1 r1 rv => ?_⟩
  split at h
  · next n hn =>
    have hn : d = .loc n := hn
    subst hn
    split at h
    · next lk kvs hk =>
      cases h
      have hk : s1[n]? = some (.dct lk kvs) := hk
      refine lock_at r1 rv (kvs := kvs) (by simp [hk]) (Q := fun x H1 => ∃ d o, x = V.ref d ∧ ((∃ kvs, H1 d = some (HO.frz o (HO.dK kvs)) ∧ S (Itk d o kvs) H1) ∨ ∃ kvs, H1 d = some (HO.frz o (HO.dT kvs)) ∧ S (Itkt d o kvs) H1)) n rfl fun H2 a o vs hv x2 r2 ha rk => ?_
      exact ⟨a, o, hv, .inl ⟨vs, ha, q ρ1 H2 _ (x1.trans x2) r2 (itKeys ha rk)⟩⟩
    · cases h
  · cases h

/-! ### for x in a list, be it a cell: that is locked -/
theorem pe_frzO {X : Cx} {e : Expr} {td : TE} (h : PE X e td) : PE X e (fun σ H Q => td σ H fun v H1 => Q v H1 ∨ ∃ d u, v = .ref d ∧ H1 d = some u ∧ Mut (some u) ∧ ∀ o, Q v (upd H1 d (.frz o u))) :=
  ⟨fun pins s σ H Q I q => wpAny_mono (h.run pins s σ H _ I q) (fun u s' ⟨v, H', J, rv, k⟩ => by
    rcases k with k | ⟨d, ob, hv, hd, hm, k⟩
    · exact ⟨v, H', J, rv, k⟩
    · obtain ⟨od, J'⟩ := J.lock hd hm
      exact ⟨v, _, J', rv, k od⟩) fun _ _ hs => hs⟩
@[simp] def fiA (f : FE) : FI := fun env st => (f env st).bind fun p => match p.1 with
  | .loc n => match p.2[n]? with
    | some (.lst ds) => some (ds, p.2.set n (.flst ds))
    | some (.flst ds) => some (ds, p.2)
    | _ => none
  | d => (itemsF d).map fun ds => (ds, p.2)
theorem px_iA {X : Cx} {tg l : Expr} {f : FE} (hl : PE X l (tP X.K f)) : PI X tg l (tI X.K (fiA f)) := pi_of (pi_list (pe_frzO hl)) fun σ H S ⟨ρ, env, s, items, s', r, h, q⟩ => by
  obtain ⟨⟨d, s1⟩, e1, h⟩ := bindS h
  refine ⟨ρ, env, s, d, s1, r, e1, fun ρ1 v1 H1 x1 r1 rv => ?_⟩
  cases rv with
  | @lst a' ds' vs la rs =>
    obtain ⟨ds, e2, e3⟩ := mapS h
    cases e3
    cases e2
    refine .inl ⟨a', rfl, ⟨vs, la.sq⟩, q ρ1 H1 _ x1 r1 (itL (vs := vs) (fun ρ' H' l => .inl (.inl (l.keep _ _ la.2.1 la.1))) rs)⟩
  | @frz a' ds' vs la rs =>
    obtain ⟨ds, e2, e3⟩ := mapS h
    cases e3
    cases e2
    refine .inl ⟨a', rfl, ⟨vs, la.sq⟩, q ρ1 H1 _ x1 r1 (itL (vs := vs) (fun ρ' H' l => ?_) rs)⟩
    rcases la with la | la
    · exact .inl (rd_later l la.2.1 la.1)
    · exact .inr la
  | @loc a n hn =>
    obtain ⟨o, ho, hob⟩ := pd_get' r1.obs hn
    have h : (match s1[n]? with
      | some (.lst ds) => some (ds, s1.set n (.flst ds))
      | some (.flst ds) => some (ds, s1)
      | _ => none) = some (items, s') := h
    rw [ho] at h
    cases o with
    | lst ds =>
      cases h
      obtain ⟨vs, hv, rs⟩ := hob
      refine .inr ⟨a, _, rfl, hv, trivial, fun o => ?_⟩
      have xw := ext_wr (ρ := ρ1) (o := .frz o (.lst vs)) hn (nofrz hv (by simp))
      have rw1 := rs.mono xw
      exact ⟨a, rfl, ⟨vs, .inl (.inr ⟨o, upd_same⟩)⟩, q ρ1 _ _ (x1.trans xw) (r1.wrO hn xw ⟨vs, o, upd_same, rw1⟩) (itL (vs := vs) (fun ρ' H' l => .inl (.inr ⟨o, l.frz _ _ _ upd_same⟩)) rw1)⟩
    | flst ds =>
      cases h
      obtain ⟨vs, o, hv, rs⟩ := hob
      exact .inl ⟨a, rfl, ⟨vs, .inl (.inr ⟨o, hv⟩)⟩, q ρ1 _ _ x1 r1 (itL (vs := vs) (fun ρ' H' l => .inl (.inr ⟨o, l.frz _ _ _ hv⟩)) rs)⟩
    | dct lk kvs => cases h
  | _ => obtain ⟨ds, e2, e3⟩ := mapS h; cases e2

/-! ### repr of data with dicts and cells within -/
/-- something stands at the place of sys.modules -/
def SysB (base : Heap) : Prop := ∃ o, base.get? sysModules = some o
def kP : Key → PyData
  | .inl i => .int i
  | .inr x => .str x
def allM {α β : Type} (f : α → Option β) : List α → Option (List β)
  | [] => some []
  | a :: as => (f a).bind fun b => (allM f as).map fun bs => b :: bs
def toPX (st : Store) : Nat → D → Option PyData
  | 0, _ => none
  | n + 1, d => match d with
    | .non => some .none
    | .bl b => some (.bool b)
    | .int i => some (.int i)
    | .str x => some (.str x)
    | .tup ds => (allM (toPX st n) ds).map .tuple
    | .otp ds => (allM (toPX st n) ds).map .tuple
    | .lst ds => (allM (toPX st n) ds).map .list
    | .loc i => match st[i]? with
      | some (.lst ds) => (allM (toPX st n) ds).map .list
      | some (.flst ds) => (allM (toPX st n) ds).map .list
      | some (.dct _ kvs) => (allM (toPX st n) (kvs.map Prod.snd)).map fun xs => .dict ((kvs.map fun kv => kP kv.1).zip xs)
      | none => none
    | _ => none
section
variable {X : Cx} {pins : List (Addr × Obj)} {σ : L2.St} {H : Hp} {s : Shared} {ρ : Ws} {st : Store}
theorem no_sys (hsy : SysB X.base) (I : Inv X pins σ H s) {a : Addr} (h : H a ≠ none) : a ≠ sysModules := by
  rintro rfl
  obtain ⟨o, e⟩ := hsy
  exact h (I.bs _ o e).2
theorem reads_all {f : D → Option PyData} (hf : ∀ (d : D) (v : V) (u : Value) (p : PyData), Rep X.K ρ H d v → f d = some p → RelV v u → ∃ as, Reads s.heap u p as ∧ sysModules ∉ as) :
    ∀ (ds : List D) (vs : List V) (us : List Value) (ps : List PyData), Reps X.K ρ H ds vs → allM f ds = some ps → Vals vs us → ∃ as, ReadsAll s.heap us ps as ∧ sysModules ∉ as
  | [], _, _, _, r, e, rv => by
    cases r
    cases e
    cases rv
    exact ⟨[], .nil, by simp⟩
  | d :: ds, _, _, _, r, e, rv => by
    obtain ⟨p, e1, e⟩ := bindS e
    obtain ⟨ps, e2, e3⟩ := mapS e
    cases e3
    cases r with
    | cons h r =>
      cases rv with
      | cons r1 r2 =>
        obtain ⟨as, q1, n1⟩ := hf _ _ _ _ h e1 r1
        obtain ⟨bs, q2, n2⟩ := reads_all hf ds _ _ _ r e2 r2
        exact ⟨_, .cons q1 q2, fun hm => (List.mem_append.mp hm).elim n1 n2⟩
theorem reads_key (h : Heap) : ∀ (k : Key) (key : Value), (mixKind X.prog X.w).is k key = true → Reads h key (kP k) [] := by
  intro k key e
  rcases keyIs_shape (k := k) (v := key) e with ⟨i, t, rfl, rfl⟩ | ⟨x, t, rfl, rfl⟩
  · exact .int i t
  · exact .str x t
theorem pairs_read {f : D → Option PyData} (hf : ∀ (d : D) (v : V) (u : Value) (p : PyData), Rep X.K ρ H d v → f d = some p → RelV v u → ∃ as, Reads s.heap u p as ∧ sysModules ∉ as) :
    ∀ (kvs : List (Key × D)) (vs : List (Key × V)) (us : List (Key × Value)) (ps : List PyData), RepKs X.K ρ H kvs vs → allM f (kvs.map Prod.snd) = some ps → KV vs us → ∃ as, PyProof.V.PairsRead s.heap kP us ((kvs.map fun kv => kP kv.1).zip ps) as ∧ sysModules ∉ as
  | [], vs, us, ps, r, e, rv => by
    cases e
    have hv : vs = [] := by
      cases vs with
      | nil => rfl
      | cons a b => cases r.1
    subst hv
    cases rv
    exact ⟨[], .nil, by simp⟩
  | (k, d) :: kvs, vs, us, ps, r, e, rv => by
    obtain ⟨p, e1, e⟩ := bindS e
    obtain ⟨ps', e2, e3⟩ := mapS e
    cases e3
    cases vs with
    | nil => cases r.1
    | cons b vs =>
      obtain ⟨k', v⟩ := b
      obtain ⟨hk, rr⟩ := r
      simp only [List.map_cons, List.cons.injEq] at hk rr
      obtain ⟨rfl, hk⟩ := hk
      cases rr with
      | cons h rr =>
        cases rv with
        | @cons _ c _ us' rc rv =>
          obtain ⟨k2, u⟩ := c
          obtain ⟨rfl, ru⟩ := rc
          obtain ⟨as, q1, n1⟩ := hf _ _ _ _ h e1 ru
          obtain ⟨bs, q2, n2⟩ := pairs_read hf kvs vs us' ps' ⟨hk, rr⟩ e2 rv
          exact ⟨_, .cons q1 q2, fun hm => (List.mem_append.mp hm).elim n1 n2⟩
theorem reads_of (hsy : SysB X.base) (I : Inv X pins σ H s) (rs : RS X.K ρ st H) : ∀ (n : Nat) (d : D) (v : V) (u : Value) (p : PyData), Rep X.K ρ H d v → toPX st n d = some p → RelV v u → ∃ as, Reads s.heap u p as ∧ sysModules ∉ as
  | 0, _, _, _, _, _, e, _ => by cases e
  | n + 1, d, v, u, p, r, e, rv => by
    have ih := reads_of hsy I rs n
    have tups : ∀ {a : Addr} {ds : List D} {vs : List V} {p : PyData}, OtpAt X.K ρ H a vs → Reps X.K ρ H ds vs → (allM (toPX st n) ds).map PyData.tuple = some p → u = .ref a → ∃ as, Reads s.heap u p as ∧ sysModules ∉ as := by
      intro a ds vs p h r e eu
      subst eu
      obtain ⟨xs, e1, e2⟩ := mapS e
      cases e2
      obtain ⟨its, rv, ⟨o, ho, hc, n, hd⟩, _⟩ := I.tuple h.sq
      obtain ⟨as, hr, hn⟩ := reads_all ih ds _ its _ r e1 rv
      exact ⟨_, Reads.tuple ho hc hd hr, hn⟩
    have lsts : ∀ {a : Addr} {ds : List D} {vs : List V} {p : PyData}, Rd H a (.lst vs) → Reps X.K ρ H ds vs → (allM (toPX st n) ds).map PyData.list = some p → u = .ref a → ∃ as, Reads s.heap u p as ∧ sysModules ∉ as := by
      intro a ds vs p h r e eu
      subst eu
      obtain ⟨xs, e1, e2⟩ := mapS e
      cases e2
      obtain ⟨its, rv, ⟨o, n, ho, hc, _, hd⟩, _⟩ := I.list (a := a) (xs := vs) (.inl h)
      obtain ⟨as, hr, hn⟩ := reads_all ih ds _ its _ r e1 rv
      refine ⟨_, Reads.list ho hc hd hr, fun hm => ?_⟩
      rcases List.mem_cons.mp hm with q | q
      · exact no_sys hsy I (a := a) (by rcases h with h | ⟨_, h⟩ <;> (rw [h]; intro z; cases z)) q.symm
      · exact hn q
    cases r with
    | non => cases e; cases rv; exact ⟨[], .none, by simp⟩
    | bl b => cases e; cases rv; exact ⟨[], .bool b, by simp⟩
    | int i => cases e; obtain ⟨t, rfl⟩ := rv; exact ⟨[], .int i t, by simp⟩
    | str x => cases e; obtain ⟨t, rfl⟩ := rv; exact ⟨[], .str x t, by simp⟩
    | tup h r => exact tups h.o r e rv
    | otp h r => exact tups h r e rv
    | lst h r => exact lsts (.inl h.1) r e rv
    | frz h r => cases e
    | ty _ => cases e
    | glb _ => cases e
    | @loc a i h =>
      obtain ⟨o, ho, hob⟩ := pd_get' rs.obs h
      cases o with
      | lst ds =>
        obtain ⟨vs, hv, rr⟩ := hob
        refine lsts (.inl hv) rr ?_ rv
        unfold toPX at e
        dsimp only at e
        rw [ho] at e
        exact e
      | flst ds =>
        obtain ⟨vs, o, hv, rr⟩ := hob
        refine lsts (.inr ⟨o, hv⟩) rr ?_ rv
        unfold toPX at e
        dsimp only at e
        rw [ho] at e
        exact e
      | dct lk kvs =>
        obtain ⟨a', vs, ea, hd, rk⟩ := dct_rd rs (.loc h) (kvs := kvs) (by simp [ho])
        cases ea
        unfold toPX at e
        dsimp only at e
        rw [ho] at e
        obtain ⟨xs, e1, e2⟩ := mapS e
        cases e2
        have rv : u = .ref a := rv
        subst rv
        obtain ⟨_, lo, us, rel, dd⟩ := dk_rd I.hok hd
        obtain ⟨as, hr, hn⟩ := pairs_read ih kvs vs us xs rk e1 rel
        refine ⟨_, PyProof.V.reads_dictOf (reads_key (X := X) s.heap) dd hr, fun hm => ?_⟩
        rcases List.mem_cons.mp hm with q | q
        · rw [← q] at lo; exact absurd lo (by decide)
        · exact hn q
/-- repr of data, what stands in cells among them -/
def reprXD (st : Store) : List D → Option D
  | [.tup ds] => rep1 st (.tup ds)
  | [.otp ds] => rep1 st (.otp ds)
  | [.lst ds] => rep1 st (.lst ds)
  | [.loc i] => rep1 st (.loc i)
  | _ => none
where rep1 (st : Store) (d : D) : Option D := (toPX st 20 d).bind fun p => if p.showable = true ∧ p.depth ≤ 50 ∧ p.shown.length ≤ 16000000 then some (.str p.shown) else none
theorem cd_reprX (hG : X.A.guards = some []) (hu : X.A.units + 64 < cLine) (hsy : SysB X.base) : CallR X (.builtin "repr") (rDC X.K reprXD) := by
  rintro pins s σ H vs us Q I rv ⟨ρ, st, ds, d, rs, r, e, q⟩
  have go : ∀ {d0 : D} {v : V} {a : Addr}, ds = [d0] → vs = [v] → v = .ref a → reprXD.rep1 st d0 = some d → wpAny (model X.prog X.w) X.A (call (.builtin "repr") us) (EP X pins σ Q) X.xe s := by
    intro d0 v a hds hvs hva ee
    subst hds hvs hva
    obtain ⟨p, e1, ee⟩ := bindS ee
    split at ee
    · next hp =>
      cases ee
      obtain ⟨h1, h2, h3⟩ := hp
      have hsz : p.shown.length ≤ sizeLine := Nat.le_trans h3 (by decide)
      have fin : ∀ {s' : Shared} (u : Tok) (J : Inv X pins σ H s'), EP X pins σ Q (.str p.shown u) s' := fun u J => ⟨.str p.shown, H, J, ⟨u, rfl⟩, q ρ _ H (Ext.refl ρ H) rs (.str _)⟩
      obtain ⟨u, rfl, ru⟩ := vals1 rv
      obtain ⟨w, hw, rw0⟩ := one_of' r
      cases hw
      obtain ⟨as, rd, hn⟩ := reads_of hsy I rs 20 d0 _ u p rw0 e1 ru
      cases ru
      exact repr_of_reads' rd h1 (fun _ => hn) hG (by omega) (fun _ _ z => z) (fun h' u tk hk => fin u (I.kept (t' := tk) hk)) hsz
    · cases ee
  unfold reprXD at e
  split at e
  · obtain ⟨v, rfl, h⟩ := one_of' r
    cases h with
    | tup l rr => exact go rfl rfl rfl e
  · obtain ⟨v, rfl, h⟩ := one_of' r
    cases h with
    | otp l rr => exact go rfl rfl rfl e
  · obtain ⟨v, rfl, h⟩ := one_of' r
    cases h with
    | lst l rr => exact go rfl rfl rfl e
  · obtain ⟨v, rfl, h⟩ := one_of' r
    cases h with
    | loc l => exact go rfl rfl rfl e
  · cases e
/-- repr of any of these -/
def reprAD (st : Store) (ds : List D) : Option D := match reprD st ds with
  | some d => some d
  | none => reprXD st ds
theorem cd_reprA (hG : X.A.guards = some []) (hu : X.A.units + 64 < cLine) (hsy : SysB X.base) : CallR X (.builtin "repr") (rDC X.K reprAD) := by
  rintro pins s σ H vs us Q I rv ⟨ρ, st, ds, d, rs, r, e, q⟩
  unfold reprAD at e
  split at e
  · next d' hd => cases e; exact cd_repr hG hu pins s σ H vs us Q I rv ⟨ρ, st, ds, d, rs, r, hd, q⟩
  · exact cd_reprX hG hu hsy pins s σ H vs us Q I rv ⟨ρ, st, ds, d, rs, r, e, q⟩
end
/-! ### the law's own call where the place of sys.modules matters -/
theorem call_lawS {P : Program} {w : World} {K : PySem.W.Frag} {mg mb : Str → Option Value} {k m : Nat} {fa a : Addr} {fd : FuncData} {x : Str} {g : GF} {s : Shared} {vs : List Value} {ns : List Int}
    (KX : K.In s.heap) (hns : s.heap.Ns mainGlobals mg) (hb : s.heap.Ns builtinsNs mb) (hbb : ∀ x : Str, x ≠ "__name__" → mb x = bootBuiltins x) (hlim : s.heap.NoLimit) (hg : s.gens = #[])
    (ha : s.heap.get? a = some { cls := .type "list", data := .seq vs.toArray }) (hi : IntsAre vs ns) (hm : ns.length ≤ m) (hl : m ≤ sizeLine) (hr : Room k callerA)
    (hsm : ∃ mm, s.heap.Ns sysModules mm) (F : ∀ base : Heap, K.In base → base.Ns mainGlobals mg → SysB base → FnG P w K mg base k fa fd [x] (spD K 1 g)) (hbind : ∀ (s : Shared) (u : Value), BindsTo s fd ⟨[u], []⟩ [(x, u)]) (hT : LawTrue g m) :
    codeAny (model P w) callerA (.call (.ref fa) ⟨[.ref a], []⟩) (fun r s' => r = .ok (.ret (.bool true)) ∧ OldK s.heap s'.heap ∧ s'.os = s.os ∧ AllBare s'.gens) s := by
  obtain ⟨H, L⟩ := lone_of (P := P) (w := w) KX ha hi (Nat.le_trans hm hl)
  have toNs : ∀ {b : Addr} {m : Str → Option Value}, s.heap.Ns b m → (hidT s.heap H).Ns b m := fun {b m} n => by
    obtain ⟨o, es, ep, e, d, r⟩ := n
    exact ⟨o, es, ep, hidT_get e (L.noDict ha e d), d, r⟩
  have inK : K.In (hidT s.heap H) := fun b o e => hidT_get (KX b o e) (by
    by_cases q : H b = none
    · exact q
    · obtain ⟨hba, _⟩ := L.only b q
      rw [hba] at e q
      rw [L.noK q] at e
      cases e)
  obtain ⟨mc, l1, l2⟩ := hlim
  have e0 : Env0 P w K mg (hidT s.heap H) callerA [] s H := {
    frames := rfl
    mod := ⟨inK, toNs hns, ⟨mb, toNs hb, hbb⟩, ⟨mc, toNs l1, l2⟩⟩
    bs := fun b o e => of_hidT e
    bsz := Nat.le_of_eq (hidT_size _ _)
    funs := trivial
    frf := fun b z => absurd z (List.not_mem_nil (a := b))
    hok := L.ok
    bare := .of_eq hg }
  obtain ⟨st', ev⟩ := hT ns hm
  have hsp : spD K 1 g [.ref a] H (fun v _ => v = .bl true) E0 := by
    refine ⟨⟨[], []⟩, [.frz (ns.map D.int)], [], .bl true, st', ⟨List.nodup_nil, .nil, fun _ h => absurd h (by simp)⟩, .cons (.frz ?_ (reps_ints ns)) .nil, rfl, ev, fun ρ' v H' _ _ r => ?_⟩
    · rcases L.sq with q | q
      · exact .inl ⟨q, by simp [Free]⟩
      · exact .inr q
    · cases r
      rfl
  have run := (F _ inK (toNs hns) (let ⟨_, n⟩ := hsm; let ⟨o, _, _, e, _⟩ := toNs n; ⟨o, e⟩)).run callerA [] s H ⟨[.ref a], []⟩ [.ref a] [.ref a] _ _ hr rfl e0 (hbind s (.ref a)) (.cons rfl .nil) hsp
  refine codeAny_mono run ?_
  intro r s' q
  match r, q with
  | .error e, q => exact q.elim
  | .ok .next, q => exact q.elim
  | .ok .brk, q => exact q.elim
  | .ok .cont, q => exact q.elim
  | .ok (.ret u), q =>
    obtain ⟨v, H', os, bare, un, hok', rv, qv⟩ := q
    have qv : v = .bl true := qv
    subst qv
    obtain rfl : u = Value.bool true := rv
    refine ⟨rfl, OldK.of_keep fun b o e => ?_, os, bare⟩
    by_cases q : H b = none
    · exact un.keep b o e q (fun z => absurd z (List.not_mem_nil (a := b))) (List.not_mem_nil (a := b))
    · obtain ⟨_, ob, z⟩ := L.only b q
      have z2 := hok' b _ (un.frzs b ob _ z)
      have z1 := L.ok b _ z
      have z1 : s.heap.get? b = some ob ∧ _ := z1
      have z2 : s'.heap.get? b = some ob ∧ _ := z2
      rw [z1.1] at e
      cases e
      exact z2.1
theorem walk_S {l : PySem.W.OpenLaw} {n k : Nat} {q : Program} {loose : List Str} {XP : (Str → Option Value) → Heap → Prop} {YP : World → Heap → Prop} {d : DefRec} {K : Params → PySem.W.Frag} {x : Str} (g : GF)
    (hi : importsNone q = true) (hn : l.most = some n) (hn2 : n ≤ sizeLine) (hdf : d.params.defaults = []) (hr : Room k callerA) (hY : ∀ (w : World) (h : Heap), YP w h → (K w.params).In h)
    (F : ∀ (w : World) (mg : Str → Option Value) (fa : Addr) (h : Heap), (K w.params).In h → h.Ns mainGlobals mg → mg d.name = some (.ref fa) →
      ∃ fd : FuncData, (∀ (s : Shared) (u : Value), BindsTo s fd ⟨[u], []⟩ [(x, u)]) ∧ ∀ base : Heap, (K w.params).In base → base.Ns mainGlobals mg → SysB base → FnG l.prog w (K w.params) mg base k fa fd [x] (spD (K w.params) 1 g)) (hT : LawTrue g n) :
    PySem.W.WalkO q loose XP YP l.row.toRowW d [] (fun f vs => PySem.call f vs) := by
  refine Att.attach_call hn hdf ?_
  intro w s0 s1 mg mb fa o pm cd doc a vs ns G Y ho hd hcd hmg hobj hints hlen hg
  obtain ⟨fd, hb, hF⟩ := F w mg fa _ (hY w _ Y) G.T.g hmg
  exact call_lawS (hY w _ Y) G.T.g G.T.b G.T.builtins G.T.nolimit hg hobj hints hlen hn2 hr (let ⟨mm, n, _⟩ := (G.T.seer hi).mods; ⟨mm, n⟩) hF hb hT

end PU
set_option Elab.async false
set_option linter.all false
set_option maxRecDepth 100000
set_option maxHeartbeats 2000000
namespace PU
open PySem PySem.Spec PyProof.Rows L2

/-! ### how great data are that repr shows -/
structure Sh (d w : Nat) (p : PyData) : Prop where
  s : p.showable = true
  d : p.depth ≤ d
  l : PyData.leavesShort 101 p = true
  w : p.weight ≤ w
structure Shs (d w : Nat) (ps : List PyData) : Prop where
  s : PyData.showableAll ps = true
  d : PyData.depthAll ps ≤ d
  l : PyData.leavesShortAll 101 ps = true
  w : PyData.weightAll ps ≤ w
structure Shk (d w : Nat) (ps : List (PyData × PyData)) : Prop where
  s : PyData.showableKv ps = true
  d : PyData.depthKv ps ≤ d
  l : PyData.leavesShortKv 101 ps = true
  w : PyData.weightKv ps ≤ w
theorem shs_nil (d : Nat) : Shs d 0 [] := ⟨rfl, by simp [PyData.depthAll], rfl, by simp [PyData.weightAll]⟩
theorem shs_cons {d w v : Nat} {p : PyData} {ps : List PyData} (h : Sh d w p) (k : Shs d v ps) : Shs d (w + 1 + v) (p :: ps) := by
  refine ⟨?_, ?_, ?_, ?_⟩
  · unfold PyData.showableAll; rw [h.s, k.s]; rfl
  · unfold PyData.depthAll; have := h.d; have := k.d; omega
  · unfold PyData.leavesShortAll; rw [h.l, k.l]; rfl
  · unfold PyData.weightAll; have := h.w; have := k.w; omega
theorem shk_nil (d : Nat) : Shk d 0 [] := ⟨rfl, by simp [PyData.depthKv], rfl, by simp [PyData.weightKv]⟩
theorem shk_cons {d w v u : Nat} {a b : PyData} {ps : List (PyData × PyData)} (h : Sh d w a) (g : Sh d v b) (k : Shk d u ps) : Shk d (w + v + 2 + u) ((a, b) :: ps) := by
  refine ⟨?_, ?_, ?_, ?_⟩
  · unfold PyData.showableKv; rw [h.s, g.s, k.s]; rfl
  · unfold PyData.depthKv; have := h.d; have := g.d; have := k.d; omega
  · unfold PyData.leavesShortKv; rw [h.l, g.l, k.l]; rfl
  · unfold PyData.weightKv; have := h.w; have := g.w; have := k.w; omega
theorem sh_tup {d w : Nat} {ps : List PyData} (h : Shs d w ps) : Sh (d + 1) w (.tuple ps) :=
  ⟨by unfold PyData.showable; exact h.s, by unfold PyData.depth; have := h.d; omega, by unfold PyData.leavesShort; exact h.l, by unfold PyData.weight; exact h.w⟩
theorem sh_lst {d w : Nat} {ps : List PyData} (h : Shs d w ps) : Sh (d + 1) w (.list ps) :=
  ⟨by unfold PyData.showable; exact h.s, by unfold PyData.depth; have := h.d; omega, by unfold PyData.leavesShort; exact h.l, by unfold PyData.weight; exact h.w⟩
theorem sh_dct {d w : Nat} {ps : List (PyData × PyData)} (h : Shk d w ps) : Sh (d + 1) w (.dict ps) :=
  ⟨by unfold PyData.showable; exact h.s, by unfold PyData.depth; have := h.d; omega, by unfold PyData.leavesShort; exact h.l, by unfold PyData.weight; exact h.w⟩
theorem sh_int (d : Nat) {i : Int} (h : i.natAbs < 10 ^ 100) : Sh d 333 (.int i) := by
  have hl := int_log h
  refine ⟨?_, by simp [PyData.depth], ?_, ?_⟩
  · unfold PyData.showable; exact decide_eq_true (by omega)
  · unfold PyData.leavesShort; exact decide_eq_true (int_len h)
  · unfold PyData.weight; split <;> omega
theorem sh_str (d : Nat) {x : Str} (h : okD (.str x) = true) : Sh d 100 (.str x) := by
  unfold okD at h
  rw [Bool.and_eq_true, decide_eq_true_iff] at h
  exact ⟨rfl, by simp [PyData.depth], by unfold PyData.leavesShort; exact h.2, by unfold PyData.weight; exact h.1⟩
theorem sh_bl (d : Nat) (b : Bool) : Sh d 0 (.bool b) := ⟨rfl, by simp [PyData.depth], rfl, by simp [PyData.weight]⟩
theorem sh_non (d : Nat) : Sh d 0 .none := ⟨rfl, by simp [PyData.depth], rfl, by simp [PyData.weight]⟩
theorem Sh.le {d w d' w' : Nat} {p : PyData} (h : Sh d w p) (a : d ≤ d') (b : w ≤ w') : Sh d' w' p := ⟨h.s, Nat.le_trans h.d a, h.l, Nat.le_trans h.w b⟩
theorem Shs.le {d w d' w' : Nat} {p : List PyData} (h : Shs d w p) (a : d ≤ d') (b : w ≤ w') : Shs d' w' p := ⟨h.s, Nat.le_trans h.d a, h.l, Nat.le_trans h.w b⟩
theorem shs_map {α : Type} {d w : Nat} {f : α → PyData} : ∀ {xs : List α}, (∀ x ∈ xs, Sh d w (f x)) → Shs d (xs.length * (w + 1)) (xs.map f)
  | [], _ => by simpa using shs_nil d
  | x :: xs, h => by
    refine (shs_cons (h x (by simp)) (shs_map fun y hy => h y (by simp [hy]))).le (Nat.le_refl _) ?_
    simp only [List.length_cons, Nat.succ_mul]
    omega
theorem shk_map {α : Type} {d w v : Nat} {f g : α → PyData} : ∀ {xs : List α}, (∀ x ∈ xs, Sh d w (f x) ∧ Sh d v (g x)) → Shk d (xs.length * (w + v + 2)) (xs.map fun x => (f x, g x))
  | [], _ => by simpa using shk_nil d
  | x :: xs, h => by
    have h1 := h x (by simp)
    have k := shk_cons h1.1 h1.2 (shk_map (xs := xs) fun y hy => h y (by simp [hy]))
    refine ⟨k.s, k.d, k.l, Nat.le_trans k.w ?_⟩
    simp only [List.length_cons, Nat.succ_mul]
    omega
theorem repX_ev {st : Store} {d : D} {p : PyData} (h : toPX st 20 d = some p) (s : Sh 40 100000 p) : reprXD.rep1 st d = some (.str p.shown) := by
  have hl := PyData.shown_le 101 (by decide) p s.l
  have hd := s.d
  have hw := s.w
  unfold reprXD.rep1
  rw [h]
  dsimp only [Option.bind]
  rw [if_pos ⟨s.s, by omega, by omega⟩]
theorem allM_map {α β γ : Type} {f : α → Option β} {g : γ → α} {h : γ → β} : ∀ {xs : List γ}, (∀ x ∈ xs, f (g x) = some (h x)) → allM f (xs.map g) = some (xs.map h)
  | [], _ => rfl
  | x :: xs, e => by
    rw [List.map_cons]
    unfold allM
    rw [e x (by simp), allM_map fun y hy => e y (by simp [hy])]
    rfl
/-- what needs no cell, told with the cells too -/
theorem reprA_of {st : Store} {d r : D} (h : reprD st [d] = some r) : reprAD st [d] = some r := by
  unfold reprAD
  rw [h]
theorem reprA_x {st : Store} {ds : List D} {r : D} (n : toPDs ds = none) (h : reprXD.rep1 st (.lst ds) = some r) : reprAD st [.lst ds] = some r := by
  have e : reprD st [.lst ds] = none := by
    have : topPD st (.lst ds) = none := by
      show (toPDs ds).map PyData.list = none
      rw [n]
      rfl
    unfold reprD
    dsimp only
    rw [this]
    rfl
  unfold reprAD
  rw [e]
  exact h
end PU
set_option Elab.async false
set_option linter.all false
set_option maxRecDepth 100000
set_option maxHeartbeats 4000000
namespace PU
open PySem PySem.Spec PyProof.Rows L2

/-! ### rows of names with numbers -/
abbrev As := List (Str × Int)
def aGet (ps : As) (x : Str) : Option Int := (ps.find? fun p => decide (p.1 = x)).map Prod.snd
def aPut (ps : As) (x : Str) (n : Int) : As := if ps.any fun p => decide (p.1 = x) then ps.map fun p => if p.1 = x then (p.1, n) else p else ps ++ [(x, n)]
def aVal (ps : As) (x : Str) : Int := (aGet ps x).getD 0
def aKeys (ps : As) : List Str := ps.map Prod.fst
/-- all numbers by that name together -/
def co : As → Str → Int
  | [], _ => 0
  | p :: ps, x => (if p.1 = x then p.2 else 0) + co ps x
theorem co_append (a b : As) (x : Str) : co (a ++ b) x = co a x + co b x := by
  induction a with
  | nil => simp [co]
  | cons p a ih => simp only [List.cons_append, co, ih]; omega
theorem aGet_cons (p : Str × Int) (ps : As) (x : Str) : aGet (p :: ps) x = if p.1 = x then some p.2 else aGet ps x := by
  unfold aGet
  by_cases h : p.1 = x <;> simp [h]
theorem aGet_none {ps : As} {x : Str} : aGet ps x = none ↔ x ∉ aKeys ps := by
  induction ps with
  | nil => simp [aGet, aKeys]
  | cons p ps ih =>
    rw [aGet_cons]
    by_cases h : p.1 = x
    · simp [h, aKeys]
    · have h' : ¬x = p.1 := fun z => h z.symm
      have : aKeys (p :: ps) = p.1 :: aKeys ps := rfl
      simp [h, this, h', ih]
theorem aPut_any (ps : As) (x : Str) : (ps.any fun p => decide (p.1 = x)) = true ↔ x ∈ aKeys ps := by
  unfold aKeys
  simp [List.any_eq_true]
theorem aKeys_put (ps : As) (x : Str) (n : Int) : aKeys (aPut ps x n) = if x ∈ aKeys ps then aKeys ps else aKeys ps ++ [x] := by
  unfold aPut
  by_cases h : x ∈ aKeys ps
  · rw [if_pos ((aPut_any ps x).mpr h), if_pos h]
    unfold aKeys
    rw [List.map_map]
    apply List.map_congr_left
    intro p _
    by_cases e : p.1 = x <;> simp [e]
  · rw [if_neg (fun z => h ((aPut_any ps x).mp z)), if_neg h]
    simp [aKeys]
theorem aGet_app (a b : As) (x : Str) : aGet (a ++ b) x = (aGet a x).or (aGet b x) := by
  induction a with
  | nil => simp [aGet]
  | cons p a ih =>
    rw [List.cons_append, aGet_cons, aGet_cons, ih]
    by_cases h : p.1 = x <;> simp [h]
theorem aGet_map (ps : As) (x y : Str) (n : Int) : aGet (ps.map fun p => if p.1 = x then (p.1, n) else p) y = if y = x then (aGet ps x).map (fun _ => n) else aGet ps y := by
  induction ps with
  | nil => simp [aGet]
  | cons p ps ih =>
    rw [List.map_cons, aGet_cons, aGet_cons, aGet_cons, ih]
    by_cases hp : p.1 = x
    · by_cases hy : y = x
      · subst hy; simp [hp]
      · have h1 : ¬x = y := fun z => hy z.symm
        simp [hp, hy, h1]
    · by_cases hy : y = x
      · subst hy; simp [hp]
      · simp [hp, hy]
theorem aGet_put (ps : As) (x y : Str) (n : Int) : aGet (aPut ps x n) y = if y = x then some n else aGet ps y := by
  unfold aPut
  by_cases h : x ∈ aKeys ps
  · rw [if_pos ((aPut_any ps x).mpr h), aGet_map]
    by_cases hy : y = x
    · subst hy
      cases q : aGet ps y with
      | none => exact absurd h (aGet_none.mp q)
      | some m => simp
    · simp [hy]
  · rw [if_neg (fun z => h ((aPut_any ps x).mp z)), aGet_app]
    by_cases hy : y = x
    · subst hy
      rw [aGet_none.mpr h]
      simp [aGet]
    · have h1 : ¬x = y := fun z => hy z.symm
      simp [hy, aGet, h1]
theorem aVal_put (ps : As) (x y : Str) (n : Int) : aVal (aPut ps x n) y = if y = x then n else aVal ps y := by
  unfold aVal
  rw [aGet_put]
  split <;> rfl
theorem nodup_put {ps : As} (h : (aKeys ps).Nodup) (x : Str) (n : Int) : (aKeys (aPut ps x n)).Nodup := by
  rw [aKeys_put]
  split
  · exact h
  · next hx =>
    rw [List.nodup_append]
    exact ⟨h, by simp, fun a ha b hb => by rw [List.mem_singleton.mp hb]; rintro rfl; exact hx ha⟩
theorem len_put (ps : As) (x : Str) (n : Int) : (aPut ps x n).length ≤ ps.length + 1 := by
  unfold aPut
  split <;> simp
theorem aVal_nodup {ps : As} (h : (aKeys ps).Nodup) (x : Str) : aVal ps x = co ps x := by
  induction ps with
  | nil => rfl
  | cons p ps ih =>
    have h' : (p.1 :: aKeys ps).Nodup := h
    obtain ⟨h1, h2⟩ := List.nodup_cons.mp h'
    have i := ih h2
    unfold aVal at i ⊢
    rw [aGet_cons]
    by_cases e : p.1 = x
    · subst e
      rw [aGet_none.mpr h1] at i
      simp only [co, if_true]
      simp at i ⊢
      omega
    · simp only [co, e, if_false]
      omega
/-- each one's number put to what stands there -/
def aAdd (acc : As) (more : As) : As := more.foldl (fun acc p => aPut acc p.1 ((aGet acc p.1).getD 0 + p.2)) acc
theorem aAdd_val (more : As) : ∀ (acc : As) (x : Str), aVal (aAdd acc more) x = aVal acc x + co more x := by
  induction more with
  | nil => intro acc x; simp [aAdd, co]
  | cons p more ih =>
    intro acc x
    show aVal (aAdd (aPut acc p.1 ((aGet acc p.1).getD 0 + p.2)) more) x = _
    rw [ih, aVal_put]
    by_cases e : x = p.1
    · subst e
      simp only [co, if_true]
      unfold aVal
      omega
    · have e' : ¬p.1 = x := fun z => e z.symm
      simp only [co, e, e', if_false]
      omega
theorem aAdd_nodup (more : As) : ∀ {acc : As}, (aKeys acc).Nodup → (aKeys (aAdd acc more)).Nodup := by
  induction more with
  | nil => intro acc h; exact h
  | cons p more ih => intro acc h; exact ih (nodup_put h _ _)
theorem aAdd_len (more : As) : ∀ (acc : As), (aAdd acc more).length ≤ acc.length + more.length := by
  induction more with
  | nil => intro acc; simp [aAdd]
  | cons p more ih =>
    intro acc
    have h1 := ih (aPut acc p.1 ((aGet acc p.1).getD 0 + p.2))
    have h2 := len_put acc p.1 ((aGet acc p.1).getD 0 + p.2)
    show (aAdd (aPut acc p.1 ((aGet acc p.1).getD 0 + p.2)) more).length ≤ _
    simp only [List.length_cons]
    omega
theorem aAdd_keys (more : As) : ∀ (acc : As) (x : Str), x ∈ aKeys (aAdd acc more) ↔ x ∈ aKeys acc ∨ x ∈ aKeys more := by
  induction more with
  | nil => intro acc x; simp [aAdd, aKeys]
  | cons p more ih =>
    intro acc x
    show x ∈ aKeys (aAdd (aPut acc p.1 ((aGet acc p.1).getD 0 + p.2)) more) ↔ _
    rw [ih, aKeys_put]
    have : aKeys (p :: more) = p.1 :: aKeys more := rfl
    rw [this, List.mem_cons]
    split
    · next h =>
      constructor
      · rintro (h1 | h1)
        · exact .inl h1
        · exact .inr (.inr h1)
      · rintro (h1 | rfl | h1)
        · exact .inl h1
        · exact .inl h
        · exact .inr h1
    · rw [List.mem_append, List.mem_singleton]
      constructor
      · rintro ((h1 | h1) | h1)
        · exact .inl h1
        · exact .inr (.inl h1)
        · exact .inr (.inr h1)
      · rintro (h1 | h1 | h1)
        · exact .inl (.inl h1)
        · exact .inl (.inr h1)
        · exact .inr h1
/-! ### in order, without noughts -/
def canonF (ks : List Str) (f : Str → Int) : As := ((sortS ks).filter fun x => decide (f x ≠ 0)).map fun x => (x, f x)
theorem srS_filter {l : List Str} (p : Str → Bool) (h : SrS l) : SrS (l.filter p) := List.Pairwise.filter p h
theorem canonF_eq {ks js : List Str} {f g : Str → Int} (hk : ks.Nodup) (hj : js.Nodup) (e : ∀ x, f x = g x) (hf : ∀ x, f x ≠ 0 → x ∈ ks) (hg : ∀ x, g x ≠ 0 → x ∈ js) : canonF ks f = canonF js g := by
  have ef : f = g := funext e
  subst ef
  unfold canonF
  congr 1
  refine srS_uniq (srS_filter _ (sortS_srt ks)) (srS_filter _ (sortS_srt js)) ?_
  refine ((sortS_perm ks).filter _).trans (List.Perm.trans ?_ ((sortS_perm js).filter _).symm)
  refine (List.perm_ext_iff_of_nodup (hk.filter _) (hj.filter _)).mpr fun x => ?_
  simp only [List.mem_filter, decide_eq_true_iff]
  exact ⟨fun h => ⟨hg x h.2, h.2⟩, fun h => ⟨hf x h.2, h.2⟩⟩
theorem aKeys_canonF (ks : List Str) (f : Str → Int) : aKeys (canonF ks f) = (sortS ks).filter fun x => decide (f x ≠ 0) := by
  unfold aKeys canonF
  rw [List.map_map]
  exact List.map_id _
theorem canonF_nodup {ks : List Str} {f : Str → Int} (h : ks.Nodup) : (aKeys (canonF ks f)).Nodup := by
  rw [aKeys_canonF]
  exact (((sortS_perm ks).nodup_iff).mpr h).filter _
theorem canonF_len (ks : List Str) (f : Str → Int) : (canonF ks f).length ≤ ks.length := by
  unfold canonF
  rw [List.length_map]
  exact Nat.le_trans (List.length_filter_le _ _) (Nat.le_of_eq (sortS_perm ks).length_eq)
theorem canonF_co {ks : List Str} {f : Str → Int} (h : ks.Nodup) (hf : ∀ x, f x ≠ 0 → x ∈ ks) (x : Str) : co (canonF ks f) x = f x := by
  rw [← aVal_nodup (canonF_nodup h)]
  unfold aVal
  by_cases z : f x = 0
  · rw [aGet_none.mpr]
    · simp [z]
    · rw [aKeys_canonF]; simp [z]
  · have aux : ∀ l : List Str, x ∈ l → aGet (l.map fun x => (x, f x)) x = some (f x) := by
      intro l
      induction l with
      | nil => simp
      | cons y l ih =>
        intro hm
        rw [List.map_cons, aGet_cons]
        by_cases e : y = x
        · simp [e]
        · rcases List.mem_cons.mp hm with h1 | h1
          · exact absurd h1.symm e
          · simp [e, ih h1]
    unfold canonF
    rw [aux]
    · rfl
    · rw [List.mem_filter]
      exact ⟨(sortS_perm ks).mem_iff.mpr (hf x z), by simpa using z⟩
theorem aVal_ne {ps : As} {x : Str} (h : aVal ps x ≠ 0) : x ∈ aKeys ps := by
  refine Classical.byContradiction fun z => h ?_
  unfold aVal
  rw [aGet_none.mpr z]
  rfl
theorem co_ne {ps : As} {x : Str} (h : co ps x ≠ 0) : x ∈ aKeys ps := by
  induction ps with
  | nil => exact absurd rfl h
  | cons p ps ih =>
    have : aKeys (p :: ps) = p.1 :: aKeys ps := rfl
    rw [this, List.mem_cons]
    by_cases e : p.1 = x
    · exact .inl e.symm
    · refine .inr (ih fun z => h ?_)
      simp [co, e, z]
end PU
set_option Elab.async false
set_option linter.all false
set_option maxRecDepth 100000
set_option maxHeartbeats 4000000
namespace K08
open PySem PySem.Spec PyProof.Rows L2 PU
def top (i : Nat) : Stmt := PySem.Challenge.pw_everycell_k08_names_put_in_and_worths.main.body.getD i (.Pass ⟨0, 0, 0, 0⟩)
abbrev s_law_pool : Stmt := top 7
theorem sc_law_pool : FnScope ["_law_script", "_law_k", "_law_cell", "_law_great", "_law_mixed"] ["_law_script", "_law_k"] (defScope s_law_pool) := ⟨rfl, rfl, rfl, by decide +kernel, rfl, by decide +kernel, by decide +kernel⟩
def b_law_pool : FS := (fSeq (fAsg (fBin ixD (fBin addD (fSlice (fVar 0) (some (fVar 1)) (some (fBin addD (fVar 1) (fC (.int 1))))) (fLst (fCons (fC (.int 0)) fNil))) (fC (.int 0))) (gNm 2))
    (fSeq (fAsg (fCallB max2D (fCons (fVar 2) (fCons (fBin subD (fUn negD (fC (.int 1))) (fVar 2)) fNil))) (gNm 3))
    (fSeq (fAsg (fBin modD (fBin mulD (fBin addD (fBin addD (fBin addD (fBin modD (fVar 3) (fC (.int 2147483629))) (fBin mulD (fBin mulD (fC (.int 7919)) (fVar 1)) (fVar 1))) (fBin mulD (fC (.int 47)) (fVar 1))) (fC (.int 19))) (fC (.int 48271))) (fC (.int 2147483647))) (gNm 4))
    (fRet (fCell (fCons (fBin mulD (fVar 3) (fCallB intD (fCons (fBin geD (fVar 3) (fBin powD (fC (.int 10)) (fC (.int 18)))) fNil))) (fCons (fBin modD (fBin mulD (fVar 4) (fVar 4)) (fC (.int 2147483629))) fNil)))))))
abbrev r_law_pool : GF := runP 5 (b_law_pool)
theorem ok_law_pool {P : Program} {w : World} {K : PySem.W.Frag} {mg : Str → Option Value} {base : Heap} {f : Addr} {fd : FuncData} (F : Fun K "_law_pool" "_law_pool" s_law_pool f fd) (m_max : mg "max" = none) (m_int : mg "int" = none) :
    FnG P w K mg base 1 f fd ["_law_script", "_law_k"] (spD K 2 (r_law_pool)) := fnG_ok (k := 0) F sc_law_pool fun cdv A outer s H E hr hG =>
    (px_seq (px_set (i := 2) sc_law_pool.nd rfl (by first | exact Or.inl rfl | exact Or.inr rfl) (px_ix (px_bin od_add (px_slice (px_var 0) (px_po1 (px_var 1)) (px_po1 (px_bin od_add (px_var 1) px_int))) (px_lst (px_cons px_int px_nil))) px_int))
      (px_seq (px_set (i := 3) sc_law_pool.nd rfl (by first | exact Or.inl rfl | exact Or.inr rfl) (px_callB (cd_max2 rfl) (by rfl) m_max (by decide +kernel) (px_cons (px_var 2) (px_cons (px_bin od_sub (px_neg px_int) (px_var 2)) px_nil))))
      (px_seq (px_set (i := 4) sc_law_pool.nd rfl (by first | exact Or.inl rfl | exact Or.inr rfl) (px_bin od_mod (px_bin od_mul (px_bin od_add (px_bin od_add (px_bin od_add (px_bin od_mod (px_var 3) px_int) (px_bin od_mul (px_bin od_mul px_int (px_var 1)) (px_var 1))) (px_bin od_mul px_int (px_var 1))) px_int) px_int) px_int))
      (px_one' (px_ret (px_cell (px_cons (px_bin od_mul (px_var 3) (px_callTy cd_int (by rfl) m_int (by decide +kernel) (px_cons (px_cmp od_ge (px_var 3) (px_bin od_pow px_int px_int)) px_nil))) (px_cons (px_bin od_mod (px_bin od_mul (px_var 4) (px_var 4)) px_int) px_nil))))))))
abbrev s_law_take : Stmt := top 8
theorem sc_law_take : FnScope ["_law_pool_here", "_law_many", "_law_found"] ["_law_pool_here", "_law_many"] (defScope s_law_take) := ⟨rfl, rfl, rfl, by decide +kernel, rfl, by decide +kernel, by decide +kernel⟩
def b_law_take : FS := (fSeq (fIfS (fB (fBin gtD (fBin ixD (fVar 0) (fC (.int 0))) (fC (.int 0)))) (fSeq (fAsg (fBin modD (fBin ixD (fVar 0) (fC (.int 0))) (fVar 1)) (gNm 2))
    (fSeq (fSetIx (fBin fdivD (fBin ixD (fVar 0) (fC (.int 0))) (fVar 1)) (fVar 0) (fC (.int 0)))
    (fRet (fVar 2)))) fNext)
    (fSeq (fSetIx (fBin modD (fBin addD (fBin mulD (fBin ixD (fVar 0) (fC (.int 1))) (fC (.int 48271))) (fC (.int 11))) (fC (.int 2147483647))) (fVar 0) (fC (.int 1)))
    (fRet (fBin modD (fBin fdivD (fBin modD (fBin mulD (fBin ixD (fVar 0) (fC (.int 1))) (fBin ixD (fVar 0) (fC (.int 1)))) (fC (.int 2147483629))) (fC (.int 16))) (fVar 1)))))
abbrev r_law_take : GF := runP 3 (b_law_take)
theorem ok_law_take {P : Program} {w : World} {K : PySem.W.Frag} {mg : Str → Option Value} {base : Heap} {f : Addr} {fd : FuncData} (F : Fun K "_law_take" "_law_take" s_law_take f fd) :
    FnG P w K mg base 1 f fd ["_law_pool_here", "_law_many"] (spD K 2 (r_law_take)) := fnG_ok (k := 0) F sc_law_take fun cdv A outer s H E hr hG =>
    (px_seq (px_ifS (pt_cmp' od_gt (px_ix (px_var 0) px_int) px_int) (px_seq (px_set (i := 2) sc_law_take.nd rfl (by first | exact Or.inl rfl | exact Or.inr rfl) (px_bin od_mod (px_ix (px_var 0) px_int) (px_var 1)))
      (px_seq (px_setIx (px_bin od_fdiv (px_ix (px_var 0) px_int) (px_var 1)) (px_var 0) px_int)
      (px_one' (px_ret (px_var 2))))) px_nx)
      (px_seq (px_setIx (px_bin od_mod (px_bin od_add (px_bin od_mul (px_ix (px_var 0) px_int) px_int) px_int) px_int) (px_var 0) px_int)
      (px_one' (px_ret (px_bin od_mod (px_bin od_fdiv (px_bin od_mod (px_bin od_mul (px_ix (px_var 0) px_int) (px_ix (px_var 0) px_int)) px_int) px_int) (px_var 1))))))
abbrev s_law_term : Stmt := top 9
theorem sc_law_term : FnScope ["_law_pool_here", "_law_many", "_law_names", "_law_found", "_law_turn", "_law_name"] ["_law_pool_here", "_law_many"] (defScope s_law_term) := ⟨rfl, rfl, rfl, by decide +kernel, rfl, by decide +kernel, by decide +kernel⟩
def b_law_term (g_law_take : GF) : FS := (fSeq (fAsg (fLst (fCons (fC (.str "a")) (fCons (fC (.str "b")) (fCons (fC (.str "c")) (fCons (fC (.str "i")) (fCons (fC (.str "abc")) (fCons (fC (.str "zzzzzz")) fNil))))))) (gNm 2))
    (fSeq (fAsg fDNew (gNm 3))
    (fSeq (fFor (fiR1 (fCons (fCall g_law_take (fCons (fVar 0) (fCons (fBin addD (fVar 1) (fC (.int 1))) fNil))) fNil)) (gNm 4) (fDPut (fBin ixD (fLst (fCons (fC (.int 1)) (fCons (fC (.int 1)) (fCons (fUn negD (fC (.int 1))) (fCons (fC (.int 2)) (fCons (fUn negD (fC (.int 3))) (fCons (fC (.int 7)) (fCons (fBin powD (fC (.int 10)) (fC (.int 20))) fNil)))))))) (fCall g_law_take (fCons (fVar 0) (fCons (fC (.int 7)) fNil)))) (fVar 3) (fBin ixD (fVar 2) (fCall g_law_take (fCons (fVar 0) (fCons (fC (.int 6)) fNil))))))
    (fRet (fTup (fCons (fBin ixD (fLst (fCons (fC (.int 0)) (fCons (fC (.int 0)) (fCons (fC (.int 1)) (fCons (fUn negD (fC (.int 2))) (fCons (fC (.int 5)) (fCons (fUn negD (fBin powD (fC (.int 10)) (fC (.int 20)))) fNil))))))) (fCall g_law_take (fCons (fVar 0) (fCons (fC (.int 6)) fNil)))) (fCons (fCallB tupleD (fCons (fLc (fiL (fCallB sortedDD (fCons (fVar 3) fNil))) (gNm 5) fTYes (fTup (fCons (fVar 5) (fCons (fDGet (fVar 3) (fVar 5)) fNil))) [5]) fNil)) fNil)))))))
abbrev r_law_term (g_law_take : GF) : GF := runP 6 (b_law_term g_law_take)
theorem ok_law_term {P : Program} {w : World} {K : PySem.W.Frag} {mg : Str → Option Value} {base : Heap} {f : Addr} {fd : FuncData} {g_law_take : GF} (F : Fun K "_law_term" "_law_term" s_law_term f fd) (c_law_take : CalG P w K mg base "_law_take" 1 2 g_law_take) (m_range : mg "range" = none) (m_sorted : mg "sorted" = none) (m_tuple : mg "tuple" = none) :
    FnG P w K mg base 2 f fd ["_law_pool_here", "_law_many"] (spD K 2 (r_law_term g_law_take)) := fnG_ok (k := 1) F sc_law_term fun cdv A outer s H E hr hG =>
    (px_seq (px_set (i := 2) sc_law_term.nd rfl (by first | exact Or.inl rfl | exact Or.inr rfl) (px_lst (px_cons px_str (px_cons px_str (px_cons px_str (px_cons px_str (px_cons px_str (px_cons px_str px_nil))))))))
      (px_seq (px_set (i := 3) sc_law_term.nd rfl (by first | exact Or.inl rfl | exact Or.inr rfl) px_dnew)
      (px_seq (px_for (vs := [4]) PassesOwn.never rfl (px_iR1 (by rfl) m_range (px_cons (px_calG (c_law_take) (hr.mono (by decide)) hG (by rfl) (px_cons (px_var 0) (px_cons (px_bin od_add (px_var 1) px_int) px_nil)) (fn1 (fn1 fn0))) px_nil)) (px_nm sc_law_term.nd rfl (by first | exact Or.inl rfl | exact Or.inr rfl) (by decide)) (px_one' (px_dput (L2room1 hr) (px_ix (px_lst (px_cons px_int (px_cons px_int (px_cons (px_neg px_int) (px_cons px_int (px_cons (px_neg px_int) (px_cons px_int (px_cons (px_bin od_pow px_int px_int) px_nil)))))))) (px_calG (c_law_take) (hr.mono (by decide)) hG (by rfl) (px_cons (px_var 0) (px_cons px_int px_nil)) (fn1 (fn1 fn0)))) (px_var 3) (px_ix (px_var 2) (px_calG (c_law_take) (hr.mono (by decide)) hG (by rfl) (px_cons (px_var 0) (px_cons px_int px_nil)) (fn1 (fn1 fn0)))))))
      (px_one' (px_ret (px_tup (px_cons (px_ix (px_lst (px_cons px_int (px_cons px_int (px_cons px_int (px_cons (px_neg px_int) (px_cons px_int (px_cons (px_neg (px_bin od_pow px_int px_int)) px_nil))))))) (px_calG (c_law_take) (hr.mono (by decide)) hG (by rfl) (px_cons (px_var 0) (px_cons px_int px_nil)) (fn1 (fn1 fn0)))) (px_cons (px_callTy cd_tuple (by rfl) m_tuple (by decide +kernel) (px_cons (px_lc (own := [("_law_name", 5)]) rfl sc_law_term.nd (px_iL (px_callB (cd_sortedD rfl) (by rfl) m_sorted (by decide +kernel) (px_cons (px_var 3) px_nil))) (blkOk_by (N := ["_law_pool_here", "_law_many", "_law_names", "_law_found", "_law_turn", "_law_name"]) (sc := defScope s_law_term) (own := [("_law_name", 5)]) (by decide +kernel)) (fun _ _ _ _ _ => (px_nm sc_law_term.nd rfl (by first | exact Or.inl rfl | exact Or.inr rfl) (by decide))) (fun _ _ _ _ _ => px_ts0) (fun _ _ _ _ _ => (px_tup (px_cons (px_var 5) (px_cons (px_dget (L2room1 hr) (px_var 3) (px_var 5)) px_nil))))) px_nil)) px_nil))))))))
abbrev s_gathered : Stmt := top 5
theorem sc_gathered : FnScope ["const", "parts", "manys", "name", "many"] ["const", "parts"] (defScope s_gathered) := ⟨rfl, rfl, rfl, by decide +kernel, rfl, by decide +kernel, by decide +kernel⟩
def b_gathered : FS := (fSeq (fAsg fDNew (gNm 2))
    (fSeq (fFor (fiA (fVar 1)) (gTp (gsCons (gNm 3) (gsCons (gNm 4) gsNil))) (fDPut (fBin addD (fDGet2 (fVar 2) (fVar 3) (fC (.int 0))) (fVar 4)) (fVar 2) (fVar 3)))
    (fRet (fTup (fCons (fVar 0) (fCons (fCallB tupleD (fCons (fLc (fiL (fCallB sortedDD (fCons (fVar 2) fNil))) (gNm 3) (fB (fBin neD (fDGet (fVar 2) (fVar 3)) (fC (.int 0)))) (fTup (fCons (fVar 3) (fCons (fDGet (fVar 2) (fVar 3)) fNil))) [3]) fNil)) fNil))))))
abbrev r_gathered : GF := runP 5 (b_gathered)
theorem ok_gathered {P : Program} {w : World} {K : PySem.W.Frag} {mg : Str → Option Value} {base : Heap} {f : Addr} {fd : FuncData} (F : Fun K "_gathered" "_gathered" s_gathered f fd) (m_sorted : mg "sorted" = none) (m_tuple : mg "tuple" = none) :
    FnG P w K mg base 1 f fd ["const", "parts"] (spD K 2 (r_gathered)) := fnG_ok (k := 0) F sc_gathered fun cdv A outer s H E hr hG =>
    (px_seq (px_set (i := 2) sc_gathered.nd rfl (by first | exact Or.inl rfl | exact Or.inr rfl) px_dnew)
      (px_seq (px_for (vs := [3, 4]) PassesOwn.never rfl (px_iA (px_var 1)) (px_gtup rfl (px_gcons (px_nm sc_gathered.nd rfl (by first | exact Or.inl rfl | exact Or.inr rfl) (by decide)) (px_gcons (px_nm sc_gathered.nd rfl (by first | exact Or.inl rfl | exact Or.inr rfl) (by decide)) px_gnil)) (gn1 (gn1 gn0))) (px_one' (px_dput (L2room1 hr) (px_bin od_add (px_dget2 (L2room1 hr) (px_var 2) (px_var 3) px_int) (px_var 4)) (px_var 2) (px_var 3))))
      (px_one' (px_ret (px_tup (px_cons (px_var 0) (px_cons (px_callTy cd_tuple (by rfl) m_tuple (by decide +kernel) (px_cons (px_lc (own := [("name", 3)]) rfl sc_gathered.nd (px_iL (px_callB (cd_sortedD rfl) (by rfl) m_sorted (by decide +kernel) (px_cons (px_var 2) px_nil))) (blkOk_by (N := ["const", "parts", "manys", "name", "many"]) (sc := defScope s_gathered) (own := [("name", 3)]) (by decide +kernel)) (fun _ _ _ _ _ => (px_nm sc_gathered.nd rfl (by first | exact Or.inl rfl | exact Or.inr rfl) (by decide))) (fun _ _ _ _ _ => (px_ts1 (pt_cmp' (od_ne (L2room64 hr)) (px_dget (L2room1 hr) (px_var 2) (px_var 3)) px_int))) (fun _ _ _ _ _ => (px_tup (px_cons (px_var 3) (px_cons (px_dget (L2room1 hr) (px_var 2) (px_var 3)) px_nil))))) px_nil)) px_nil)))))))
abbrev s_scaled : Stmt := top 2
theorem sc_scaled : FnScope ["term", "many", "name", "count"] ["term", "many"] (defScope s_scaled) := ⟨rfl, rfl, rfl, by decide +kernel, rfl, by decide +kernel, by decide +kernel⟩
def b_scaled (g_gathered : GF) : FS := (fRet (fCall g_gathered (fCons (fBin mulD (fBin ixD (fVar 0) (fC (.int 0))) (fVar 1)) (fCons (fLc (fiT (fBin ixD (fVar 0) (fC (.int 1)))) (gTp (gsCons (gNm 2) (gsCons (gNm 3) gsNil))) fTYes (fTup (fCons (fVar 2) (fCons (fBin mulD (fVar 3) (fVar 1)) fNil))) [2, 3]) fNil))))
abbrev r_scaled (g_gathered : GF) : GF := runP 4 (b_scaled g_gathered)
theorem ok_scaled {P : Program} {w : World} {K : PySem.W.Frag} {mg : Str → Option Value} {base : Heap} {f : Addr} {fd : FuncData} {g_gathered : GF} (F : Fun K "scaled" "scaled" s_scaled f fd) (c_gathered : CalG P w K mg base "_gathered" 1 2 g_gathered) :
    FnG P w K mg base 2 f fd ["term", "many"] (spD K 2 (r_scaled g_gathered)) := fnG_ok (k := 1) F sc_scaled fun cdv A outer s H E hr hG =>
    (px_one' (px_ret (px_calG (c_gathered) (hr.mono (by decide)) hG (by rfl) (px_cons (px_bin od_mul (px_ix (px_var 0) px_int) (px_var 1)) (px_cons (px_lc (own := [("name", 2), ("count", 3)]) rfl sc_scaled.nd (px_iT (px_ix (px_var 0) px_int)) (blkOk_by (N := ["term", "many", "name", "count"]) (sc := defScope s_scaled) (own := [("name", 2), ("count", 3)]) (by decide +kernel)) (fun _ _ _ _ _ => (px_gtup rfl (px_gcons (px_nm sc_scaled.nd rfl (by first | exact Or.inl rfl | exact Or.inr rfl) (by decide)) (px_gcons (px_nm sc_scaled.nd rfl (by first | exact Or.inl rfl | exact Or.inr rfl) (by decide)) px_gnil)) (gn1 (gn1 gn0)))) (fun _ _ _ _ _ => px_ts0) (fun _ _ _ _ _ => (px_tup (px_cons (px_var 2) (px_cons (px_bin od_mul (px_var 3) (px_var 1)) px_nil))))) px_nil)) (fn1 (fn1 fn0)))))
abbrev s_of_name : Stmt := top 1
theorem sc_of_name : FnScope ["name"] ["name"] (defScope s_of_name) := ⟨rfl, rfl, rfl, by decide +kernel, rfl, by decide +kernel, by decide +kernel⟩
def b_of_name : FS := (fRet (fTup (fCons (fC (.int 0)) (fCons (fTup (fCons (fTup (fCons (fVar 0) (fCons (fC (.int 1)) fNil))) fNil)) fNil))))
abbrev r_of_name : GF := runP 1 (b_of_name)
theorem ok_of_name {P : Program} {w : World} {K : PySem.W.Frag} {mg : Str → Option Value} {base : Heap} {f : Addr} {fd : FuncData} (F : Fun K "of_name" "of_name" s_of_name f fd) :
    FnG P w K mg base 1 f fd ["name"] (spD K 1 (r_of_name)) := fnG_ok (k := 0) F sc_of_name fun cdv A outer s H E hr hG =>
    (px_one' (px_ret (px_tup (px_cons px_int (px_cons (px_tup (px_cons (px_tup (px_cons (px_var 0) (px_cons px_int px_nil))) px_nil)) px_nil)))))
abbrev s_put_in : Stmt := top 3
theorem sc_put_in : FnScope ["term", "by", "const", "parts", "name", "many", "instead"] ["term", "by"] (defScope s_put_in) := ⟨rfl, rfl, rfl, by decide +kernel, rfl, by decide +kernel, by decide +kernel⟩
def b_put_in (g_of_name g_scaled g_gathered : GF) : FS := (fSeq (fAsg (fBin ixD (fVar 0) (fC (.int 0))) (gNm 2))
    (fSeq (fAsg (fCell fNil) (gNm 3))
    (fSeq (fFor (fiT (fBin ixD (fVar 0) (fC (.int 1)))) (gTp (gsCons (gNm 4) (gsCons (gNm 5) gsNil))) (fSeq (fAsg (fCall g_scaled (fCons (fDGet2 (fVar 1) (fVar 4) (fCall g_of_name (fCons (fVar 4) fNil))) (fCons (fVar 5) fNil))) (gNm 6))
    (fSeq (fAug 2 (· + ·) (fBin ixD (fVar 6) (fC (.int 0))))
    (fDrop (fExt (fVar 3) (fCallB listD (fCons (fBin ixD (fVar 6) (fC (.int 1))) fNil)))))))
    (fRet (fCall g_gathered (fCons (fVar 2) (fCons (fVar 3) fNil)))))))
abbrev r_put_in (g_of_name g_scaled g_gathered : GF) : GF := runP 7 (b_put_in g_of_name g_scaled g_gathered)
theorem ok_put_in {P : Program} {w : World} {K : PySem.W.Frag} {mg : Str → Option Value} {base : Heap} {f : Addr} {fd : FuncData} {g_of_name g_scaled g_gathered : GF} (F : Fun K "put_in" "put_in" s_put_in f fd) (c_of_name : CalG P w K mg base "of_name" 1 1 g_of_name) (c_scaled : CalG P w K mg base "scaled" 2 2 g_scaled) (c_gathered : CalG P w K mg base "_gathered" 1 2 g_gathered) (m_list : mg "list" = none) :
    FnG P w K mg base 3 f fd ["term", "by"] (spD K 2 (r_put_in g_of_name g_scaled g_gathered)) := fnG_ok (k := 2) F sc_put_in fun cdv A outer s H E hr hG =>
    (px_seq (px_set (i := 2) sc_put_in.nd rfl (by first | exact Or.inl rfl | exact Or.inr rfl) (px_ix (px_var 0) px_int))
      (px_seq (px_set (i := 3) sc_put_in.nd rfl (by first | exact Or.inl rfl | exact Or.inr rfl) (px_cell px_nil))
      (px_seq (px_for (vs := [4, 5]) PassesOwn.never rfl (px_iT (px_ix (px_var 0) px_int)) (px_gtup rfl (px_gcons (px_nm sc_put_in.nd rfl (by first | exact Or.inl rfl | exact Or.inr rfl) (by decide)) (px_gcons (px_nm sc_put_in.nd rfl (by first | exact Or.inl rfl | exact Or.inr rfl) (by decide)) px_gnil)) (gn1 (gn1 gn0))) (px_seq (px_set (i := 6) sc_put_in.nd rfl (by first | exact Or.inl rfl | exact Or.inr rfl) (px_calG (c_scaled) (hr.mono (by decide)) hG (by rfl) (px_cons (px_dget2 (L2room1 hr) (px_var 1) (px_var 4) (px_calG (c_of_name) (hr.mono (by decide)) hG (by rfl) (px_cons (px_var 4) px_nil) (fn1 fn0))) (px_cons (px_var 5) px_nil)) (fn1 (fn1 fn0))))
      (px_seq (px_aug (i := 2) sc_put_in.nd rfl (by first | exact Or.inl rfl | exact Or.inr rfl) (px_ix (px_var 6) px_int) ip_add)
      (px_one' (px_drop (px_ext (px_var 3) (px_callTy cd_list (by rfl) m_list (by decide +kernel) (px_cons (px_ix (px_var 6) px_int) px_nil))))))))
      (px_one' (px_ret (px_calG (c_gathered) (hr.mono (by decide)) hG (by rfl) (px_cons (px_var 2) (px_cons (px_var 3) px_nil)) (fn1 (fn1 fn0))))))))
abbrev s_law_worth_by : Stmt := top 10
theorem sc_law_worth_by : FnScope ["_law_term_here", "_law_numbers", "_law_name", "_law_many"] ["_law_term_here", "_law_numbers"] (defScope s_law_worth_by) := ⟨rfl, rfl, rfl, by decide +kernel, rfl, by decide +kernel, by decide +kernel⟩
def b_law_worth_by : FS := (fRet (fBin addD (fBin ixD (fVar 0) (fC (.int 0))) (fCallB sumD (fCons (fLc (fiT (fBin ixD (fVar 0) (fC (.int 1)))) (gTp (gsCons (gNm 2) (gsCons (gNm 3) gsNil))) fTYes (fBin mulD (fVar 3) (fDGet (fVar 1) (fVar 2))) [2, 3]) fNil))))
abbrev r_law_worth_by : GF := runP 4 (b_law_worth_by)
theorem ok_law_worth_by {P : Program} {w : World} {K : PySem.W.Frag} {mg : Str → Option Value} {base : Heap} {f : Addr} {fd : FuncData} (F : Fun K "_law_worth_by" "_law_worth_by" s_law_worth_by f fd) (m_sum : mg "sum" = none) :
    FnG P w K mg base 1 f fd ["_law_term_here", "_law_numbers"] (spD K 2 (r_law_worth_by)) := fnG_ok (k := 0) F sc_law_worth_by fun cdv A outer s H E hr hG =>
    (px_one' (px_ret (px_bin od_add (px_ix (px_var 0) px_int) (px_callB (cd_sum rfl) (by rfl) m_sum (by decide +kernel) (px_cons (px_lc (own := [("_law_name", 2), ("_law_many", 3)]) rfl sc_law_worth_by.nd (px_iT (px_ix (px_var 0) px_int)) (blkOk_by (N := ["_law_term_here", "_law_numbers", "_law_name", "_law_many"]) (sc := defScope s_law_worth_by) (own := [("_law_name", 2), ("_law_many", 3)]) (by decide +kernel)) (fun _ _ _ _ _ => (px_gtup rfl (px_gcons (px_nm sc_law_worth_by.nd rfl (by first | exact Or.inl rfl | exact Or.inr rfl) (by decide)) (px_gcons (px_nm sc_law_worth_by.nd rfl (by first | exact Or.inl rfl | exact Or.inr rfl) (by decide)) px_gnil)) (gn1 (gn1 gn0)))) (fun _ _ _ _ _ => px_ts0) (fun _ _ _ _ _ => (px_bin od_mul (px_var 3) (px_dget (L2room1 hr) (px_var 1) (px_var 2))))) px_nil)))))
abbrev s_worth_of : Stmt := top 4
theorem sc_worth_of : FnScope ["term", "numbers", "name", "many"] ["term", "numbers"] (defScope s_worth_of) := ⟨rfl, rfl, rfl, by decide +kernel, rfl, by decide +kernel, by decide +kernel⟩
def b_worth_of : FS := (fRet (fBin addD (fBin ixD (fVar 0) (fC (.int 0))) (fCallB sumD (fCons (fLc (fiT (fBin ixD (fVar 0) (fC (.int 1)))) (gTp (gsCons (gNm 2) (gsCons (gNm 3) gsNil))) fTYes (fBin mulD (fVar 3) (fDGet (fVar 1) (fVar 2))) [2, 3]) fNil))))
abbrev r_worth_of : GF := runP 4 (b_worth_of)
theorem ok_worth_of {P : Program} {w : World} {K : PySem.W.Frag} {mg : Str → Option Value} {base : Heap} {f : Addr} {fd : FuncData} (F : Fun K "worth_of" "worth_of" s_worth_of f fd) (m_sum : mg "sum" = none) :
    FnG P w K mg base 1 f fd ["term", "numbers"] (spD K 2 (r_worth_of)) := fnG_ok (k := 0) F sc_worth_of fun cdv A outer s H E hr hG =>
    (px_one' (px_ret (px_bin od_add (px_ix (px_var 0) px_int) (px_callB (cd_sum rfl) (by rfl) m_sum (by decide +kernel) (px_cons (px_lc (own := [("name", 2), ("many", 3)]) rfl sc_worth_of.nd (px_iT (px_ix (px_var 0) px_int)) (blkOk_by (N := ["term", "numbers", "name", "many"]) (sc := defScope s_worth_of) (own := [("name", 2), ("many", 3)]) (by decide +kernel)) (fun _ _ _ _ _ => (px_gtup rfl (px_gcons (px_nm sc_worth_of.nd rfl (by first | exact Or.inl rfl | exact Or.inr rfl) (by decide)) (px_gcons (px_nm sc_worth_of.nd rfl (by first | exact Or.inl rfl | exact Or.inr rfl) (by decide)) px_gnil)) (gn1 (gn1 gn0)))) (fun _ _ _ _ _ => px_ts0) (fun _ _ _ _ _ => (px_bin od_mul (px_var 3) (px_dget (L2room1 hr) (px_var 1) (px_var 2))))) px_nil)))))
abbrev s_law_put_in : Stmt := top 11
theorem sc_law_put_in : FnScope ["_law_term_here", "_law_by", "_law_known", "_law_name", "_law_many", "_law_const", "_law_parts", "_law_own", "_law_part"] ["_law_term_here", "_law_by"] (defScope s_law_put_in) := ⟨rfl, rfl, rfl, by decide +kernel, rfl, by decide +kernel, by decide +kernel⟩
def b_law_put_in : FS := (fSeq (fAsg (fDisp [((fC (.str "")), (fBin ixD (fVar 0) (fC (.int 0))))]) (gNm 2))
    (fSeq (fFor (fiT (fBin ixD (fVar 0) (fC (.int 1)))) (gTp (gsCons (gNm 3) (gsCons (gNm 4) gsNil))) (fSeq (fAsg (fDGet2 (fVar 1) (fVar 3) (fTup (fCons (fC (.int 0)) (fCons (fTup (fCons (fTup (fCons (fVar 3) (fCons (fC (.int 1)) fNil))) fNil)) fNil)))) (gTp (gsCons (gNm 5) (gsCons (gNm 6) gsNil))))
    (fSeq (fDPut (fBin addD (fDGet (fVar 2) (fC (.str ""))) (fBin mulD (fVar 4) (fVar 5))) (fVar 2) (fC (.str "")))
    (fFor (fiT (fVar 6)) (gTp (gsCons (gNm 7) (gsCons (gNm 8) gsNil))) (fDPut (fBin addD (fDGet2 (fVar 2) (fVar 7) (fC (.int 0))) (fBin mulD (fVar 4) (fVar 8))) (fVar 2) (fVar 7))))))
    (fRet (fTup (fCons (fDGet (fVar 2) (fC (.str ""))) (fCons (fCallB tupleD (fCons (fLc (fiL (fCallB sortedDD (fCons (fVar 2) fNil))) (gNm 3) (fTAnd (fB (fBin neD (fVar 3) (fC (.str "")))) (fB (fBin neD (fDGet (fVar 2) (fVar 3)) (fC (.int 0))))) (fTup (fCons (fVar 3) (fCons (fDGet (fVar 2) (fVar 3)) fNil))) [3]) fNil)) fNil))))))
abbrev r_law_put_in : GF := runP 9 (b_law_put_in)
theorem ok_law_put_in {P : Program} {w : World} {K : PySem.W.Frag} {mg : Str → Option Value} {base : Heap} {f : Addr} {fd : FuncData} (F : Fun K "_law_put_in" "_law_put_in" s_law_put_in f fd) (m_sorted : mg "sorted" = none) (m_tuple : mg "tuple" = none) :
    FnG P w K mg base 1 f fd ["_law_term_here", "_law_by"] (spD K 2 (r_law_put_in)) := fnG_ok (k := 0) F sc_law_put_in fun cdv A outer s H E hr hG =>
    (px_seq (px_set (i := 2) sc_law_put_in.nd rfl (by first | exact Or.inl rfl | exact Or.inr rfl) (px_disp (px_pd1 px_str (px_ix (px_var 0) px_int) px_pd0)))
      (px_seq (px_for (vs := [3, 4]) PassesOwn.never rfl (px_iT (px_ix (px_var 0) px_int)) (px_gtup rfl (px_gcons (px_nm sc_law_put_in.nd rfl (by first | exact Or.inl rfl | exact Or.inr rfl) (by decide)) (px_gcons (px_nm sc_law_put_in.nd rfl (by first | exact Or.inl rfl | exact Or.inr rfl) (by decide)) px_gnil)) (gn1 (gn1 gn0))) (px_seq (px_asg (vs := [5, 6]) (px_dget2 (L2room1 hr) (px_var 1) (px_var 3) (px_tup (px_cons px_int (px_cons (px_tup (px_cons (px_tup (px_cons (px_var 3) (px_cons px_int px_nil))) px_nil)) px_nil)))) (px_gtup rfl (px_gcons (px_nm sc_law_put_in.nd rfl (by first | exact Or.inl rfl | exact Or.inr rfl) (by decide)) (px_gcons (px_nm sc_law_put_in.nd rfl (by first | exact Or.inl rfl | exact Or.inr rfl) (by decide)) px_gnil)) (gn1 (gn1 gn0))))
      (px_seq (px_dput (L2room1 hr) (px_bin od_add (px_dget (L2room1 hr) (px_var 2) px_str) (px_bin od_mul (px_var 4) (px_var 5))) (px_var 2) px_str)
      (px_one' (px_for (vs := [7, 8]) PassesOwn.never rfl (px_iT (px_var 6)) (px_gtup rfl (px_gcons (px_nm sc_law_put_in.nd rfl (by first | exact Or.inl rfl | exact Or.inr rfl) (by decide)) (px_gcons (px_nm sc_law_put_in.nd rfl (by first | exact Or.inl rfl | exact Or.inr rfl) (by decide)) px_gnil)) (gn1 (gn1 gn0))) (px_one' (px_dput (L2room1 hr) (px_bin od_add (px_dget2 (L2room1 hr) (px_var 2) (px_var 7) px_int) (px_bin od_mul (px_var 4) (px_var 8))) (px_var 2) (px_var 7))))))))
      (px_one' (px_ret (px_tup (px_cons (px_dget (L2room1 hr) (px_var 2) px_str) (px_cons (px_callTy cd_tuple (by rfl) m_tuple (by decide +kernel) (px_cons (px_lc (own := [("_law_name", 3)]) rfl sc_law_put_in.nd (px_iL (px_callB (cd_sortedD rfl) (by rfl) m_sorted (by decide +kernel) (px_cons (px_var 2) px_nil))) (blkOk_by (N := ["_law_term_here", "_law_by", "_law_known", "_law_name", "_law_many", "_law_const", "_law_parts", "_law_own", "_law_part"]) (sc := defScope s_law_put_in) (own := [("_law_name", 3)]) (by decide +kernel)) (fun _ _ _ _ _ => (px_nm sc_law_put_in.nd rfl (by first | exact Or.inl rfl | exact Or.inr rfl) (by decide))) (fun _ _ _ _ _ => (px_ts1 (pw_and' (pt_cmp' (od_ne (L2room64 hr)) (px_var 3) px_str) (pw_and1' (pt_cmp' (od_ne (L2room64 hr)) (px_dget (L2room1 hr) (px_var 2) (px_var 3)) px_int))).pt)) (fun _ _ _ _ _ => (px_tup (px_cons (px_var 3) (px_cons (px_dget (L2room1 hr) (px_var 2) (px_var 3)) px_nil))))) px_nil)) px_nil)))))))
abbrev s_law : Stmt := top 12
theorem sc_law : FnScope ["_law_script", "_law_names", "_law_k", "_law_pool_here", "_law_term_here", "_law_by", "_law_turn", "_law_numbers", "_law_kept", "_law_found", "_law_inner", "_law_name", "_law_one", "_law_some"] ["_law_script"] (defScope s_law) := ⟨rfl, rfl, rfl, by decide +kernel, rfl, by decide +kernel, by decide +kernel⟩
def b_law (g_law_pool g_law_term g_law_take g_put_in g_law_put_in g_law_worth_by g_worth_of : GF) : FS := (fSeq (fAsg (fLst (fCons (fC (.str "a")) (fCons (fC (.str "b")) (fCons (fC (.str "c")) (fCons (fC (.str "i")) (fCons (fC (.str "abc")) (fCons (fC (.str "zzzzzz")) fNil))))))) (gNm 1))
    (fSeq (fFor (fiR1 (fCons (fCallB max2D (fCons (fC (.int 1)) (fCons (fCallB min2D (fCons (fCallB lenD (fCons (fVar 0) fNil)) (fCons (fC (.int 30)) fNil))) fNil))) fNil)) (gNm 2) (fSeq (fAsg (fCall g_law_pool (fCons (fVar 0) (fCons (fVar 2) fNil))) (gNm 3))
    (fSeq (fAsg (fCall g_law_term (fCons (fVar 3) (fCons (fC (.int 4)) fNil))) (gNm 4))
    (fSeq (fAsg fDNew (gNm 5))
    (fSeq (fFor (fiR1 (fCons (fCall g_law_take (fCons (fVar 3) (fCons (fC (.int 5)) fNil))) fNil)) (gNm 6) (fDPut (fCall g_law_term (fCons (fVar 3) (fCons (fC (.int 3)) fNil))) (fVar 5) (fBin ixD (fVar 1) (fCall g_law_take (fCons (fVar 3) (fCons (fC (.int 6)) fNil))))))
    (fSeq (fAsg (fDictP (fCons (fLc (fiL (fVar 1)) (gNm 11) fTYes (fTup (fCons (fVar 11) (fCons (fBin subD (fCall g_law_take (fCons (fVar 3) (fCons (fC (.int 41)) fNil))) (fC (.int 9))) fNil))) [11]) fNil)) (gNm 7))
    (fSeq (fAsg (fCallB reprAD (fCons (fLst (fCons (fVar 4) (fCons (fVar 5) (fCons (fVar 7) fNil)))) fNil)) (gNm 8))
    (fSeq (fAsg (fCall g_put_in (fCons (fVar 4) (fCons (fVar 5) fNil))) (gNm 9))
    (fSeq (fIfS (fTOr (fB (fBin neD (fCallB reprAD (fCons (fVar 9) fNil)) (fCallB reprAD (fCons (fCall g_law_put_in (fCons (fVar 4) (fCons (fVar 5) fNil))) fNil)))) (fB (fBin neD (fCallB reprAD (fCons (fLst (fCons (fVar 4) (fCons (fVar 5) (fCons (fVar 7) fNil)))) fNil)) (fVar 8)))) (fRet (fC (.bl false))) fNext)
    (fSeq (fAsg (fDictC (fCons (fVar 7) fNil)) (gNm 10))
    (fSeq (fFor (fiKeys (fVar 5)) (gNm 11) (fDPut (fCall g_law_worth_by (fCons (fDGet (fVar 5) (fVar 11)) (fCons (fVar 7) fNil))) (fVar 10) (fVar 11)))
    (fSeq (fFor (fiL (fLst (fCons (fTup (fCons (fVar 4) (fCons (fVar 7) fNil))) (fCons (fTup (fCons (fVar 9) (fCons (fVar 7) fNil))) (fCons (fTup (fCons (fVar 4) (fCons (fVar 10) fNil))) fNil))))) (gTp (gsCons (gNm 12) (gsCons (gNm 13) gsNil))) (fIfS (fB (fBin neD (fCallB reprAD (fCons (fCall g_worth_of (fCons (fVar 12) (fCons (fVar 13) fNil))) fNil)) (fCallB reprAD (fCons (fCall g_law_worth_by (fCons (fVar 12) (fCons (fVar 13) fNil))) fNil)))) (fRet (fC (.bl false))) fNext))
    (fIfS (fTOr (fB (fBin neD (fCall g_worth_of (fCons (fVar 9) (fCons (fVar 7) fNil))) (fCall g_worth_of (fCons (fVar 4) (fCons (fVar 10) fNil))))) (fB (fBin neD (fCall g_put_in (fCons (fVar 4) (fCons fDNew fNil))) (fVar 4)))) (fRet (fC (.bl false))) fNext)))))))))))))
    (fRet (fC (.bl true)))))
abbrev r_law (g_law_pool g_law_term g_law_take g_put_in g_law_put_in g_law_worth_by g_worth_of : GF) : GF := runP 14 (b_law g_law_pool g_law_term g_law_take g_put_in g_law_put_in g_law_worth_by g_worth_of)
theorem ok_law {P : Program} {w : World} {K : PySem.W.Frag} {mg : Str → Option Value} {base : Heap} {f : Addr} {fd : FuncData} {g_law_pool g_law_term g_law_take g_put_in g_law_put_in g_law_worth_by g_worth_of : GF} (F : Fun K "law" "law" s_law f fd) (c_law_pool : CalG P w K mg base "_law_pool" 1 2 g_law_pool) (c_law_term : CalG P w K mg base "_law_term" 2 2 g_law_term) (c_law_take : CalG P w K mg base "_law_take" 1 2 g_law_take) (c_put_in : CalG P w K mg base "put_in" 3 2 g_put_in) (c_law_put_in : CalG P w K mg base "_law_put_in" 1 2 g_law_put_in) (c_law_worth_by : CalG P w K mg base "_law_worth_by" 1 2 g_law_worth_by) (c_worth_of : CalG P w K mg base "worth_of" 1 2 g_worth_of) (m_range : mg "range" = none) (m_len : mg "len" = none) (m_min : mg "min" = none) (m_max : mg "max" = none) (m_dict : mg "dict" = none) (m_repr : mg "repr" = none) (hsy : SysB base) :
    FnG P w K mg base 4 f fd ["_law_script"] (spD K 1 (r_law g_law_pool g_law_term g_law_take g_put_in g_law_put_in g_law_worth_by g_worth_of)) := fnG_ok (k := 3) F sc_law fun cdv A outer s H E hr hG =>
    (px_seq (px_set (i := 1) sc_law.nd rfl (by first | exact Or.inl rfl | exact Or.inr rfl) (px_lst (px_cons px_str (px_cons px_str (px_cons px_str (px_cons px_str (px_cons px_str (px_cons px_str px_nil))))))))
      (px_seq (px_for (vs := [2]) PassesOwn.never rfl (px_iR1 (by rfl) m_range (px_cons (px_callB (cd_max2 rfl) (by rfl) m_max (by decide +kernel) (px_cons px_int (px_cons (px_callB (cd_min2 rfl) (by rfl) m_min (by decide +kernel) (px_cons (px_callB cd_len (by rfl) m_len PySem.boot_len (px_cons (px_var 0) px_nil)) (px_cons px_int px_nil))) px_nil))) px_nil)) (px_nm sc_law.nd rfl (by first | exact Or.inl rfl | exact Or.inr rfl) (by decide)) (px_seq (px_set (i := 3) sc_law.nd rfl (by first | exact Or.inl rfl | exact Or.inr rfl) (px_calG (c_law_pool) (hr.mono (by decide)) hG (by rfl) (px_cons (px_var 0) (px_cons (px_var 2) px_nil)) (fn1 (fn1 fn0))))
      (px_seq (px_set (i := 4) sc_law.nd rfl (by first | exact Or.inl rfl | exact Or.inr rfl) (px_calG (c_law_term) (hr.mono (by decide)) hG (by rfl) (px_cons (px_var 3) (px_cons px_int px_nil)) (fn1 (fn1 fn0))))
      (px_seq (px_set (i := 5) sc_law.nd rfl (by first | exact Or.inl rfl | exact Or.inr rfl) px_dnew)
      (px_seq (px_for (vs := [6]) PassesOwn.never rfl (px_iR1 (by rfl) m_range (px_cons (px_calG (c_law_take) (hr.mono (by decide)) hG (by rfl) (px_cons (px_var 3) (px_cons px_int px_nil)) (fn1 (fn1 fn0))) px_nil)) (px_nm sc_law.nd rfl (by first | exact Or.inl rfl | exact Or.inr rfl) (by decide)) (px_one' (px_dput (L2room1 hr) (px_calG (c_law_term) (hr.mono (by decide)) hG (by rfl) (px_cons (px_var 3) (px_cons px_int px_nil)) (fn1 (fn1 fn0))) (px_var 5) (px_ix (px_var 1) (px_calG (c_law_take) (hr.mono (by decide)) hG (by rfl) (px_cons (px_var 3) (px_cons px_int px_nil)) (fn1 (fn1 fn0)))))))
      (px_seq (px_set (i := 7) sc_law.nd rfl (by first | exact Or.inl rfl | exact Or.inr rfl) (px_dictP rfl (by rfl) m_dict (by decide +kernel) (px_cons (px_lc (own := [("_law_name", 11)]) rfl sc_law.nd (px_iL (px_var 1)) (blkOk_by (N := ["_law_script", "_law_names", "_law_k", "_law_pool_here", "_law_term_here", "_law_by", "_law_turn", "_law_numbers", "_law_kept", "_law_found", "_law_inner", "_law_name", "_law_one", "_law_some"]) (sc := defScope s_law) (own := [("_law_name", 11)]) (by decide +kernel)) (fun _ _ _ _ _ => (px_nm sc_law.nd rfl (by first | exact Or.inl rfl | exact Or.inr rfl) (by decide))) (fun _ _ _ _ _ => px_ts0) (fun _ _ _ _ _ => (px_tup (px_cons (px_var 11) (px_cons (px_bin od_sub (px_calG (c_law_take) (hr.mono (by decide)) hG (by rfl) (px_cons (px_var 3) (px_cons px_int px_nil)) (fn1 (fn1 fn0))) px_int) px_nil))))) px_nil)))
      (px_seq (px_set (i := 8) sc_law.nd rfl (by first | exact Or.inl rfl | exact Or.inr rfl) (px_callB (cd_reprA hG (L2room64 hr) hsy) (by rfl) m_repr (by decide +kernel) (px_cons (px_lst (px_cons (px_var 4) (px_cons (px_var 5) (px_cons (px_var 7) px_nil)))) px_nil)))
      (px_seq (px_set (i := 9) sc_law.nd rfl (by first | exact Or.inl rfl | exact Or.inr rfl) (px_calG (c_put_in) (hr.mono (by decide)) hG (by rfl) (px_cons (px_var 4) (px_cons (px_var 5) px_nil)) (fn1 (fn1 fn0))))
      (px_seq (px_ifS (pw_or' (pt_cmp' (od_ne (L2room64 hr)) (px_callB (cd_reprA hG (L2room64 hr) hsy) (by rfl) m_repr (by decide +kernel) (px_cons (px_var 9) px_nil)) (px_callB (cd_reprA hG (L2room64 hr) hsy) (by rfl) m_repr (by decide +kernel) (px_cons (px_calG (c_law_put_in) (hr.mono (by decide)) hG (by rfl) (px_cons (px_var 4) (px_cons (px_var 5) px_nil)) (fn1 (fn1 fn0))) px_nil))) (pw_or1' (pt_cmp' (od_ne (L2room64 hr)) (px_callB (cd_reprA hG (L2room64 hr) hsy) (by rfl) m_repr (by decide +kernel) (px_cons (px_lst (px_cons (px_var 4) (px_cons (px_var 5) (px_cons (px_var 7) px_nil)))) px_nil)) (px_var 8)))).pt (px_one' (px_ret px_bl)) px_nx)
      (px_seq (px_set (i := 10) sc_law.nd rfl (by first | exact Or.inl rfl | exact Or.inr rfl) (px_dictC (by rfl) m_dict (by decide +kernel) (px_cons (px_var 7) px_nil)))
      (px_seq (px_for (vs := [11]) PassesOwn.never rfl (px_iKeys (px_var 5)) (px_nm sc_law.nd rfl (by first | exact Or.inl rfl | exact Or.inr rfl) (by decide)) (px_one' (px_dput (L2room1 hr) (px_calG (c_law_worth_by) (hr.mono (by decide)) hG (by rfl) (px_cons (px_dget (L2room1 hr) (px_var 5) (px_var 11)) (px_cons (px_var 7) px_nil)) (fn1 (fn1 fn0))) (px_var 10) (px_var 11))))
      (px_seq (px_for (vs := [12, 13]) PassesOwn.never rfl (px_iL (px_lst (px_cons (px_tup (px_cons (px_var 4) (px_cons (px_var 7) px_nil))) (px_cons (px_tup (px_cons (px_var 9) (px_cons (px_var 7) px_nil))) (px_cons (px_tup (px_cons (px_var 4) (px_cons (px_var 10) px_nil))) px_nil))))) (px_gtup rfl (px_gcons (px_nm sc_law.nd rfl (by first | exact Or.inl rfl | exact Or.inr rfl) (by decide)) (px_gcons (px_nm sc_law.nd rfl (by first | exact Or.inl rfl | exact Or.inr rfl) (by decide)) px_gnil)) (gn1 (gn1 gn0))) (px_one' (px_ifS (pt_cmp' (od_ne (L2room64 hr)) (px_callB (cd_reprA hG (L2room64 hr) hsy) (by rfl) m_repr (by decide +kernel) (px_cons (px_calG (c_worth_of) (hr.mono (by decide)) hG (by rfl) (px_cons (px_var 12) (px_cons (px_var 13) px_nil)) (fn1 (fn1 fn0))) px_nil)) (px_callB (cd_reprA hG (L2room64 hr) hsy) (by rfl) m_repr (by decide +kernel) (px_cons (px_calG (c_law_worth_by) (hr.mono (by decide)) hG (by rfl) (px_cons (px_var 12) (px_cons (px_var 13) px_nil)) (fn1 (fn1 fn0))) px_nil))) (px_one' (px_ret px_bl)) px_nx)))
      (px_one' (px_ifS (pw_or' (pt_cmp' (od_ne (L2room64 hr)) (px_calG (c_worth_of) (hr.mono (by decide)) hG (by rfl) (px_cons (px_var 9) (px_cons (px_var 7) px_nil)) (fn1 (fn1 fn0))) (px_calG (c_worth_of) (hr.mono (by decide)) hG (by rfl) (px_cons (px_var 4) (px_cons (px_var 10) px_nil)) (fn1 (fn1 fn0)))) (pw_or1' (pt_cmp' (od_ne (L2room64 hr)) (px_calG (c_put_in) (hr.mono (by decide)) hG (by rfl) (px_cons (px_var 4) (px_cons px_dnew px_nil)) (fn1 (fn1 fn0))) (px_var 4)))).pt (px_one' (px_ret px_bl)) px_nx))))))))))))))
      (px_one' (px_ret px_bl))))
end K08
set_option Elab.async false
set_option linter.all false
set_option maxRecDepth 100000
set_option maxHeartbeats 4000000
set_option exponentiation.threshold 100000
namespace K08
open PySem PySem.Spec PyProof.Rows L2 PU


/-! ### what stands in a dict, a tuple -/
def kd (ps : As) : List (Key × D) := ps.map fun p => ((.inr p.1 : Key), D.int p.2)
def prD (p : Str × Int) : D := .tup [.str p.1, .int p.2]
def tmD (c : Int) (ps : As) : D := .tup [.int c, .tup (ps.map prD)]
theorem kd_get (ps : As) (x : Str) : dGet (kd ps) (.inr x) = (aGet ps x).map D.int := by
  induction ps with
  | nil => rfl
  | cons p ps ih =>
    rw [aGet_cons]
    unfold kd dGet at ih ⊢
    rw [List.map_cons, List.find?_cons]
    by_cases h : p.1 = x
    · simp [h]
    · simp only [Sum.inr.injEq, h, decide_false, if_false]
      exact ih
theorem kd_any (ps : As) (x : Str) : ((kd ps).any fun kv => decide (kv.1 = .inr x)) = (ps.any fun p => decide (p.1 = x)) := by
  unfold kd
  rw [List.any_map]
  congr 1
  funext p
  simp
theorem kd_put (ps : As) (x : Str) (n : Int) : dPut (kd ps) (.inr x) (.int n) = kd (aPut ps x n) := by
  unfold dPut aPut
  rw [kd_any]
  split
  · unfold kd
    rw [List.map_map, List.map_map]
    apply List.map_congr_left
    intro p _
    by_cases h : p.1 = x <;> simp [h]
  · unfold kd
    simp
theorem kd_len (ps : As) : (kd ps).length = ps.length := by unfold kd; simp
theorem kd_keys (ps : As) : allStr ((kd ps).map Prod.fst) = some (aKeys ps) := by
  induction ps with
  | nil => rfl
  | cons p ps ih =>
    show (allStr ((kd ps).map Prod.fst)).map (fun xs => p.1 :: xs) = _
    rw [ih]
    rfl
theorem pairs_kd (ps : As) : pairsKD (ps.map prD) = some (kd ps) := by
  induction ps with
  | nil => rfl
  | cons p ps ih =>
    rw [List.map_cons]
    unfold pairsKD
    rw [ih]
    rfl
def aMerge (acc more : As) : As := more.foldl (fun acc p => aPut acc p.1 p.2) acc
theorem merge_kd (more : As) : ∀ acc : As, mergeD (kd acc) (kd more) = kd (aMerge acc more) := by
  induction more with
  | nil => intro acc; rfl
  | cons p more ih =>
    intro acc
    show mergeD (dPut (kd acc) (.inr p.1) (.int p.2)) (kd more) = _
    rw [kd_put, ih]
    rfl
theorem merge_new (more : As) : ∀ acc : As, (aKeys (acc ++ more)).Nodup → aMerge acc more = acc ++ more := by
  induction more with
  | nil => intro acc _; simp [aMerge]
  | cons p more ih =>
    intro acc h
    have hp : p.1 ∉ aKeys acc := by
      intro hm
      unfold aKeys at h
      rw [List.map_append, List.nodup_append] at h
      exact h.2.2 p.1 hm p.1 (by simp) rfl
    have e : aPut acc p.1 p.2 = acc ++ [p] := by
      unfold aPut
      rw [if_neg (fun z => hp ((aPut_any acc p.1).mp z))]
    show aMerge (aPut acc p.1 p.2) more = _
    rw [e, ih]
    · simp
    · simpa using h

/-! ### loops over lists that change nothing but the list -/
theorem lc_map {α : Type} (h : α → D) (r : α → D) (g : FG) (t : FT) (f : FE) (env0 : PU.Env) (st : Store) (p : α → Bool) : ∀ (xs : List α) (acc : List D), acc.length + xs.length ≤ 100000 →
    (∀ x ∈ xs, ∃ e, g (h x) env0 = some e ∧ t e st = some (p x, st) ∧ (p x = true → f e st = some (r x, st))) →
    fLcLoop g t f env0 (xs.map h) st acc = some (acc ++ (xs.filter p).map r, st)
  | [], acc, _, _ => by simp [fLcLoop]
  | x :: xs, acc, hl, H => by
    obtain ⟨e, h1, h2, h3⟩ := H x (by simp)
    have ih := fun acc hl => lc_map h r g t f env0 st p xs acc hl fun y hy => H y (by simp [hy])
    simp only [List.length_cons] at hl
    rw [List.map_cons]
    unfold fLcLoop
    rw [h1]
    dsimp only [Option.bind]
    rw [h2]
    dsimp only
    cases hp : p x with
    | false =>
      rw [if_neg (by simp), ih acc (by omega)]
      simp [hp]
    | true =>
      rw [if_pos rfl, h3 hp]
      dsimp only
      rw [if_pos (by omega), ih _ (by simp; omega)]
      simp [hp]

theorem last_get (st : Store) (x : Ob) : (st ++ [x])[st.length]? = some x := by simp
theorem last_set (st : Store) (x y : Ob) : (st ++ [x]).set st.length y = st ++ [y] := by simp
theorem len_app (st : Store) (x : Ob) : (st ++ [x]).length = st.length + 1 := by simp
theorem ne_int (st : Store) (a b : Int) : neD st (.int a) (.int b) = some (.bl (!(a == b))) := by simp [SeqAt.shaped, PyData.eqv, PyData.canLay0, PyData.depth]
theorem eq_int (st : Store) (a b : Int) : eqD st (.int a) (.int b) = some (.bl (a == b)) := by simp [SeqAt.shaped, PyData.eqv, PyData.canLay0, PyData.depth]
theorem ne_str (st : Store) (a b : Str) : neD st (.str a) (.str b) = some (.bl (!decide (a = b))) := rfl
theorem eq_str (st : Store) (a b : Str) : eqD st (.str a) (.str b) = some (.bl (decide (a = b))) := rfl
/-! ### _gathered -/
def bG : FS := fDPut (fBin addD (fDGet2 (fVar 2) (fVar 3) (fC (.int 0))) (fVar 4)) (fVar 2) (fVar 3)
def gPair : FG := gTp (gsCons (gNm 3) (gsCons (gNm 4) gsNil))
theorem ev_gloop (st : Store) (e0 e1 : Option D) : ∀ (ps acc : As) (e3 e4 : Option D), acc.length + ps.length < 100000 →
    ∃ e3' e4', fLoop gPair bG (ps.map prD) [e0, e1, some (.loc st.length), e3, e4] (st ++ [.dct false (kd acc)]) = some (.nx [e0, e1, some (.loc st.length), e3', e4'] (st ++ [.dct false (kd (aAdd acc ps))]))
  | [], acc, e3, e4, _ => ⟨e3, e4, rfl⟩
  | p :: ps, acc, e3, e4, hl => by
    simp only [List.length_cons] at hl
    have hl2 := len_put acc p.1 ((aGet acc p.1).getD 0 + p.2)
    obtain ⟨e3', e4', ih⟩ := ev_gloop st e0 e1 ps (aPut acc p.1 ((aGet acc p.1).getD 0 + p.2)) (some (.str p.1)) (some (.int p.2)) (by omega)
    refine ⟨e3', e4', ?_⟩
    have hg : (Option.map D.int (aGet acc p.1)).getD (.int 0) = .int ((aGet acc p.1).getD 0) := by cases aGet acc p.1 <;> rfl
    have hk : (kd acc).length < 100000 := by rw [kd_len]; omega
    have step : bG [e0, e1, some (.loc st.length), some (.str p.1), some (.int p.2)] (st ++ [.dct false (kd acc)]) = some (.nx [e0, e1, some (.loc st.length), some (.str p.1), some (.int p.2)] (st ++ [.dct false (kd (aPut acc p.1 ((aGet acc p.1).getD 0 + p.2)))])) := by
      simp [bG, last_get, kd_get, hg, hk, kd_put, last_set]
    rw [List.map_cons]
    unfold fLoop
    have hp : gPair (prD p) [e0, e1, some (.loc st.length), e3, e4] = some [e0, e1, some (.loc st.length), some (.str p.1), some (.int p.2)] := rfl
    rw [hp]
    dsimp only [Option.bind]
    rw [step]
    exact ih
/-- the tuple told at the end of _gathered -/
theorem ev_gend (st : Store) (c : Int) (e1 e3 e4 : Option D) (acc : As) (hl : acc.length < 64) :
    fTup (fCons (fVar 0) (fCons (fCallB tupleD (fCons (fLc (fiL (fCallB sortedDD (fCons (fVar 2) fNil))) (gNm 3) (fB (fBin neD (fDGet (fVar 2) (fVar 3)) (fC (.int 0)))) (fTup (fCons (fVar 3) (fCons (fDGet (fVar 2) (fVar 3)) fNil))) [3]) fNil)) fNil)) [some (.int c), e1, some (.loc st.length), e3, e4] (st ++ [.dct false (kd acc)])
      = some (tmD c (canonF (aKeys acc) (aVal acc)), st ++ [.dct false (kd acc)]) := by
  have hk : (aKeys acc).length < 64 := by unfold aKeys; simpa using hl
  have hs : ∀ x ∈ sortS (aKeys acc), x ∈ aKeys acc := fun x hx => (sortS_perm _).mem_iff.mp hx
  have hlc := lc_map D.str (fun x => prD (x, aVal acc x)) (gNm 3) (fB (fBin neD (fDGet (fVar 2) (fVar 3)) (fC (.int 0)))) (fTup (fCons (fVar 3) (fCons (fDGet (fVar 2) (fVar 3)) fNil))) [some (.int c), e1, some (.loc st.length), none, e4] (st ++ [.dct false (kd acc)]) (fun x => decide (aVal acc x ≠ 0)) (sortS (aKeys acc)) [] (by have := (sortS_perm (aKeys acc)).length_eq; simp; omega) (fun x hx => by
    have hm := hs x hx
    obtain ⟨n, hn⟩ : ∃ n, aGet acc x = some n := by
      cases q : aGet acc x with
      | none => exact absurd hm (aGet_none.mp q)
      | some n => exact ⟨n, rfl⟩
    have hv : aVal acc x = n := by unfold aVal; rw [hn]; rfl
    refine ⟨[some (.int c), e1, some (.loc st.length), some (.str x), e4], rfl, ?_, fun _ => ?_⟩
    · simp [-neD, ne_int, last_get, kd_get, hn, hv]
      by_cases z : n = 0 <;> simp [z]
    · simp [last_get, kd_get, hn, hv, prD])
  have hlen : (List.map (fun x => prD (x, aVal acc x)) (List.filter (fun x => decide (aVal acc x ≠ 0)) (sortS (aKeys acc)))).length ≤ 100000 := by
    rw [List.length_map]
    have := (sortS_perm (aKeys acc)).length_eq
    exact Nat.le_trans (List.length_filter_le _ _) (by omega)
  simp [last_get, kd_keys, hk, hlc]
  simp [tmD, canonF]

/-! ### data read back -/
def unPr : D → Option (Str × Int)
  | .tup [.str x, .int n] => some (x, n)
  | _ => none
def asPs : List D → Option As
  | [] => some []
  | d :: ds => (unPr d).bind fun p => (asPs ds).map fun ps => p :: ps
def unTm : D → Option (Int × As)
  | .tup [.int c, .tup L] => (asPs L).map fun ps => (c, ps)
  | _ => none
theorem unPr_eq {d : D} {p : Str × Int} (h : unPr d = some p) : d = prD p := by
  unfold unPr at h
  split at h
  · cases h; rfl
  · cases h
theorem asPs_eq : ∀ {L : List D} {ps : As}, asPs L = some ps → L = ps.map prD
  | [], _, h => by cases h; rfl
  | d :: ds, _, h => by
    obtain ⟨p, e1, h⟩ := bindS h
    obtain ⟨ps, e2, e3⟩ := mapS h
    cases e3
    rw [unPr_eq e1, asPs_eq e2]
    rfl
theorem asPs_map (ps : As) : asPs (ps.map prD) = some ps := by
  induction ps with
  | nil => rfl
  | cons p ps ih =>
    show (unPr (prD p)).bind (fun p => (asPs (ps.map prD)).map fun ps => p :: ps) = _
    rw [ih]
    rfl
theorem unTm_eq {d : D} {c : Int} {ps : As} (h : unTm d = some (c, ps)) : d = tmD c ps := by
  unfold unTm at h
  split at h
  · obtain ⟨qs, e1, e2⟩ := mapS h
    cases e2
    rw [asPs_eq e1]
    rfl
  · cases h
theorem unTm_tm (c : Int) (ps : As) : unTm (tmD c ps) = some (c, ps) := by
  unfold unTm tmD
  dsimp only
  rw [asPs_map]
  rfl
theorem frz_prs (b : Nat) (st : Store) (ps : As) (k : Nat) : frzAll (frzD b st (k + 2)) (ps.map prD) = some (ps.map prD) := by
  induction ps with
  | nil => rfl
  | cons p ps ih =>
    rw [List.map_cons]
    unfold frzAll
    rw [ih]
    rfl
theorem frz_tm (b : Nat) (st : Store) (c : Int) (ps : As) : frzD b st 40 (tmD c ps) = some (tmD c ps) := by
  unfold tmD
  have h : frzD b st 39 (.tup (ps.map prD)) = some (.tup (ps.map prD)) := by
    show (frzAll (frzD b st 38) (ps.map prD)).map D.tup = _
    rw [frz_prs b st ps 36]
    rfl
  show (frzAll (frzD b st 39) [.int c, .tup (ps.map prD)]).map D.tup = _
  unfold frzAll
  rw [show frzD b st 39 (.int c) = some (.int c) from rfl]
  dsimp only [Option.bind]
  unfold frzAll
  rw [h]
  rfl
/-! ### _gathered, told once more -/
def gathKs (ps : As) : List Str := aKeys (aAdd [] ps)
def gathL (ps : As) : As := canonF (gathKs ps) (co ps)
def gath (c : Int) (ps : As) : D := tmD c (gathL ps)
theorem gathKs_nodup (ps : As) : (gathKs ps).Nodup := aAdd_nodup ps (by simp [aKeys])
theorem gathKs_mem (ps : As) (x : Str) : x ∈ gathKs ps ↔ x ∈ aKeys ps := by
  unfold gathKs
  rw [aAdd_keys]
  simp [aKeys]
theorem gathL_co (ps : As) (x : Str) : co (gathL ps) x = co ps x := canonF_co (gathKs_nodup ps) (fun x h => (gathKs_mem ps x).mpr (co_ne h)) x
theorem gathL_nodup (ps : As) : (aKeys (gathL ps)).Nodup := canonF_nodup (gathKs_nodup ps)
theorem gathL_len (ps : As) : (gathL ps).length ≤ ps.length := by
  refine Nat.le_trans (canonF_len _ _) ?_
  have := aAdd_len ps []
  unfold gathKs aKeys
  rw [List.length_map]
  simpa using this
/-- alike where the numbers are -/
theorem gathL_eq {ps qs : As} (h : ∀ x, co ps x = co qs x) : gathL ps = gathL qs :=
  canonF_eq (gathKs_nodup ps) (gathKs_nodup qs) h (fun x h => (gathKs_mem ps x).mpr (co_ne h)) (fun x h => (gathKs_mem qs x).mpr (co_ne h))
def mGath : GF := fun ds st => match ds with
  | [.int c, .lst L] => (asPs L).bind fun ps => if ps.length ≤ 60 then some (gath c ps, st) else none
  | [.int c, .loc n] => match st[n]? with
    | some (.lst L) => (asPs L).bind fun ps => if ps.length ≤ 60 then some (gath c ps, st.set n (.flst L)) else none
    | _ => none
  | _ => none
theorem ev_gath' (c : Int) (ps : As) (d : D) (st st1 : Store) (hl : ps.length ≤ 60) (hs : st1.length = st.length) (hi : ∀ e0 e2 e3 e4, fiA (fVar 1) [e0, some d, e2, e3, e4] (st ++ [.dct false []]) = some (ps.map prD, st1 ++ [.dct false []])) :
    r_gathered [.int c, d] st = some (gath c ps, st1 ++ [.dct false (kd (aAdd [] ps))]) := by
  obtain ⟨e3, e4, hloop⟩ := ev_gloop st1 (some (.int c)) (some d) ps [] none none (by simp; omega)
  have hlen := aAdd_len ps []
  have hend := ev_gend st1 c (some d) e3 e4 (aAdd [] ps) (by simp at hlen; omega)
  have hval : aVal (aAdd [] ps) = co ps := by
    funext x
    rw [aAdd_val]
    simp [aVal, aGet]
  rw [hval] at hend
  have hk : kd [] = [] := rfl
  rw [hk] at hloop
  unfold gPair bG at hloop
  have hb : b_gathered [some (.int c), some d, none, none, none] st = some (.ret (gath c ps) (st1 ++ [.dct false (kd (aAdd [] ps))])) := by
    unfold b_gathered
    simp only [fSeq, fAsg, fDNew, gNm, fRet, fFor, Option.bind_some, Option.map_some, List.set_cons_succ, List.set_cons_zero]
    rw [hi]
    simp only [Option.bind_some]
    rw [← hs]
    rw [hloop]
    simp only [Option.bind_some]
    rw [hend]
    rfl
  show (b_gathered [some (.int c), some d, none, none, none] st).bind _ = _
  rw [hb]
  rfl
theorem im_gath : ∀ ds st r, ds.length = 2 → mGath ds st = some r → trimE r_gathered ds st = some r := by
  intro ds st r _ e
  unfold mGath at e
  split at e
  · next c L _ =>
    obtain ⟨ps, e1, e⟩ := bindS e
    split at e
    · next hl =>
      cases e
      rw [asPs_eq e1]
      have hg := ev_gath' c ps (.lst (ps.map prD)) st st hl rfl fun _ _ _ _ => rfl
      unfold trimE
      rw [hg]
      dsimp only [Option.bind]
      unfold gath
      rw [frz_tm]
      dsimp only
      rw [if_pos, List.take_left]
      intro i ob hi ho
      left
      rw [List.getElem?_append_left hi] at ho
      exact ho
    · cases e
  · next c n _ =>
    split at e
    · next L hL =>
      obtain ⟨ps, e1, e⟩ := bindS e
      split at e
      · next hl =>
        cases e
        rw [asPs_eq e1] at hL ⊢
        have hn : n < st.length := (List.getElem?_eq_some_iff.mp hL).1
        have hg := ev_gath' c ps (.loc n) st (st.set n (.flst (ps.map prD))) hl (by simp) fun e0 e2 e3 e4 => by
          have h1 : (st ++ [Ob.dct false []])[n]? = some (.lst (ps.map prD)) := by rw [List.getElem?_append_left hn]; exact hL
          simp only [fiA, fVar, List.getElem?_cons_succ, List.getElem?_cons_zero, Option.bind_some]
          rw [h1]
          dsimp only
          rw [List.set_append_left _ _ hn]
        unfold trimE
        rw [hg]
        dsimp only [Option.bind]
        unfold gath
        rw [frz_tm]
        dsimp only
        have hlen : st.length = (st.set n (.flst (ps.map prD))).length := by simp
        rw [if_pos]
        · rw [hlen, List.take_left]
        · intro i ob hi ho
          rw [List.getElem?_append_left (by simpa using hi)] at ho
          by_cases q : i = n
          · subst q
            right
            rw [List.getElem?_set_self hn] at ho
            cases ho
            exact frz_prs _ _ ps 38
          · left
            rw [List.getElem?_set_ne (fun z => q z.symm)] at ho
            exact ho
      · cases e
    · cases e
  · cases e
/-- how great the numbers of a term are, and how many -/
structure Sm (B : Nat) (c : Int) (ps : As) : Prop where
  c : c.natAbs ≤ B
  n : ∀ p ∈ ps, p.2.natAbs ≤ B
theorem mul_sm {a b : Int} (ha : a.natAbs ≤ 10 ^ 50) (hb : b.natAbs ≤ 10 ^ 50) : mulOk a b = true := by
  have l : ∀ {i : Int}, i.natAbs ≤ 10 ^ 50 → i.natAbs.log2 < 200 := fun {i} h => by
    by_cases z : i.natAbs = 0
    · rw [z]; decide
    · rw [Nat.log2_lt z]
      exact Nat.lt_of_le_of_lt h (by decide)
  have h1 := l ha
  have h2 := l hb
  unfold mulOk
  have h3 : a.natAbs.log2 + b.natAbs.log2 < 1000000 := by omega
  simp [h3]
theorem asPs_im {c : Int} {ps : As} {st : Store} (hl : ps.length ≤ 60) : mGath [.int c, .lst (ps.map prD)] st = some (gath c ps, st) := by
  unfold mGath
  dsimp only
  rw [asPs_map]
  dsimp only [Option.bind]
  rw [if_pos hl]
theorem ix0 (st : Store) (a b : D) : ixD st (.tup [a, b]) (.int 0) = some a := rfl
theorem ix1 (st : Store) (a b : D) : ixD st (.tup [a, b]) (.int 1) = some b := rfl
def scL (ps : As) (m : Int) : As := ps.map fun p => (p.1, p.2 * m)
theorem co_scL (ps : As) (m : Int) (x : Str) : co (scL ps m) x = co ps x * m := by
  induction ps with
  | nil => simp [scL, co]
  | cons p ps ih =>
    have : scL (p :: ps) m = (p.1, p.2 * m) :: scL ps m := rfl
    rw [this]
    simp only [co, ih, Int.add_mul]
    split <;> simp
def mScaled : GF := fun ds st => match ds with
  | [a, .int m] => (unTm a).bind fun x => if x.2.length ≤ 60 ∧ mulOk x.1 m = true ∧ x.2.all (fun p => mulOk p.2 m) = true then some (gath (x.1 * m) (scL x.2 m), st) else none
  | _ => none
theorem im_scaled : ∀ ds st r, ds.length = 2 → mScaled ds st = some r → r_scaled mGath ds st = some r := by
  intro ds st r _ e
  unfold mScaled at e
  split at e
  · next a m _ =>
    obtain ⟨⟨c1, ps⟩, e1, e⟩ := bindS e
    split at e
    · next hl =>
      cases e
      obtain ⟨hl, h1, h2⟩ := hl
      rw [unTm_eq e1]
      dsimp only at hl h1 h2 ⊢
      have hlen : (scL ps m).length ≤ 60 := by unfold scL; rw [List.length_map]; exact hl
      have h := asPs_im (c := c1 * m) (ps := scL ps m) (st := st) hlen
      have hlc := lc_map prD (fun p => prD (p.1, p.2 * m)) (gTp (gsCons (gNm 2) (gsCons (gNm 3) gsNil))) fTYes (fTup (fCons (fVar 2) (fCons (fBin mulD (fVar 3) (fVar 1)) fNil))) [some (tmD c1 ps), some (.int m), none, none] st (fun _ => true) ps [] (by simp; omega) (fun p hp => by
        have hm : mulOk p.2 m = true := List.all_eq_true.mp h2 p hp
        refine ⟨[some (tmD c1 ps), some (.int m), some (.str p.1), some (.int p.2)], rfl, rfl, fun _ => ?_⟩
        simp [hm, prD])
      have hm : (scL ps m).map prD = ps.map fun p => prD (p.1, p.2 * m) := by unfold scL; rw [List.map_map]; rfl
      rw [hm] at h
      have hft : ps.filter (fun _ => true) = ps := List.filter_eq_self.mpr (by simp)
      rw [hft, List.nil_append] at hlc
      unfold tmD at hlc
      unfold r_scaled b_scaled tmD
      simp [-ixD, ix0, ix1, h1, hlc, h, List.replicate]
    · cases e
  · cases e
theorem merge_len (more : As) : ∀ acc : As, (aMerge acc more).length ≤ acc.length + more.length := by
  induction more with
  | nil => intro acc; simp [aMerge]
  | cons p more ih =>
    intro acc
    have h1 := ih (aPut acc p.1 p.2)
    have h2 := len_put acc p.1 p.2
    show (aMerge (aPut acc p.1 p.2) more).length ≤ _
    simp only [List.length_cons]
    omega
theorem two_get0 (st : Store) (x y : Ob) : (st ++ [x, y])[st.length]? = some x := by simp
theorem two_get1 (st : Store) (x y : Ob) : (st ++ [x, y])[st.length + 1]? = some y := by simp
theorem two_set0 (st : Store) (x y z : Ob) : (st ++ [x, y]).set st.length z = st ++ [z, y] := by simp
theorem two_set1 (st : Store) (x y z : Ob) : (st ++ [x, y]).set (st.length + 1) z = st ++ [x, z] := by
  rw [List.set_append_right _ _ (by omega)]
  have : st.length + 1 - st.length = 1 := by omega
  rw [this]
  rfl
def scR (ps : As) (s : Int) : As := ps.map fun p => (p.1, s * p.2)
/-! ### what the two sides tell is the same -/
structure Wf (ps : As) : Prop where
  nd : (aKeys ps).Nodup
  ne : ("" : Str) ∉ aKeys ps
theorem co_zero {ps : As} {x : Str} (h : x ∉ aKeys ps) : co ps x = 0 := Classical.byContradiction fun z => h (co_ne z)
theorem co_scR (ps : As) (s : Int) (x : Str) : co (scR ps s) x = s * co ps x := by
  induction ps with
  | nil => simp [scR, co]
  | cons p ps ih =>
    have : scR (p :: ps) s = (p.1, s * p.2) :: scR ps s := rfl
    rw [this]
    simp only [co, ih, Int.mul_add]
    split <;> simp
theorem gathL_nil {T : As} (h : ∀ x, co T x = 0) : gathL T = [] := by
  unfold gathL canonF
  rw [List.filter_eq_nil_iff.mpr]
  · rfl
  · intro x _
    simp [h x]
theorem gathL_mem {T : As} {p : Str × Int} (h : p ∈ gathL T) : p.1 ∈ aKeys T ∧ p.2 = co T p.1 ∧ p.2 ≠ 0 := by
  unfold gathL canonF at h
  rw [List.mem_map] at h
  obtain ⟨x, hx, rfl⟩ := h
  rw [List.mem_filter] at hx
  refine ⟨(gathKs_mem T x).mp ((sortS_perm _).mem_iff.mp hx.1), rfl, by simpa using hx.2⟩
theorem gathL_wf {T : As} (h : ("" : Str) ∉ aKeys T) : Wf (gathL T) := ⟨gathL_nodup T, fun hm => by
  unfold aKeys at hm
  rw [List.mem_map] at hm
  obtain ⟨p, hp, e⟩ := hm
  have := (gathL_mem hp).1
  rw [e] at this
  exact h this⟩
theorem co_bd {ps : As} {B : Nat} (h : ∀ p ∈ ps, p.2.natAbs ≤ B) (x : Str) : (co ps x).natAbs ≤ ps.length * B := by
  induction ps with
  | nil => simp [co]
  | cons p ps ih =>
    have h1 := ih fun q hq => h q (by simp [hq])
    have h2 := h p (by simp)
    simp only [co, List.length_cons]
    have h3 : ((if p.1 = x then p.2 else 0) : Int).natAbs ≤ B := by split <;> simp [h2]
    have h4 := Int.natAbs_add_le (if p.1 = x then p.2 else 0) (co ps x)
    have h5 : (ps.length + 1) * B = ps.length * B + B := Nat.succ_mul _ _
    omega
def unKd : List (Key × D) → Option As
  | [] => some []
  | (.inr x, .int n) :: r => (unKd r).map fun ps => (x, n) :: ps
  | _ :: _ => none
theorem unKd_eq : ∀ {kvs : List (Key × D)} {ps : As}, unKd kvs = some ps → kvs = kd ps
  | [], _, h => by cases h; rfl
  | (.inr x, .int n) :: r, _, h => by
    obtain ⟨ps, e1, e2⟩ := mapS h
    cases e2
    rw [unKd_eq e1]
    rfl
  | (.inl _, _) :: _, _, h => by cases h
  | (.inr _, .non) :: _, _, h => by cases h
  | (.inr _, .bl _) :: _, _, h => by cases h
  | (.inr _, .str _) :: _, _, h => by cases h
  | (.inr _, .tup _) :: _, _, h => by cases h
  | (.inr _, .otp _) :: _, _, h => by cases h
  | (.inr _, .lst _) :: _, _, h => by cases h
  | (.inr _, .frz _) :: _, _, h => by cases h
  | (.inr _, .loc _) :: _, _, h => by cases h
  | (.inr _, .ty _) :: _, _, h => by cases h
  | (.inr _, .glb _) :: _, _, h => by cases h
theorem unKd_kd (ps : As) : unKd (kd ps) = some ps := by
  induction ps with
  | nil => rfl
  | cons p ps ih =>
    show (unKd (kd ps)).map (fun ps => (p.1, p.2) :: ps) = _
    rw [ih]
    rfl
def tdF (m : As) (x : Str) : Int := if x = "" then 0 else aVal m x
theorem fil {α : Type} (l : List α) : l.filter (fun _ => true) = l := List.filter_eq_self.mpr (by simp)

/-! ### what is drawn -/
def mixM (m : Int) : Int := (m * 48271 + 11) % 2147483647
def takeD (g m k : Int) : Int := if 0 < g then g % k else (mixM m * mixM m % 2147483629).fdiv 16 % k
def takeG (g k : Int) : Int := if 0 < g then g.fdiv k else g
def takeM (g m : Int) : Int := if 0 < g then m else mixM m
def mTake : GF := fun ds st => match ds with
  | [.loc n, .int k] => match st[n]? with
    | some (.lst [.int g, .int m]) => if 0 < k ∧ k ≤ 1000 then some (.int (takeD g m k), st.set n (.lst [.int (takeG g k), .int (takeM g m)])) else none
    | _ => none
  | _ => none
theorem mulS {i j : Int} (h : j.natAbs < 2 ^ 64) : mulOk i j = true := by unfold mulOk; simp [h]
theorem mulS' {i j : Int} (h : i.natAbs < 2 ^ 64) : mulOk i j = true := by unfold mulOk; simp [h]
theorem mixM_lt (m : Int) : 0 ≤ mixM m ∧ mixM m < 2147483647 := by unfold mixM; omega
theorem im_take : ∀ ds st r, ds.length = 2 → mTake ds st = some r → r_law_take ds st = some r := by
  intro ds st r _ e
  unfold mTake at e
  split at e
  · next n k _ =>
    split at e
    · next g m hst =>
      split at e
      · next hk =>
        cases e
        obtain ⟨hk1, hk2⟩ := hk
        have hn : n < st.length := (List.getElem?_eq_some_iff.mp hst).1
        have d1 : divOk k = true := by
          unfold divOk
          have h11 : k.natAbs.log2 < 11 := PySem.Flt.log2_lt_of (by decide) (show k.natAbs < 2 ^ 11 by omega)
          have h12 : k.natAbs.log2 < 9000 := by omega
          have h13 : k ≠ 0 := by omega
          simp [h12, h13]
        have d2 : divOk 16 = true := by decide +kernel
        have m1 : mulOk m 48271 = true := mulS (by decide)
        have hm := mixM_lt m
        have m2 : mulOk (mixM m) (mixM m) = true := mulS (by omega)
        have m2' : mulOk ((m * 48271 + 11) % 2147483647) ((m * 48271 + 11) % 2147483647) = true := m2
        have hset : ∀ x, (st.set n x)[n]? = some x := fun x => by simp [hn]
        clear hn
        by_cases hg : 0 < g
        · simp [b_law_take, hst, atI, ixN, hg, hk1, d1, takeD, takeG, takeM, hset]
        · simp [b_law_take, hst, atI, ixN, hg, hk1, d2, m1, m2', takeD, takeG, takeM, hset, mixM]
      · cases e
    · cases e
  · cases e
theorem takeD_lt (g m : Int) {k : Int} (hk : 0 < k) : 0 ≤ takeD g m k ∧ takeD g m k < k := by
  unfold takeD
  split
  · exact ⟨Int.emod_nonneg _ (by omega), Int.emod_lt_of_pos _ hk⟩
  · exact ⟨Int.emod_nonneg _ (by omega), Int.emod_lt_of_pos _ hk⟩
theorem take_ev {n : Nat} {k g m : Int} {st : Store} (h : st[n]? = some (.lst [.int g, .int m])) (h1 : 0 < k) (h2 : k ≤ 1000) : ∃ j g' m', 0 ≤ j ∧ j < k ∧ mTake [.loc n, .int k] st = some (.int j, st.set n (.lst [.int g', .int m'])) := by
  refine ⟨takeD g m k, takeG g k, takeM g m, (takeD_lt g m h1).1, (takeD_lt g m h1).2, ?_⟩
  unfold mTake
  simp only [h, h1, h2, and_self, if_true]
/-- a pool stands there -/
def Pl (Z : Store) (n : Nat) : Prop := ∃ g m, Z[n]? = some (.lst [.int g, .int m])
theorem take_st {n : Nat} {k : Int} {Z : Store} (h : Pl Z n) (h1 : 0 < k) (h2 : k ≤ 1000) : ∃ j Z', 0 ≤ j ∧ j < k ∧ mTake [.loc n, .int k] Z = some (.int j, Z') ∧ Pl Z' n ∧ Z'.length = Z.length ∧ ∀ i, i ≠ n → Z'[i]? = Z[i]? := by
  obtain ⟨g, m, h⟩ := h
  obtain ⟨j, g', m', j1, j2, e⟩ := take_ev h h1 h2
  have hn : n < Z.length := (List.getElem?_eq_some_iff.mp h).1
  exact ⟨j, _, j1, j2, e, ⟨g', m', by simp [hn]⟩, by simp, fun i hi => by rw [List.getElem?_set_ne (fun z => hi z.symm)]⟩
def names6 : List Str := ["a", "b", "c", "i", "abc", "zzzzzz"]
def vals7 : List Int := [1, 1, -1, 2, -3, 7, 10 ^ 20]
def cons6 : List Int := [0, 0, 1, -2, 5, -(10 ^ 20)]
theorem ix_names (st : Store) {i : Int} (h0 : 0 ≤ i) (h1 : i < 6) : ∃ x, x ∈ names6 ∧ ixD st (.lst [.str "a", .str "b", .str "c", .str "i", .str "abc", .str "zzzzzz"]) (.int i) = some (.str x) := by
  have : i = 0 ∨ i = 1 ∨ i = 2 ∨ i = 3 ∨ i = 4 ∨ i = 5 := by omega
  rcases this with rfl | rfl | rfl | rfl | rfl | rfl <;> exact ⟨_, by simp [names6], rfl⟩
theorem ix_vals (st : Store) {i : Int} (h0 : 0 ≤ i) (h1 : i < 7) : ∃ x, x ∈ vals7 ∧ ixD st (.lst [.int 1, .int 1, .int (-1), .int 2, .int (-3), .int 7, .int 100000000000000000000]) (.int i) = some (.int x) := by
  have : i = 0 ∨ i = 1 ∨ i = 2 ∨ i = 3 ∨ i = 4 ∨ i = 5 ∨ i = 6 := by omega
  rcases this with rfl | rfl | rfl | rfl | rfl | rfl | rfl <;> exact ⟨_, by simp [vals7], rfl⟩
theorem ix_cons (st : Store) {i : Int} (h0 : 0 ≤ i) (h1 : i < 6) : ∃ x, x ∈ cons6 ∧ ixD st (.lst [.int 0, .int 0, .int 1, .int (-2), .int 5, .int (-100000000000000000000)]) (.int i) = some (.int x) := by
  have : i = 0 ∨ i = 1 ∨ i = 2 ∨ i = 3 ∨ i = 4 ∨ i = 5 := by omega
  rcases this with rfl | rfl | rfl | rfl | rfl | rfl <;> exact ⟨_, by simp [cons6], rfl⟩
/-- what a drawn term's rows are -/
structure Ok (acc : As) : Prop where
  nd : (aKeys acc).Nodup
  ks : ∀ x ∈ aKeys acc, x ∈ names6
  vs : ∀ p ∈ acc, p.2 ∈ vals7
theorem ok_put {acc : As} (h : Ok acc) {x : Str} {v : Int} (hx : x ∈ names6) (hv : v ∈ vals7) : Ok (aPut acc x v) := by
  refine ⟨nodup_put h.nd x v, fun y hy => ?_, fun p hp => ?_⟩
  · rw [aKeys_put] at hy
    split at hy
    · exact h.ks y hy
    · rcases List.mem_append.mp hy with hy | hy
      · exact h.ks y hy
      · rw [List.mem_singleton.mp hy]; exact hx
  · unfold aPut at hp
    split at hp
    · obtain ⟨q, hq, e⟩ := List.mem_map.mp hp
      split at e
      · rw [← e]; exact hv
      · rw [← e]; exact h.vs q hq
    · rcases List.mem_append.mp hp with hp | hp
      · exact h.vs p hp
      · rw [List.mem_singleton.mp hp]; exact hv
def bT : FS := (fDPut (fBin ixD (fLst (fCons (fC (.int 1)) (fCons (fC (.int 1)) (fCons (fUn negD (fC (.int 1))) (fCons (fC (.int 2)) (fCons (fUn negD (fC (.int 3))) (fCons (fC (.int 7)) (fCons (fBin powD (fC (.int 10)) (fC (.int 20))) fNil)))))))) (fCall mTake (fCons (fVar 0) (fCons (fC (.int 7)) fNil)))) (fVar 3) (fBin ixD (fVar 2) (fCall mTake (fCons (fVar 0) (fCons (fC (.int 6)) fNil)))))
def nmD : D := .lst [.str "a", .str "b", .str "c", .str "i", .str "abc", .str "zzzzzz"]
theorem ev_tstep (n k : Nat) (hnk : n ≠ k) (Z : Store) (acc : As) (e1 e4 e5 : Option D) (hp : Pl Z n) (hd : Z[k]? = some (.dct false (kd acc))) (hl : acc.length < 1000) :
    ∃ x v Z', x ∈ names6 ∧ v ∈ vals7 ∧ Pl Z' n ∧ Z'[k]? = some (.dct false (kd (aPut acc x v))) ∧ Z'.length = Z.length ∧
      bT [some (.loc n), e1, some nmD, some (.loc k), e4, e5] Z = some (.nx [some (.loc n), e1, some nmD, some (.loc k), e4, e5] Z') := by
  obtain ⟨j1, Z1, a1, b1, t1, p1, l1, o1⟩ := take_st (k := 7) hp (by decide) (by decide)
  obtain ⟨j2, Z2, a2, b2, t2, p2, l2, o2⟩ := take_st (k := 6) p1 (by decide) (by decide)
  obtain ⟨v, hv, iv⟩ := ix_vals Z1 a1 b1
  obtain ⟨x, hx, ix⟩ := ix_names Z2 a2 b2
  have d2 : Z2[k]? = some (.dct false (kd acc)) := by rw [o2 k (fun z => hnk z.symm), o1 k (fun z => hnk z.symm)]; exact hd
  have hk : k < Z2.length := (List.getElem?_eq_some_iff.mp d2).1
  have hkl : (kd acc).length < 100000 := by rw [kd_len]; omega
  refine ⟨x, v, Z2.set k (.dct false (kd (aPut acc x v))), hx, hv, ?_, by simp [hk], by rw [List.length_set, l2, l1], ?_⟩
  · obtain ⟨g, m, h⟩ := p2
    exact ⟨g, m, by rw [List.getElem?_set_ne (fun z => hnk z.symm)]; exact h⟩
  · unfold bT nmD
    clear hk
    simp [-ixD, t1, t2, iv, ix, d2, hkl, kd_put]
theorem ev_tloop (n k : Nat) (hnk : n ≠ k) (e1 e5 : Option D) : ∀ (ts : List D) (Z : Store) (acc : As) (e4 : Option D), Pl Z n → Z[k]? = some (.dct false (kd acc)) → acc.length + ts.length < 1000 → Ok acc →
    ∃ Z' acc' e4', Pl Z' n ∧ Z'[k]? = some (.dct false (kd acc')) ∧ Ok acc' ∧ acc'.length ≤ acc.length + ts.length ∧ Z'.length = Z.length ∧
      fLoop (gNm 4) bT ts [some (.loc n), e1, some nmD, some (.loc k), e4, e5] Z = some (.nx [some (.loc n), e1, some nmD, some (.loc k), e4', e5] Z')
  | [], Z, acc, e4, hp, hd, _, ok => ⟨Z, acc, e4, hp, hd, ok, by simp, rfl, rfl⟩
  | t :: ts, Z, acc, e4, hp, hd, hl, ok => by
    simp only [List.length_cons] at hl
    obtain ⟨x, v, Z1, hx, hv, p1, d1, l1, st⟩ := ev_tstep n k hnk Z acc e1 (some t) e5 hp hd (by omega)
    have h2 := len_put acc x v
    obtain ⟨Z2, acc2, e4', p2, d2, ok2, lacc, l2, ih⟩ := ev_tloop n k hnk e1 e5 ts Z1 (aPut acc x v) (some t) p1 d1 (by omega) (ok_put ok hx hv)
    refine ⟨Z2, acc2, e4', p2, d2, ok2, by simp only [List.length_cons]; omega, l2.trans l1, ?_⟩
    unfold fLoop
    rw [show gNm 4 t [some (.loc n), e1, some nmD, some (.loc k), e4, e5] = some [some (.loc n), e1, some nmD, some (.loc k), some t, e5] from rfl]
    dsimp only [Option.bind]
    rw [st]
    exact ih

def NmOk (ps : As) : Prop := ∀ p ∈ ps, p.1 ∈ names6
def ppD (p : Str × Int) : PyData := .tuple [.str p.1, .int p.2]
def tmP (c : Int) (ps : As) : PyData := .tuple [.int c, .tuple (ps.map ppD)]
theorem toPDs_prs (ps : As) : toPDs (ps.map prD) = some (ps.map ppD) := by
  induction ps with
  | nil => rfl
  | cons p ps ih =>
    rw [List.map_cons]
    unfold toPDs
    rw [ih]
    rfl
theorem toPD_tm (c : Int) (ps : As) : toPD (tmD c ps) = some (tmP c ps) := by
  unfold tmD tmP
  simp [toPDs_prs]
theorem topPD_tm (st : Store) (c : Int) (ps : As) : topPD st (tmD c ps) = some (tmP c ps) := toPD_tm c ps
theorem names_ok : ∀ x ∈ names6, PyData.strOk x = true := by decide +kernel
theorem prs_lay : ∀ ps : As, NmOk ps → PyData.canLayAll0 (ps.map ppD) = true
  | [], _ => rfl
  | p :: ps, h => by
    rw [List.map_cons]
    unfold PyData.canLayAll0
    rw [prs_lay ps fun q hq => h q (by simp [hq])]
    have := names_ok p.1 (h p (by simp))
    simp [ppD, PyData.canLay0, PyData.canLayAll0, this]
theorem prs_dep : ∀ ps : As, PyData.depthAll (ps.map ppD) ≤ 1
  | [] => by simp [PyData.depthAll]
  | p :: ps => by
    rw [List.map_cons]
    unfold PyData.depthAll
    have := prs_dep ps
    have h1 : (ppD p).depth = 1 := by simp [ppD, PyData.depth, PyData.depthAll]
    omega
theorem shaped_prs {ps : As} (h : NmOk ps) : SeqAt.shaped (.tuple (ps.map ppD)) = true := by
  have h1 := prs_lay ps h
  have h2 := prs_dep ps
  unfold SeqAt.shaped
  unfold PyData.canLay0 PyData.depth
  rw [h1]
  simp
  omega
theorem shaped_tm {c : Int} {ps : As} (h : NmOk ps) : SeqAt.shaped (tmP c ps) = true := by
  have h1 := prs_lay ps h
  have h2 := prs_dep ps
  unfold SeqAt.shaped tmP
  simp [PyData.canLay0, PyData.canLayAll0, PyData.depth, PyData.depthAll, h1]
  omega
theorem eqv_prs : ∀ ps : As, PyData.eqvAll (ps.map ppD) (ps.map ppD) = true
  | [] => by simp [PyData.eqvAll]
  | p :: ps => by
    rw [List.map_cons]
    unfold PyData.eqvAll
    rw [eqv_prs ps]
    simp [ppD, PyData.eqv, PyData.eqvAll]
theorem eqv_tm (c : Int) (ps : As) : (tmP c ps).eqv (tmP c ps) = true := by
  unfold tmP
  simp [PyData.eqv, PyData.eqvAll, eqv_prs]
theorem eqv_nil (ps : As) : (PyData.tuple (ps.map ppD)).eqv (.tuple []) = ps.isEmpty := by
  cases ps with
  | nil => simp [PyData.eqv, PyData.eqvAll]
  | cons p ps => simp [PyData.eqv, PyData.eqvAll]
theorem eqv_nought (c : Int) (ps : As) : (tmP c ps).eqv (.tuple [.int 0, .tuple []]) = ((c == 0) && ps.isEmpty) := by
  have := eqv_nil ps
  unfold tmP
  simp [PyData.eqv, PyData.eqvAll] at this ⊢
  rw [this]
theorem eq_tm (st : Store) {c : Int} {ps : As} (h : NmOk ps) : neD st (tmD c ps) (tmD c ps) = some (.bl false) := by
  show neG st (tmD c ps) (tmD c ps) = _
  unfold neG
  rw [topPD_tm]
  dsimp only [Option.bind]
  rw [if_pos ⟨shaped_tm h, shaped_tm h⟩, eqv_tm]
  rfl
def nought : D := .tup [.int 0, .tup []]
theorem eq_nought (st : Store) {c : Int} {ps : As} (h : NmOk ps) : eqD st (tmD c ps) nought = some (.bl ((c == 0) && ps.isEmpty)) := by
  show eqG st (tmD c ps) (tmD 0 []) = _
  unfold eqG
  rw [topPD_tm, topPD_tm]
  dsimp only [Option.bind]
  rw [if_pos ⟨shaped_tm h, shaped_tm (by simp [NmOk])⟩]
  show some (D.bl ((tmP c ps).eqv (.tuple [.int 0, .tuple []]))) = _
  rw [eqv_nought]
theorem eq_empty (st : Store) {ps : As} (h : NmOk ps) : eqD st (.tup (ps.map prD)) (.tup []) = some (.bl ps.isEmpty) := by
  show eqG st (.tup (ps.map prD)) (.tup []) = _
  unfold eqG
  have : topPD st (.tup (ps.map prD)) = some (.tuple (ps.map ppD)) := by
    show toPD (.tup (ps.map prD)) = _
    simp [toPDs_prs]
  rw [this]
  dsimp only [Option.bind]
  have h2 : topPD st (.tup []) = some (.tuple []) := rfl
  rw [h2]
  dsimp only
  rw [if_pos ⟨shaped_prs h, by decide +kernel⟩, eqv_nil]

theorem cut_ints (ns : List Int) (lo hi : Option Int) : ∃ l : List Int, PU.cutD (ns.map D.int) lo hi = l.map D.int ∧ l.length ≤ ns.length := by
  refine ⟨(ns.drop (HT.sIx ns.length 0 lo)).take (HT.sIx ns.length ns.length hi - HT.sIx ns.length 0 lo), ?_, ?_⟩
  · unfold PU.cutD
    rw [List.length_map, List.map_take, List.map_drop]
  · rw [List.length_take, List.length_drop]
    omega
theorem ev_pool (ns : List Int) (hns : ns.length ≤ 63) (k : Nat) (st : Store) (hk : k ≤ 30) : ∃ a b, r_law_pool [.frz (ns.map D.int), .int (k : Int)] st = some (.loc st.length, st ++ [.lst [.int a, .int b]]) := by
  obtain ⟨l, hl, hlen⟩ := cut_ints ns (some (k : Int)) (some ((k : Int) + 1))
  have hsum : l.length + 1 ≤ 100000 := by omega
  have hix : ∃ x : Int, ixD st (.lst (l.map D.int ++ [.int 0])) (.int 0) = some (.int x) := by
    cases l with
    | nil => exact ⟨0, rfl⟩
    | cons x l => exact ⟨x, by simp [atI, ixN]⟩
  obtain ⟨x, hx⟩ := hix
  have m2 : mulOk 7919 (k : Int) = true := mulS' (by decide)
  have m3 : mulOk (7919 * (k : Int)) (k : Int) = true := mulS (by omega)
  have m4 : mulOk 47 (k : Int) = true := mulS' (by decide)
  have m5 : ∀ i, mulOk i 48271 = true := fun j => mulS (by decide)
  have m6 : ∀ i : Int, mulOk (i % 2147483647) (i % 2147483647) = true := fun i => mulS (by omega)
  have m8 : ∀ (i : Int) (p : Prop) [Decidable p], mulOk i (if p then 1 else 0) = true := fun i p _ => mulS (by split <;> decide)
  refine ⟨(if -1 - x > x then -1 - x else x) * (if 10 ^ 18 ≤ (if -1 - x > x then -1 - x else x) then 1 else 0), (((if -1 - x > x then -1 - x else x) % 2147483629 + 7919 * k * k + 47 * k + 19) * 48271 % 2147483647) * (((if -1 - x > x then -1 - x else x) % 2147483629 + 7919 * k * k + 47 * k + 19) * 48271 % 2147483647) % 2147483629, ?_⟩
  simp [-ixD, b_law_pool, hl, hsum, hx, m2, m3, m4, m5, m6, m8, List.replicate]
def Bds (B : Nat) (ps : As) : Prop := ∀ p ∈ ps, p.2.natAbs ≤ B
theorem names_ok2 : ∀ x ∈ names6, okD (.str x) = true := by decide +kernel
theorem ok_prs {ps : As} (h : NmOk ps) (hb : Bds (10 ^ 99) ps) : okDs (ps.map prD) = true ∧ cntNs (ps.map prD) = 3 * ps.length ∧ depNs (ps.map prD) ≤ 1 := by
  induction ps with
  | nil => exact ⟨rfl, rfl, Nat.zero_le _⟩
  | cons p ps ih =>
    obtain ⟨i1, i2, i3⟩ := ih (fun q hq => h q (by simp [hq])) (fun q hq => hb q (by simp [hq]))
    have h1 := names_ok2 p.1 (h p (by simp))
    have h2 := hb p (by simp)
    have h3 : p.2.natAbs < 10 ^ 100 := Nat.lt_of_le_of_lt h2 (by decide)
    have h4 : okD (.int p.2) = true := by unfold okD; exact decide_eq_true h3
    have h5 : okD (prD p) = true := by
      unfold prD okD okDs okDs okDs
      rw [h1, h4]
      rfl
    rw [List.map_cons]
    refine ⟨?_, ?_, ?_⟩
    · unfold okDs; rw [h5, i1]; rfl
    · unfold cntNs
      rw [i2]
      simp [prD]
      omega
    · unfold depNs
      have : depN (prD p) = 1 := by simp [prD]
      omega
theorem ok_tm {c : Int} {ps : As} (h : NmOk ps) (hc : c.natAbs ≤ 10 ^ 99) (hb : Bds (10 ^ 99) ps) : okD (tmD c ps) = true ∧ cntN (tmD c ps) = 3 * ps.length + 3 ∧ depN (tmD c ps) ≤ 3 := by
  obtain ⟨i1, i2, i3⟩ := ok_prs h hb
  have h3 : c.natAbs < 10 ^ 100 := Nat.lt_of_le_of_lt hc (by decide)
  have h4 : okD (.int c) = true := by unfold okD; exact decide_eq_true h3
  refine ⟨?_, ?_, ?_⟩
  · unfold tmD okD okDs okDs okDs okD
    rw [decide_eq_true h3, i1]
    rfl
  · simp [tmD, i2]
    omega
  · simp [tmD]
    omega
theorem mScaled_ev (st : Store) {c m : Int} {ps : As} (hl : ps.length ≤ 60) (h1 : mulOk c m = true) (h2 : ps.all (fun p => mulOk p.2 m) = true) : mScaled [tmD c ps, .int m] st = some (gath (c * m) (scL ps m), st) := by
  unfold mScaled
  dsimp only
  rw [unTm_tm]
  dsimp only [Option.bind]
  rw [if_pos ⟨hl, h1, h2⟩]
theorem scL_len (ps : As) (m : Int) : (scL ps m).length = ps.length := by unfold scL; simp
end K08
set_option Elab.async false
set_option linter.all false
set_option maxRecDepth 100000
set_option maxHeartbeats 4000000
set_option exponentiation.threshold 100000
namespace K08
open PySem PySem.Spec PyProof.Rows L2 PU
/-! ### what stays where a term is drawn -/
structure Same (n : Nat) (st st' : Store) : Prop where
  len : st.length ≤ st'.length
  get : ∀ i, i < st.length → i ≠ n → st'[i]? = st[i]?
theorem Same.refl (n : Nat) (st : Store) : Same n st st := ⟨Nat.le_refl _, fun _ _ _ => rfl⟩
theorem Same.trans {n : Nat} {a b c : Store} (x : Same n a b) (y : Same n b c) : Same n a c := ⟨Nat.le_trans x.len y.len, fun i hi h => (y.get i (Nat.lt_of_lt_of_le hi x.len) h).trans (x.get i hi h)⟩
theorem pl_lt {st : Store} {n : Nat} (hp : Pl st n) : n < st.length := by obtain ⟨g, m, h⟩ := hp; exact (List.getElem?_eq_some_iff.mp h).1
theorem pl_app {st : Store} {n : Nat} (hp : Pl st n) (x : List Ob) : Pl (st ++ x) n := by
  have hn := pl_lt hp
  obtain ⟨g, m, h⟩ := hp
  exact ⟨g, m, by rw [List.getElem?_append_left hn]; exact h⟩
theorem take_same {n : Nat} {k : Int} {Z : Store} (h : Pl Z n) (h1 : 0 < k) (h2 : k ≤ 1000) : ∃ j Z', 0 ≤ j ∧ j < k ∧ mTake [.loc n, .int k] Z = some (.int j, Z') ∧ Pl Z' n ∧ Same n Z Z' ∧ Z'.length = Z.length := by
  obtain ⟨j, Z', a, b, c, d, e, f⟩ := take_st h h1 h2
  exact ⟨j, Z', a, b, c, d, ⟨Nat.le_of_eq e.symm, fun i _ h => f i h⟩, e⟩
theorem ev_tstep' (n k : Nat) (hnk : n ≠ k) (Z : Store) (acc : As) (e1 e4 e5 : Option D) (hp : Pl Z n) (hd : Z[k]? = some (.dct false (kd acc))) (hl : acc.length < 1000) :
    ∃ x v Z', x ∈ names6 ∧ v ∈ vals7 ∧ Pl Z' n ∧ Z'[k]? = some (.dct false (kd (aPut acc x v))) ∧ Z'.length = Z.length ∧ (∀ i, i ≠ n → i ≠ k → Z'[i]? = Z[i]?) ∧
      bT [some (.loc n), e1, some nmD, some (.loc k), e4, e5] Z = some (.nx [some (.loc n), e1, some nmD, some (.loc k), e4, e5] Z') := by
  obtain ⟨j1, Z1, a1, b1, t1, p1, l1, o1⟩ := take_st (k := 7) hp (by decide) (by decide)
  obtain ⟨j2, Z2, a2, b2, t2, p2, l2, o2⟩ := take_st (k := 6) p1 (by decide) (by decide)
  obtain ⟨v, hv, iv⟩ := ix_vals Z1 a1 b1
  obtain ⟨x, hx, ix⟩ := ix_names Z2 a2 b2
  have d2 : Z2[k]? = some (.dct false (kd acc)) := by rw [o2 k (fun z => hnk z.symm), o1 k (fun z => hnk z.symm)]; exact hd
  have hk : k < Z2.length := (List.getElem?_eq_some_iff.mp d2).1
  have hkl : (kd acc).length < 100000 := by rw [kd_len]; omega
  refine ⟨x, v, Z2.set k (.dct false (kd (aPut acc x v))), hx, hv, ?_, by simp [hk], by rw [List.length_set, l2, l1], ?_, ?_⟩
  · obtain ⟨g, m, h⟩ := p2
    exact ⟨g, m, by rw [List.getElem?_set_ne (fun z => hnk z.symm)]; exact h⟩
  · intro i h1 h2
    rw [List.getElem?_set_ne (fun z => h2 z.symm), o2 i h1, o1 i h1]
  · unfold bT nmD
    clear hk
    simp [-ixD, t1, t2, iv, ix, d2, hkl, kd_put]
theorem ev_tloop' (n k : Nat) (hnk : n ≠ k) (e1 e5 : Option D) : ∀ (ts : List D) (Z : Store) (acc : As) (e4 : Option D), Pl Z n → Z[k]? = some (.dct false (kd acc)) → acc.length + ts.length < 1000 → Ok acc →
    ∃ Z' acc' e4', Pl Z' n ∧ Z'[k]? = some (.dct false (kd acc')) ∧ Ok acc' ∧ acc'.length ≤ acc.length + ts.length ∧ Z'.length = Z.length ∧ (∀ i, i ≠ n → i ≠ k → Z'[i]? = Z[i]?) ∧
      fLoop (gNm 4) bT ts [some (.loc n), e1, some nmD, some (.loc k), e4, e5] Z = some (.nx [some (.loc n), e1, some nmD, some (.loc k), e4', e5] Z')
  | [], Z, acc, e4, hp, hd, _, ok => ⟨Z, acc, e4, hp, hd, ok, by simp, rfl, fun _ _ _ => rfl, rfl⟩
  | t :: ts, Z, acc, e4, hp, hd, hl, ok => by
    simp only [List.length_cons] at hl
    obtain ⟨x, v, Z1, hx, hv, p1, d1, l1, o1, st⟩ := ev_tstep' n k hnk Z acc e1 (some t) e5 hp hd (by omega)
    have h2 := len_put acc x v
    obtain ⟨Z2, acc2, e4', p2, d2, ok2, lacc, l2, o2, ih⟩ := ev_tloop' n k hnk e1 e5 ts Z1 (aPut acc x v) (some t) p1 d1 (by omega) (ok_put ok hx hv)
    refine ⟨Z2, acc2, e4', p2, d2, ok2, by simp only [List.length_cons]; omega, l2.trans l1, fun i h1 h2 => (o2 i h1 h2).trans (o1 i h1 h2), ?_⟩
    unfold fLoop
    rw [show gNm 4 t [some (.loc n), e1, some nmD, some (.loc k), e4, e5] = some [some (.loc n), e1, some nmD, some (.loc k), some t, e5] from rfl]
    dsimp only [Option.bind]
    rw [st]
    exact ih
/-- a drawn term -/
structure Tm (c : Int) (ps : As) : Prop where
  c : c ∈ cons6
  ok : Ok ps
  len : ps.length ≤ 4
  can : gathL ps = ps
def srtL (acc : As) : As := (sortS (aKeys acc)).map fun x => (x, aVal acc x)
theorem aVal_mem {acc : As} {x : Str} (h : x ∈ aKeys acc) : (x, aVal acc x) ∈ acc := by
  induction acc with
  | nil => simp [aKeys] at h
  | cons p acc ih =>
    have hk : aKeys (p :: acc) = p.1 :: aKeys acc := rfl
    rw [hk, List.mem_cons] at h
    unfold aVal
    rw [aGet_cons]
    by_cases e : p.1 = x
    · subst e
      simp
    · rw [if_neg e]
      rcases h with h | h
      · exact absurd h.symm e
      · exact List.mem_cons_of_mem _ (ih h)
theorem srtL_keys (acc : As) : aKeys (srtL acc) = sortS (aKeys acc) := by
  unfold aKeys srtL
  rw [List.map_map]
  exact List.map_id _
theorem srtL_ok {acc : As} (h : Ok acc) : Ok (srtL acc) := by
  refine ⟨?_, fun x hx => ?_, fun p hp => ?_⟩
  · rw [srtL_keys]; exact ((sortS_perm _).nodup_iff).mpr h.nd
  · rw [srtL_keys] at hx; exact h.ks x ((sortS_perm _).mem_iff.mp hx)
  · unfold srtL at hp
    obtain ⟨x, hx, rfl⟩ := List.mem_map.mp hp
    exact h.vs _ (aVal_mem ((sortS_perm _).mem_iff.mp hx))
theorem srtL_len (acc : As) : (srtL acc).length = acc.length := by
  unfold srtL
  rw [List.length_map, (sortS_perm _).length_eq]
  unfold aKeys
  simp
theorem vals_ne : ∀ v ∈ vals7, v ≠ 0 := by decide +kernel
theorem srtL_canon {acc : As} (h : Ok acc) : srtL acc = canonF (aKeys acc) (aVal acc) := by
  unfold srtL canonF
  rw [List.filter_eq_self.mpr]
  intro x hx
  exact decide_eq_true (vals_ne _ (h.vs _ (aVal_mem ((sortS_perm _).mem_iff.mp hx))))
theorem srtL_co {acc : As} (h : Ok acc) (x : Str) : co (srtL acc) x = aVal acc x := by
  rw [srtL_canon h]
  exact canonF_co h.nd (fun x z => aVal_ne z) x
theorem srtL_can {acc : As} (h : Ok acc) : gathL (srtL acc) = srtL acc := by
  rw [srtL_canon h]
  refine canonF_eq (gathKs_nodup _) h.nd (fun x => ?_) (fun x z => (gathKs_mem _ x).mpr (co_ne z)) (fun x z => aVal_ne z)
  rw [← srtL_canon h]
  exact srtL_co h x
theorem ev_term (n : Nat) (M : Int) (hM : 0 ≤ M) (hM4 : M ≤ 4) (st : Store) (hp : Pl st n) : ∃ c ps st', Tm c ps ∧ Pl st' n ∧ Same n st st' ∧ r_law_term mTake [.loc n, .int M] st = some (tmD c ps, st') := by
  have hn : n < st.length := pl_lt hp
  have hp0 : Pl (st ++ [.dct false []]) n := pl_app hp _
  obtain ⟨N, Z1, n1, n2, t1, p1, l1, o1⟩ := take_st (k := M + 1) hp0 (by omega) (by omega)
  have d1 : Z1[st.length]? = some (.dct false (kd [])) := by rw [o1 _ (by omega), last_get]; rfl
  obtain ⟨Z2, acc, e4, p2, d2, ok, lacc, l2, o2, hloop⟩ := ev_tloop' n st.length (by omega) (some (.int M)) none (rangeD 0 N.toNat) Z1 [] none p1 d1 (by simp [rangeD]; omega) ⟨by simp [aKeys], by simp [aKeys], by simp⟩
  have hlen : acc.length ≤ 4 := by simp [rangeD] at lacc; omega
  obtain ⟨j, Z3, j1, j2, t3, p3, l3, o3⟩ := take_st (k := 6) p2 (by decide) (by decide)
  obtain ⟨c, hc, ic⟩ := ix_cons Z3 j1 j2
  have d3 : Z3[st.length]? = some (.dct false (kd acc)) := by rw [o3 _ (by omega)]; exact d2
  have hk : (aKeys acc).length < 64 := by unfold aKeys; rw [List.length_map]; omega
  have hs : ∀ x ∈ sortS (aKeys acc), x ∈ aKeys acc := fun x hx => (sortS_perm _).mem_iff.mp hx
  have hlc := lc_map D.str (fun x => prD (x, aVal acc x)) (gNm 5) fTYes (fTup (fCons (fVar 5) (fCons (fDGet (fVar 3) (fVar 5)) fNil))) [some (.loc n), some (.int M), some nmD, some (.loc st.length), e4, none] Z3 (fun _ => true) (sortS (aKeys acc)) [] (by have := (sortS_perm (aKeys acc)).length_eq; simp; omega) (fun x hx => by
    have hm := hs x hx
    obtain ⟨k, hk⟩ : ∃ n, aGet acc x = some n := by
      cases q : aGet acc x with
      | none => exact absurd hm (aGet_none.mp q)
      | some n => exact ⟨n, rfl⟩
    have hv : aVal acc x = k := by unfold aVal; rw [hk]; rfl
    refine ⟨[some (.loc n), some (.int M), some nmD, some (.loc st.length), e4, some (.str x)], rfl, rfl, fun _ => ?_⟩
    simp [d3, kd_get, hk, hv, prD])
  rw [fil, List.nil_append] at hlc
  refine ⟨c, srtL acc, Z3, ⟨hc, srtL_ok ok, by rw [srtL_len]; exact hlen, srtL_can ok⟩, p3, ⟨?_, fun i hi h => ?_⟩, ?_⟩
  · rw [l3, l2, l1, List.length_append]; omega
  · rw [o3 i h, o2 i h (by omega), o1 i h, List.getElem?_append_left hi]
  have hb1 : (-4611686018427387904 : Int) ≤ N := by omega
  have hb2 : N < (4611686018427387904 : Int) := by omega
  unfold bT at hloop
  unfold nmD at hloop hlc
  unfold r_law_term b_law_term
  simp [-fLoop, -ixD, t1, hb1, hb2, hloop, t3, ic, d3, kd_keys, hk, hlc, List.replicate]
  unfold tmD srtL
  rw [List.map_map]
  rfl
/-! ### how great they are -/
theorem vals_bd : ∀ v ∈ vals7, v.natAbs ≤ 10 ^ 20 := by decide +kernel
theorem cons_bd : ∀ v ∈ cons6, v.natAbs ≤ 10 ^ 20 := by decide +kernel
theorem key_of {ps : As} {p : Str × Int} (h : p ∈ ps) : p.1 ∈ aKeys ps := List.mem_map_of_mem h
section
variable {c c1 c2 m : Int} {ps qs : As}
theorem Tm.nm (t : Tm c ps) : NmOk ps := fun p hp => t.ok.ks p.1 (key_of hp)
theorem Tm.wf (t : Tm c ps) : Wf ps := ⟨t.ok.nd, fun h => absurd (t.ok.ks _ h) (by decide +kernel)⟩
theorem Tm.bd (t : Tm c ps) : Bds (10 ^ 20) ps := fun p hp => vals_bd p.2 (t.ok.vs p hp)
theorem Tm.cb (t : Tm c ps) : c.natAbs ≤ 10 ^ 20 := cons_bd c t.c
theorem nm_gath {T : As} (h : NmOk T) : NmOk (gathL T) := fun p hp => by
  obtain ⟨h1, _, _⟩ := gathL_mem hp
  unfold aKeys at h1
  obtain ⟨q, hq, e⟩ := List.mem_map.mp h1
  rw [← e]
  exact h q hq
theorem bd_gath {T : As} {B : Nat} (h : Bds B T) : Bds (T.length * B) (gathL T) := fun p hp => by
  obtain ⟨_, h2, _⟩ := gathL_mem hp
  rw [h2]
  exact co_bd h p.1
theorem bd_le {T : As} {B C : Nat} (h : Bds B T) (hb : B ≤ C) : Bds C T := fun p hp => Nat.le_trans (h p hp) hb
theorem nm_app {S T : As} (h : NmOk S) (k : NmOk T) : NmOk (S ++ T) := fun p hp => (List.mem_append.mp hp).elim (h p) (k p)
theorem bd_app {B : Nat} {S T : As} (h : Bds B S) (k : Bds B T) : Bds B (S ++ T) := fun p hp => (List.mem_append.mp hp).elim (h p) (k p)
theorem nm_scL (h : NmOk ps) (m : Int) : NmOk (scL ps m) := fun p hp => by
  unfold scL at hp
  obtain ⟨q, hq, rfl⟩ := List.mem_map.mp hp
  exact h q hq
theorem bd_scL {B M : Nat} (h : Bds B ps) (hm : m.natAbs ≤ M) : Bds (B * M) (scL ps m) := fun p hp => by
  unfold scL at hp
  obtain ⟨q, hq, rfl⟩ := List.mem_map.mp hp
  show (q.2 * m).natAbs ≤ _
  rw [Int.natAbs_mul]
  exact Nat.mul_le_mul (h q hq) hm
theorem all_mul (h : Bds (10 ^ 50) ps) (hm : m.natAbs ≤ 10 ^ 50) : ps.all (fun p => mulOk p.2 m) = true := List.all_eq_true.mpr fun p hp => mul_sm (h p hp) hm
end
end K08
set_option Elab.async false
set_option linter.all false
set_option maxRecDepth 100000
set_option maxHeartbeats 4000000
set_option exponentiation.threshold 100000
namespace K08
open PySem PySem.Spec PyProof.Rows L2 PU
/-! ### a dict of terms -/
abbrev Bs := List (Str × (Int × As))
def tm (p : Int × As) : D := tmD p.1 p.2
def kb (bs : Bs) : List (Key × D) := bs.map fun p => ((.inr p.1 : Key), tm p.2)
def bGet (bs : Bs) (x : Str) : Option (Int × As) := (bs.find? fun p => decide (p.1 = x)).map Prod.snd
def bPut (bs : Bs) (x : Str) (t : Int × As) : Bs := if bs.any fun p => decide (p.1 = x) then bs.map fun p => if p.1 = x then (p.1, t) else p else bs ++ [(x, t)]
theorem kb_get (bs : Bs) (x : Str) : dGet (kb bs) (.inr x) = (bGet bs x).map tm := by
  induction bs with
  | nil => rfl
  | cons p bs ih =>
    unfold kb dGet bGet at ih ⊢
    rw [List.map_cons, List.find?_cons, List.find?_cons]
    by_cases h : p.1 = x
    · simp [h]
    · simp only [Sum.inr.injEq, h, decide_false]
      exact ih
theorem kb_put (bs : Bs) (x : Str) (t : Int × As) : dPut (kb bs) (.inr x) (tm t) = kb (bPut bs x t) := by
  unfold dPut bPut
  have ha : ((kb bs).any fun kv => decide (kv.1 = .inr x)) = (bs.any fun p => decide (p.1 = x)) := by
    unfold kb
    rw [List.any_map]
    congr 1
    funext p
    simp
  rw [ha]
  split
  · unfold kb
    rw [List.map_map, List.map_map]
    apply List.map_congr_left
    intro p _
    by_cases h : p.1 = x <;> simp [h]
  · unfold kb
    simp
theorem kb_len (bs : Bs) : (kb bs).length = bs.length := by unfold kb; simp
theorem bPut_len (bs : Bs) (x : Str) (t : Int × As) : (bPut bs x t).length ≤ bs.length + 1 := by
  unfold bPut
  split <;> simp
theorem bPut_mem {bs : Bs} {x : Str} {t : Int × As} {p : Str × (Int × As)} (h : p ∈ bPut bs x t) : p ∈ bs ∨ p = (x, t) := by
  unfold bPut at h
  split at h
  · obtain ⟨q, hq, e⟩ := List.mem_map.mp h
    split at e
    · next hx => right; rw [← e, hx]
    · left; rw [← e]; exact hq
  · rcases List.mem_append.mp h with h | h
    · exact .inl h
    · exact .inr (List.mem_singleton.mp h)
theorem bGet_mem {bs : Bs} {x : Str} {t : Int × As} (h : bGet bs x = some t) : (x, t) ∈ bs := by
  unfold bGet at h
  obtain ⟨p, hp, e⟩ := mapS h
  have h1 := List.find?_some hp
  have h2 := List.mem_of_find?_eq_some hp
  have h3 : p.1 = x := by simpa using h1
  have : p = (x, t) := by rw [← h3, ← e]
  rw [← this]
  exact h2
def lkB (bs : Bs) (x : Str) : Int × As := (bGet bs x).getD (0, [(x, 1)])
/-- the terms within are small -/
def PinOk (bs : Bs) (ps : As) : Prop := ∀ p ∈ ps, (lkB bs p.1).2.length ≤ 8 ∧ mulOk (lkB bs p.1).1 p.2 = true ∧ (lkB bs p.1).2.all (fun q => mulOk q.2 p.2) = true
def pC (bs : Bs) : As → Int
  | [] => 0
  | p :: ps => (lkB bs p.1).1 * p.2 + pC bs ps
def pL (bs : Bs) : As → As
  | [] => []
  | p :: ps => gathL (scL (lkB bs p.1).2 p.2) ++ pL bs ps
theorem lk_get (bs : Bs) (x : Str) : (Option.map tm (bGet bs x)).getD (D.tup [.int 0, .tup [.tup [.str x, .int 1]]]) = tmD (lkB bs x).1 (lkB bs x).2 := by
  unfold lkB
  cases bGet bs x <;> rfl
theorem pL_len (bs : Bs) : ∀ ps : As, PinOk bs ps → (pL bs ps).length ≤ 8 * ps.length
  | [], _ => by simp [pL]
  | p :: ps, h => by
    have ih := pL_len bs ps fun q hq => h q (by simp [hq])
    have h1 := (h p (by simp)).1
    have h2 := gathL_len (scL (lkB bs p.1).2 p.2)
    rw [scL_len] at h2
    simp only [pL, List.length_append, List.length_cons]
    omega
theorem ixg0 (S : Store) (a : Int) (b : As) : ixD S (gath a b) (.int 0) = some (.int a) := rfl
theorem ixg1 (S : Store) (a : Int) (b : As) : ixD S (gath a b) (.int 1) = some (.tup ((gathL b).map prD)) := rfl
def bP : FS := (fSeq (fAsg (fCall mScaled (fCons (fDGet2 (fVar 1) (fVar 4) (fCall r_of_name (fCons (fVar 4) fNil))) (fCons (fVar 5) fNil))) (gNm 6))
    (fSeq (fAug 2 (· + ·) (fBin ixD (fVar 6) (fC (.int 0))))
    (fDrop (fExt (fVar 3) (fCallB listD (fCons (fBin ixD (fVar 6) (fC (.int 1))) fNil))))))
def gQ : FG := gTp (gsCons (gNm 4) (gsCons (gNm 5) gsNil))
theorem ev_ploop (st : Store) (b : Nat) (lk : Bool) (bs : Bs) (hb : st[b]? = some (.dct lk (kb bs))) (e0 : Option D) : ∀ (ps : As) (C : Int) (acc : As) (e4 e5 e6 : Option D), PinOk bs ps → acc.length + 8 * ps.length ≤ 1000 →
    ∃ e4' e5' e6', fLoop gQ bP (ps.map prD) [e0, some (.loc b), some (.int C), some (.loc st.length), e4, e5, e6] (st ++ [.lst (acc.map prD)]) = some (.nx [e0, some (.loc b), some (.int (C + pC bs ps)), some (.loc st.length), e4', e5', e6'] (st ++ [.lst ((acc ++ pL bs ps).map prD)]))
  | [], C, acc, e4, e5, e6, _, _ => ⟨e4, e5, e6, by simp [pC, pL]⟩
  | p :: ps, C, acc, e4, e5, e6, hok, hl => by
    simp only [List.length_cons] at hl
    obtain ⟨h1, h2, h3⟩ := hok p (by simp)
    have l1 := gathL_len (scL (lkB bs p.1).2 p.2)
    rw [scL_len] at l1
    have hbl : b < st.length := (List.getElem?_eq_some_iff.mp hb).1
    have hb' : ∀ x, (st ++ [x])[b]? = some (.dct lk (kb bs)) := fun x => by rw [List.getElem?_append_left hbl]; exact hb
    have s1 := fun S => mScaled_ev S (c := (lkB bs p.1).1) (m := p.2) (ps := (lkB bs p.1).2) (by omega) h2 h3
    have hg := lk_get bs p.1
    obtain ⟨e4', e5', e6', ih⟩ := ev_ploop st b lk bs hb e0 ps (C + (lkB bs p.1).1 * p.2) (acc ++ gathL (scL (lkB bs p.1).2 p.2)) (some (.str p.1)) (some (.int p.2)) (some (gath ((lkB bs p.1).1 * p.2) (scL (lkB bs p.1).2 p.2))) (fun q hq => hok q (by simp [hq])) (by rw [List.length_append]; omega)
    refine ⟨e4', e5', e6', ?_⟩
    have hx : acc.length + (gathL (scL (lkB bs p.1).2 p.2)).length ≤ 100000 := by omega
    have step : bP [e0, some (.loc b), some (.int C), some (.loc st.length), some (.str p.1), some (.int p.2), e6] (st ++ [.lst (acc.map prD)]) = some (.nx [e0, some (.loc b), some (.int (C + (lkB bs p.1).1 * p.2)), some (.loc st.length), some (.str p.1), some (.int p.2), some (gath ((lkB bs p.1).1 * p.2) (scL (lkB bs p.1).2 p.2))] (st ++ [.lst ((acc ++ gathL (scL (lkB bs p.1).2 p.2)).map prD)])) := by
      unfold bP
      simp [-ixD, hb', kb_get, b_of_name, hg, s1, ixg0, ixg1, last_get, last_set, hx]
    rw [List.map_cons]
    unfold fLoop
    rw [show gQ (prD p) [e0, some (.loc b), some (.int C), some (.loc st.length), e4, e5, e6] = some [e0, some (.loc b), some (.int C), some (.loc st.length), some (.str p.1), some (.int p.2), e6] from rfl]
    dsimp only [Option.bind]
    rw [step]
    dsimp only
    rw [ih]
    simp only [pC, pL, List.append_assoc, Int.add_assoc]
/-- put_in, of a dict of terms -/
theorem ev_put_in (st : Store) (b : Nat) (lk : Bool) (bs : Bs) (hb : st[b]? = some (.dct lk (kb bs))) (c : Int) (ps : As) (hok : PinOk bs ps) (hl : ps.length ≤ 7) :
    r_put_in r_of_name mScaled mGath [tmD c ps, .loc b] st = some (gath (c + pC bs ps) (pL bs ps), st ++ [.flst ((pL bs ps).map prD)]) := by
  obtain ⟨e4, e5, e6, hloop⟩ := ev_ploop st b lk bs hb (some (tmD c ps)) ps c [] none none none hok (by simp; omega)
  have l1 := pL_len bs ps hok
  have hg : mGath [.int (c + pC bs ps), .loc st.length] (st ++ [.lst ((pL bs ps).map prD)]) = some (gath (c + pC bs ps) (pL bs ps), st ++ [.flst ((pL bs ps).map prD)]) := by
    unfold mGath
    dsimp only
    rw [last_get]
    dsimp only
    rw [asPs_map]
    dsimp only [Option.bind]
    rw [if_pos (by omega), last_set]
  unfold gQ bP at hloop
  rw [List.nil_append] at hloop
  unfold r_put_in b_put_in
  have i0 : ∀ S, ixD S (tmD c ps) (.int 0) = some (.int c) := fun _ => rfl
  have i1 : ∀ S, ixD S (tmD c ps) (.int 1) = some (.tup (ps.map prD)) := fun _ => rfl
  have hloop' := hloop
  simp only [List.map_nil] at hloop'
  simp [-ixD, -fLoop, -fDGet2, i0, i1, List.replicate, hloop', hg]
end K08
set_option Elab.async false
set_option linter.all false
set_option maxRecDepth 100000
set_option maxHeartbeats 4000000
set_option exponentiation.threshold 100000
namespace K08
open PySem PySem.Spec PyProof.Rows L2 PU
/-! ### the law's own putting in -/
def bI : FS := fDPut (fBin addD (fDGet2 (fVar 2) (fVar 7) (fC (.int 0))) (fBin mulD (fVar 4) (fVar 8))) (fVar 2) (fVar 7)
def gI : FG := gTp (gsCons (gNm 7) (gsCons (gNm 8) gsNil))
theorem ev_iloop (st : Store) (e0 e1 e3 e5 e6 : Option D) (m : Int) : ∀ (ps acc : As) (e7 e8 : Option D), acc.length + ps.length < 100000 → ps.all (fun q => mulOk m q.2) = true →
    ∃ e7' e8', fLoop gI bI (ps.map prD) [e0, e1, some (.loc st.length), e3, some (.int m), e5, e6, e7, e8] (st ++ [.dct false (kd acc)]) = some (.nx [e0, e1, some (.loc st.length), e3, some (.int m), e5, e6, e7', e8'] (st ++ [.dct false (kd (aAdd acc (scR ps m)))]))
  | [], acc, e7, e8, _, _ => ⟨e7, e8, rfl⟩
  | p :: ps, acc, e7, e8, hl, hm => by
    simp only [List.length_cons] at hl
    rw [List.all_cons, Bool.and_eq_true] at hm
    have h1 := hm.1
    have hl2 := len_put acc p.1 ((aGet acc p.1).getD 0 + m * p.2)
    obtain ⟨e7', e8', ih⟩ := ev_iloop st e0 e1 e3 e5 e6 m ps (aPut acc p.1 ((aGet acc p.1).getD 0 + m * p.2)) (some (.str p.1)) (some (.int p.2)) (by omega) hm.2
    refine ⟨e7', e8', ?_⟩
    have hg : (Option.map D.int (aGet acc p.1)).getD (.int 0) = .int ((aGet acc p.1).getD 0) := by cases aGet acc p.1 <;> rfl
    have hk : (kd acc).length < 100000 := by rw [kd_len]; omega
    have step : bI [e0, e1, some (.loc st.length), e3, some (.int m), e5, e6, some (.str p.1), some (.int p.2)] (st ++ [.dct false (kd acc)]) = some (.nx [e0, e1, some (.loc st.length), e3, some (.int m), e5, e6, some (.str p.1), some (.int p.2)] (st ++ [.dct false (kd (aPut acc p.1 ((aGet acc p.1).getD 0 + m * p.2)))])) := by
      simp [bI, last_get, kd_get, hg, hk, kd_put, last_set, h1]
    rw [List.map_cons]
    unfold fLoop
    rw [show gI (prD p) [e0, e1, some (.loc st.length), e3, some (.int m), e5, e6, e7, e8] = some [e0, e1, some (.loc st.length), e3, some (.int m), e5, e6, some (.str p.1), some (.int p.2)] from rfl]
    dsimp only [Option.bind]
    rw [step]
    exact ih
def bO : FS := (fSeq (fAsg (fDGet2 (fVar 1) (fVar 3) (fTup (fCons (fC (.int 0)) (fCons (fTup (fCons (fTup (fCons (fVar 3) (fCons (fC (.int 1)) fNil))) fNil)) fNil)))) (gTp (gsCons (gNm 5) (gsCons (gNm 6) gsNil))))
    (fSeq (fDPut (fBin addD (fDGet (fVar 2) (fC (.str ""))) (fBin mulD (fVar 4) (fVar 5))) (fVar 2) (fC (.str "")))
    (fFor (fiT (fVar 6)) gI bI)))
def gO : FG := gTp (gsCons (gNm 3) (gsCons (gNm 4) gsNil))
def qStep (bs : Bs) (acc : As) (p : Str × Int) : As := aAdd (aPut acc "" (aVal acc "" + p.2 * (lkB bs p.1).1)) (scR (lkB bs p.1).2 p.2)
def qAll (bs : Bs) (acc : As) (ps : As) : As := ps.foldl (qStep bs) acc
structure QinOk (bs : Bs) (ps : As) : Prop where
  h : ∀ p ∈ ps, (lkB bs p.1).2.length ≤ 8 ∧ mulOk p.2 (lkB bs p.1).1 = true ∧ (lkB bs p.1).2.all (fun q => mulOk p.2 q.2) = true
theorem qStep_len (bs : Bs) (acc : As) (p : Str × Int) (h : (lkB bs p.1).2.length ≤ 8) : (qStep bs acc p).length ≤ acc.length + 9 := by
  unfold qStep
  have h1 := aAdd_len (scR (lkB bs p.1).2 p.2) (aPut acc "" (aVal acc "" + p.2 * (lkB bs p.1).1))
  have h2 := len_put acc "" (aVal acc "" + p.2 * (lkB bs p.1).1)
  have h3 : (scR (lkB bs p.1).2 p.2).length = (lkB bs p.1).2.length := by unfold scR; simp
  omega
theorem qStep_key (bs : Bs) (acc : As) (p : Str × Int) (h : ("" : Str) ∈ aKeys acc) : ("" : Str) ∈ aKeys (qStep bs acc p) := by
  unfold qStep
  rw [aAdd_keys, aKeys_put, if_pos h]
  exact .inl h
theorem aGet_val {acc : As} {x : Str} (h : x ∈ aKeys acc) : aGet acc x = some (aVal acc x) := by
  unfold aVal
  cases q : aGet acc x with
  | none => exact absurd h (aGet_none.mp q)
  | some n => rfl
theorem ev_oloop (st : Store) (b : Nat) (lk : Bool) (bs : Bs) (hb : st[b]? = some (.dct lk (kb bs))) (e0 : Option D) : ∀ (ps acc : As) (e3 e4 e5 e6 e7 e8 : Option D), ("" : Str) ∈ aKeys acc → QinOk bs ps → acc.length + 9 * ps.length ≤ 1000 →
    ∃ e3' e4' e5' e6' e7' e8', fLoop gO bO (ps.map prD) [e0, some (.loc b), some (.loc st.length), e3, e4, e5, e6, e7, e8] (st ++ [.dct false (kd acc)]) = some (.nx [e0, some (.loc b), some (.loc st.length), e3', e4', e5', e6', e7', e8'] (st ++ [.dct false (kd (qAll bs acc ps))]))
  | [], acc, e3, e4, e5, e6, e7, e8, _, _, _ => ⟨e3, e4, e5, e6, e7, e8, rfl⟩
  | p :: ps, acc, e3, e4, e5, e6, e7, e8, hk, hok, hl => by
    simp only [List.length_cons] at hl
    obtain ⟨h1, h2, h3⟩ := hok.h p (by simp)
    have l1 := qStep_len bs acc p h1
    have hbl : b < st.length := (List.getElem?_eq_some_iff.mp hb).1
    have hb' : ∀ x, (st ++ [x])[b]? = some (.dct lk (kb bs)) := fun x => by rw [List.getElem?_append_left hbl]; exact hb
    have hg := lk_get bs p.1
    have gv := aGet_val hk
    have hlp := len_put acc "" (aVal acc "" + p.2 * (lkB bs p.1).1)
    obtain ⟨e7a, e8a, hi⟩ := ev_iloop st e0 (some (.loc b)) (some (.str p.1)) (some (.int (lkB bs p.1).1)) (some (.tup ((lkB bs p.1).2.map prD))) p.2 (lkB bs p.1).2 (aPut acc "" (aVal acc "" + p.2 * (lkB bs p.1).1)) e7 e8 (by omega) h3
    obtain ⟨e3', e4', e5', e6', e7', e8', ih⟩ := ev_oloop st b lk bs hb e0 ps (qStep bs acc p) (some (.str p.1)) (some (.int p.2)) (some (.int (lkB bs p.1).1)) (some (.tup ((lkB bs p.1).2.map prD))) e7a e8a (qStep_key bs acc p hk) ⟨fun q hq => hok.h q (by simp [hq])⟩ (by omega)
    refine ⟨e3', e4', e5', e6', e7', e8', ?_⟩
    have hkl : (kd acc).length < 100000 := by rw [kd_len]; omega
    have hpr : ∀ e, gTp (gsCons (gNm 5) (gsCons (gNm 6) gsNil)) (tmD (lkB bs p.1).1 (lkB bs p.1).2) e = some ((e.set 5 (some (.int (lkB bs p.1).1))).set 6 (some (.tup ((lkB bs p.1).2.map prD)))) := fun e => rfl
    have step : bO [e0, some (.loc b), some (.loc st.length), some (.str p.1), some (.int p.2), e5, e6, e7, e8] (st ++ [.dct false (kd acc)]) = some (.nx [e0, some (.loc b), some (.loc st.length), some (.str p.1), some (.int p.2), some (.int (lkB bs p.1).1), some (.tup ((lkB bs p.1).2.map prD)), e7a, e8a] (st ++ [.dct false (kd (qStep bs acc p))])) := by
      unfold bO
      simp [-gTp, -fLoop, hb', kb_get, hg, hpr, last_get, last_set, kd_get, gv, h2, hkl, kd_put]
      rw [hi]
      rfl
    rw [List.map_cons]
    unfold fLoop
    rw [show gO (prD p) [e0, some (.loc b), some (.loc st.length), e3, e4, e5, e6, e7, e8] = some [e0, some (.loc b), some (.loc st.length), some (.str p.1), some (.int p.2), e5, e6, e7, e8] from rfl]
    dsimp only [Option.bind]
    rw [step]
    exact ih
/-- the tuple told at its end -/
theorem ev_qend (st : Store) (e0 e1 e3 e4 e5 e6 e7 e8 : Option D) (m : As) (hk : ("" : Str) ∈ aKeys m) (hl : m.length < 64) :
    fTup (fCons (fDGet (fVar 2) (fC (.str ""))) (fCons (fCallB tupleD (fCons (fLc (fiL (fCallB sortedDD (fCons (fVar 2) fNil))) (gNm 3) (fTAnd (fB (fBin neD (fVar 3) (fC (.str "")))) (fB (fBin neD (fDGet (fVar 2) (fVar 3)) (fC (.int 0))))) (fTup (fCons (fVar 3) (fCons (fDGet (fVar 2) (fVar 3)) fNil))) [3]) fNil)) fNil)) [e0, e1, some (.loc st.length), e3, e4, e5, e6, e7, e8] (st ++ [.dct false (kd m)])
      = some (tmD (aVal m "") (canonF (aKeys m) (tdF m)), st ++ [.dct false (kd m)]) := by
  have hkl : (aKeys m).length < 64 := by unfold aKeys; simpa using hl
  have hs : ∀ x ∈ sortS (aKeys m), x ∈ aKeys m := fun x hx => (sortS_perm _).mem_iff.mp hx
  have gv := aGet_val hk
  have hlc := lc_map D.str (fun x => prD (x, tdF m x)) (gNm 3) (fTAnd (fB (fBin neD (fVar 3) (fC (.str "")))) (fB (fBin neD (fDGet (fVar 2) (fVar 3)) (fC (.int 0))))) (fTup (fCons (fVar 3) (fCons (fDGet (fVar 2) (fVar 3)) fNil))) [e0, e1, some (.loc st.length), none, e4, e5, e6, e7, e8] (st ++ [.dct false (kd m)]) (fun x => decide (tdF m x ≠ 0)) (sortS (aKeys m)) [] (by have := (sortS_perm (aKeys m)).length_eq; simp; omega) (fun x hx => by
    have hm := hs x hx
    have hn := aGet_val hm
    refine ⟨[e0, e1, some (.loc st.length), some (.str x), e4, e5, e6, e7, e8], rfl, ?_, fun hp => ?_⟩
    · by_cases hx0 : x = ""
      · subst hx0
        simp [-neD, ne_str, tdF]
      · simp [-neD, ne_str, ne_int, last_get, kd_get, hn, hx0, tdF]
        by_cases z : aVal m x = 0 <;> simp [z]
    · have hx0 : ¬x = "" := fun z => by
        subst z
        simp [tdF] at hp
      simp [last_get, kd_get, hn, prD, tdF, hx0])
  rw [List.nil_append] at hlc
  simp [last_get, kd_keys, hkl, hlc, kd_get, gv]
  simp [tmD, canonF]
theorem qAll_len (bs : Bs) : ∀ (ps acc : As), QinOk bs ps → (qAll bs acc ps).length ≤ acc.length + 9 * ps.length
  | [], acc, _ => by simp [qAll]
  | p :: ps, acc, h => by
    have h1 := qStep_len bs acc p (h.h p (by simp)).1
    have ih := qAll_len bs ps (qStep bs acc p) ⟨fun q hq => h.h q (by simp [hq])⟩
    show (qAll bs (qStep bs acc p) ps).length ≤ _
    simp only [List.length_cons]
    omega
theorem qAll_key (bs : Bs) : ∀ (ps acc : As), ("" : Str) ∈ aKeys acc → ("" : Str) ∈ aKeys (qAll bs acc ps)
  | [], acc, h => h
  | p :: ps, acc, h => qAll_key bs ps _ (qStep_key bs acc p h)
theorem ev_law_put_in (st : Store) (b : Nat) (lk : Bool) (bs : Bs) (hb : st[b]? = some (.dct lk (kb bs))) (c : Int) (ps : As) (hok : QinOk bs ps) (hl : ps.length ≤ 6) :
    r_law_put_in [tmD c ps, .loc b] st = some (tmD (aVal (qAll bs [("", c)] ps) "") (canonF (aKeys (qAll bs [("", c)] ps)) (tdF (qAll bs [("", c)] ps))), st ++ [.dct false (kd (qAll bs [("", c)] ps))]) := by
  obtain ⟨e3, e4, e5, e6, e7, e8, hloop⟩ := ev_oloop st b lk bs hb (some (tmD c ps)) ps [("", c)] none none none none none none (by simp [aKeys]) hok (by simp; omega)
  have hlen := qAll_len bs ps [("", c)] hok
  have hkey := qAll_key bs ps [("", c)] (by simp [aKeys])
  have hend := ev_qend st (some (tmD c ps)) (some (.loc b)) e3 e4 e5 e6 e7 e8 (qAll bs [("", c)] ps) hkey (by simp at hlen; omega)
  have i0 : ∀ S, ixD S (tmD c ps) (.int 0) = some (.int c) := fun _ => rfl
  have i1 : ∀ S, ixD S (tmD c ps) (.int 1) = some (.tup (ps.map prD)) := fun _ => rfl
  have hm : mergeD [] [((.inr "" : Key), D.int c)] = kd [("", c)] := rfl
  unfold gO bO gI bI at hloop
  have hb1 : b_law_put_in [some (tmD c ps), some (.loc b), none, none, none, none, none, none, none] st = some (.ret (tmD (aVal (qAll bs [("", c)] ps) "") (canonF (aKeys (qAll bs [("", c)] ps)) (tdF (qAll bs [("", c)] ps)))) (st ++ [.dct false (kd (qAll bs [("", c)] ps))])) := by
    unfold b_law_put_in
    have hd : fDisp [((fC (.str "")), (fBin ixD (fVar 0) (fC (.int 0))))] [some (tmD c ps), some (.loc b), none, none, none, none, none, none, none] st = some (.loc st.length, st ++ [.dct false (kd [("", c)])]) := by
      simp [-ixD, i0, hm, last_get, last_set]
    simp only [fSeq, fAsg, hd, gNm, fRet, fFor, fiT, fBin, fVar, fC, i1, itemsT, Option.bind_some, Option.map_some, List.set_cons_succ, List.set_cons_zero, List.getElem?_cons_succ, List.getElem?_cons_zero]
    rw [hloop]
    simp only [Option.bind_some]
    rw [hend]
    rfl
  show (b_law_put_in [some (tmD c ps), some (.loc b), none, none, none, none, none, none, none] st).bind _ = _
  rw [hb1]
  rfl
end K08
set_option Elab.async false
set_option linter.all false
set_option maxRecDepth 100000
set_option maxHeartbeats 4000000
set_option exponentiation.threshold 100000
namespace K08
open PySem PySem.Spec PyProof.Rows L2 PU
/-! ### both puttings in tell the same -/
theorem co_pL (bs : Bs) (p : Str × Int) (ps : As) (x : Str) : co (pL bs (p :: ps)) x = co (lkB bs p.1).2 x * p.2 + co (pL bs ps) x := by
  show co (gathL (scL (lkB bs p.1).2 p.2) ++ pL bs ps) x = _
  rw [co_append, gathL_co, co_scL]
/-- no text without signs is a name -/
def NoE (bs : Bs) (ps : As) : Prop := ∀ p ∈ ps, ("" : Str) ∉ aKeys (lkB bs p.1).2
theorem qStep_val (bs : Bs) (acc : As) (p : Str × Int) (h : ("" : Str) ∉ aKeys (lkB bs p.1).2) (x : Str) :
    aVal (qStep bs acc p) x = aVal acc x + (if x = "" then (lkB bs p.1).1 * p.2 else co (lkB bs p.1).2 x * p.2) := by
  unfold qStep
  rw [aAdd_val, aVal_put, co_scR]
  by_cases e : x = ""
  · subst e
    rw [if_pos rfl, if_pos rfl, co_zero h, Int.mul_comm p.2]
    omega
  · rw [if_neg e, if_neg e, Int.mul_comm p.2]
theorem qAll_val (bs : Bs) : ∀ (ps acc : As), NoE bs ps → ∀ x, aVal (qAll bs acc ps) x = aVal acc x + (if x = "" then pC bs ps else co (pL bs ps) x)
  | [], acc, _, x => by
    show aVal acc x = _
    simp [pC, pL, co]
  | p :: ps, acc, h, x => by
    show aVal (qAll bs (qStep bs acc p) ps) x = _
    rw [qAll_val bs ps _ (fun q hq => h q (by simp [hq])) x, qStep_val bs acc p (h p (by simp)) x, co_pL]
    have e1 : pC bs (p :: ps) = (lkB bs p.1).1 * p.2 + pC bs ps := rfl
    rw [e1]
    split <;> omega
theorem qAll_nodup (bs : Bs) : ∀ (ps acc : As), (aKeys acc).Nodup → (aKeys (qAll bs acc ps)).Nodup
  | [], acc, h => h
  | p :: ps, acc, h => qAll_nodup bs ps _ (aAdd_nodup _ (nodup_put h _ _))
theorem both_put (bs : Bs) (c : Int) (ps : As) (h : NoE bs ps) : tmD (aVal (qAll bs [("", c)] ps) "") (canonF (aKeys (qAll bs [("", c)] ps)) (tdF (qAll bs [("", c)] ps))) = gath (c + pC bs ps) (pL bs ps) := by
  have hv := qAll_val bs ps [("", c)] h
  have h0 : ("" : Str) ∉ aKeys (pL bs ps) := by
    intro hm
    have aux : ∀ ps : As, NoE bs ps → ("" : Str) ∉ aKeys (pL bs ps) := by
      intro ps
      induction ps with
      | nil => intro _ h; simp [pL, aKeys] at h
      | cons p ps ih =>
        intro hn hm
        have e : aKeys (pL bs (p :: ps)) = aKeys (gathL (scL (lkB bs p.1).2 p.2)) ++ aKeys (pL bs ps) := by
          unfold aKeys
          rw [← List.map_append]
          rfl
        rw [e] at hm
        rcases List.mem_append.mp hm with hm | hm
        · unfold aKeys at hm
          obtain ⟨q, hq, e⟩ := List.mem_map.mp hm
          have h1 := (gathL_mem hq).1
          rw [e] at h1
          have h2 : aKeys (scL (lkB bs p.1).2 p.2) = aKeys (lkB bs p.1).2 := by
            unfold aKeys scL
            rw [List.map_map]
            rfl
          rw [h2] at h1
          exact hn p (by simp) h1
        · exact ih (fun q hq => hn q (by simp [hq])) hm
    exact aux ps h hm
  unfold gath gathL
  congr 1
  · rw [hv, if_pos rfl]
    have : aVal [("", c)] "" = c := by simp [aVal, aGet]
    rw [this]
  · refine canonF_eq (qAll_nodup bs ps _ (by simp [aKeys])) (gathKs_nodup _) (fun x => ?_) (fun x z => ?_) (fun x z => (gathKs_mem _ x).mpr (co_ne z))
    · unfold tdF
      by_cases e : x = ""
      · subst e
        rw [if_pos rfl, co_zero h0]
      · rw [if_neg e, hv, if_neg e]
        have e' : ¬("" : Str) = x := fun z => e z.symm
        have : aVal [("", c)] x = 0 := by simp [aVal, aGet, e']
        rw [this]
        omega
    · unfold tdF at z
      split at z
      · exact absurd rfl z
      · exact aVal_ne z
/-! ### worths -/
def wsum (ps : As) (f : Str → Int) : Int := (ps.map fun p => p.2 * f p.1).sum
theorem wsum_cons (p : Str × Int) (ps : As) (f : Str → Int) : wsum (p :: ps) f = p.2 * f p.1 + wsum ps f := rfl
theorem wsum_app (a b : As) (f : Str → Int) : wsum (a ++ b) f = wsum a f + wsum b f := by
  unfold wsum
  rw [List.map_append, List.sum_append]
/-- all names' numbers with their worths -/
def nsum (g : Str → Int) : Int := (names6.map g).sum
theorem nsum_one {x : Str} (h : x ∈ names6) (n : Int) (f : Str → Int) : nsum (fun y => (if x = y then n else 0) * f y) = n * f x := by
  unfold nsum names6
  unfold names6 at h
  simp only [List.mem_cons, List.not_mem_nil, or_false] at h
  have hd : ∀ a b : Str, a ∈ names6 → b ∈ names6 → a ≠ b → (if a = b then n else 0 : Int) = 0 := fun a b _ _ z => if_neg z
  rcases h with rfl | rfl | rfl | rfl | rfl | rfl <;> simp [List.map_cons, show ¬(("a" : Str) = "b") by decide +kernel, show ¬(("a" : Str) = "c") by decide +kernel, show ¬(("a" : Str) = "i") by decide +kernel, show ¬(("a" : Str) = "abc") by decide +kernel, show ¬(("a" : Str) = "zzzzzz") by decide +kernel,
    show ¬(("b" : Str) = "a") by decide +kernel, show ¬(("b" : Str) = "c") by decide +kernel, show ¬(("b" : Str) = "i") by decide +kernel, show ¬(("b" : Str) = "abc") by decide +kernel, show ¬(("b" : Str) = "zzzzzz") by decide +kernel,
    show ¬(("c" : Str) = "a") by decide +kernel, show ¬(("c" : Str) = "b") by decide +kernel, show ¬(("c" : Str) = "i") by decide +kernel, show ¬(("c" : Str) = "abc") by decide +kernel, show ¬(("c" : Str) = "zzzzzz") by decide +kernel,
    show ¬(("i" : Str) = "a") by decide +kernel, show ¬(("i" : Str) = "b") by decide +kernel, show ¬(("i" : Str) = "c") by decide +kernel, show ¬(("i" : Str) = "abc") by decide +kernel, show ¬(("i" : Str) = "zzzzzz") by decide +kernel,
    show ¬(("abc" : Str) = "a") by decide +kernel, show ¬(("abc" : Str) = "b") by decide +kernel, show ¬(("abc" : Str) = "c") by decide +kernel, show ¬(("abc" : Str) = "i") by decide +kernel, show ¬(("abc" : Str) = "zzzzzz") by decide +kernel,
    show ¬(("zzzzzz" : Str) = "a") by decide +kernel, show ¬(("zzzzzz" : Str) = "b") by decide +kernel, show ¬(("zzzzzz" : Str) = "c") by decide +kernel, show ¬(("zzzzzz" : Str) = "i") by decide +kernel, show ¬(("zzzzzz" : Str) = "abc") by decide +kernel]
theorem nsum_add (g h : Str → Int) : nsum (fun y => g y + h y) = nsum g + nsum h := by
  unfold nsum names6
  simp only [List.map_cons, List.map_nil, List.sum_cons, List.sum_nil]
  omega
theorem wsum_names : ∀ {ps : As}, NmOk ps → ∀ f : Str → Int, wsum ps f = nsum fun x => co ps x * f x
  | [], _, f => by
    unfold nsum names6 wsum
    simp [co]
  | p :: ps, h, f => by
    have ih := wsum_names (ps := ps) (fun q hq => h q (by simp [hq])) f
    rw [wsum_cons, ih, ← nsum_one (h p (by simp)) p.2 f, ← nsum_add]
    congr 1
    funext x
    simp only [co, Int.add_mul]
theorem wsum_gath {ps : As} (h : NmOk ps) (f : Str → Int) : wsum (gathL ps) f = wsum ps f := by
  have hn : NmOk (gathL ps) := nm_gath h
  rw [wsum_names hn, wsum_names h]
  congr 1
  funext x
  rw [gathL_co]
theorem wsum_scL (ps : As) (m : Int) (f : Str → Int) : wsum (scL ps m) f = m * wsum ps f := by
  induction ps with
  | nil => simp [wsum, scL]
  | cons p ps ih =>
    have e : scL (p :: ps) m = (p.1, p.2 * m) :: scL ps m := rfl
    rw [e, wsum_cons, wsum_cons, ih, Int.mul_add]
    congr 1
    show p.2 * m * f p.1 = m * (p.2 * f p.1)
    rw [Int.mul_comm p.2 m, Int.mul_assoc]
def NmB (bs : Bs) (ps : As) : Prop := ∀ p ∈ ps, NmOk (lkB bs p.1).2
theorem wsum_pL (bs : Bs) (f : Str → Int) : ∀ ps : As, NmB bs ps → pC bs ps + wsum (pL bs ps) f = wsum ps fun x => (lkB bs x).1 + wsum (lkB bs x).2 f
  | [], _ => by simp [pC, pL, wsum]
  | p :: ps, h => by
    have ih := wsum_pL bs f ps fun q hq => h q (by simp [hq])
    have e : pL bs (p :: ps) = gathL (scL (lkB bs p.1).2 p.2) ++ pL bs ps := rfl
    have e1 : pC bs (p :: ps) = (lkB bs p.1).1 * p.2 + pC bs ps := rfl
    rw [e, e1, wsum_app, wsum_gath (nm_scL (h p (by simp)) _), wsum_scL, wsum_cons, ← ih, Int.mul_add, Int.mul_comm p.2 (lkB bs p.1).1]
    omega
theorem nm_pL (bs : Bs) : ∀ ps : As, NmB bs ps → NmOk (pL bs ps)
  | [], _ => by simp [pL, NmOk]
  | p :: ps, h => nm_app (nm_gath (nm_scL (h p (by simp)) _)) (nm_pL bs ps fun q hq => h q (by simp [hq]))
/-- of what was put in the worth is the same as by worths put in -/
theorem worth_put (bs : Bs) (c : Int) (ps : As) (f : Str → Int) (h : NmB bs ps) : (c + pC bs ps) + wsum (gathL (pL bs ps)) f = c + wsum ps fun x => (lkB bs x).1 + wsum (lkB bs x).2 f := by
  rw [wsum_gath (nm_pL bs ps h), ← wsum_pL bs f ps h]
  omega
theorem wsum_congr {ps : As} {f g : Str → Int} (h : ∀ p ∈ ps, f p.1 = g p.1) : wsum ps f = wsum ps g := by
  unfold wsum
  congr 1
  exact List.map_congr_left fun p hp => by rw [h p hp]
/-! ### worth_of, by numbers -/
theorem asInts_map (is : List Int) : asInts (is.map D.int) = some is := by
  induction is with
  | nil => rfl
  | cons i is ih =>
    show (asInts (is.map D.int)).map (fun is => i :: is) = _
    rw [ih]
    rfl
/-- the numbers go together with those of the term -/
structure WOk (ps ns : As) : Prop where
  k : ∀ p ∈ ps, p.1 ∈ aKeys ns
  m : ∀ p ∈ ps, mulOk p.2 (aVal ns p.1) = true
  l : ps.length ≤ 1000
theorem ev_worth (st : Store) (n : Nat) (lk : Bool) (ns : As) (hn : st[n]? = some (.dct lk (kd ns))) (c : Int) (ps : As) (h : WOk ps ns) : r_worth_of [tmD c ps, .loc n] st = some (.int (c + wsum ps (aVal ns)), st) := by
  have i0 : ∀ S, ixD S (tmD c ps) (.int 0) = some (.int c) := fun _ => rfl
  have i1 : ∀ S, ixD S (tmD c ps) (.int 1) = some (.tup (ps.map prD)) := fun _ => rfl
  have hl := h.l
  have hlc := lc_map prD (fun p => D.int (p.2 * aVal ns p.1)) (gTp (gsCons (gNm 2) (gsCons (gNm 3) gsNil))) fTYes (fBin mulD (fVar 3) (fDGet (fVar 1) (fVar 2))) [some (tmD c ps), some (.loc n), none, none] st (fun _ => true) ps [] (by simp; omega) (fun p hp => by
    have h1 := aGet_val (h.k p hp)
    have h2 := h.m p hp
    refine ⟨[some (tmD c ps), some (.loc n), some (.str p.1), some (.int p.2)], rfl, rfl, fun _ => ?_⟩
    simp [hn, kd_get, h1, h2])
  rw [fil, List.nil_append] at hlc
  have e : ps.map (fun p => D.int (p.2 * aVal ns p.1)) = (ps.map fun p => p.2 * aVal ns p.1).map D.int := by rw [List.map_map]; rfl
  rw [e] at hlc
  unfold wsum
  generalize (ps.map fun p => p.2 * aVal ns p.1) = is at *
  unfold r_worth_of b_worth_of
  simp [-ixD, -fLcLoop, i0, i1, hlc, asInts_map, List.replicate]
theorem ev_worth_by (st : Store) (n : Nat) (lk : Bool) (ns : As) (hn : st[n]? = some (.dct lk (kd ns))) (c : Int) (ps : As) (h : WOk ps ns) : r_law_worth_by [tmD c ps, .loc n] st = some (.int (c + wsum ps (aVal ns)), st) := ev_worth st n lk ns hn c ps h
end K08
set_option Elab.async false
set_option linter.all false
set_option maxRecDepth 100000
set_option maxHeartbeats 4000000
set_option exponentiation.threshold 100000
namespace K08
open PySem PySem.Spec PyProof.Rows L2 PU
def mTerm : GF := r_law_term mTake
def mPool : GF := r_law_pool
/-! ### the dict of terms is drawn -/
structure BsOk (bs : Bs) : Prop where
  h : ∀ p ∈ bs, p.1 ∈ names6 ∧ Tm p.2.1 p.2.2
theorem bs_put {bs : Bs} (h : BsOk bs) {x : Str} {c : Int} {ps : As} (hx : x ∈ names6) (t : Tm c ps) : BsOk (bPut bs x (c, ps)) := ⟨fun p hp => by
  rcases bPut_mem hp with hp | rfl
  · exact h.h p hp
  · exact ⟨hx, t⟩⟩
def bBy : FS := fDPut (fCall mTerm (fCons (fVar 3) (fCons (fC (.int 3)) fNil))) (fVar 5) (fBin ixD (fVar 1) (fCall mTake (fCons (fVar 3) (fCons (fC (.int 6)) fNil))))
theorem ev_byloop (n b : Nat) (hnb : n ≠ b) (e0 e2 e4 e7 e8 e9 e10 e11 e12 e13 : Option D) : ∀ (ts : List D) (Z : Store) (bs : Bs) (e6 : Option D), Pl Z n → Z[b]? = some (.dct false (kb bs)) → bs.length + ts.length < 1000 → BsOk bs →
    ∃ Z' bs' e6', Pl Z' n ∧ Z'[b]? = some (.dct false (kb bs')) ∧ BsOk bs' ∧ bs'.length ≤ bs.length + ts.length ∧ Z.length ≤ Z'.length ∧
      fLoop (gNm 6) bBy ts [e0, some nmD, e2, some (.loc n), e4, some (.loc b), e6, e7, e8, e9, e10, e11, e12, e13] Z = some (.nx [e0, some nmD, e2, some (.loc n), e4, some (.loc b), e6', e7, e8, e9, e10, e11, e12, e13] Z')
  | [], Z, bs, e6, hp, hb, _, ok => ⟨Z, bs, e6, hp, hb, ok, by simp, Nat.le_refl _, rfl⟩
  | t :: ts, Z, bs, e6, hp, hb, hl, ok => by
    simp only [List.length_cons] at hl
    have hbl : b < Z.length := (List.getElem?_eq_some_iff.mp hb).1
    obtain ⟨c, ps, Z1, tm1, p1, s1, f1⟩ := ev_term n 3 (by decide) (by decide) Z hp
    have f1 : mTerm [.loc n, .int 3] Z = some (tmD c ps, Z1) := f1
    obtain ⟨j, Z2, a2, b2, t2, p2, s2, l2⟩ := take_same (k := 6) p1 (by decide) (by decide)
    obtain ⟨x, hx, ix⟩ := ix_names Z2 a2 b2
    have hb1 : Z1[b]? = some (.dct false (kb bs)) := by rw [s1.get b hbl (fun z => hnb z.symm)]; exact hb
    have hb2 : Z2[b]? = some (.dct false (kb bs)) := by rw [s2.get b (Nat.lt_of_lt_of_le hbl s1.len) (fun z => hnb z.symm)]; exact hb1
    have hkl : (kb bs).length < 100000 := by rw [kb_len]; omega
    have hb2l : b < Z2.length := (List.getElem?_eq_some_iff.mp hb2).1
    have h3 := bPut_len bs x (c, ps)
    have hput := kb_put bs x (c, ps)
    have step : bBy [e0, some nmD, e2, some (.loc n), e4, some (.loc b), some t, e7, e8, e9, e10, e11, e12, e13] Z = some (.nx [e0, some nmD, e2, some (.loc n), e4, some (.loc b), some t, e7, e8, e9, e10, e11, e12, e13] (Z2.set b (.dct false (kb (bPut bs x (c, ps)))))) := by
      unfold bBy
      have hput : dPut (kb bs) (.inr x) (tmD c ps) = kb (bPut bs x (c, ps)) := hput
      simp [-ixD, nmD, f1, t2, ix, hb2, hkl, hput]
    obtain ⟨Z', bs', e6', p', d', ok', l', z', ih⟩ := ev_byloop n b hnb e0 e2 e4 e7 e8 e9 e10 e11 e12 e13 ts (Z2.set b (.dct false (kb (bPut bs x (c, ps))))) (bPut bs x (c, ps)) (some t) (by
      obtain ⟨g, m, h⟩ := p2
      exact ⟨g, m, by rw [List.getElem?_set_ne (fun z => hnb z.symm)]; exact h⟩) (by rw [List.getElem?_set_self hb2l]) (by omega) (bs_put ok hx tm1)
    refine ⟨Z', bs', e6', p', d', ok', by simp only [List.length_cons]; omega, ?_, ?_⟩
    · have := s1.len
      rw [List.length_set] at z'
      omega
    · unfold fLoop
      rw [show gNm 6 t [e0, some nmD, e2, some (.loc n), e4, some (.loc b), e6, e7, e8, e9, e10, e11, e12, e13] = some [e0, some nmD, e2, some (.loc n), e4, some (.loc b), some t, e7, e8, e9, e10, e11, e12, e13] from rfl]
      dsimp only [Option.bind]
      rw [step]
      exact ih
/-! ### the numbers are drawn -/
def fNr : FE := fTup (fCons (fVar 11) (fCons (fBin subD (fCall mTake (fCons (fVar 3) (fCons (fC (.int 41)) fNil))) (fC (.int 9))) fNil))
theorem ev_nloop (n : Nat) (e0 e1 e2 e4 e5 e6 e7 e8 e9 e10 e12 e13 : Option D) : ∀ (xs : List Str) (Z : Store) (acc : List D), Pl Z n → acc.length + xs.length < 1000 →
    ∃ Z' ns, aKeys ns = xs ∧ (∀ p ∈ ns, p.2.natAbs ≤ 100) ∧ Pl Z' n ∧ Same n Z Z' ∧
      fLcLoop (gNm 11) fTYes fNr [e0, e1, e2, some (.loc n), e4, e5, e6, e7, e8, e9, e10, none, e12, e13] (xs.map D.str) Z acc = some (acc ++ ns.map prD, Z')
  | [], Z, acc, hp, _ => ⟨Z, [], rfl, by simp, hp, Same.refl n Z, by simp⟩
  | x :: xs, Z, acc, hp, hl => by
    simp only [List.length_cons] at hl
    obtain ⟨j, Z1, a1, b1, t1, p1, s1, l1⟩ := take_same (k := 41) hp (by decide) (by decide)
    obtain ⟨Z', ns, k', v', p', s', ih⟩ := ev_nloop n e0 e1 e2 e4 e5 e6 e7 e8 e9 e10 e12 e13 xs Z1 (acc ++ [prD (x, j - 9)]) p1 (by simp; omega)
    refine ⟨Z', (x, j - 9) :: ns, by show x :: aKeys ns = _; rw [k'], fun p hp => ?_, p', s1.trans s', ?_⟩
    · rcases List.mem_cons.mp hp with rfl | hp
      · show (j - 9).natAbs ≤ 100
        omega
      · exact v' p hp
    · have st : fNr [e0, e1, e2, some (.loc n), e4, e5, e6, e7, e8, e9, e10, some (.str x), e12, e13] Z = some (prD (x, j - 9), Z1) := by
        unfold fNr
        simp [t1, prD]
      rw [List.map_cons]
      unfold fLcLoop
      rw [show gNm 11 (.str x) [e0, e1, e2, some (.loc n), e4, e5, e6, e7, e8, e9, e10, none, e12, e13] = some [e0, e1, e2, some (.loc n), e4, e5, e6, e7, e8, e9, e10, some (.str x), e12, e13] from rfl]
      dsimp only [Option.bind, fTYes]
      rw [if_pos rfl, st]
      dsimp only
      rw [if_pos (by omega), ih]
      simp
def fNs : FE := (fDictP (fCons (fLc (fiL (fVar 1)) (gNm 11) fTYes (fTup (fCons (fVar 11) (fCons (fBin subD (fCall mTake (fCons (fVar 3) (fCons (fC (.int 41)) fNil))) (fC (.int 9))) fNil))) [11]) fNil))
theorem names_nd : names6.Nodup := by decide +kernel
theorem ev_numbers (n : Nat) (e0 e2 e4 e5 e6 e7 e8 e9 e10 e11 e12 e13 : Option D) (Z : Store) (hp : Pl Z n) :
    ∃ Z' ns, aKeys ns = names6 ∧ (∀ p ∈ ns, p.2.natAbs ≤ 100) ∧ Pl Z' n ∧ Same n Z Z' ∧ fNs [e0, some nmD, e2, some (.loc n), e4, e5, e6, e7, e8, e9, e10, e11, e12, e13] Z = some (.loc Z'.length, Z' ++ [.dct false (kd ns)]) := by
  obtain ⟨Z', ns, k', v', p', s', h⟩ := ev_nloop n e0 (some (.lst (names6.map D.str))) e2 e4 e5 e6 e7 e8 e9 e10 e12 e13 names6 Z [] hp (by decide)
  refine ⟨Z', ns, k', v', p', s', ?_⟩
  unfold fNr at h
  have hm : mergeD [] (kd ns) = kd ns := by
    have h1 := merge_kd ns []
    rw [merge_new _ _ (by rw [List.nil_append, k']; exact names_nd), List.nil_append] at h1
    exact h1
  have hps := pairs_kd ns
  have hnm : nmD = .lst (names6.map D.str) := rfl
  unfold fNs
  rw [hnm]
  simp only [fDictP, fCons, fNil, fLc, fiL, fVar, itemsF, wipeE, Option.bind_some, Option.map_some, List.getElem?_cons_succ, List.getElem?_cons_zero, List.set_cons_succ, List.set_cons_zero]
  rw [h]
  simp [hps, hm]
/-! ### the worths of all terms of the dict -/
def mWo : GF := r_worth_of
def mWb : GF := r_law_worth_by
def wB (ns : As) (t : Int × As) : Int := t.1 + wsum t.2 (aVal ns)
def bIn : FS := fDPut (fCall mWb (fCons (fDGet (fVar 5) (fVar 11)) (fCons (fVar 7) fNil))) (fVar 10) (fVar 11)
def inAll (bs : Bs) (ns : As) (acc : As) (xs : List Str) : As := xs.foldl (fun acc x => aPut acc x (wB ns (lkB bs x))) acc
theorem inAll_len (bs : Bs) (ns : As) : ∀ (xs : List Str) (acc : As), (inAll bs ns acc xs).length ≤ acc.length + xs.length
  | [], acc => by simp [inAll]
  | x :: xs, acc => by
    have h := len_put acc x (wB ns (lkB bs x))
    have ih := inAll_len bs ns xs (aPut acc x (wB ns (lkB bs x)))
    show (inAll bs ns (aPut acc x (wB ns (lkB bs x))) xs).length ≤ _
    simp only [List.length_cons]
    omega
theorem inAll_val (bs : Bs) (ns : As) (y : Str) : ∀ (xs : List Str) (acc : As), aVal (inAll bs ns acc xs) y = if y ∈ xs then wB ns (lkB bs y) else aVal acc y
  | [], acc => by simp [inAll]
  | x :: xs, acc => by
    show aVal (inAll bs ns (aPut acc x (wB ns (lkB bs x))) xs) y = _
    rw [inAll_val bs ns y xs, aVal_put]
    by_cases h1 : y ∈ xs
    · simp [h1]
    · by_cases h2 : y = x
      · subst h2; simp
      · simp [h1, h2]
theorem inAll_keys (bs : Bs) (ns : As) (y : Str) : ∀ (xs : List Str) (acc : As), y ∈ aKeys acc → y ∈ aKeys (inAll bs ns acc xs)
  | [], acc, h => h
  | x :: xs, acc, h => inAll_keys bs ns y xs _ (by
      rw [aKeys_put]
      split
      · exact h
      · exact List.mem_append_left _ h)
theorem bGet_some {bs : Bs} {p : Str × (Int × As)} (h : p ∈ bs) : ∃ t, bGet bs p.1 = some t := by
  unfold bGet
  cases q : bs.find? fun z => decide (z.1 = p.1) with
  | some z => exact ⟨z.2, rfl⟩
  | none => exact absurd (List.find?_eq_none.mp q p h) (by simp)
theorem ev_inloop (b N I : Nat) (hbI : b ≠ I) (hNI : N ≠ I) (bs : Bs) (ns : As) (hw : ∀ p ∈ bs, WOk p.2.2 ns) (e0 e1 e2 e3 e4 e6 e8 e9 e12 e13 : Option D) : ∀ (xs : List Str) (Z : Store) (acc : As) (e11 : Option D), (∀ x ∈ xs, ∃ t, bGet bs x = some t) →
    Z[b]? = some (.dct true (kb bs)) → Z[N]? = some (.dct false (kd ns)) → Z[I]? = some (.dct false (kd acc)) → acc.length + xs.length < 1000 →
    ∃ Z' e11', Z'[b]? = some (.dct true (kb bs)) ∧ Z'[N]? = some (.dct false (kd ns)) ∧ Z'[I]? = some (.dct false (kd (inAll bs ns acc xs))) ∧
      fLoop (gNm 11) bIn (xs.map D.str) [e0, e1, e2, e3, e4, some (.loc b), e6, some (.loc N), e8, e9, some (.loc I), e11, e12, e13] Z = some (.nx [e0, e1, e2, e3, e4, some (.loc b), e6, some (.loc N), e8, e9, some (.loc I), e11', e12, e13] Z')
  | [], Z, acc, e11, _, hb, hN, hI, _ => ⟨Z, e11, hb, hN, hI, rfl⟩
  | x :: xs, Z, acc, e11, hx, hb, hN, hI, hl => by
    simp only [List.length_cons] at hl
    obtain ⟨t, ht⟩ := hx x (by simp)
    have hlk : lkB bs x = t := by unfold lkB; rw [ht]; rfl
    have hm := hw _ (bGet_mem ht)
    have hwb : mWb [tm t, .loc N] Z = some (.int (wB ns t), Z) := ev_worth_by Z N false ns hN t.1 t.2 hm
    have hIl : I < Z.length := (List.getElem?_eq_some_iff.mp hI).1
    have hkl : (kd acc).length < 100000 := by rw [kd_len]; omega
    have h3 := len_put acc x (wB ns (lkB bs x))
    have step : bIn [e0, e1, e2, e3, e4, some (.loc b), e6, some (.loc N), e8, e9, some (.loc I), some (.str x), e12, e13] Z = some (.nx [e0, e1, e2, e3, e4, some (.loc b), e6, some (.loc N), e8, e9, some (.loc I), some (.str x), e12, e13] (Z.set I (.dct false (kd (aPut acc x (wB ns (lkB bs x))))))) := by
      unfold bIn
      rw [hlk]
      simp [hb, kb_get, ht, hwb, hI, hkl, kd_put]
    obtain ⟨Z', e11', b', n', i', ih⟩ := ev_inloop b N I hbI hNI bs ns hw e0 e1 e2 e3 e4 e6 e8 e9 e12 e13 xs (Z.set I (.dct false (kd (aPut acc x (wB ns (lkB bs x)))))) (aPut acc x (wB ns (lkB bs x))) (some (.str x)) (fun y hy => hx y (by simp [hy]))
      (by rw [List.getElem?_set_ne (fun z => hbI z.symm)]; exact hb) (by rw [List.getElem?_set_ne (fun z => hNI z.symm)]; exact hN) (by rw [List.getElem?_set_self hIl]) (by omega)
    refine ⟨Z', e11', b', n', i', ?_⟩
    rw [List.map_cons]
    unfold fLoop
    rw [show gNm 11 (.str x) [e0, e1, e2, e3, e4, some (.loc b), e6, some (.loc N), e8, e9, some (.loc I), e11, e12, e13] = some [e0, e1, e2, e3, e4, some (.loc b), e6, some (.loc N), e8, e9, some (.loc I), some (.str x), e12, e13] from rfl]
    dsimp only [Option.bind]
    rw [step]
    exact ih
end K08
set_option Elab.async false
set_option linter.all false
set_option maxRecDepth 100000
set_option maxHeartbeats 4000000
set_option exponentiation.threshold 100000
namespace K08
open PySem PySem.Spec PyProof.Rows L2 PU
/-! ### repr of the three -/
theorem toPX_pr (st : Store) (k : Nat) (p : Str × Int) : toPX st (k + 2) (prD p) = some (ppD p) := rfl
theorem toPX_tm (st : Store) (k : Nat) (c : Int) (ps : As) : toPX st (k + 4) (tmD c ps) = some (tmP c ps) := by
  have h1 : allM (toPX st (k + 2)) (ps.map prD) = some (ps.map ppD) := allM_map fun p _ => toPX_pr st k p
  have h2 : toPX st (k + 3) (.tup (ps.map prD)) = some (.tuple (ps.map ppD)) := by
    show (allM (toPX st (k + 2)) (ps.map prD)).map PyData.tuple = _
    rw [h1]
    rfl
  show (allM (toPX st (k + 3)) [.int c, .tup (ps.map prD)]).map PyData.tuple = _
  unfold allM allM allM
  rw [h2]
  rfl
def byP (bs : Bs) : PyData := .dict (bs.map fun p => (.str p.1, tmP p.2.1 p.2.2))
def nsP (ns : As) : PyData := .dict (ns.map fun p => (.str p.1, .int p.2))
theorem zip_maps {α β γ : Type} (f : α → β) (g : α → γ) : ∀ l : List α, (l.map f).zip (l.map g) = l.map fun a => (f a, g a)
  | [] => rfl
  | a :: l => by rw [List.map_cons, List.map_cons, List.zip_cons_cons, zip_maps f g l]; rfl
theorem toPX_by (st : Store) (k b : Nat) (lk : Bool) (bs : Bs) (h : st[b]? = some (.dct lk (kb bs))) : toPX st (k + 5) (.loc b) = some (byP bs) := by
  have h1 : allM (toPX st (k + 4)) ((kb bs).map Prod.snd) = some (bs.map fun p => tmP p.2.1 p.2.2) := by
    have : (kb bs).map Prod.snd = bs.map fun p => tm p.2 := by unfold kb; rw [List.map_map]; rfl
    rw [this]
    exact allM_map fun p _ => toPX_tm st k p.2.1 p.2.2
  show (match st[b]? with
    | some (.lst ds) => (allM (toPX st (k + 4)) ds).map PyData.list
    | some (.flst ds) => (allM (toPX st (k + 4)) ds).map PyData.list
    | some (.dct _ kvs) => (allM (toPX st (k + 4)) (kvs.map Prod.snd)).map fun xs => PyData.dict ((kvs.map fun kv : Key × D => kP kv.1).zip xs)
    | none => none) = _
  rw [h]
  dsimp only
  rw [h1]
  have : (kb bs).map (fun kv => kP kv.1) = bs.map fun p => PyData.str p.1 := by unfold kb; rw [List.map_map]; rfl
  rw [this]
  show some (PyData.dict _) = _
  rw [zip_maps]
  rfl
theorem toPX_ns (st : Store) (k n : Nat) (lk : Bool) (ns : As) (h : st[n]? = some (.dct lk (kd ns))) : toPX st (k + 5) (.loc n) = some (nsP ns) := by
  have h1 : allM (toPX st (k + 4)) ((kd ns).map Prod.snd) = some (ns.map fun p => PyData.int p.2) := by
    have : (kd ns).map Prod.snd = ns.map fun p => D.int p.2 := by unfold kd; rw [List.map_map]; rfl
    rw [this]
    exact allM_map fun p _ => rfl
  show (match st[n]? with
    | some (.lst ds) => (allM (toPX st (k + 4)) ds).map PyData.list
    | some (.flst ds) => (allM (toPX st (k + 4)) ds).map PyData.list
    | some (.dct _ kvs) => (allM (toPX st (k + 4)) (kvs.map Prod.snd)).map fun xs => PyData.dict ((kvs.map fun kv : Key × D => kP kv.1).zip xs)
    | none => none) = _
  rw [h]
  dsimp only
  rw [h1]
  have : (kd ns).map (fun kv => kP kv.1) = ns.map fun p => PyData.str p.1 := by unfold kd; rw [List.map_map]; rfl
  rw [this]
  show some (PyData.dict _) = _
  rw [zip_maps]
  rfl
theorem lt100 {i : Int} (h : i.natAbs ≤ 10 ^ 99) : i.natAbs < 10 ^ 100 := Nat.lt_of_le_of_lt h (by decide)
theorem sh_tm {c : Int} {ps : As} (h : NmOk ps) (hc : c.natAbs ≤ 10 ^ 99) (hb : Bds (10 ^ 99) ps) (hl : ps.length ≤ 4) : Sh 3 2079 (tmP c ps) := by
  have h1 : Shs 1 (ps.length * 436) (ps.map ppD) := shs_map fun p hp => (sh_tup (shs_cons (sh_str 0 (names_ok2 p.1 (h p hp))) (shs_cons (sh_int 0 (lt100 (hb p hp))) (shs_nil 0)))).le (Nat.le_refl _) (by decide)
  exact (sh_tup (shs_cons (sh_int 2 (lt100 hc)) (shs_cons (sh_tup h1) (shs_nil 2)))).le (Nat.le_refl _) (by omega)
theorem p2099 : (10 : Nat) ^ 20 ≤ 10 ^ 99 := by decide
theorem sh_by {bs : Bs} (h : BsOk bs) (hl : bs.length ≤ 4) : Sh 4 8724 (byP bs) := by
  have h1 : Shk 3 (bs.length * (100 + 2079 + 2)) (bs.map fun p => (PyData.str p.1, tmP p.2.1 p.2.2)) := shk_map fun p hp => by
    obtain ⟨hx, t⟩ := h.h p hp
    exact ⟨sh_str 3 (names_ok2 p.1 hx), sh_tm t.nm (Nat.le_trans t.cb p2099) (bd_le t.bd p2099) t.len⟩
  refine (sh_dct h1).le (Nat.le_refl _) ?_
  have : bs.length * (100 + 2079 + 2) ≤ 4 * (100 + 2079 + 2) := Nat.mul_le_mul_right _ hl
  omega
theorem sh_ns {ns : As} (hk : aKeys ns = names6) (hv : ∀ p ∈ ns, p.2.natAbs ≤ 100) : Sh 4 2610 (nsP ns) := by
  have h1 : Shk 3 (ns.length * (100 + 333 + 2)) (ns.map fun p => (PyData.str p.1, PyData.int p.2)) := shk_map fun p hp => by
    have hx : p.1 ∈ names6 := by rw [← hk]; exact key_of hp
    exact ⟨sh_str 3 (names_ok2 p.1 hx), sh_int 3 (lt100 (Nat.le_trans (hv p hp) (by decide)))⟩
  refine (sh_dct h1).le (Nat.le_refl _) ?_
  have hl : ns.length = 6 := by
    have := congrArg List.length hk
    simpa [aKeys, names6] using this
  rw [hl]
  decide
theorem ev_kept {bs : Bs} {ns ps : As} {c : Int} (b N : Nat) (hb : BsOk bs) (hl : bs.length ≤ 4) (hk : aKeys ns = names6) (hv : ∀ p ∈ ns, p.2.natAbs ≤ 100) (t : Tm c ps) :
    ∃ S : Str, ∀ (Z : Store) (lk lk' : Bool), Z[b]? = some (.dct lk (kb bs)) → Z[N]? = some (.dct lk' (kd ns)) → reprAD Z [.lst [tmD c ps, .loc b, .loc N]] = some (.str S) := by
  refine ⟨(PyData.list [tmP c ps, byP bs, nsP ns]).shown, fun Z lk lk' h1 h2 => ?_⟩
  refine reprA_x ?_ (repX_ev ?_ ?_)
  · unfold toPDs
    rw [toPD_tm]
    rfl
  · show (allM (toPX Z 19) [tmD c ps, .loc b, .loc N]).map PyData.list = _
    unfold allM allM allM allM
    rw [toPX_tm Z 15, toPX_by Z 14 b lk bs h1, toPX_ns Z 14 N lk' ns h2]
    rfl
  · exact (sh_lst (shs_cons ((sh_tm t.nm (Nat.le_trans t.cb p2099) (bd_le t.bd p2099) t.len).le (by decide) (Nat.le_refl _)) (shs_cons (sh_by hb hl) (shs_cons (sh_ns hk hv) (shs_nil 4))))).le (by decide) (by decide)
theorem ev_repr_tm (Z : Store) {c : Int} {ps : As} (h : NmOk ps) (hc : c.natAbs ≤ 10 ^ 99) (hb : Bds (10 ^ 99) ps) (hl : ps.length ≤ 60) : reprAD Z [tmD c ps] = some (.str (shwD (tmD c ps))) := by
  obtain ⟨i1, i2, i3⟩ := ok_tm h hc hb
  exact reprA_of (repr_ev i1 (by omega) (by omega))
theorem ev_repr_int (Z : Store) {i : Int} (h : i.natAbs ≤ 10 ^ 99) : reprAD Z [.int i] = some (.str (shwD (.int i))) :=
  reprA_of (repr_ev (by unfold okD; exact decide_eq_true (lt100 h)) (Nat.le_of_ble_eq_true rfl) (Nat.le_of_ble_eq_true rfl))
/-! ### how great the worths are -/
theorem wsum_bd {B F : Nat} {ps : As} {f : Str → Int} (h : Bds B ps) (hf : ∀ p ∈ ps, (f p.1).natAbs ≤ F) : (wsum ps f).natAbs ≤ ps.length * (B * F) := by
  induction ps with
  | nil => simp [wsum]
  | cons p ps ih =>
    have i := ih (fun q hq => h q (by simp [hq])) fun q hq => hf q (by simp [hq])
    have h1 : (p.2 * f p.1).natAbs ≤ B * F := by rw [Int.natAbs_mul]; exact Nat.mul_le_mul (h p (by simp)) (hf p (by simp))
    have h2 := Int.natAbs_add_le (p.2 * f p.1) (wsum ps f)
    rw [wsum_cons, List.length_cons, Nat.succ_mul]
    omega
theorem aVal_bd {B : Nat} {ns : As} (h : ∀ p ∈ ns, p.2.natAbs ≤ B) (y : Str) : (aVal ns y).natAbs ≤ B := by
  by_cases hy : y ∈ aKeys ns
  · exact h _ (aVal_mem hy)
  · unfold aVal
    rw [aGet_none.mpr hy]
    simp
/-- what stands for a name -/
structure Lk (t : Int × As) : Prop where
  c : t.1.natAbs ≤ 10 ^ 20
  nm : NmOk t.2
  bd : Bds (10 ^ 20) t.2
  len : t.2.length ≤ 4
theorem lk_ok {bs : Bs} (h : BsOk bs) {x : Str} (hx : x ∈ names6) : Lk (lkB bs x) := by
  unfold lkB
  cases q : bGet bs x with
  | some t =>
    obtain ⟨_, tt⟩ := h.h _ (bGet_mem q)
    exact ⟨tt.cb, tt.nm, tt.bd, tt.len⟩
  | none =>
    have h1 : (1 : Int).natAbs ≤ 10 ^ 20 := by decide
    exact ⟨Nat.zero_le _, fun p hp => by rw [List.mem_singleton.mp hp]; exact hx, fun p hp => by rw [List.mem_singleton.mp hp]; exact h1, Nat.le_of_ble_eq_true rfl⟩
theorem Lk.ne {t : Int × As} (h : Lk t) : ("" : Str) ∉ aKeys t.2 := fun hm => by
  unfold aKeys at hm
  obtain ⟨p, hp, e⟩ := List.mem_map.mp hm
  have := h.nm p hp
  rw [e] at this
  exact absurd this (by decide +kernel)
section
variable {bs : Bs} {ns ps : As} {c : Int}
theorem nmB_of (hb : BsOk bs) (h : NmOk ps) : NmB bs ps := fun p hp => (lk_ok hb (h p hp)).nm
theorem noE_of (hb : BsOk bs) (h : NmOk ps) : NoE bs ps := fun p hp => (lk_ok hb (h p hp)).ne
theorem p2050 : (10 : Nat) ^ 20 ≤ 10 ^ 50 := by decide
theorem pin_of (hb : BsOk bs) (t : Tm c ps) : PinOk bs ps := fun p hp => by
  have k := lk_ok hb (t.nm p hp)
  have hm := Nat.le_trans (t.bd p hp) p2050
  exact ⟨Nat.le_trans k.len (by decide), mul_sm (Nat.le_trans k.c p2050) hm, all_mul (bd_le k.bd p2050) hm⟩
theorem qin_of (hb : BsOk bs) (t : Tm c ps) : QinOk bs ps := ⟨fun p hp => by
  have k := lk_ok hb (t.nm p hp)
  have hm := Nat.le_trans (t.bd p hp) p2050
  exact ⟨Nat.le_trans k.len (by decide), mul_sm hm (Nat.le_trans k.c p2050), List.all_eq_true.mpr fun q hq => mul_sm hm (Nat.le_trans (k.bd q hq) p2050)⟩⟩
theorem pC_bd (hb : BsOk bs) : ∀ {ps : As}, NmOk ps → Bds (10 ^ 20) ps → (pC bs ps).natAbs ≤ ps.length * (10 ^ 20 * 10 ^ 20)
  | [], _, _ => by simp [pC]
  | p :: ps, h, d => by
    have i := pC_bd hb (ps := ps) (fun q hq => h q (by simp [hq])) fun q hq => d q (by simp [hq])
    have k := lk_ok hb (h p (by simp))
    have h1 : ((lkB bs p.1).1 * p.2).natAbs ≤ 10 ^ 20 * 10 ^ 20 := by rw [Int.natAbs_mul]; exact Nat.mul_le_mul k.c (d p (by simp))
    have h2 := Int.natAbs_add_le ((lkB bs p.1).1 * p.2) (pC bs ps)
    rw [List.length_cons, Nat.succ_mul]
    show ((lkB bs p.1).1 * p.2 + pC bs ps).natAbs ≤ _
    omega
theorem pL_bd (hb : BsOk bs) : ∀ {ps : As}, NmOk ps → Bds (10 ^ 20) ps → Bds (4 * (10 ^ 20 * 10 ^ 20)) (pL bs ps)
  | [], _, _ => by simp [pL, Bds]
  | p :: ps, h, d => by
    have i := pL_bd hb (ps := ps) (fun q hq => h q (by simp [hq])) fun q hq => d q (by simp [hq])
    have k := lk_ok hb (h p (by simp))
    refine bd_app (bd_le (bd_gath (bd_scL k.bd (d p (by simp)))) ?_) i
    rw [scL_len]
    exact Nat.mul_le_mul_right _ k.len
theorem wok_of (hk : aKeys ns = names6) (hv : ∀ p ∈ ns, p.2.natAbs ≤ 100) (h : NmOk ps) (d : Bds (10 ^ 50) ps) (hl : ps.length ≤ 1000) : WOk ps ns :=
  ⟨fun p hp => by rw [hk]; exact h p hp, fun p hp => mul_sm (d p hp) (Nat.le_trans (aVal_bd hv p.1) (by decide)), hl⟩
theorem wB_bd (hv : ∀ p ∈ ns, p.2.natAbs ≤ 100) {t : Int × As} (k : Lk t) : (wB ns t).natAbs ≤ 10 ^ 24 := by
  have h1 := wsum_bd (F := 100) k.bd fun p _ => aVal_bd hv p.1
  have h2 := Int.natAbs_add_le t.1 (wsum t.2 (aVal ns))
  have h3 : t.2.length * (10 ^ 20 * 100) ≤ 4 * (10 ^ 20 * 100) := Nat.mul_le_mul_right _ k.len
  have h4 := k.c
  show (t.1 + wsum t.2 (aVal ns)).natAbs ≤ _
  have h5 : (10 : Nat) ^ 20 + 4 * (10 ^ 20 * 100) ≤ 10 ^ 24 := by decide
  omega
/-- all worths by the dict -/
def innr (bs : Bs) (ns : As) : As := inAll bs ns ns (bs.map Prod.fst)
theorem innr_val (bs : Bs) (ns : As) (y : Str) : aVal (innr bs ns) y = wB ns (lkB bs y) := by
  unfold innr
  rw [inAll_val]
  by_cases h : y ∈ bs.map Prod.fst
  · rw [if_pos h]
  · rw [if_neg h]
    have hn : bGet bs y = none := by
      cases q : bGet bs y with
      | none => rfl
      | some t => exact absurd (List.mem_map_of_mem (f := Prod.fst) (bGet_mem q)) h
    have : lkB bs y = (0, [(y, 1)]) := by unfold lkB; rw [hn]; rfl
    rw [this]
    simp [wB, wsum]
theorem innr_wok (hb : BsOk bs) (hk : aKeys ns = names6) (hv : ∀ p ∈ ns, p.2.natAbs ≤ 100) (t : Tm c ps) : WOk ps (innr bs ns) :=
  ⟨fun p hp => inAll_keys bs ns p.1 _ _ (by rw [hk]; exact t.nm p hp), fun p hp => by
    rw [innr_val]
    exact mul_sm (Nat.le_trans (t.bd p hp) p2050) (Nat.le_trans (wB_bd hv (lk_ok hb (t.nm p hp))) (by decide)), Nat.le_trans t.len (by decide)⟩
theorem innr_worth (bs : Bs) (ns : As) (hb : BsOk bs) (t : Tm c ps) : c + wsum ps (aVal (innr bs ns)) = (c + pC bs ps) + wsum (gathL (pL bs ps)) (aVal ns) := by
  rw [worth_put bs c ps (aVal ns) (nmB_of hb t.nm)]
  congr 1
  exact wsum_congr fun p _ => innr_val bs ns p.1
/-- with nothing put in a term is itself -/
theorem pC_nil : ∀ ps : As, pC [] ps = 0
  | [] => rfl
  | p :: ps => by
    show (lkB [] p.1).1 * p.2 + pC [] ps = 0
    rw [pC_nil ps]
    simp [lkB, bGet]
theorem pL_nil (t : Tm c ps) : gathL (pL [] ps) = ps := by
  rw [← t.can]
  rw [t.can]
  have h : ∀ (ps : As) (x : Str), co (pL [] ps) x = co ps x := by
    intro ps x
    induction ps with
    | nil => rfl
    | cons p ps ih =>
      rw [co_pL, ih]
      simp only [co, lkB, bGet, List.find?_nil, Option.map_none, Option.getD_none]
      split <;> simp
  have := gathL_eq (ps := pL [] ps) (qs := ps) (h ps)
  rw [this]
  exact t.can
end
end K08
set_option Elab.async false
set_option linter.all false
set_option maxRecDepth 100000
set_option maxHeartbeats 4000000
set_option exponentiation.threshold 100000
namespace K08
open PySem PySem.Spec PyProof.Rows L2 PU
def mPut : GF := r_put_in r_of_name mScaled mGath
def mLput : GF := r_law_put_in
def bW : FS := (fIfS (fB (fBin neD (fCallB reprAD (fCons (fCall mWo (fCons (fVar 12) (fCons (fVar 13) fNil))) fNil)) (fCallB reprAD (fCons (fCall mWb (fCons (fVar 12) (fCons (fVar 13) fNil))) fNil)))) (fRet (fC (.bl false))) fNext)
def gW : FG := (gTp (gsCons (gNm 12) (gsCons (gNm 13) gsNil)))
def s1 : FS := fAsg (fCall mPool (fCons (fVar 0) (fCons (fVar 2) fNil))) (gNm 3)
def s2 : FS := fAsg (fCall mTerm (fCons (fVar 3) (fCons (fC (.int 4)) fNil))) (gNm 4)
def s3 : FS := fAsg fDNew (gNm 5)
def s4 : FS := fFor (fiR1 (fCons (fCall mTake (fCons (fVar 3) (fCons (fC (.int 5)) fNil))) fNil)) (gNm 6) bBy
def s5 : FS := fAsg fNs (gNm 7)
def s6 : FS := fAsg (fCallB reprAD (fCons (fLst (fCons (fVar 4) (fCons (fVar 5) (fCons (fVar 7) fNil)))) fNil)) (gNm 8)
def s7 : FS := fAsg (fCall mPut (fCons (fVar 4) (fCons (fVar 5) fNil))) (gNm 9)
def s8 : FS := (fIfS (fTOr (fB (fBin neD (fCallB reprAD (fCons (fVar 9) fNil)) (fCallB reprAD (fCons (fCall mLput (fCons (fVar 4) (fCons (fVar 5) fNil))) fNil)))) (fB (fBin neD (fCallB reprAD (fCons (fLst (fCons (fVar 4) (fCons (fVar 5) (fCons (fVar 7) fNil)))) fNil)) (fVar 8)))) (fRet (fC (.bl false))) fNext)
def s9 : FS := fAsg (fDictC (fCons (fVar 7) fNil)) (gNm 10)
def s10 : FS := fFor (fiKeys (fVar 5)) (gNm 11) bIn
def s11 : FS := fFor (fiL (fLst (fCons (fTup (fCons (fVar 4) (fCons (fVar 7) fNil))) (fCons (fTup (fCons (fVar 9) (fCons (fVar 7) fNil))) (fCons (fTup (fCons (fVar 4) (fCons (fVar 10) fNil))) fNil))))) gW bW
def s12 : FS := (fIfS (fTOr (fB (fBin neD (fCall mWo (fCons (fVar 9) (fCons (fVar 7) fNil))) (fCall mWo (fCons (fVar 4) (fCons (fVar 10) fNil))))) (fB (fBin neD (fCall mPut (fCons (fVar 4) (fCons fDNew fNil))) (fVar 4)))) (fRet (fC (.bl false))) fNext)
def bTurn : FS := fSeq s1 (fSeq s2 (fSeq s3 (fSeq s4 (fSeq s5 (fSeq s6 (fSeq s7 (fSeq s8 (fSeq s9 (fSeq s10 (fSeq s11 s12))))))))))
theorem b_law_eq : b_law mPool mTerm mTake mPut mLput mWb mWo = (fSeq (fAsg (fLst (fCons (fC (.str "a")) (fCons (fC (.str "b")) (fCons (fC (.str "c")) (fCons (fC (.str "i")) (fCons (fC (.str "abc")) (fCons (fC (.str "zzzzzz")) fNil))))))) (gNm 1))
    (fSeq (fFor (fiR1 (fCons (fCallB max2D (fCons (fC (.int 1)) (fCons (fCallB min2D (fCons (fCallB lenD (fCons (fVar 0) fNil)) (fCons (fC (.int 30)) fNil))) fNil))) fNil)) (gNm 2) bTurn)
    (fRet (fC (.bl true))))) := rfl
theorem seq_nx {f g : FS} {env e : PU.Env} {st s : Store} (h : f env st = some (.nx e s)) : fSeq f g env st = g e s := by
  unfold fSeq
  rw [h]
  rfl
/-- where both worths are one -/
theorem ev_bW (Z : Store) {e0 e1 e2 e3 e4 e5 e6 e7 e8 e9 e10 e11 : Option D} {a d : D} {w : Int} (h1 : mWo [a, d] Z = some (.int w, Z)) (h2 : mWb [a, d] Z = some (.int w, Z)) (hw : w.natAbs ≤ 10 ^ 99) :
    bW [e0, e1, e2, e3, e4, e5, e6, e7, e8, e9, e10, e11, some a, some d] Z = some (.nx [e0, e1, e2, e3, e4, e5, e6, e7, e8, e9, e10, e11, some a, some d] Z) := by
  have hr := ev_repr_int Z hw
  unfold bW
  simp [-neD, h1, h2, hr, ne_str]
theorem ev_turn (is : List Int) (his : is.length ≤ 63) (k : Nat) (hk : k ≤ 30) (st : Store) (e3 e4 e5 e6 e7 e8 e9 e10 e11 e12 e13 : Option D) :
    ∃ e3' e4' e5' e6' e7' e8' e9' e10' e11' e12' e13' st', bTurn [some (.frz (is.map D.int)), some nmD, some (.int (k : Int)), e3, e4, e5, e6, e7, e8, e9, e10, e11, e12, e13] st = some (.nx [some (.frz (is.map D.int)), some nmD, some (.int (k : Int)), e3', e4', e5', e6', e7', e8', e9', e10', e11', e12', e13'] st') := by
  obtain ⟨g0, m0, F1⟩ := ev_pool is his k st hk
  have F1 : mPool [.frz (is.map D.int), .int (k : Int)] st = some (.loc st.length, st ++ [.lst [.int g0, .int m0]]) := F1
  have P1 : Pl (st ++ [.lst [.int g0, .int m0]]) st.length := ⟨g0, m0, last_get _ _⟩
  generalize st ++ [.lst [.int g0, .int m0]] = S1 at *
  generalize st.length = n at *
  generalize hE0 : some (D.frz (is.map D.int)) = E0 at *
  generalize hE2 : some (D.int (k : Int)) = E2 at *
  have H1 : s1 [E0, some nmD, E2, e3, e4, e5, e6, e7, e8, e9, e10, e11, e12, e13] st = some (.nx [E0, some nmD, E2, some (.loc n), e4, e5, e6, e7, e8, e9, e10, e11, e12, e13] S1) := by
    unfold s1
    subst hE0 hE2
    simp [F1]
  obtain ⟨c, ps, S2, t, P2, _, F2⟩ := ev_term n 4 (by decide) (by decide) S1 P1
  have F2 : mTerm [.loc n, .int 4] S1 = some (tmD c ps, S2) := F2
  have H2 : s2 [E0, some nmD, E2, some (.loc n), e4, e5, e6, e7, e8, e9, e10, e11, e12, e13] S1 = some (.nx [E0, some nmD, E2, some (.loc n), some (tmD c ps), e5, e6, e7, e8, e9, e10, e11, e12, e13] S2) := by
    unfold s2
    simp [F2]
  have hn2 := pl_lt P2
  have H3 : s3 [E0, some nmD, E2, some (.loc n), some (tmD c ps), e5, e6, e7, e8, e9, e10, e11, e12, e13] S2 = some (.nx [E0, some nmD, E2, some (.loc n), some (tmD c ps), some (.loc S2.length), e6, e7, e8, e9, e10, e11, e12, e13] (S2 ++ [.dct false []])) := by
    unfold s3
    simp
  have P3 : Pl (S2 ++ [.dct false []]) n := pl_app P2 _
  have B3 : (S2 ++ [Ob.dct false []])[S2.length]? = some (.dct false (kb [])) := last_get _ _
  have hnb : n ≠ S2.length := by omega
  generalize S2 ++ [Ob.dct false []] = S3 at *
  generalize S2.length = b at *
  obtain ⟨N, S4, N1, N2, F4, P4, s4', l4⟩ := take_same (k := 5) P3 (by decide) (by decide)
  have hb3 : b < S3.length := (List.getElem?_eq_some_iff.mp B3).1
  have B4 : S4[b]? = some (.dct false (kb [])) := by rw [s4'.get b hb3 (fun z => hnb z.symm)]; exact B3
  obtain ⟨S5, bs, e6', P5, B5, okB, lB, _, L5⟩ := ev_byloop n b hnb E0 E2 (some (tmD c ps)) e7 e8 e9 e10 e11 e12 e13 (rangeD 0 N.toNat) S4 [] e6 P4 B4 (by simp [rangeD]; omega) ⟨by simp⟩
  have lB : bs.length ≤ 4 := by simp [rangeD] at lB; omega
  have H4 : s4 [E0, some nmD, E2, some (.loc n), some (tmD c ps), some (.loc b), e6, e7, e8, e9, e10, e11, e12, e13] S3 = some (.nx [E0, some nmD, E2, some (.loc n), some (tmD c ps), some (.loc b), e6', e7, e8, e9, e10, e11, e12, e13] S5) := by
    have hb1 : (-4611686018427387904 : Int) ≤ N := by omega
    have hb2 : N < (4611686018427387904 : Int) := by omega
    unfold s4
    simp [-fLoop, F4, hb1, hb2, L5]
  obtain ⟨S6, ns, hkn, hv, P6, s6', F5⟩ := ev_numbers n E0 E2 (some (tmD c ps)) (some (.loc b)) e6' e7 e8 e9 e10 e11 e12 e13 S5 P5
  have hb5 : b < S5.length := (List.getElem?_eq_some_iff.mp B5).1
  have B6 : S6[b]? = some (.dct false (kb bs)) := by rw [s6'.get b hb5 (fun z => hnb z.symm)]; exact B5
  have hb6 : b < S6.length := (List.getElem?_eq_some_iff.mp B6).1
  have H5 : s5 [E0, some nmD, E2, some (.loc n), some (tmD c ps), some (.loc b), e6', e7, e8, e9, e10, e11, e12, e13] S5 = some (.nx [E0, some nmD, E2, some (.loc n), some (tmD c ps), some (.loc b), e6', some (.loc S6.length), e8, e9, e10, e11, e12, e13] (S6 ++ [.dct false (kd ns)])) := by
    unfold s5
    simp [F5]
  have B7 : (S6 ++ [Ob.dct false (kd ns)])[b]? = some (.dct false (kb bs)) := by rw [List.getElem?_append_left hb6]; exact B6
  have N7 : (S6 ++ [Ob.dct false (kd ns)])[S6.length]? = some (.dct false (kd ns)) := last_get _ _
  have hbN : b ≠ S6.length := by omega
  generalize S6 ++ [Ob.dct false (kd ns)] = S7 at *
  generalize S6.length = M at *
  obtain ⟨Q, FQ⟩ := ev_kept b M okB lB hkn hv t
  have H6 : s6 [E0, some nmD, E2, some (.loc n), some (tmD c ps), some (.loc b), e6', some (.loc M), e8, e9, e10, e11, e12, e13] S7 = some (.nx [E0, some nmD, E2, some (.loc n), some (tmD c ps), some (.loc b), e6', some (.loc M), some (.str Q), e9, e10, e11, e12, e13] S7) := by
    have := FQ S7 false false B7 N7
    unfold s6
    simp [this]
  -- put_in
  have hb7 : b < S7.length := (List.getElem?_eq_some_iff.mp B7).1
  have hM7 : M < S7.length := (List.getElem?_eq_some_iff.mp N7).1
  have F7 : mPut [tmD c ps, .loc b] S7 = some (gath (c + pC bs ps) (pL bs ps), S7 ++ [.flst ((pL bs ps).map prD)]) := ev_put_in S7 b false bs B7 c ps (pin_of okB t) (Nat.le_trans t.len (by decide))
  have B8 : (S7 ++ [Ob.flst ((pL bs ps).map prD)])[b]? = some (.dct false (kb bs)) := by rw [List.getElem?_append_left hb7]; exact B7
  have N8 : (S7 ++ [Ob.flst ((pL bs ps).map prD)])[M]? = some (.dct false (kd ns)) := by rw [List.getElem?_append_left hM7]; exact N7
  generalize S7 ++ [Ob.flst ((pL bs ps).map prD)] = S8 at *
  -- the found one is small
  have pb := pL_bd okB t.nm t.bd
  have pl := pL_len bs ps (pin_of okB t)
  have tl := t.len
  have gl := gathL_len (pL bs ps)
  have nmL : NmOk (gathL (pL bs ps)) := nm_gath (nm_pL bs ps (nmB_of okB t.nm))
  have bdL : Bds (10 ^ 43) (gathL (pL bs ps)) := bd_le (bd_gath pb) (by
    have h1 : (pL bs ps).length * (4 * (10 ^ 20 * 10 ^ 20)) ≤ 32 * (4 * (10 ^ 20 * 10 ^ 20)) := Nat.mul_le_mul_right _ (by omega)
    exact Nat.le_trans h1 (by decide))
  have cb : (c + pC bs ps).natAbs ≤ 10 ^ 43 := by
    have h1 := pC_bd okB t.nm t.bd
    have h2 := Int.natAbs_add_le c (pC bs ps)
    have h3 : ps.length * (10 ^ 20 * 10 ^ 20) ≤ 4 * (10 ^ 20 * 10 ^ 20) := Nat.mul_le_mul_right _ tl
    have h4 := t.cb
    have h5 : (10 : Nat) ^ 20 + 4 * (10 ^ 20 * 10 ^ 20) ≤ 10 ^ 43 := by decide
    omega
  have p4399 : (10 : Nat) ^ 43 ≤ 10 ^ 99 := by decide
  have RG : ∀ Z, reprAD Z [gath (c + pC bs ps) (pL bs ps)] = some (.str (shwD (gath (c + pC bs ps) (pL bs ps)))) := fun Z => ev_repr_tm Z nmL (Nat.le_trans cb p4399) (bd_le bdL p4399) (by omega)
  have F8 := ev_law_put_in S8 b false bs B8 c ps (qin_of okB t) (by omega)
  rw [both_put bs c ps (noE_of okB t.nm)] at F8
  have F8 : mLput [tmD c ps, .loc b] S8 = _ := F8
  have hb8 : b < S8.length := (List.getElem?_eq_some_iff.mp B8).1
  have hM8 : M < S8.length := (List.getElem?_eq_some_iff.mp N8).1
  generalize hq : Ob.dct false (kd (qAll bs [("", c)] ps)) = oq at *
  have B9 : (S8 ++ [oq])[b]? = some (.dct false (kb bs)) := by rw [List.getElem?_append_left hb8]; exact B8
  have N9 : (S8 ++ [oq])[M]? = some (.dct false (kd ns)) := by rw [List.getElem?_append_left hM8]; exact N8
  generalize S8 ++ [oq] = S9 at *
  have H7 : s7 [E0, some nmD, E2, some (.loc n), some (tmD c ps), some (.loc b), e6', some (.loc M), some (.str Q), e9, e10, e11, e12, e13] S7 = some (.nx [E0, some nmD, E2, some (.loc n), some (tmD c ps), some (.loc b), e6', some (.loc M), some (.str Q), some (gath (c + pC bs ps) (pL bs ps)), e10, e11, e12, e13] S8) := by
    unfold s7
    simp [F7]
  have H8 : s8 [E0, some nmD, E2, some (.loc n), some (tmD c ps), some (.loc b), e6', some (.loc M), some (.str Q), some (gath (c + pC bs ps) (pL bs ps)), e10, e11, e12, e13] S8 = some (.nx [E0, some nmD, E2, some (.loc n), some (tmD c ps), some (.loc b), e6', some (.loc M), some (.str Q), some (gath (c + pC bs ps) (pL bs ps)), e10, e11, e12, e13] S9) := by
    have h1 := RG S8
    have h2 := RG S9
    have h3 := FQ S9 false false B9 N9
    unfold s8
    simp [-neD, h1, h2, h3, F8, ne_str]
  have hb9 : b < S9.length := (List.getElem?_eq_some_iff.mp B9).1
  have hM9 : M < S9.length := (List.getElem?_eq_some_iff.mp N9).1
  have H9 : s9 [E0, some nmD, E2, some (.loc n), some (tmD c ps), some (.loc b), e6', some (.loc M), some (.str Q), some (gath (c + pC bs ps) (pL bs ps)), e10, e11, e12, e13] S9 = some (.nx [E0, some nmD, E2, some (.loc n), some (tmD c ps), some (.loc b), e6', some (.loc M), some (.str Q), some (gath (c + pC bs ps) (pL bs ps)), some (.loc S9.length), e11, e12, e13] (S9 ++ [.dct false (kd ns)])) := by
    unfold s9
    simp [N9]
  have B10 : (S9 ++ [Ob.dct false (kd ns)])[b]? = some (.dct false (kb bs)) := by rw [List.getElem?_append_left hb9]; exact B9
  have N10 : (S9 ++ [Ob.dct false (kd ns)])[M]? = some (.dct false (kd ns)) := by rw [List.getElem?_append_left hM9]; exact N9
  have I10 : (S9 ++ [Ob.dct false (kd ns)])[S9.length]? = some (.dct false (kd ns)) := last_get _ _
  have hbI : b ≠ S9.length := by omega
  have hMI : M ≠ S9.length := by omega
  generalize S9 ++ [Ob.dct false (kd ns)] = S10 at *
  generalize S9.length = I at *
  have hb10 : b < S10.length := (List.getElem?_eq_some_iff.mp B10).1
  have hI10 : I < S10.length := (List.getElem?_eq_some_iff.mp I10).1
  have hns : ns.length = 6 := by
    have := congrArg List.length hkn
    simpa [aKeys, names6] using this
  obtain ⟨S12, e11', B12, N12, I12, L12⟩ := ev_inloop b M I hbI hMI bs ns (fun p hp => by
      obtain ⟨_, tt⟩ := okB.h p hp
      exact wok_of hkn hv tt.nm (bd_le tt.bd p2050) (Nat.le_trans tt.len (by decide))) E0 (some nmD) E2 (some (.loc n)) (some (tmD c ps)) e6' (some (.str Q)) (some (gath (c + pC bs ps) (pL bs ps))) e12 e13 (bs.map Prod.fst) (S10.set b (.dct true (kb bs))) ns e11
    (fun x hx => by
      obtain ⟨p, hp, rfl⟩ := List.mem_map.mp hx
      exact bGet_some hp)
    (by rw [List.getElem?_set_self hb10]) (by rw [List.getElem?_set_ne hbN]; exact N10) (by rw [List.getElem?_set_ne hbI]; exact I10) (by rw [List.length_map]; omega)
  have H10 : s10 [E0, some nmD, E2, some (.loc n), some (tmD c ps), some (.loc b), e6', some (.loc M), some (.str Q), some (gath (c + pC bs ps) (pL bs ps)), some (.loc I), e11, e12, e13] S10 = some (.nx [E0, some nmD, E2, some (.loc n), some (tmD c ps), some (.loc b), e6', some (.loc M), some (.str Q), some (gath (c + pC bs ps) (pL bs ps)), some (.loc I), e11', e12, e13] S12) := by
    have hi : (kb bs).map (fun kv => dKey kv.1) = (bs.map Prod.fst).map D.str := by
      unfold kb
      rw [List.map_map, List.map_map]
      rfl
    unfold s10
    simp only [fFor, fiKeys, fVar, List.getElem?_cons_succ, List.getElem?_cons_zero, Option.bind_some]
    rw [B10]
    dsimp only [Option.bind]
    rw [hi]
    exact L12
  have I12 : S12[I]? = some (.dct false (kd (innr bs ns))) := I12
  -- the worths
  have w1 : WOk ps ns := wok_of hkn hv t.nm (bd_le t.bd p2050) (by omega)
  have w2 : WOk (gathL (pL bs ps)) ns := wok_of hkn hv nmL (bd_le bdL (by decide)) (by omega)
  have w3 : WOk ps (innr bs ns) := innr_wok okB hkn hv t
  have W1 : mWo [tmD c ps, .loc M] S12 = some (.int (c + wsum ps (aVal ns)), S12) := ev_worth S12 M false ns N12 c ps w1
  have W1' : mWb [tmD c ps, .loc M] S12 = some (.int (c + wsum ps (aVal ns)), S12) := ev_worth_by S12 M false ns N12 c ps w1
  have W2 : mWo [gath (c + pC bs ps) (pL bs ps), .loc M] S12 = some (.int (c + pC bs ps + wsum (gathL (pL bs ps)) (aVal ns)), S12) := ev_worth S12 M false ns N12 _ _ w2
  have W2' : mWb [gath (c + pC bs ps) (pL bs ps), .loc M] S12 = some (.int (c + pC bs ps + wsum (gathL (pL bs ps)) (aVal ns)), S12) := ev_worth_by S12 M false ns N12 _ _ w2
  have W3 : mWo [tmD c ps, .loc I] S12 = some (.int (c + wsum ps (aVal (innr bs ns))), S12) := ev_worth S12 I false _ I12 c ps w3
  have W3' : mWb [tmD c ps, .loc I] S12 = some (.int (c + wsum ps (aVal (innr bs ns))), S12) := ev_worth_by S12 I false _ I12 c ps w3
  have v1 : (c + wsum ps (aVal ns)).natAbs ≤ 10 ^ 99 := by
    have h1 := wsum_bd (F := 100) t.bd fun p _ => aVal_bd hv p.1
    have h2 := Int.natAbs_add_le c (wsum ps (aVal ns))
    have h3 : ps.length * (10 ^ 20 * 100) ≤ 4 * (10 ^ 20 * 100) := Nat.mul_le_mul_right _ tl
    have h4 := t.cb
    have h5 : (10 : Nat) ^ 20 + 4 * (10 ^ 20 * 100) ≤ 10 ^ 99 := by decide
    omega
  have v2 : (c + pC bs ps + wsum (gathL (pL bs ps)) (aVal ns)).natAbs ≤ 10 ^ 99 := by
    have h1 := wsum_bd (F := 100) bdL fun p _ => aVal_bd hv p.1
    have h2 := Int.natAbs_add_le (c + pC bs ps) (wsum (gathL (pL bs ps)) (aVal ns))
    have h3 : (gathL (pL bs ps)).length * (10 ^ 43 * 100) ≤ 32 * (10 ^ 43 * 100) := Nat.mul_le_mul_right _ (by omega)
    have h5 : (10 : Nat) ^ 43 + 32 * (10 ^ 43 * 100) ≤ 10 ^ 99 := by decide
    omega
  have ew := innr_worth (c := c) bs ns okB t
  have v3 : (c + wsum ps (aVal (innr bs ns))).natAbs ≤ 10 ^ 99 := by rw [ew]; exact v2
  -- with nothing put in
  have F13 := ev_put_in (S12 ++ [.dct false []]) S12.length false [] (last_get _ _) c ps (fun p hp => by
    have k := lk_ok (bs := []) ⟨by simp⟩ (t.nm p hp)
    have hm := Nat.le_trans (t.bd p hp) p2050
    exact ⟨Nat.le_trans k.len (by decide), mul_sm (Nat.le_trans k.c p2050) hm, all_mul (bd_le k.bd p2050) hm⟩) (by omega)
  have F13 : mPut [tmD c ps, .loc S12.length] (S12 ++ [.dct false []]) = _ := F13
  have hg : gath (c + pC [] ps) (pL [] ps) = tmD c ps := by
    unfold gath
    rw [pC_nil, pL_nil t, Int.add_zero]
  rw [hg] at F13
  have NE : ∀ Z, neD Z (tmD c ps) (tmD c ps) = some (.bl false) := fun Z => eq_tm Z t.nm
  have NI : ∀ Z (i : Int), neD Z (.int i) (.int i) = some (.bl false) := fun Z i => by rw [ne_int]; simp
  have N13 := NE (S12 ++ [.dct false []] ++ [.flst ((pL [] ps).map prD)])
  generalize S12 ++ [.dct false []] ++ [.flst ((pL [] ps).map prD)] = S14 at *
  have T1 := ev_bW S12 (e0 := E0) (e1 := some nmD) (e2 := E2) (e3 := some (.loc n)) (e4 := some (tmD c ps)) (e5 := some (.loc b)) (e6 := e6') (e7 := some (.loc M)) (e8 := some (.str Q)) (e9 := some (gath (c + pC bs ps) (pL bs ps))) (e10 := some (.loc I)) (e11 := e11') W1 W1' v1
  have T2 := ev_bW S12 (e0 := E0) (e1 := some nmD) (e2 := E2) (e3 := some (.loc n)) (e4 := some (tmD c ps)) (e5 := some (.loc b)) (e6 := e6') (e7 := some (.loc M)) (e8 := some (.str Q)) (e9 := some (gath (c + pC bs ps) (pL bs ps))) (e10 := some (.loc I)) (e11 := e11') W2 W2' v2
  have T3 := ev_bW S12 (e0 := E0) (e1 := some nmD) (e2 := E2) (e3 := some (.loc n)) (e4 := some (tmD c ps)) (e5 := some (.loc b)) (e6 := e6') (e7 := some (.loc M)) (e8 := some (.str Q)) (e9 := some (gath (c + pC bs ps) (pL bs ps))) (e10 := some (.loc I)) (e11 := e11') W3 W3' v3
  rw [ew] at W3
  generalize gath (c + pC bs ps) (pL bs ps) = G at *
  generalize tmD c ps = T at *
  have H11 : s11 [E0, some nmD, E2, some (.loc n), some T, some (.loc b), e6', some (.loc M), some (.str Q), some G, some (.loc I), e11', e12, e13] S12 = some (.nx [E0, some nmD, E2, some (.loc n), some T, some (.loc b), e6', some (.loc M), some (.str Q), some G, some (.loc I), e11', some T, some (.loc I)] S12) := by
    unfold s11
    simp [gW, T1, T2, T3]
  have H12 : s12 [E0, some nmD, E2, some (.loc n), some T, some (.loc b), e6', some (.loc M), some (.str Q), some G, some (.loc I), e11', some T, some (.loc I)] S12 = some (.nx [E0, some nmD, E2, some (.loc n), some T, some (.loc b), e6', some (.loc M), some (.str Q), some G, some (.loc I), e11', some T, some (.loc I)] S14) := by
    have h1 := NI S12
    unfold s12
    simp [-neD, W2, W3, h1, F13, N13]
  refine ⟨some (.loc n), some T, some (.loc b), e6', some (.loc M), some (.str Q), some G, some (.loc I), e11', some T, some (.loc I), S14, ?_⟩
  unfold bTurn
  rw [seq_nx H1, seq_nx H2, seq_nx H3, seq_nx H4, seq_nx H5, seq_nx H6, seq_nx H7, seq_nx H8, seq_nx H9, seq_nx H10, seq_nx H11]
  exact H12
end K08
set_option Elab.async false
set_option linter.all false
set_option maxRecDepth 100000
set_option maxHeartbeats 4000000
set_option exponentiation.threshold 100000
namespace K08
open PySem PySem.Spec PyProof.Rows L2 PU
theorem ev_loop (ns : List Int) (hns : ns.length ≤ 63) : ∀ (ks : List Nat), (∀ k ∈ ks, k ≤ 30) → ∀ (st : Store) (e2 e3 e4 e5 e6 e7 e8 e9 e10 e11 e12 e13 : Option D),
    ∃ f2 f3 f4 f5 f6 f7 f8 f9 f10 f11 f12 f13 st', fLoop (gNm 2) bTurn (ks.map fun (k : Nat) => D.int (0 + (k : Int))) [some (.frz (ns.map D.int)), some nmD, e2, e3, e4, e5, e6, e7, e8, e9, e10, e11, e12, e13] st = some (.nx [some (.frz (ns.map D.int)), some nmD, f2, f3, f4, f5, f6, f7, f8, f9, f10, f11, f12, f13] st')
  | [], _, st, e2, e3, e4, e5, e6, e7, e8, e9, e10, e11, e12, e13 => ⟨e2, e3, e4, e5, e6, e7, e8, e9, e10, e11, e12, e13, st, rfl⟩
  | k :: ks, h, st, e2, e3, e4, e5, e6, e7, e8, e9, e10, e11, e12, e13 => by
    obtain ⟨f3, f4, f5, f6, f7, f8, f9, f10, f11, f12, f13, s1, ht⟩ := ev_turn ns hns k (h k (by simp)) st e3 e4 e5 e6 e7 e8 e9 e10 e11 e12 e13
    obtain ⟨g2, g3, g4, g5, g6, g7, g8, g9, g10, g11, g12, g13, s2, hl⟩ := ev_loop ns hns ks (fun j hj => h j (by simp [hj])) s1 (some (.int (k : Int))) f3 f4 f5 f6 f7 f8 f9 f10 f11 f12 f13
    refine ⟨g2, g3, g4, g5, g6, g7, g8, g9, g10, g11, g12, g13, s2, ?_⟩
    simp only [List.map_cons, fLoop, gNm, Option.bind_some, List.set_cons_succ, List.set_cons_zero, Int.zero_add, ht, hl]
    simpa using hl
theorem ev_law : LawTrue (r_law mPool mTerm mTake mPut mLput mWb mWo) 63 := by
  intro ns h
  unfold r_law
  rw [b_law_eq]
  have hN : ∃ N : Int, (if (1 : Int) < (if (30 : Int) < (ns.length : Int) then 30 else (ns.length : Int)) then (if (30 : Int) < (ns.length : Int) then 30 else (ns.length : Int)) else 1) = N ∧ 1 ≤ N ∧ N ≤ 30 := ⟨_, rfl, by omega, by omega⟩
  obtain ⟨N, hN, hN1, hN2⟩ := hN
  obtain ⟨f2, f3, f4, f5, f6, f7, f8, f9, f10, f11, f12, f13, st', hl⟩ := ev_loop ns h (List.range N.toNat) (fun k hk => by have := List.mem_range.mp hk; omega) [] none none none none none none none none none none none none
  have hl : fLoop (gNm 2) bTurn (rangeD 0 N.toNat) _ _ = _ := hl
  unfold nmD at hl
  refine ⟨st', ?_⟩
  have hb1' : (-4611686018427387904 : Int) ≤ N := by omega
  have hb2' : N < (4611686018427387904 : Int) := by omega
  simp only [runP, fSeq, fFor, fiR1, fCallB, fCons, fNil, fVar, fC, fRet]
  simp [hN, hb1', hb2', hl, List.replicate]
end K08
set_option Elab.async false
set_option linter.all false
set_option maxRecDepth 100000
set_option maxHeartbeats 4000000
namespace K08
open PySem PySem.Spec PyProof.Rows L2 PU
theorem all_mk {l : PySem.W.OpenLaw} {w : World} {K : PySem.W.Frag} {h : Heap} {mg : Str → Option Value} {fa f0 f1 f2 f3 f4 f5 f6 f7 f8 f9 f10 : Addr} (X : K.In h) (G : h.Ns mainGlobals mg) (hfa : mg "law" = some (.ref fa))
    {od0 an0 od1 an1 od2 an2 od3 an3 od4 an4 od5 an5 od6 an6 od7 an7 od8 an8 od9 an9 od10 an10 : Option Addr} {sl0 sl1 sl2 sl3 sl4 sl5 sl6 sl7 sl8 sl9 sl10 : Array (Option Value)} {oc0 kV0 dc0 pm0 cd0 ct0 oc1 kV1 dc1 pm1 cd1 ct1 oc2 kV2 dc2 pm2 cd2 ct2 oc3 kV3 dc3 pm3 cd3 ct3 oc4 kV4 dc4 pm4 cd4 ct4 oc5 kV5 dc5 pm5 cd5 ct5 oc6 kV6 dc6 pm6 cd6 ct6 oc7 kV7 dc7 pm7 cd7 ct7 oc8 kV8 dc8 pm8 cd8 ct8 oc9 kV9 dc9 pm9 cd9 ct9 oc10 kV10 dc10 pm10 cd10 ct10 : Value}
    (a0 : PySem.W.nsIn K mainGlobals "_law_pool" = some (some (.ref f0))) (l0 : K.lookup f0 = some ⟨oc0, od0, .func (PySem.W.fnOf "_law_pool" "_law_pool" (defArgs s_law_pool) (defBody s_law_pool) (defScope s_law_pool) .none kV0 dc0 pm0 an0 cd0 ct0), sl0⟩) (c0 : PySem.W.codeIn K cd0 "_law_pool" = true) (k0 : PySem.W.keepIn K (.ref f0) = true)
    (a1 : PySem.W.nsIn K mainGlobals "_law_take" = some (some (.ref f1))) (l1 : K.lookup f1 = some ⟨oc1, od1, .func (PySem.W.fnOf "_law_take" "_law_take" (defArgs s_law_take) (defBody s_law_take) (defScope s_law_take) .none kV1 dc1 pm1 an1 cd1 ct1), sl1⟩) (c1 : PySem.W.codeIn K cd1 "_law_take" = true) (k1 : PySem.W.keepIn K (.ref f1) = true)
    (a2 : PySem.W.nsIn K mainGlobals "_law_term" = some (some (.ref f2))) (l2 : K.lookup f2 = some ⟨oc2, od2, .func (PySem.W.fnOf "_law_term" "_law_term" (defArgs s_law_term) (defBody s_law_term) (defScope s_law_term) .none kV2 dc2 pm2 an2 cd2 ct2), sl2⟩) (c2 : PySem.W.codeIn K cd2 "_law_term" = true) (k2 : PySem.W.keepIn K (.ref f2) = true)
    (a3 : PySem.W.nsIn K mainGlobals "_gathered" = some (some (.ref f3))) (l3 : K.lookup f3 = some ⟨oc3, od3, .func (PySem.W.fnOf "_gathered" "_gathered" (defArgs s_gathered) (defBody s_gathered) (defScope s_gathered) .none kV3 dc3 pm3 an3 cd3 ct3), sl3⟩) (c3 : PySem.W.codeIn K cd3 "_gathered" = true) (k3 : PySem.W.keepIn K (.ref f3) = true)
    (a4 : PySem.W.nsIn K mainGlobals "scaled" = some (some (.ref f4))) (l4 : K.lookup f4 = some ⟨oc4, od4, .func (PySem.W.fnOf "scaled" "scaled" (defArgs s_scaled) (defBody s_scaled) (defScope s_scaled) .none kV4 dc4 pm4 an4 cd4 ct4), sl4⟩) (c4 : PySem.W.codeIn K cd4 "scaled" = true) (k4 : PySem.W.keepIn K (.ref f4) = true)
    (a5 : PySem.W.nsIn K mainGlobals "of_name" = some (some (.ref f5))) (l5 : K.lookup f5 = some ⟨oc5, od5, .func (PySem.W.fnOf "of_name" "of_name" (defArgs s_of_name) (defBody s_of_name) (defScope s_of_name) .none kV5 dc5 pm5 an5 cd5 ct5), sl5⟩) (c5 : PySem.W.codeIn K cd5 "of_name" = true) (k5 : PySem.W.keepIn K (.ref f5) = true)
    (a6 : PySem.W.nsIn K mainGlobals "put_in" = some (some (.ref f6))) (l6 : K.lookup f6 = some ⟨oc6, od6, .func (PySem.W.fnOf "put_in" "put_in" (defArgs s_put_in) (defBody s_put_in) (defScope s_put_in) .none kV6 dc6 pm6 an6 cd6 ct6), sl6⟩) (c6 : PySem.W.codeIn K cd6 "put_in" = true) (k6 : PySem.W.keepIn K (.ref f6) = true)
    (a7 : PySem.W.nsIn K mainGlobals "_law_worth_by" = some (some (.ref f7))) (l7 : K.lookup f7 = some ⟨oc7, od7, .func (PySem.W.fnOf "_law_worth_by" "_law_worth_by" (defArgs s_law_worth_by) (defBody s_law_worth_by) (defScope s_law_worth_by) .none kV7 dc7 pm7 an7 cd7 ct7), sl7⟩) (c7 : PySem.W.codeIn K cd7 "_law_worth_by" = true) (k7 : PySem.W.keepIn K (.ref f7) = true)
    (a8 : PySem.W.nsIn K mainGlobals "worth_of" = some (some (.ref f8))) (l8 : K.lookup f8 = some ⟨oc8, od8, .func (PySem.W.fnOf "worth_of" "worth_of" (defArgs s_worth_of) (defBody s_worth_of) (defScope s_worth_of) .none kV8 dc8 pm8 an8 cd8 ct8), sl8⟩) (c8 : PySem.W.codeIn K cd8 "worth_of" = true) (k8 : PySem.W.keepIn K (.ref f8) = true)
    (a9 : PySem.W.nsIn K mainGlobals "_law_put_in" = some (some (.ref f9))) (l9 : K.lookup f9 = some ⟨oc9, od9, .func (PySem.W.fnOf "_law_put_in" "_law_put_in" (defArgs s_law_put_in) (defBody s_law_put_in) (defScope s_law_put_in) .none kV9 dc9 pm9 an9 cd9 ct9), sl9⟩) (c9 : PySem.W.codeIn K cd9 "_law_put_in" = true) (k9 : PySem.W.keepIn K (.ref f9) = true)
    (a10 : PySem.W.nsIn K mainGlobals "law" = some (some (.ref f10))) (l10 : K.lookup f10 = some ⟨oc10, od10, .func (PySem.W.fnOf "law" "law" (defArgs s_law) (defBody s_law) (defScope s_law) .none kV10 dc10 pm10 an10 cd10 ct10), sl10⟩) (c10 : PySem.W.codeIn K cd10 "law" = true) (k10 : PySem.W.keepIn K (.ref f10) = true)
    (z_max : PySem.W.nsIn K mainGlobals "max" = some none)
    (z_int : PySem.W.nsIn K mainGlobals "int" = some none)
    (z_range : PySem.W.nsIn K mainGlobals "range" = some none)
    (z_sorted : PySem.W.nsIn K mainGlobals "sorted" = some none)
    (z_tuple : PySem.W.nsIn K mainGlobals "tuple" = some none)
    (z_list : PySem.W.nsIn K mainGlobals "list" = some none)
    (z_sum : PySem.W.nsIn K mainGlobals "sum" = some none)
    (z_len : PySem.W.nsIn K mainGlobals "len" = some none)
    (z_min : PySem.W.nsIn K mainGlobals "min" = some none)
    (z_dict : PySem.W.nsIn K mainGlobals "dict" = some none)
    (z_repr : PySem.W.nsIn K mainGlobals "repr" = some none)
    : ∃ fd : FuncData, (∀ (s : Shared) (v : Value), BindsTo s fd ⟨[v], []⟩ [("_law_script", v)]) ∧ ∀ base : Heap, K.In base → base.Ns mainGlobals mg → SysB base → FnG l.prog w K mg base 4 fa fd ["_law_script"] (spD K 1 (K08.r_law K08.mPool K08.mTerm K08.mTake K08.mPut K08.mLput K08.mWb K08.mWo)) := by
  have e := hfa.symm.trans (PySem.W.mg_of X G a10)
  cases e
  have m_max : mg "max" = none := PySem.W.mg_none_of X G z_max
  have m_int : mg "int" = none := PySem.W.mg_none_of X G z_int
  have m_range : mg "range" = none := PySem.W.mg_none_of X G z_range
  have m_sorted : mg "sorted" = none := PySem.W.mg_none_of X G z_sorted
  have m_tuple : mg "tuple" = none := PySem.W.mg_none_of X G z_tuple
  have m_list : mg "list" = none := PySem.W.mg_none_of X G z_list
  have m_sum : mg "sum" = none := PySem.W.mg_none_of X G z_sum
  have m_len : mg "len" = none := PySem.W.mg_none_of X G z_len
  have m_min : mg "min" = none := PySem.W.mg_none_of X G z_min
  have m_dict : mg "dict" = none := PySem.W.mg_none_of X G z_dict
  have m_repr : mg "repr" = none := PySem.W.mg_none_of X G z_repr
  have F0 := fun_mk (st := s_law_pool) l0 c0 k0
  have b0 := F0.binds (ps := ["_law_script", "_law_k"]) fun _ _ _ _ _ _ us hl => match us, hl with | [_, _], _ => rfl
  have F1 := fun_mk (st := s_law_take) l1 c1 k1
  have b1 := F1.binds (ps := ["_law_pool_here", "_law_many"]) fun _ _ _ _ _ _ us hl => match us, hl with | [_, _], _ => rfl
  have F2 := fun_mk (st := s_law_term) l2 c2 k2
  have b2 := F2.binds (ps := ["_law_pool_here", "_law_many"]) fun _ _ _ _ _ _ us hl => match us, hl with | [_, _], _ => rfl
  have F3 := fun_mk (st := s_gathered) l3 c3 k3
  have b3 := F3.binds (ps := ["const", "parts"]) fun _ _ _ _ _ _ us hl => match us, hl with | [_, _], _ => rfl
  have F4 := fun_mk (st := s_scaled) l4 c4 k4
  have b4 := F4.binds (ps := ["term", "many"]) fun _ _ _ _ _ _ us hl => match us, hl with | [_, _], _ => rfl
  have F5 := fun_mk (st := s_of_name) l5 c5 k5
  have b5 := F5.binds (ps := ["name"]) fun _ _ _ _ _ _ us hl => match us, hl with | [_], _ => rfl
  have F6 := fun_mk (st := s_put_in) l6 c6 k6
  have b6 := F6.binds (ps := ["term", "by"]) fun _ _ _ _ _ _ us hl => match us, hl with | [_, _], _ => rfl
  have F7 := fun_mk (st := s_law_worth_by) l7 c7 k7
  have b7 := F7.binds (ps := ["_law_term_here", "_law_numbers"]) fun _ _ _ _ _ _ us hl => match us, hl with | [_, _], _ => rfl
  have F8 := fun_mk (st := s_worth_of) l8 c8 k8
  have b8 := F8.binds (ps := ["term", "numbers"]) fun _ _ _ _ _ _ us hl => match us, hl with | [_, _], _ => rfl
  have F9 := fun_mk (st := s_law_put_in) l9 c9 k9
  have b9 := F9.binds (ps := ["_law_term_here", "_law_by"]) fun _ _ _ _ _ _ us hl => match us, hl with | [_, _], _ => rfl
  have F10 := fun_mk (st := s_law) l10 c10 k10
  refine ⟨PySem.W.fnOf "law" "law" (defArgs s_law) (defBody s_law) (defScope s_law) .none kV10 dc10 pm10 an10 cd10 ct10, fun s v => .of_eq rfl, fun base _ _ sy => ?_⟩
  have c_law_pool : CalG l.prog w K mg base "_law_pool" 1 2 mPool := calG_mk F0 (PySem.W.mg_of X G a0) b0 (ok_law_pool F0 m_max m_int)
  have c_law_take : CalG l.prog w K mg base "_law_take" 1 2 mTake := (calG_mk F1 (PySem.W.mg_of X G a1) b1 (ok_law_take F1 )).imp im_take
  have c_law_term : CalG l.prog w K mg base "_law_term" 2 2 mTerm := calG_mk F2 (PySem.W.mg_of X G a2) b2 (ok_law_term F2 c_law_take m_range m_sorted m_tuple)
  have c_gathered : CalG l.prog w K mg base "_gathered" 1 2 mGath := (calG_mk F3 (PySem.W.mg_of X G a3) b3 (ok_gathered F3 m_sorted m_tuple)).trimE.imp im_gath
  have c_scaled : CalG l.prog w K mg base "scaled" 2 2 mScaled := (calG_mk F4 (PySem.W.mg_of X G a4) b4 (ok_scaled F4 c_gathered)).imp im_scaled
  have c_of_name : CalG l.prog w K mg base "of_name" 1 1 r_of_name := calG_mk F5 (PySem.W.mg_of X G a5) b5 (ok_of_name F5 )
  have c_put_in : CalG l.prog w K mg base "put_in" 3 2 mPut := calG_mk F6 (PySem.W.mg_of X G a6) b6 (ok_put_in F6 c_of_name c_scaled c_gathered m_list)
  have c_law_worth_by : CalG l.prog w K mg base "_law_worth_by" 1 2 mWb := calG_mk F7 (PySem.W.mg_of X G a7) b7 (ok_law_worth_by F7 m_sum)
  have c_worth_of : CalG l.prog w K mg base "worth_of" 1 2 mWo := calG_mk F8 (PySem.W.mg_of X G a8) b8 (ok_worth_of F8 m_sum)
  have c_law_put_in : CalG l.prog w K mg base "_law_put_in" 1 2 mLput := calG_mk F9 (PySem.W.mg_of X G a9) b9 (ok_law_put_in F9 m_sorted m_tuple)
  exact ok_law F10 c_law_pool c_law_term c_law_take c_put_in c_law_put_in c_law_worth_by c_worth_of m_range m_len m_min m_max m_dict m_repr sy
end K08
open PySem PySem.W PyProof.Rows
set_option maxHeartbeats 0 in
theorem PySem.Challenge.cw_everycell_k08_names_put_in_and_worths_holds : PySem.Challenge.rw_everycell_k08_names_put_in_and_worths.Holds := by
  w_on; o_law; k_head; (case hw => w_witness2)
  k_fill
  refine PU.walk_S (l := PySem.Challenge.rw_everycell_k08_names_put_in_and_worths) (n := 63) (k := 4) (x := "_law_script") (K := _) (K08.r_law K08.mPool K08.mTerm K08.mTake K08.mPut K08.mLput K08.mWb K08.mWo) rfl rfl (by decide) rfl ⟨rfl, by decide, by decide⟩ (fun w h Y => PySem.W.kIn_of Y) ?F K08.ev_law
  case F =>
    intro w mg fa h KX G hmg
    refine' K08.all_mk KX G hmg ?a0 ?l0 ?c0 ?k0 ?a1 ?l1 ?c1 ?k1 ?a2 ?l2 ?c2 ?k2 ?a3 ?l3 ?c3 ?k3 ?a4 ?l4 ?c4 ?k4 ?a5 ?l5 ?c5 ?k5 ?a6 ?l6 ?c6 ?k6 ?a7 ?l7 ?c7 ?k7 ?a8 ?l8 ?c8 ?k8 ?a9 ?l9 ?c9 ?k9 ?a10 ?l10 ?c10 ?k10 ?z_max ?z_int ?z_range ?z_sorted ?z_tuple ?z_list ?z_sum ?z_len ?z_min ?z_dict ?z_repr
    (case a0 => k_is)
    (case l0 => k_is)
    (case c0 => k_is)
    (case k0 => k_is)
    (case a1 => k_is)
    (case l1 => k_is)
    (case c1 => k_is)
    (case k1 => k_is)
    (case a2 => k_is)
    (case l2 => k_is)
    (case c2 => k_is)
    (case k2 => k_is)
    (case a3 => k_is)
    (case l3 => k_is)
    (case c3 => k_is)
    (case k3 => k_is)
    (case a4 => k_is)
    (case l4 => k_is)
    (case c4 => k_is)
    (case k4 => k_is)
    (case a5 => k_is)
    (case l5 => k_is)
    (case c5 => k_is)
    (case k5 => k_is)
    (case a6 => k_is)
    (case l6 => k_is)
    (case c6 => k_is)
    (case k6 => k_is)
    (case a7 => k_is)
    (case l7 => k_is)
    (case c7 => k_is)
    (case k7 => k_is)
    (case a8 => k_is)
    (case l8 => k_is)
    (case c8 => k_is)
    (case k8 => k_is)
    (case a9 => k_is)
    (case l9 => k_is)
    (case c9 => k_is)
    (case k9 => k_is)
    (case a10 => k_is)
    (case l10 => k_is)
    (case c10 => k_is)
    (case k10 => k_is)
    (case z_max => k_is)
    (case z_int => k_is)
    (case z_range => k_is)
    (case z_sorted => k_is)
    (case z_tuple => k_is)
    (case z_list => k_is)
    (case z_sum => k_is)
    (case z_len => k_is)
    (case z_min => k_is)
    (case z_dict => k_is)
    (case z_repr => k_is)
