import copy
import unittest
from random import Random

from everycell.blocks import Blocks, foretold
from everycell.errors import NoCell, NoLanes, NoWorth
from tests.things import GREAT, any_worth, many_things

ONE, TWO = (1, 1), (2, 1)


def state(store):
    """All that a store tells."""
    return (store.within(), store.written(), store.worths(), store.counts(), store.sizes(), len(store))


class Made(unittest.TestCase):
    def test_as_told(self):
        store = Blocks(10)
        self.assertEqual(state(store), ([], [], [None] * 10, (0, 0), (10, 4, 4), 0))
        store = Blocks(5, block=3, within=2)
        self.assertEqual(store.sizes(), (5, 3, 2))
        store = Blocks(within=64, size=20000, block=1)
        self.assertEqual((store.sizes(), len(store.worths())), ((20000, 1, 64), 20000))
        self.assertEqual(state(Blocks(0, block=64, within=1)), ([], [], [], (0, 0), (0, 64, 1), 0))
        with self.assertRaises(TypeError):
            Blocks(4, 4)

    def test_sizes_that_are_none(self):
        for thing in many_things() + [20001, -1, GREAT, "4", (4,), None]:
            if not (type(thing) is int and 0 <= thing <= 20000):
                self.assert_no_lanes("size", thing)
                self.assert_no_lanes("size", thing, block=0, within=0)
        for thing in many_things() + [0, 65, -1, GREAT, True, False, "4", None]:
            if not (type(thing) is int and 1 <= thing <= 64):
                self.assert_no_lanes("block", 4, block=thing)
                self.assert_no_lanes("block", 4, block=thing, within=thing)
                self.assert_no_lanes("within", 4, within=thing)
                self.assert_no_lanes("within", 0, block=64, within=thing)

    def assert_no_lanes(self, what, *sizes, **more):
        with self.assertRaises(NoLanes, msg=repr((sizes, more))[:80]) as caught:
            Blocks(*sizes, **more)
        self.assertEqual(caught.exception.what, what)


class Cells(unittest.TestCase):
    def test_written_read_and_seen(self):
        store = Blocks(6, block=2, within=1)
        self.assertIsNone(store.write(3, (1, 2)))
        self.assertIsNone(store.write(at=0, worth=True))
        self.assertEqual([store.read(at) for at in range(6)], [True, None, None, (1, 2), None, None])
        self.assertEqual([store.seen(at=at) for at in range(6)], [True, None, None, (1, 2), None, None])
        self.assertIs(store.read(at=0), True)
        store.write(3, False)
        self.assertEqual(store.worths(), [True, None, None, False, None, None])
        self.assertIs(store.seen(3), False)

    def test_none_takes_a_worth_away(self):
        store = Blocks(4, block=2)
        store.write(1, ONE)
        store.write(1, None)
        self.assertIsNone(store.read(1))
        self.assertEqual(store.worths(), [None] * 4)
        store.flush()
        store.write(2, None)
        self.assertEqual((store.written(), store.counts()), ([1], (2, 1)))
        self.assertEqual(store.flush(), 1)

    def test_no_cell(self):
        store = Blocks(3, block=2)
        store.write(0, ONE)
        kept = state(store)
        for thing in [thing for thing in many_things() if type(thing) is not int] + [-1, 3, 4, GREAT, -GREAT, True, False, (0,), "0", None]:
            for ask in (lambda: store.read(thing), lambda: store.seen(thing), lambda: store.write(thing, ONE), lambda: store.write(thing, None), lambda: store.write(thing, "no worth")):
                with self.assertRaises(NoCell, msg=repr(thing)[:80]) as caught:
                    ask()
                self.assertIsNone(caught.exception.name)
                self.assertIs(caught.exception.cell, thing)
        with self.assertRaises(NoCell):
            Blocks(0).read(0)
        self.assertEqual(state(store), kept)

    def test_no_worth(self):
        store = Blocks(3, block=2)
        store.write(0, ONE)
        kept = state(store)
        for thing in [thing for thing in many_things() if thing is not None and not isinstance(thing, bool)] + [(2, 4), (1, 0), (1, -1), (True, 1), [1, 1], "yes", 0, 1]:
            with self.assertRaises(NoWorth, msg=repr(thing)[:80]):
                store.write(2, thing)
        self.assertEqual(state(store), kept)

    def test_seen_asks_for_nothing(self):
        store = Blocks(8, block=2, within=2)
        for at in (0, 2, 4):
            store.write(at, ONE)
        kept = state(store)
        for at in range(8):
            store.seen(at)
        self.assertEqual(state(store), kept)


class Fetched(unittest.TestCase):
    def test_the_one_asked_for_longest_ago_goes(self):
        store = Blocks(12, block=2, within=3)
        for at, within, counts in (
            (0, [0], (1, 0)), (3, [0, 1], (2, 0)), (1, [1, 0], (2, 0)), (5, [1, 0, 2], (3, 0)), (2, [0, 2, 1], (3, 0)), (2, [0, 2, 1], (3, 0)), (11, [2, 1, 5], (4, 0)),
            (0, [1, 5, 0], (5, 0)), (10, [1, 0, 5], (5, 0)), (4, [0, 5, 2], (6, 0)),
        ):
            store.read(at)
            self.assertEqual((store.within(), store.counts(), len(store)), (within, counts, len(within)))
            self.assertEqual(store.written(), [])

    def test_written_ones_are_put_outside_and_others_just_go(self):
        store = Blocks(12, block=2, within=2)
        store.write(0, ONE)
        store.read(2)
        self.assertEqual((store.within(), store.written(), store.counts()), ([0, 1], [0], (2, 0)))
        store.read(4)
        self.assertEqual((store.within(), store.written(), store.counts()), ([1, 2], [], (3, 1)))
        store.read(6)
        self.assertEqual((store.within(), store.written(), store.counts()), ([2, 3], [], (4, 1)))
        # Fetched anew it isn't written since.
        self.assertEqual(store.read(0), ONE)
        self.assertEqual((store.within(), store.written(), store.counts()), ([3, 0], [], (5, 1)))
        store.read(2)
        store.read(4)
        self.assertEqual(store.counts(), (7, 1))

    def test_written_ones_rise(self):
        store = Blocks(20, block=2, within=5)
        for at in (18, 4, 12, 1):
            store.write(at, TWO)
        store.read(7)
        store.write(5, ONE)
        self.assertEqual((store.within(), store.written()), ([9, 6, 0, 3, 2], [0, 2, 6, 9]))

    def test_one_within(self):
        store = Blocks(4, block=1, within=1)
        for at in (0, 1, 1, 0):
            store.write(at, ONE)
        self.assertEqual(state(store), ([0], [0], [ONE, ONE, None, None], (3, 2), (4, 1, 1), 1))

    def test_a_shorter_last_block(self):
        store = Blocks(5, block=3, within=2)
        store.write(4, ONE)
        store.read(3)
        store.read(2)
        self.assertEqual((store.within(), store.written(), store.counts()), ([1, 0], [1], (2, 0)))
        with self.assertRaises(NoCell):
            store.read(5)

    def test_all_put_away(self):
        store = Blocks(12, block=2, within=4)
        self.assertEqual(store.flush(), 0)
        for at in (0, 2, 4):
            store.write(at, ONE)
        store.read(6)
        self.assertEqual(store.flush(), 3)
        self.assertEqual((store.within(), store.written(), store.counts(), len(store)), ([], [], (4, 3), 0))
        self.assertEqual(store.flush(), 0)
        self.assertEqual(store.counts(), (4, 3))
        self.assertEqual(store.worths()[:6], [ONE, None, ONE, None, ONE, None])
        store.read(0)
        self.assertEqual(store.counts(), (5, 3))

    def test_told_lists_are_new(self):
        store = Blocks(4, block=2)
        store.write(0, ONE)
        kept = copy.deepcopy(state(store))
        for told in (store.within(), store.written(), store.worths()):
            self.assertIsInstance(told, list)
            told.append(7)
            told[0] = 9
        self.assertEqual(state(store), kept)
        self.assertIsInstance(store.counts(), tuple)

    def test_beside_a_store_that_keeps_all_asks(self):
        for seed in range(150):
            chance = Random(seed)
            size, block, within = chance.randint(1, 30), chance.randint(1, 5), chance.randint(1, 4)
            store, asks, worths = Blocks(size, block=block, within=within), [], [None] * size
            for _ in range(60):
                at = chance.randrange(size)
                if chance.random() < 0.5:
                    worths[at] = chance.choice([None, any_worth(chance, "number"), True])
                    store.write(at, worths[at])
                    asks.append(("write", at))
                else:
                    self.assertEqual(store.read(at), worths[at])
                    asks.append(("read", at))
                due = counted(asks, block, within)
                self.assertEqual((store.counts(), store.within(), store.written(), store.worths()), (*due, worths))
                self.assertEqual(foretold(asks, block=block, within=within), due[0])
            kept = list(asks)
            twin = store.twin()
            self.assertEqual(twin.flush(), len(store.written()))
            self.assertEqual(asks, kept)


def counted(asks, block, within):
    """What 8.1 tells of asks from the first on: counts, the blocks within, those written."""
    last, written, fetched, put = {}, set(), 0, 0
    for time, (word, at) in enumerate(asks):
        own = at // block
        if own not in last:
            if len(last) == within:
                gone = min(last, key=last.get)
                del last[gone]
                put += gone in written
                written.discard(gone)
            fetched += 1
        last[own] = time
        if word == "write":
            written.add(own)
    return (fetched, put), sorted(last, key=last.get), sorted(written)


class Twins(unittest.TestCase):
    def test_a_twin_is_as_the_store_and_goes_on_by_itself(self):
        store = Blocks(8, block=2, within=2)
        for at in (0, 2, 5):
            store.write(at, ONE)
        store.read(0)
        twin = store.twin()
        self.assertIsInstance(twin, Blocks)
        self.assertEqual(state(twin), state(store))
        kept = state(store)
        twin.write(7, TWO)
        twin.write(0, None)
        twin.flush()
        self.assertEqual(state(store), kept)
        kept = state(twin)
        store.write(3, False)
        store.read(6)
        self.assertEqual(state(twin), kept)
        other = store.twin()
        for each in (store, other):
            each.read(1)
            each.write(4, TWO)
        self.assertEqual(state(other), state(store))

    def test_alike(self):
        one, other = Blocks(6, block=2, within=2), Blocks(6, block=2, within=2)
        self.assertIs(one == other, True)
        one.write(3, ONE)
        self.assertIs(one == other, False)
        self.assertIs(one != other, True)
        other.write(0, TWO)
        other.write(3, ONE)
        other.write(0, None)
        other.flush()
        self.assertNotEqual(one.within(), other.within())
        self.assertIs(one == other, True)
        self.assertIs(one != other, False)
        self.assertIs(one == one.twin(), True)
        other.write(3, True)
        self.assertIs(one == other, False)

    def test_unlike_by_sizes(self):
        for one, other in (((6, 2, 2), (7, 2, 2)), ((6, 2, 2), (6, 3, 2)), ((6, 2, 2), (6, 2, 3)), ((0, 2, 2), (0, 2, 3))):
            self.assertIs(Blocks(one[0], block=one[1], within=one[2]) == Blocks(other[0], block=other[1], within=other[2]), False)

    def test_like_nothing_else(self):
        store = Blocks(0)
        for thing in many_things() + [store.worths(), store.sizes(), state(store)]:
            self.assertIs(store == thing, False)
            self.assertIs(store != thing, True)


class Foretold(unittest.TestCase):
    def test_counts(self):
        self.assertEqual(foretold([]), (0, 0))
        self.assertEqual(foretold([("read", 0), ("write", 3), ("read", 4)]), (2, 0))
        self.assertEqual(foretold([("read", at) for at in range(8)]), (2, 0))
        self.assertEqual(foretold([("write", 0), ("write", 1), ("read", 2), ("write", 0)], block=1, within=1), (4, 2))
        self.assertEqual(foretold(asks=[("read", 0), ("read", 1), ("read", 0)], within=1, block=1), (3, 0))
        self.assertEqual(foretold([("write", 4 * at) for at in range(5)]), (5, 1))
        self.assertEqual(foretold([("read", 19999), ("read", 0)]), (2, 0))
        self.assertIsInstance(foretold([]), tuple)
        with self.assertRaises(TypeError):
            foretold([], 4, 4)

    def test_sizes_that_are_none(self):
        for thing in many_things() + [0, 65, True]:
            if not (type(thing) is int and 1 <= thing <= 64):
                for what, more in (("block", {"block": thing}), ("within", {"within": thing}), ("block", {"within": thing, "block": thing})):
                    with self.assertRaises(NoLanes) as caught:
                        foretold([], **more)
                    self.assertEqual(caught.exception.what, what)


if __name__ == "__main__":
    unittest.main()
