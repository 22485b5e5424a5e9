"""Everycell: arrays made cell by cell, however their making is turned about."""
