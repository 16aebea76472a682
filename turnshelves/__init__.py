"""Turnshelves: a store that lays itself out."""
