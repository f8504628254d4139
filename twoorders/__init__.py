"""Twoorders: a store of rows with two orders kept beside, by rank and by text."""
