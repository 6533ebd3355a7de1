"""Twolistings: archives that say each entry twice."""
