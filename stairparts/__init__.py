"""Stairparts: whole numbers parted into sums."""
