"""Hownarrow: billiards on tables of squares, all shots at once."""
