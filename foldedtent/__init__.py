"""A line from 0 to 1, folded in the middle and drawn out again: its rows of left and right."""
