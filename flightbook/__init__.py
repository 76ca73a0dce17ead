"""Fit to fly: a book of the parts of aeroplanes, and of what was done to them."""
