"""Fit to fly: a book of the parts of aeroplanes, of what they flew, and of what was done to them."""
