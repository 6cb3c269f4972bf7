"""Lastpasted: bills pasted over one another in a lost order, and photos of them."""
