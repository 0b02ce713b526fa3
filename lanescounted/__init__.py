"""lanescounted: lanes counted anew while letters are under way."""
