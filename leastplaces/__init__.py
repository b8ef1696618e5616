"""Leastplaces: where the least entries of windows stand."""
