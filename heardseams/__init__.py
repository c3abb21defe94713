"""Heardseams: what of a phrase's brackets can be heard where words meet."""
