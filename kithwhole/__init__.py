"""Kithwhole: a local-first database for a group, with stocks, lenses, moments and plans."""
