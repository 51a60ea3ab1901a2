"""Moulds and one crane: blades wait, lie in moulds, and are lifted out one at a time."""
