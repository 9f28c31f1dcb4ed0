"""Waysranked: the so many least ways, with papers."""
