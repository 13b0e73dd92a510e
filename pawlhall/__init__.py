"""Pawlhall: wheels tied by ratios, differentials and ratchets."""
