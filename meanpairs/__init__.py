"""Pairwise averaging over exact rational numbers."""
