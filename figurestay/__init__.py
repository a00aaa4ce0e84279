"""Decimals with a told width and scale; each name is imported from its own module."""
