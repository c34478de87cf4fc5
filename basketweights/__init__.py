"""Baskets by weight: which pieces make a basket with the least too much."""
