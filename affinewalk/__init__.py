"""Affine maps modulo m and networks of them, with certificates."""
