"""Bales laid down: which bales of cotton are laid down together."""
