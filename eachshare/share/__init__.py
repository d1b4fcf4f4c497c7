"""Steady wishes, and shares that do them."""
