"""Wishes and their machines."""
