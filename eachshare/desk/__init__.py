"""A house at work."""
