"""Names and houses."""
