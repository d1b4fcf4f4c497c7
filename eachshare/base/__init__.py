"""Names, houses and rows."""
