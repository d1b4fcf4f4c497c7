"""What hands know of a wish, by the deeds that they can know of."""
