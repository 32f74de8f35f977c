"""Likelybook: books of what is likelier than what."""
