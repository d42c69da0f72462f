"""Found again: a house of texts in segments, and the merges of these."""
