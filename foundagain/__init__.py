"""Found again: a house of texts in segments, the merges of these, and the disk on which it is kept."""
