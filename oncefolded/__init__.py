"""One reading of a text with conditions, for all of its configurations."""
