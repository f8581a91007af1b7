"""A shelf of named rows, and its log."""
