"""Products of rows."""
