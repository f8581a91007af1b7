"""Rows seen from parts of a group, and carried back."""
