"""Rows, their changes, and the classes of closed rows."""
