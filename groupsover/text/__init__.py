"""Texts of tables, rows and values, and a shell for a shelf."""
