"""Rows of ratios, which no member moves."""
