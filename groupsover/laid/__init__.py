"""Pairs of a value and a member, and what is laid with them."""
