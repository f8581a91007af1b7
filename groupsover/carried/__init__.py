"""Floors carried up from a part of a group, and floors side by side."""
