"""Ladders of sums of members, and rounds."""
