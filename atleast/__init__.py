"""Rows of at least between unknowns, and what they come to."""
