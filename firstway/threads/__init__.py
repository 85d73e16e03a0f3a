"""Prepared patterns and the moves of their threads."""
