"""Patterns that never leave a choice."""
