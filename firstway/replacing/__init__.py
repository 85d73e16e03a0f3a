"""Replacing matches and splitting texts."""
