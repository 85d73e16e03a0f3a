"""Patterns as texts."""
