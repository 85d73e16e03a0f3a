"""Simpler patterns with the same meaning."""
