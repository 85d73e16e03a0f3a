"""Feeds: texts that come in pieces."""
