"""Firstway: patterns over texts that change, one meaning by every machine."""
