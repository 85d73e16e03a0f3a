"""Scanners and their rules."""
