"""Comparing two patterns: does searching find the same with both in every text?"""
