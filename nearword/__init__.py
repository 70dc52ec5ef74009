"""Nearword: words that lie near a word."""
