"""Shortlimit: words of bits for signs by their weights."""
