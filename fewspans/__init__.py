"""Smallest sets of intervals that generate given intervals."""
