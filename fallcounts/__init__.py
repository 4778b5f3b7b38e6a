"""Fallcounts: orders by their falls."""
