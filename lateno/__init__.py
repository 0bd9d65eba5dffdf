"""Lateno: what a late No costs."""
