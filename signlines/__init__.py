"""Signlines: lines of least sums through points, and the signs that show it."""
