"""Surelyorders: comparisons of texts, for all texts."""
