"""Sixdot: a press for books in raised dots."""
