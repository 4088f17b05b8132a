"""Braids: the same or not, and the one form that each has."""
