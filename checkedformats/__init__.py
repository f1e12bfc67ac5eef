"""Formats checked against their arguments, and rendered."""
