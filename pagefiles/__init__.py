"""Columns' pages and files: each in the way with the fewest bytes."""
