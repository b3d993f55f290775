"""Shelfrows: rows of numbers past shelves, and how many greater ones stand ahead."""
