"""Markbox: full boxes of a table, and the rules between its marks."""
