"""Yardsort: what a yard can sort."""
