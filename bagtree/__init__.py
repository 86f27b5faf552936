"""Bagtree: webs laid out in bags on a tree."""
