"""Huesbelow: how many unlike hues stand below each place of a tree."""
