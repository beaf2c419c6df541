"""Fewspaces: parts of spaces over few numbers."""
