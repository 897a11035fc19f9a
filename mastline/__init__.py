"""Mastline: masts joined by as little cable as can be."""
