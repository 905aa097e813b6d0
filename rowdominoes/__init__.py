"""Rowdominoes: stones that fell each other."""
