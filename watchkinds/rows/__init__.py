"""Rows of levels, and how they are made from boxes."""
