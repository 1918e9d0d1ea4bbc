"""Texts of machines, boxes, rows and blurs."""
