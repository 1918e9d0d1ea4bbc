"""Walks there and back, which boxes without loss follow both ways."""
