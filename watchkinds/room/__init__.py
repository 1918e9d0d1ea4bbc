"""A room in which watchers of all sorts follow the same words."""
