"""What the scattered pieces of words tell."""
