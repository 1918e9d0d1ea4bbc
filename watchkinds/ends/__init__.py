"""What the last and the first letters of words tell."""
