"""What latches, in which no word goes round, tell of two machines."""
