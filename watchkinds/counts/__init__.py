"""What counts of letters tell, by caps and by rests."""
