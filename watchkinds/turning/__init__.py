"""What all sorts of watchers tell of two machines, and of families of machines."""
