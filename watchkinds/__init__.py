"""Which sorts of watchers can ever tell two machines apart."""
