"""A wall between two nets; the call is run in the file wall."""
