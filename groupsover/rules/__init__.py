"""Rules and generators: the lists of the first two steps by few words."""
