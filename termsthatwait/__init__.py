"""Terms that wait and terms that differ: the store beneath a logic language."""
