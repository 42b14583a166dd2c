"""Found: a process is found of a log of how things went."""
