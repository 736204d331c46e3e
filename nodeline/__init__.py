"""nodeline: one end of a line to another node."""
