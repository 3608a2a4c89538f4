"""What the records of a group mean: cells, and the state of a group."""
