"""What can be seen of a cluster without locks, and tables with an index."""
