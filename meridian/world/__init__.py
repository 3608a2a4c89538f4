"""A whole cluster with its clients and readers, the judge of its history, and its operator."""
