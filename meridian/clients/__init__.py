"""Clients and readers, and how keys are divided among groups."""
