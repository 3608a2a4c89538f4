"""Replicas that elect a leader and copy its log, and a simulator of groups of them."""
