"""Transactions: their programs, locks and times, and the service that a leader offers them."""
