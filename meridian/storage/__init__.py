"""Disks, the records and notes that stand on them, and journals."""
