"""Meridian: a distributed transactional store with clocks of bounded uncertainty."""
