"""Clocks whose error is bounded, and the spans that they show."""
