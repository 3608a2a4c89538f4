"""How keys are divided among groups."""
