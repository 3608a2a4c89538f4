"""Letters, and the network that carries them."""
