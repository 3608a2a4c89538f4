"""How numbers, texts and blocks are written as bytes."""
