"""Numbers in words, said and read back."""
