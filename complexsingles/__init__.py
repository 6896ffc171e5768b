"""Complex numbers of singles, every result told to the bit."""
