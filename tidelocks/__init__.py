"""A harbour: how high the sea is at any minute, told to the bit."""
