"""Stufflists: the lists of stuffs on wares, and what can be read of them."""
