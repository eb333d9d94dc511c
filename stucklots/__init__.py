"""Stucklots: things made of flat pieces, taken apart and put together."""
