"""Evenring: goods in a ring of houses, carried to neighbours till each has its due."""
