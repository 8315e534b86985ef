"""Everafter: what sayings mean of endless walks, and whether a machine keeps them."""
