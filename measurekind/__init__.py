"""Measurekind: the widest measure of a reckoning."""
