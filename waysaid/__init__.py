"""Waysaid: what is said of all ways, and of some way, through a world of states."""
