"""Leastshelf: a store of sorted runs that keeps no more than some future can notice."""
