"""Effectonce: jobs over several machines, each one's effect once."""
