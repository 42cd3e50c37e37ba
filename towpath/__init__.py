"""Towpath: stretches of a path that are closed."""
