"""Flagsteps: changing switches one at a time."""
