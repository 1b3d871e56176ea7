"""Folklist: hands that agree on who is there."""
