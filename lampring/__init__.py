"""A lantern maker's shop."""
