"""Plainway: paths made plain."""
