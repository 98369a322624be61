"""Promises about rows, and desks that keep them."""
