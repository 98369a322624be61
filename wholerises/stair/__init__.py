"""Depths: stairs, whole rows, and forms in two letters."""
