"""Quotient rows."""
