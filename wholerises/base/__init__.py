"""Integers, ratios, polynomials and tables."""
