"""Equations of algebraic rows."""
