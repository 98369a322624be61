"""The algebraic rows and their families."""
