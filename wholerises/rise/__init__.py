"""Rising rows, and their walks at all units."""
