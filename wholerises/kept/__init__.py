"""The companions of a row, and the table that they keep."""
