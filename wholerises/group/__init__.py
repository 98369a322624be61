"""The groups of companions."""
