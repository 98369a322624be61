"""Texts of rows, and a shell that is told what to do by texts."""
