"""Cells that refer to one another."""
