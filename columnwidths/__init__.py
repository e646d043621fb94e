"""Widths of tables, and their lines."""
