"""Rows of complex numbers, each step rounded once. The calls are in complexrows.rows."""
