"""Undotable: a table with formulas, and a tree of all points that it was at."""
