"""Lietable: hands at a table, some of whom lie."""
