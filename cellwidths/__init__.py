"""Columns as good as can be: how wide a table's columns are to be."""
