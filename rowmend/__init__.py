"""Rowmend: rows of lines, their changes, and two hands on one row."""
