"""Rank room: rows of small numbers, kind by kind, each row with its number."""
