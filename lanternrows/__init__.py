"""Lanternrows: rows of drawings held for so many pictures, laid, joined, retimed and undone."""
