"""Cladebook: a book with sixteen places for trees of descent."""
