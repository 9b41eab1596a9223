"""Pagenook: pages of notes that point to one another."""
