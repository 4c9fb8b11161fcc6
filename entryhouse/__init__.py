"""Entries of a tournament: places, their offers and their fees."""
