"""Texts of games, sharings, weights and values, and a shell that is spoken to by lines."""
