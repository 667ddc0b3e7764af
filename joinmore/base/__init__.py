"""Names, games and their tests."""
