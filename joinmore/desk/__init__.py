"""A desk: a game and a kept sharing while worths change."""
