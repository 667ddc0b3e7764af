"""Sharing what a group gains, where joiners bring more to more."""
