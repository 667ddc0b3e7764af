"""Sharings, the pays of orders, and their mixtures."""
