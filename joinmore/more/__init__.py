"""What is built on kept sharings: moves, even shares, parts, and amounts between games."""
