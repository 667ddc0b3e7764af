"""What is built on games and kept sharings: moves, even and fair shares, parts, built games, plans and gifts."""
