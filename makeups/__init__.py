"""Make-ups of old books and the formulas that tell them."""
