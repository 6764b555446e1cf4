"""Laterless: sums along endless rows in which later things count less."""
