"""Skipstops: rings of places that are a shortest trip for every choice of their stops."""
