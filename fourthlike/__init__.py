"""Fourthlike: a is to b as c is to what, and what follows from likeness."""
