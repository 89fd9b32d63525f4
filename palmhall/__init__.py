"""Palmhall: bargains made by hand signs, and the cards that tell them."""
