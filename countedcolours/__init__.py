"""Colourings counted: those that exchanges of places take to one another count once."""
