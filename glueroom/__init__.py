"""Glueroom: people in rooms, and rows of commands that put them together and apart."""
