"""Twoletters: what is so of all real numbers, in two letters."""
