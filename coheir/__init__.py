"""Coheir: any number of caches, and what programs see."""
