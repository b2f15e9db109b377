"""Whatran: what ran, by few marks, from many machines, led over every edition."""
