"""Rankpouch: a long row told by few."""
