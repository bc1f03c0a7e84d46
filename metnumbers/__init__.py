"""Metnumbers: meetings told by numbers alone."""
