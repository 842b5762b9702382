"""Chairs filled from a line of groups and a line of singles, for all comers."""
