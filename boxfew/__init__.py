"""Boxfew: the fewest boxes, and why fewer don't do."""
