"""Selecting points on a line with a minimum spacing."""
