"""Rounds through all places of a yard, or why there is none."""
