"""Skypairs: two lists of lights paired, with slips, turns, tracks and blends."""
