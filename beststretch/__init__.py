"""Beststretch: rows of numbers, their best stretches, and what shows that none is better."""
