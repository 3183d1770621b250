"""Believed: a house of facts and rules, and a small checker of what is sure in it."""
