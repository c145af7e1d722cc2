"""Estates of people who died in an unknown order."""
