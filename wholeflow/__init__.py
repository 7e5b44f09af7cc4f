"""Wholeflow: a house of workflows."""
