"""Doors that ask for credentials without seeing which ones."""
