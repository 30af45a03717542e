"""Deedranks: land records with joint claims by rank."""
