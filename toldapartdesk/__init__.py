"""Told apart: two sources of letters, and how well words tell them apart."""
