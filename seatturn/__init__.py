"""Turnings of a row of seats."""
