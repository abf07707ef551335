"""Calculating rods, whole."""
