"""Derivative programs made of line code."""
