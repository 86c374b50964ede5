"""Robots on a ring that are to gather: surely, or never."""
