"""Keyfocus: a focus manager for keyboard user interfaces."""
