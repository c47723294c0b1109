"""Closepoints: the nearest two points, and all that are near."""
