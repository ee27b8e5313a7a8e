"""Tilldrawer: a till that gives exact change by the fewest pieces."""
