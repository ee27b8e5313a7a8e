"""The tests of Tilldrawer."""
