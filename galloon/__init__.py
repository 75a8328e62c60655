"""Galloon: strips of columns under deeds."""
