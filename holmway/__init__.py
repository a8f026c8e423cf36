"""Holmway: places joined by bridges, and a road or a wall between any two."""
