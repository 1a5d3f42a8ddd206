"""Creelway: stones along a road, carriers with creels, and trains that pass through one another."""
