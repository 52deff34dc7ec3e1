"""Minimal solutions of a homogeneous linear equation in nonnegative whole numbers."""
