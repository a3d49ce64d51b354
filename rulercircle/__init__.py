"""Drawings with ruler and compasses, told exactly."""
