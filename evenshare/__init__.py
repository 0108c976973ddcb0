"""Finite distributions over whole numbers, exactly."""
