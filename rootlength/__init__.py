"""Lengths of glass, exactly."""
