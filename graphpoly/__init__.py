"""Graphs' polynomials, exactly."""
