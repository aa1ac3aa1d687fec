"""Hullwright: convex polytopes in exact numbers."""
