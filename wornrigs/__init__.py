"""Wornrigs: rigs of strands that weaken with every lift."""
