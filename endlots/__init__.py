"""Endlots: what choosers and chance can bring."""
