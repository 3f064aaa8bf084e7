"""Chains of cells that keep one number each and pass on the others."""
