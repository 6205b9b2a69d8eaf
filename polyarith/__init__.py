"""Polyarith: polynomials of whole numbers."""
