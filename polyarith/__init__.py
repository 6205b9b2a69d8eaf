"""Polyarith: polynomials of whole numbers, told as products of parts without squares."""
