"""Slipcurve: all small polynomials that fit a row in so many places."""
