"""Least squares in linear models, exactly, with fractions."""
