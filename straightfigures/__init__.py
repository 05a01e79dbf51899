"""Figures with straight sides, told exactly, in whole numbers and fractions."""
