"""Figurefall: numbers that fall to the sum of what their figures are worth."""
