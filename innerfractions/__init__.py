"""Innerfractions: what is made of fractions of one letter."""
