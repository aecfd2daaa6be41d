"""Flour blending in whole kilograms."""
