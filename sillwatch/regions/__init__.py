"""Regions: finite sets of unit squares of the plane."""
