"""Screens: what is painted on the outputs."""
