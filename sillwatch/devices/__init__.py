"""Devices: what is shown where, and what is hit there."""
