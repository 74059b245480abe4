"""Giving: what programs give to one another, and what they are given."""
