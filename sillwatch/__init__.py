"""Sillwatch: a display server whose programs learn nothing but what they are given."""
