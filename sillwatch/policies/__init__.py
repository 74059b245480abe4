"""Policies: what may flow from one program to another one."""
