"""Graftrules: one told tree put in the place of another."""
