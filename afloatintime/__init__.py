"""Afloatintime: sister ships, one after the other, and what a late part moves."""
