"""Tests of the package afloatintime."""
