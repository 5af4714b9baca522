"""Deals of moves that come out exactly even; README.md tells how to use the modules."""
