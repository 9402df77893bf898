"""Benchrota: hands with ranks at one bench, and the tools that they share."""
