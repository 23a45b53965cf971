"""Changeview: answers that are kept by differences."""
