"""Purses kept by many houses without one order."""
