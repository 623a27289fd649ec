"""Choices by tests of kinds, for all kinds yet to come."""
