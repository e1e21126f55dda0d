"""Nearvault: a store of points with transactions."""
