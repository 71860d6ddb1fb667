"""Wellkind: a small language whose checked expressions are never stuck."""
