"""Fallranks: programs of branches, and ranks that fall in order."""
