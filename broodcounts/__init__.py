"""Broodcounts: trees whose brothers are counted."""
