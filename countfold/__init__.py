"""Countfold: sets with counting, joined with sums."""
