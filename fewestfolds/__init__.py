"""Pleathall: the fewest folds."""
