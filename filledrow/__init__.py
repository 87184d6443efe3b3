"""Filledrow: orders of credits learned from what is seen and wished, and rules against a foe."""
