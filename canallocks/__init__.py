"""Pounds, locks and boats of a canal, and every unit of its water."""
