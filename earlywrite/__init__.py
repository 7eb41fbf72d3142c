"""Earlywrite: digits that are written while digits are read."""
