"""Keepyard: places kept for a while, taken, given back, and rows that wait."""
