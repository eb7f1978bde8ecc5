"""Sumspan: nets for all sums of beginnings."""
