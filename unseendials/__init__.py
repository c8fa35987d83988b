"""Unseendials: what holds for dials that nobody sees, on all chains."""
