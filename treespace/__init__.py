"""Treespace: the one shortest way between any two trees."""
