"""Leastroads: the least tree, found by houses that know their own ties alone."""
