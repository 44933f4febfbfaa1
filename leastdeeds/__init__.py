"""Leastdeeds: the least rows of a little machine."""
