"""Pipeworks: the greatest flow from a spring to a drain."""
