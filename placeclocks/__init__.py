"""Clocks of places: what they show, and at which moments they show it."""
