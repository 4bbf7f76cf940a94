"""Stepdown: a stair of machines."""
