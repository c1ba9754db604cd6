"""Twos as far apart as they're numbered."""
