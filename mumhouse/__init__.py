"""Mumhouse: answers from which nobody learns what must not be known, though everybody knows the rule."""
