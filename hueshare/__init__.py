"""Hueshare: fewest hues by shares."""
