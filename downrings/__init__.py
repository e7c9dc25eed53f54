"""Gliders over one meadow, let down ring by ring."""
