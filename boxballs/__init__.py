"""Boxballs: balls carried along a row of boxes."""
