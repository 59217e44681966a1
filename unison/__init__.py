"""Unison: two who walk on ridges, always at like height."""
