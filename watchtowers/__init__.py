"""Towers that watch one another."""
