"""Bellplaces: people called to their places by a bell, and who lacks."""
