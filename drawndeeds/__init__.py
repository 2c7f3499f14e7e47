"""Drawndeeds: deeds drawn by weights, and how soon a walk forgets."""
