"""Landpoints: what is sure of land whose shapes nobody knows."""
