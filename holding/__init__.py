"""Holding: which puts of a work of wood hold which others."""
