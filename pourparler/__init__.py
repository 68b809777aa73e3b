"""Pourparler: actors with typed conversations."""
