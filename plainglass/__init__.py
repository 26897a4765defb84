"""Plainglass: JSON texts, whole."""
