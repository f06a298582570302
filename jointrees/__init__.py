"""Heads of tables joined along trees."""
