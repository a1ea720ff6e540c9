"""Pebbling numbers of small graphs."""
