"""Mixserver: sounds of many put together beat by beat."""
