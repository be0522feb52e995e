"""Keyswithin: boxes with their keys shut in other boxes."""
