"""Umbrellas: who gets wet on which way, and where the umbrellas gather."""
