"""Deedpiles: deeds that can change places, and be taken back."""
