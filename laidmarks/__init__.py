"""Laidmarks: marks that are laid, dragged and passed."""
