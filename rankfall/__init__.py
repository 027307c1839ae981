"""Rankfall: failing houses cleared by ranks, to the last coin."""
