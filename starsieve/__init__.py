"""Starsieve: rows of rules with stars, the first that fits."""
