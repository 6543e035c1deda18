"""Primer: words explained by words."""
