"""Fairbook: an exchange whose book never crosses."""
