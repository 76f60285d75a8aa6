"""Lampwish: lamps set as all wishes ask, or the steps that show that no setting does."""
