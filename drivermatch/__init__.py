"""Drivermatch: things that are plugged in, and helpers that claim them."""
