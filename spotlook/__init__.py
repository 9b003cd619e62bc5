"""Spotlook: which land a spot lies in."""
