"""Slideboxes: boxes that slide at calls."""
