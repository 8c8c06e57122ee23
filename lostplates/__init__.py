"""Lostplates: letterboxes without names, and what letters put by guess tell."""
