"""Voices that sing one melody, one after another."""
