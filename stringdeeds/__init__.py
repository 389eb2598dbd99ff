"""Reelwork: a processor's string instructions as data."""
