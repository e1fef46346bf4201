"""Streams kept in pieces that their own bytes cut."""
