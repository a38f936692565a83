"""Persistent collections whose shared structure is determined by their contents."""
