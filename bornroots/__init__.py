"""Bornroots: a file system that never writes over anything."""
