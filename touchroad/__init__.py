"""Touchroad: shared-memory programs, the machines that run them, and how they are related."""
