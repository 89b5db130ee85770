"""Selfprint: programs that print themselves when they are only called."""
