"""Cells on a square that closes on itself."""
