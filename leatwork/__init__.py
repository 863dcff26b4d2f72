"""Leatwork: threads that wait for values."""
