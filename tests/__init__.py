"""The tests of leatwork."""
