"""Firstword: words of throws."""
