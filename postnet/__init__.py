"""Nets of posts that put rows of numbers in order."""
