"""Underthree: what a queue comes to, with the fewest joins."""
