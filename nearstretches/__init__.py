"""Nearness: the least stretches of a text that answer a question."""
