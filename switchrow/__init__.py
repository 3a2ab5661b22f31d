"""Sentences of all and some."""
