"""Grammars put together and compared, and sentences for every rule."""
