"""Streams that no walk would turn."""
