"""Rootpeg: numbers held by a row and a stretch."""
