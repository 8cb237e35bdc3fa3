"""Dipmaps: baths that turn shades of cloth into shades."""
