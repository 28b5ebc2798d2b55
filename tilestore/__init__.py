"""Tiles kept once: pictures and how they were before, over one store of tiles."""
