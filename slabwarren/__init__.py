"""Slabwarren: a memory allocator for several processors."""
