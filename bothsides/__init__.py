"""Figures of lines, stitched alike on both sides of a cloth."""
