"""Sewnwhole: patchwork patterns, patches, seams and orders."""
