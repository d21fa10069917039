"""Holdshelf: many wishes answered together, with what fits on the shelf."""
