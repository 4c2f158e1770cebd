"""Meanhold: the greatest gain per step in the long run."""
