"""Wardweb: webs of arrows, trees that do not go into them, and the one web into which just these go."""
