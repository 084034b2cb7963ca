"""Baskets on a rope, whole: the calls are answered by twobaskets.tower.answers."""
