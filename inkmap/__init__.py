"""Drawings of points and ropes told by the order of ropes round each point."""
