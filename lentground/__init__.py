"""Groundkeep: ground lent out in blocks."""
