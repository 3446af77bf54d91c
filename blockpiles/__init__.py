"""Blockpiles: blocks that stand or tip."""
