"""Rival supporter separation: maximum-weight allocation of stadium blocks."""
