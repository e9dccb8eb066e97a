"""Boxes of exact fractions that hold the courses of differential equations."""
