"""Boxes laid out, whole: boxes in boxes, in rows and columns."""
