"""Fencerow: threads over shared cells, whose stores wait before all see them."""
