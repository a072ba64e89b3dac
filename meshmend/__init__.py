"""Meshmend: torn nets, and how few twines mend them."""
