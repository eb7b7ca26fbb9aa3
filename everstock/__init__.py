"""Everstock: stores that last, whatever is asked of them."""
