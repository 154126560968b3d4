"""Tokens that can be made narrower by whoever holds them."""
