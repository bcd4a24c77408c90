"""Basketrope: two baskets on one rope."""
