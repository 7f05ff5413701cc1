"""Texts as people look them up: an order told by rules, and what is done with texts by it."""
