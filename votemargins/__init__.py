"""Votes of weak rules, with papers."""
