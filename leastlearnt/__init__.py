"""Leastlearnt: learning the least machine behind questions."""
