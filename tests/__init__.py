"""Tests of leastlearnt."""
