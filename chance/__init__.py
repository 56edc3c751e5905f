"""Chancebook: exact chances of random generators."""
