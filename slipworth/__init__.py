"""Slipworth: which words misspelt texts mean."""
