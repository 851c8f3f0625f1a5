"""Groundlots: what is held, on which grounds, and what a change gives up."""
