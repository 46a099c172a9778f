"""Websplit: one web over houses, for askers who may see parts of it."""
