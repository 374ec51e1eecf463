"""Sealwatch: boxes under seals, and what can have been done with them."""
