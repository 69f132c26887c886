"""Farbuilds: builds sent far, run by rule, stopped, gone back from."""
