"""Refpack: smallest files for tables whose columns predict one another."""
