"""Oven batches with temperature ranges."""
