"""Tests of ovenbatches."""
