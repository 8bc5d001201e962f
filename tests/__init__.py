"""Tests of contentties."""
