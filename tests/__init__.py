"""Tests of the package flippedpoints."""
