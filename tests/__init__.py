"""Tests of the package onewitness."""
