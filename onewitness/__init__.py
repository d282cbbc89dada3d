"""Onewitness: counters, and one witness of the order."""
