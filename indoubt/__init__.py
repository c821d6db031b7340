"""Indoubt: a relational database that keeps working while transaction outcomes are unknown."""
