"""Waybook: a table that keeps several orders and asks by the cheapest."""
