"""Pairs free: pairs of rows that are free of one another."""
