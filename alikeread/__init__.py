"""Alikeread: the rows that two books read alike."""
