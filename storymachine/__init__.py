"""Taleroom: a machine for stories."""
