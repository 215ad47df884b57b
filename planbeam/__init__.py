"""Weighings by a plan."""
