"""Quaybest: the office of a container terminal."""
