"""Farend: works taken from another hand's far end."""
