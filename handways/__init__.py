"""Handways: how a work is handed what it needs."""
