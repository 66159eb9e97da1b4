"""Termlays: terms at once or one behind another."""
