"""Recordyard: Python's logging, with its handlers and its settings."""
