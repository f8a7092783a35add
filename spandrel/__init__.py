"""Spandrel: demands on machines, joined, put side by side and divided."""
