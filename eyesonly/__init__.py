"""Eyesonly: a small language for questions about trees, which only looks and never builds."""
