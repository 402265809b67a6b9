"""Otherhow: what experiments settle, and what they leave open."""
