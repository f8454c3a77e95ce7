"""Neverdark: sealed names that change and are never dark."""
