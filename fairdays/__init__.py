"""Fairdays: days that come again by rules."""
