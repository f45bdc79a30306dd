"""Ticketwrap: tickets that show the last digits of their numbers."""
