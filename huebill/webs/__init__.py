"""Webs, their groups and their colours."""
