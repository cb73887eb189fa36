"""Huebill: what each one pays for colours."""
