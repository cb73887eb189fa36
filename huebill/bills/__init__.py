"""Charges and bills of webs."""
