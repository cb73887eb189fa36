"""Texts of webs, charges, values and rooms, and a shell."""
