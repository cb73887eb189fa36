"""All webs of a few things, and what they have."""
