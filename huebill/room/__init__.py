"""Rooms: webs that change, under holds."""
