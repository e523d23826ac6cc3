"""Roomsday: rooms, teams, and whatever runs over."""
