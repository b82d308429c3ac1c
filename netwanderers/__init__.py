"""Wanderers on nets of places without names."""
