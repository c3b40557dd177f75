"""Actasone: copies that act as one machine."""
