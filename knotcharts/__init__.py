"""Symmetries of repeated charts."""
