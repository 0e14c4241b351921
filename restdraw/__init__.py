"""Flat webs drawn with straight ties."""
