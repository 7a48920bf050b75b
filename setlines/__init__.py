"""Texts of rows and maps, set in lines."""
