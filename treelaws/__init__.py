"""Treelaws: equations between numbers computed over trees."""
