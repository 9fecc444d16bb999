"""Hushnotice: notices that reach each person once."""
