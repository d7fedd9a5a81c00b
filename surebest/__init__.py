"""Surebest: best answers with their reasons."""
