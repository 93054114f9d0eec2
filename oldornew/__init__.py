"""Oldornew: states kept in several fields that change in any order."""
