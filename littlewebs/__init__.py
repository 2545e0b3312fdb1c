"""Webs counted through by little webs."""
