"""Offices chosen by turns, among parties that govern together."""
