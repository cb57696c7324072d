"""Amounts whose units come out right, whole."""
