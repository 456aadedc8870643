"""Rillturn: ties that fall without a round, turned tie by tie and spring by spring."""
