"""Sealchart: signed updates handed on by mirrors that nobody trusts."""
