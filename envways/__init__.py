"""Envways: how functions keep the names they use."""
