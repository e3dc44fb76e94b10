"""Voices led: three voices above a bass with figures."""
