"""Skewer: games whose rules are programs and are edited."""
