"""Doppelganger: pieces of programs that no program tells apart."""
