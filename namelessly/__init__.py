"""Namelessly: what webs without names can tell apart."""
