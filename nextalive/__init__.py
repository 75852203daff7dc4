"""Nextalive: services that move to the next living machine."""
