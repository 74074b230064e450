"""Devices in mirrors: one row of places over devices that fail, forget and lie."""
