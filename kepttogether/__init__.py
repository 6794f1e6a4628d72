"""Kepttogether: rows in which sets stay together."""
