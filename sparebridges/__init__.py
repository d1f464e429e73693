"""Sparebridges: bridges that may fall, bridges to build."""
