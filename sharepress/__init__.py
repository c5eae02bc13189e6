"""Sharepress: texts pressed into bits by the shares of their signs."""
