"""A processor of sixteen bits over 65536 bytes of memory."""
