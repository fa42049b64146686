"""A cruise ship and its voyage, hour by hour."""
