"""Messages between programs and the server, as octets."""
