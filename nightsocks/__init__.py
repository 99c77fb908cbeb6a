"""Socks in a drawer, drawn in the dark: the calls are answered by nightsocks.drawer.answers."""
