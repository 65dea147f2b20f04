"""Mobileair: a mobile telephone network on one clock."""
