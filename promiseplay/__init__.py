"""Promiseplay: machines that keep promises whatever they hear, see, pay and lose."""
