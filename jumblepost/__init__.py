"""Jumblepost: the true order of letters that come by jumbled and half hidden."""
