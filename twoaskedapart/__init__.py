"""What plans made beforehand win in a game of two who can't talk."""
