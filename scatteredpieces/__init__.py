"""What a text holds, letter by letter, with gaps."""
