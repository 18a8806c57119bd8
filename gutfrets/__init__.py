"""gutfrets: instruments with tied frets, read from texts and told exactly."""
