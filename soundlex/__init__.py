"""Say: lexicons. Which texts, sorts and costs the words of a row of sounds have."""
