"""Ages of layers: what ages the marks of counted cores can have."""
