package urls

import (
	"urls/api"
	"urls/parts"
	"urls/reading"
)

// noOrigin is written where a URL has no origin of its own.
const noOrigin = "null"

// origin tells a URL's origin (P13).
func origin(u parts.URL) string {
	switch u.Scheme {
	case "http", "https", "ws", "wss", "ftp":
		return placeOrigin(u)
	case "blob":
		return blobOrigin(u)
	}
	return noOrigin
}

func placeOrigin(u parts.URL) string {
	return u.Scheme + "://" + u.HostPort()
}

// blobOrigin tells the origin of the URL that a blob's path is.
func blobOrigin(u parts.URL) string {
	path := u.Pathname()
	inner, err := reading.Text(path)
	if err != api.OK {
		return noOrigin
	}
	if inner.Scheme != "http" && inner.Scheme != "https" {
		return noOrigin
	}
	return placeOrigin(inner)
}
