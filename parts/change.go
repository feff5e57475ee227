package parts

import "urls/schemes"

// AtPort answers the URL with the port, or with none if it is the scheme's own.
func (u URL) AtPort(port int) URL {
	own, owned := schemes.OwnPort(u.Scheme)
	if owned && port == own {
		return u.WithoutPort()
	}
	u.HasPort = true
	u.Port = port
	return u
}

// WithoutPort answers the URL with no port.
func (u URL) WithoutPort() URL {
	u.HasPort = false
	u.Port = 0
	return u
}

// WithoutQuery answers the URL with no query.
func (u URL) WithoutQuery() URL {
	u.HasQuery = false
	u.Query = ""
	return u.withoutBlanks()
}

// WithoutFragment answers the URL with no fragment.
func (u URL) WithoutFragment() URL {
	u.HasFragment = false
	u.Fragment = ""
	return u.withoutBlanks()
}

// withoutBlanks takes the blanks at the end of an opaque path away if they
// would come to stand at the end of the URL's text: there they would be lost
// when that is read (P16).
func (u URL) withoutBlanks() URL {
	if u.HasQuery || u.HasFragment {
		return u
	}
	path := u.OpaquePath
	end := len(path)
	for end > 0 && path[end-1] == ' ' {
		end--
	}
	u.OpaquePath = path[:end]
	return u
}
