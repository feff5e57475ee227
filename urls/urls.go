// Package urls: URLs by the published standard: see DOC.md.
package urls

import (
	"urls/api"
	"urls/changing"
	"urls/parts"
	"urls/reading"
)

// URL is one that was read.
type URL struct {
	parts parts.URL
}

// Parse reads a URL, with a base if based (P4).
func Parse(s string, base string, based bool) (*URL, api.Errno) {
	if len(s) > api.MaxIn || based && len(base) > api.MaxIn {
		return nil, api.ErrLong
	}
	ground, err := readBase(base, based)
	if err != api.OK {
		return nil, err
	}
	read, err := reading.Against(s, ground)
	if err != api.OK {
		return nil, err
	}
	return &URL{parts: read}, api.OK
}

// readBase reads the base alone; if there is none, it is the empty URL.
func readBase(base string, based bool) (parts.URL, api.Errno) {
	if !based {
		return parts.URL{}, api.OK
	}
	read, err := reading.Text(base)
	if err == api.ErrFail {
		return parts.URL{}, api.ErrBase
	}
	return read, err
}

// Get tells all parts (P13).
func (x *URL) Get() api.All {
	if x == nil {
		return api.All{}
	}
	u := x.parts
	all := api.All{}
	all.Href = u.Href()
	all.Origin = origin(u)
	all.Protocol = u.Protocol()
	all.Username = u.Name
	all.Password = u.Password
	all.Host = u.HostPort()
	all.Hostname = u.Host
	all.Port = u.PortText()
	all.Pathname = u.Pathname()
	all.Search = u.Search()
	all.Hash = u.Hash()
	return all
}

// Href tells the URL's text (P12).
func (x *URL) Href() string {
	if x == nil {
		return ""
	}
	return x.parts.Href()
}

// Origin tells its origin (P13).
func (x *URL) Origin() string {
	if x == nil {
		return ""
	}
	return origin(x.parts)
}

// put does what all setters have in common. An error leaves the URL as it was.
func (x *URL) put(part changing.Part, s string) api.Errno {
	if len(s) > api.MaxIn {
		return api.ErrLong
	}
	if x == nil {
		return api.OK
	}
	changed, err := changing.Put(x.parts, part, s)
	if err != api.OK {
		return err
	}
	x.parts = changed
	return api.OK
}

// SetHref is the setter Href (P14 to P16).
func (x *URL) SetHref(s string) api.Errno { return x.put(changing.Href, s) }

// SetProtocol is the setter Protocol (P14 to P16).
func (x *URL) SetProtocol(s string) api.Errno { return x.put(changing.Protocol, s) }

// SetUsername is the setter Username (P14 to P16).
func (x *URL) SetUsername(s string) api.Errno { return x.put(changing.Username, s) }

// SetPassword is the setter Password (P14 to P16).
func (x *URL) SetPassword(s string) api.Errno { return x.put(changing.Password, s) }

// SetHost is the setter Host (P14 to P16).
func (x *URL) SetHost(s string) api.Errno { return x.put(changing.Host, s) }

// SetHostname is the setter Hostname (P14 to P16).
func (x *URL) SetHostname(s string) api.Errno { return x.put(changing.Hostname, s) }

// SetPort is the setter Port (P14 to P16).
func (x *URL) SetPort(s string) api.Errno { return x.put(changing.Port, s) }

// SetPathname is the setter Pathname (P14 to P16).
func (x *URL) SetPathname(s string) api.Errno { return x.put(changing.Pathname, s) }

// SetSearch is the setter Search (P14 to P16).
func (x *URL) SetSearch(s string) api.Errno { return x.put(changing.Search, s) }

// SetHash is the setter Hash (P14 to P16).
func (x *URL) SetHash(s string) api.Errno { return x.put(changing.Hash, s) }
