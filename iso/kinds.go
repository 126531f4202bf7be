package iso

import (
	"twistlock/api"
)

// Kind is the size of a container, and what it is.
type Kind struct {
	Size         uint8
	High, Reefer bool
}

type coded struct {
	code string
	kind Kind
}

var kinds = [6]coded{
	{"22G1", Kind{Size: 20}},
	{"22R1", Kind{Size: 20, Reefer: true}},
	{"42G1", Kind{Size: 40}},
	{"42R1", Kind{Size: 40, Reefer: true}},
	{"45G1", Kind{Size: 40, High: true}},
	{"45R1", Kind{Size: 40, High: true, Reefer: true}},
}

// Size returns the kind of a code.
func Size(code string) (Kind, api.Errno) {
	for _, known := range kinds {
		if known.code == code {
			return known.kind, api.OK
		}
	}
	return Kind{}, ErrKind
}

// Code returns the code of a kind.
func Code(k Kind) (string, api.Errno) {
	for _, known := range kinds {
		if known.kind == k {
			return known.code, api.OK
		}
	}
	return "", ErrKind
}
