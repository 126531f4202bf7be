package iso_test

import (
	"strings"
	"testing"

	"twistlock/api"
	"twistlock/iso"
)

// table returns the kinds by their codes.
func table() map[string]iso.Kind {
	return map[string]iso.Kind{
		"22G1": {Size: 20},
		"22R1": {Size: 20, Reefer: true},
		"42G1": {Size: 40},
		"42R1": {Size: 40, Reefer: true},
		"45G1": {Size: 40, High: true},
		"45R1": {Size: 40, High: true, Reefer: true},
	}
}

// P3.4

func TestKinds(t *testing.T) {
	for code, kind := range table() {
		k, e := iso.Size(code)
		c, f := iso.Code(kind)
		if k != kind || c != code || e != api.OK || f != api.OK {
			t.Error(code, k, e, c, f)
		}
	}
}

func TestSizeErrors(t *testing.T) {
	for _, code := range []string{
		"", " ", "2", "22", "22G", "22G11", "22G1 ", " 22G1", "22G1\x00", "22g1", "45r1", "25G1", "25R1", "20G1", "40G1", "22G0", "22G2", "45R0", "45T1", "L5G1", "22U1",
		"22G122G1", "2\u0662G1", "\xff\xff\xff\xff", strings.Repeat("22G1", 100000),
	} {
		if k, e := iso.Size(code); k != (iso.Kind{}) || e != iso.ErrKind {
			t.Errorf("%.40q %v %d", code, k, e)
		}
	}
}

func TestSizeOfAnyByte(t *testing.T) {
	known := table()
	for code := range known {
		for at := range code {
			for to := range 256 {
				s := put(code, at, byte(to))
				want, ok := known[s]
				if k, e := iso.Size(s); k != want || (e == api.OK) != ok || !ok && e != iso.ErrKind {
					t.Errorf("%q %v %d", s, k, e)
				}
			}
		}
	}
}

func TestCodeOfAnyKind(t *testing.T) {
	codes := map[iso.Kind]string{}
	for code, kind := range table() {
		codes[kind] = code
	}
	for size := range 256 {
		for _, high := range []bool{false, true} {
			for _, reefer := range []bool{false, true} {
				kind := iso.Kind{Size: uint8(size), High: high, Reefer: reefer}
				want, ok := codes[kind]
				if c, e := iso.Code(kind); c != want || (e == api.OK) != ok || !ok && e != iso.ErrKind {
					t.Errorf("%v %q %d", kind, c, e)
				}
			}
		}
	}
}
