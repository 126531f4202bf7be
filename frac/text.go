package frac

import (
	"strconv"
	"strings"

	"twistlock/api"
)

// maxDigits is how many decimal digits a number of 256 bits has at the most.
const maxDigits = 78

// Text returns the text of a fraction.
func Text(f Frac) (string, api.Errno) {
	if !Right(f) {
		return "", api.ErrArg
	}
	text := decimal(f.Num)
	if f.Neg {
		text = "-" + text
	}
	if f.Den != (number{1}) {
		text += "/" + decimal(f.Den)
	}
	return text, api.OK
}

// decimal returns the digits of a number, nine at a time, as many as a limb holds.
func decimal(n number) string {
	const nine = 1000000000
	text := ""
	rest, low := divideShort(widen(n), nine)
	for rest != (wide{}) {
		// The 1 in front keeps the zeros at the left.
		text = strconv.Itoa(nine + int(low))[1:] + text
		rest, low = divideShort(rest, nine)
	}
	return strconv.Itoa(int(low)) + text
}

// Read returns the fraction that a string writes.
func Read(s string) (Frac, api.Errno) {
	unsigned, neg := strings.CutPrefix(s, "-")
	above, below, ratio := strings.Cut(unsigned, "/")
	if !ratio {
		below = "1"
	}
	if !digits(above) || !digits(below) || below == "0" {
		return Frac{}, ErrText
	}
	num, shortNum := parse(above)
	den, shortDen := parse(below)
	if !shortNum || !shortDen {
		return Frac{}, api.ErrLong
	}
	f := Frac{neg, num, den}
	if text, e := Text(f); e != api.OK || text != s {
		return Frac{}, ErrTerms
	}
	return f, api.OK
}

// digits reports whether a string is decimal digits without leading zeros.
func digits(s string) bool {
	for i := range len(s) {
		if s[i] < '0' || s[i] > '9' {
			return false
		}
	}
	return s == "0" || s != "" && s[0] != '0'
}

// parse reports whether digits denote a number of up to 256 bits, and returns it if so.
func parse(digits string) (number, bool) {
	if len(digits) > maxDigits {
		return number{}, false
	}
	var w wide
	for i := range len(digits) {
		w = timesPlus(w, 10, uint32(digits[i]-'0'))
	}
	return narrow(w)
}
