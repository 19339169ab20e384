package rat

import (
	"strconv"
	"strings"

	"isocline/api"
	"isocline/exact"
)

const (
	maxNumeral = 20 // digits of a numeral
	maxPlaces  = 12 // digits behind the point
)

// Parse returns the number of a text: an optional `-`, a numeral, and optionally `/` and a numeral or `.` and digits.
func Parse(s string) (api.Rat, api.Errno) {
	body, minus := strings.CutPrefix(s, "-")
	x, ok := parsePositive(body)
	if !ok || minus && x.Sign() == 0 {
		return api.Rat{}, api.ErrSyntax
	}
	if minus {
		x = x.Neg()
	}
	return x.Rat()
}

func parsePositive(s string) (exact.Ratio, bool) {
	if top, bottom, ok := strings.Cut(s, "/"); ok {
		if !isNumeral(top) || !isNumeral(bottom) || bottom == "0" {
			return exact.Ratio{}, false
		}
		return exact.NewRatio(integer(top), integer(bottom)), true
	}
	whole, places, point := strings.Cut(s, ".")
	if !isNumeral(whole) || point && !isDigits(places, maxPlaces) {
		return exact.Ratio{}, false
	}
	unit := exact.NewInt(10).Power(len(places))
	return exact.NewRatio(integer(whole+places), unit), true
}

// isNumeral reports whether s is `0`, or digits of which the first is not `0`.
func isNumeral(s string) bool {
	return isDigits(s, maxNumeral) && (s == "0" || s[0] != '0')
}

// isDigits reports whether s is from 1 to most digits.
func isDigits(s string, most int) bool {
	if len(s) < 1 || len(s) > most {
		return false
	}
	for i := range len(s) {
		if s[i] < '0' || s[i] > '9' {
			return false
		}
	}
	return true
}

func integer(digits string) exact.Int {
	n := exact.NewInt(0)
	for i := range len(digits) {
		n = n.Mul(exact.NewInt(10)).Add(exact.NewInt(int(digits[i] - '0')))
	}
	return n
}

// Print returns the text of x: the numerator, and `/` and the denominator if that is not 1.
func Print(x api.Rat) (string, api.Errno) {
	if e := Validate(x); e != api.OK {
		return "", e
	}
	if x.D == 1 {
		return strconv.Itoa(x.N), api.OK
	}
	return strconv.Itoa(x.N) + "/" + strconv.Itoa(x.D), api.OK
}
