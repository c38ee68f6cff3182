// Package number reads the decimal numbers that stand in texts. It serves several layers.
package number

import "analemma/api"

// Parse returns the number of a string that has at most so many digits, without a zero ahead of other digits.
func Parse(s string, most int) (int, bool) {
	if s == "" || len(s) > most || len(s) > 1 && s[0] == '0' {
		return 0, false
	}
	n := 0
	for i := range len(s) {
		if s[i] < '0' || s[i] > '9' {
			return 0, false
		}
		n = 10*n + int(s[i]-'0')
	}
	return n, true
}

// Year returns the year of a string, if it can be named: ErrForm if it is none, ErrRange if it cannot.
func Year(s string) (int, api.Errno) {
	y, ok := Parse(s, 4)
	if !ok || y == 0 {
		return 0, api.ErrForm
	}
	if !Named(y) {
		return 0, api.ErrRange
	}
	return y, api.OK
}

// Named reports whether a year can be named in a text.
func Named(y int) bool { return y >= api.MinYear && y <= api.MaxYear }
