package number

import (
	"testing"

	"analemma/api"
)

func TestParse(t *testing.T) {
	for s, want := range map[string]int{"0": 0, "7": 7, "10": 10, "1234567": 1234567} {
		if n, ok := Parse(s, 7); n != want || !ok {
			t.Error(s, n, ok)
		}
	}
	for _, s := range []string{"", "00", "01", "-1", "+1", "1 ", "a", "12345678", "1.0", "\xff", "٣"} {
		if n, ok := Parse(s, 7); n != 0 || ok {
			t.Error(s, n, ok)
		}
	}
}

func TestYear(t *testing.T) {
	for s, want := range map[string]api.Errno{
		"1850": api.OK, "2149": api.OK, "1849": api.ErrRange, "2150": api.ErrRange, "1": api.ErrRange, "9999": api.ErrRange,
		"0": api.ErrForm, "01918": api.ErrForm, "10000": api.ErrForm, "": api.ErrForm, "-1": api.ErrForm, "x": api.ErrForm, "0190": api.ErrForm,
	} {
		if y, e := Year(s); e != want || (e == api.OK) != Named(y) || e != api.OK && y != 0 {
			t.Error(s, y, e)
		}
	}
}
