package linkline

import (
	"slices"
	"strings"
	"testing"

	"analemma/api"
	"analemma/lexeme"
)

var (
	long  = strings.Repeat(strings.Repeat("x", 14)+"/", 3) + strings.Repeat("x", 12) + "/" + "yz"
	zones = []string{"Europe/Dublin", "Eire", "A", "Etc/GMT+1", "0", long}
	sets  = []string{"Eire", "C-Eur", "E_2", strings.Repeat("x", 30)}
)

func TestP12_1Link(t *testing.T) {
	for _, a := range zones {
		for _, b := range zones {
			if l, e := Link([]string{a, b}); l != (api.Link{Target: a, Name: b}) || e != api.OK {
				t.Error(a, b, l, e)
			}
		}
	}
	for _, x := range []struct {
		fields []string
		want   api.Errno
	}{
		{nil, api.ErrForm}, {[]string{"a"}, api.ErrForm}, {[]string{"a", "b", "c"}, api.ErrForm}, {[]string{"-", "-", "-"}, api.ErrForm},
		{[]string{"a", "-b"}, api.ErrName}, {[]string{"", "b"}, api.ErrName}, {[]string{"a", "a//b"}, api.ErrName}, {[]string{"a b", "b"}, api.ErrName},
	} {
		if l, e := Link(x.fields); l != (api.Link{}) || e != x.want {
			t.Error(x.fields, l, e)
		}
	}
}

func TestP12_2Print(t *testing.T) {
	for _, x := range []struct{ target, name, want string }{{"A/B", "C", "Link A/B C"}, {long, long, "Link " + long + " " + long}} {
		if s, e := Print(api.Link{Target: x.target, Name: x.name}); s != x.want || e != api.OK {
			t.Error(x, s, e)
		}
	}
	for _, l := range []api.Link{{}, {Target: "A B", Name: "C"}, {Target: "A"}, {Name: "A"}, {Target: "A", Name: ".b"}, {Target: long + "x", Name: "C"}} {
		if s, e := Print(l); s != "" || e != api.ErrArg {
			t.Error(l, s, e)
		}
	}
}

func TestP12_3Shift(t *testing.T) {
	for _, set := range sets {
		if s, e := Shift([]string{set}); s != set || e != api.OK {
			t.Error(set, s, e)
		}
	}
	for _, x := range []struct {
		fields []string
		want   api.Errno
	}{{nil, api.ErrForm}, {[]string{"a", "b"}, api.ErrForm}, {[]string{"9"}, api.ErrName}, {[]string{""}, api.ErrName}, {[]string{"A/B"}, api.ErrName}} {
		if s, e := Shift(x.fields); s != "" || e != x.want {
			t.Error(x.fields, s, e)
		}
	}
}

func TestP12_4PrintShift(t *testing.T) {
	for _, set := range sets {
		if s, e := PrintShift(set); s != "Shift "+set || e != api.OK {
			t.Error(set, s, e)
		}
	}
	for _, set := range []string{"", "9", "A/B", "a b", strings.Repeat("x", 31)} {
		if s, e := PrintShift(set); s != "" || e != api.ErrArg {
			t.Error(set, s, e)
		}
	}
}

func TestP12_5Back(t *testing.T) {
	for _, a := range zones {
		for _, b := range zones {
			want := api.Link{Target: a, Name: b}
			line, e := Print(want)
			l, f := lexeme.Fields(line)
			if e != api.OK || f != api.OK || !slices.Equal(l, []string{"Link", a, b}) {
				t.Fatal(line, e, l, f)
			}
			if got, e := Link(l[1:]); got != want || e != api.OK {
				t.Error(want, got, e)
			}
		}
	}
	for _, set := range sets {
		line, e := PrintShift(set)
		l, f := lexeme.Fields(line)
		if e != api.OK || f != api.OK || len(l) != 2 || l[0] != "Shift" {
			t.Fatal(line, e, l, f)
		}
		if got, e := Shift(l[1:]); got != set || e != api.OK {
			t.Error(set, got, e)
		}
	}
}
