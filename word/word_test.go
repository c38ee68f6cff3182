package word

import (
	"strings"
	"testing"

	"analemma/api"
)

// lists are the functions, the numbers of their first words, and their words, as the chapter lists them.
var lists = []struct {
	find  func(string) (int, api.Errno)
	first int
	words []string
}{
	{Line, 1, strings.Fields("rule zone link shift")},
	{Month, 1, strings.Fields("january february march april may june july august september october november december")},
	{Week, 0, strings.Fields("sunday monday tuesday wednesday thursday friday saturday")},
	{To, 1, strings.Fields("only maximum")},
}

func TestP8_1Words(t *testing.T) {
	for _, x := range []struct {
		find func(string) (int, api.Errno)
		s    string
		want int
	}{
		{Line, "Rule", 1}, {Line, "z", 2}, {Line, "Z", 2}, {Line, "LI", 3}, {Line, "sHiFt", 4}, {Line, "s", 4}, {Month, "Jan", 1}, {Month, "ja", 1},
		{Month, "jun", 6}, {Month, "may", 5}, {Month, "D", 12}, {Month, "MAR", 3}, {Month, "S", 9}, {Week, "SUN", 0}, {Week, "th", 4},
		{Week, "m", 1}, {Week, "sa", 6}, {To, "only", 1}, {To, "max", 2}, {To, "m", 2}, {To, "O", 1},
	} {
		if n, e := x.find(x.s); n != x.want || e != api.OK {
			t.Error(x.s, n, e)
		}
	}
	for _, x := range []struct {
		find func(string) (int, api.Errno)
		s    string
	}{
		{Line, "rules"}, {Line, ""}, {Month, "j"}, {Month, "ju"}, {Month, "ma"}, {Week, "s"}, {Week, "t"}, {Week, "sundays"}, {To, "minimum"},
		{Month, ""}, {Week, ""}, {To, ""}, {Line, " rule"}, {Line, "rule "}, {Line, "lin\x00"}, {Month, "\u212A"}, {Week, "\u017Fun"},
		{To, "onlyx"}, {Month, "a"}, {Line, "LıNK"}, {Month, "janüary"}, {Line, "x"}, {Line, "-"},
	} {
		if n, e := x.find(x.s); n != 0 || e != api.ErrWord {
			t.Errorf("%q %d %v", x.s, n, e)
		}
	}
	for _, l := range lists {
		for i, word := range l.words {
			if n, e := l.find(word); n != i+l.first || e != api.OK {
				t.Error(word, n, e)
			}
		}
	}
}

func TestP8_2Texts(t *testing.T) {
	for i, want := range strings.Fields("Jan Feb Mar Apr May Jun Jul Aug Sep Oct Nov Dec") {
		if got := MonthText(i + 1); got != want {
			t.Error(i+1, got)
		}
	}
	for i, want := range strings.Fields("Sun Mon Tue Wed Thu Fri Sat") {
		if got := WeekText(i); got != want {
			t.Error(i, got)
		}
	}
	for _, i := range []int{0, 13, -1, 1 << 62, -1 << 63} {
		if got := MonthText(i); got != "" {
			t.Error(i, got)
		}
	}
	for _, i := range []int{-1, 7, 8, 11, 12, 1 << 62, -1 << 63} {
		if got := WeekText(i); got != "" {
			t.Error(i, got)
		}
	}
}

func TestP8_3ShortWords(t *testing.T) {
	for _, form := range []func(string) string{strings.ToLower, strings.ToUpper, strings.Clone} {
		for m := 1; m <= 12; m++ {
			if n, e := Month(form(MonthText(m))); n != m || e != api.OK {
				t.Error(m, n, e)
			}
		}
		for w := range 7 {
			if n, e := Week(form(WeekText(w))); n != w || e != api.OK {
				t.Error(w, n, e)
			}
		}
	}
}

func TestP8_4LongerBeginnings(t *testing.T) {
	for _, l := range lists {
		for i, word := range l.words {
			means := false
			for n := range len(word) + 1 {
				got, e := l.find(word[:n])
				if means && e != api.OK || e == api.OK && got != i+l.first {
					t.Error(word[:n], got, e)
				}
				means = e == api.OK
			}
			if !means {
				t.Error(word)
			}
		}
	}
}
