package eraline

import (
	"math/rand"
	"strings"
	"testing"

	"analemma/api"
)

func fields(s string) []string { return strings.Fields(s) }

func fixed(day int) api.Day { return api.Day{Kind: api.DayFixed, Day: day} }

func until(y, m, d int, at api.Clock) api.Until {
	return api.Until{Is: true, Year: y, Month: m, Day: fixed(d), At: at}
}

func TestP11_1Parse(t *testing.T) {
	twenty := strings.Repeat("~", 20)
	for line, want := range map[string]api.Era{
		"0:00 - GMT 1968 Oct 27":                   {Format: "GMT", Until: until(1968, 10, 27, api.Clock{})},
		"1:00 Eire IST/GMT":                        {Off: 3600, Kind: api.Named, Set: "Eire", Format: "IST/GMT"},
		"-3:30:52 1:00 NDT 1935 Mar 30 0:00s":      {Off: -12652, Kind: api.Fixed, Save: 3600, Format: "NDT", Until: until(1935, 3, 30, api.Clock{Base: api.Std})},
		"0 - X 1900 january 1 0":                   {Format: "X", Until: until(1900, 1, 1, api.Clock{})},
		"0 - X 1900":                               {Format: "X", Until: until(1900, 1, 1, api.Clock{})},
		"0 - X 1900 F":                             {Format: "X", Until: until(1900, 2, 1, api.Clock{})},
		"0 25 X":                                   {Kind: api.Fixed, Save: 90000, Format: "X"},
		"0 -1:00 " + twenty:                        {Kind: api.Fixed, Save: -3600, Format: twenty},
		"0 0 %z 2149 dec lastSat -167:59:59u":      {Kind: api.Fixed, Format: "%z", Until: api.Until{Is: true, Year: 2149, Month: 12, Day: api.Day{Kind: api.DayLast, Week: 6}, At: api.Clock{Sec: -604799, Base: api.Utc}}},
		"-167:59:59 C-Eur - 1850 Jan Sun>=31 0:00": {Off: -604799, Kind: api.Named, Set: "C-Eur", Format: "-", Until: api.Until{Is: true, Year: 1850, Month: 1, Day: api.Day{Kind: api.DayFrom, Day: 31}}},
	} {
		if e, code := Parse(fields(line)); e != want || code != api.OK {
			t.Error(line, e, code)
		}
	}
	for line, want := range map[string]api.Errno{
		"": api.ErrForm, "0 -": api.ErrForm, "0 - X 1900 1 1 1 1": api.ErrForm, "x - X": api.ErrForm, "168 a! X": api.ErrRange, "0 a! X": api.ErrName,
		"0 a! \"": api.ErrName, "0 x1234567890123456789012345678901 X": api.ErrName, "0 1x X": api.ErrForm, "0 168 X": api.ErrRange, "0 -- X": api.ErrForm,
		"0 _a X": api.ErrForm, "0 - " + twenty + "x": api.ErrFormat, "0 - a\"b": api.ErrFormat, "0 - a#b": api.ErrFormat, "0 - é": api.ErrFormat,
		"0 - # 1": api.ErrFormat, "0 - X 01900": api.ErrForm, "0 - X 1849": api.ErrRange, "0 - X 2150 x": api.ErrRange, "0 - X 1900 Ma": api.ErrWord,
		"0 - X 1900 Ma 32": api.ErrWord, "0 - X 1900 Jan 32": api.ErrRange, "0 - X 1900 Jan 0 168": api.ErrForm, "0 - X 1900 Jan last": api.ErrWord,
		"0 - X 1900 Jan 1 168": api.ErrRange, "0 - X 1900 Jan 1 x": api.ErrForm, "0 - X 19000": api.ErrForm, "0 - X max": api.ErrForm, "0 - X 0": api.ErrForm,
	} {
		if e, code := Parse(fields(line)); e != (api.Era{}) || code != want {
			t.Error(line, e, code, want)
		}
	}
	if e, code := Parse([]string{"0", "-", "a b"}); e != (api.Era{}) || code != api.ErrFormat {
		t.Error(e, code)
	}
	for i, want := range []api.Errno{api.ErrForm, api.ErrForm, api.ErrFormat, api.ErrForm, api.ErrWord, api.ErrForm, api.ErrForm} {
		l := fields("0 - X 1900 Feb 2 1:00")
		l[i] = ""
		if e, code := Parse(l); e != (api.Era{}) || code != want {
			t.Error(i, e, code)
		}
	}
}

func TestP11_2Print(t *testing.T) {
	for want, e := range map[string]api.Era{
		"0:00 - GMT 1968 Oct 27":              {Format: "GMT", Until: until(1968, 10, 27, api.Clock{})},
		"1:00 Eire IST/GMT":                   {Off: 3600, Kind: api.Named, Set: "Eire", Format: "IST/GMT"},
		"-3:30:52 1:00 NDT 1935 Mar 30 0:00s": {Off: -12652, Kind: api.Fixed, Save: 3600, Format: "NDT", Until: until(1935, 3, 30, api.Clock{Base: api.Std})},
		"0:00 - X 1900":                       {Format: "X", Until: until(1900, 1, 1, api.Clock{})},
		"0:00 - X 1900 Jan 1 0:00u":           {Format: "X", Until: until(1900, 1, 1, api.Clock{Base: api.Utc})},
		"0:00 - X 1900 Jan 2":                 {Format: "X", Until: until(1900, 1, 2, api.Clock{})},
		"0:00 - X 1900 Feb":                   {Format: "X", Until: until(1900, 2, 1, api.Clock{})},
		"0:00 0:00 X":                         {Kind: api.Fixed, Format: "X"},
		"0:00 - X 1900 Jan lastSun -1:00":     {Format: "X", Until: api.Until{Is: true, Year: 1900, Month: 1, Day: api.Day{Kind: api.DayLast}, At: api.Clock{Sec: -3600}}},
	} {
		if s, code := Print(e); s != want || code != api.OK {
			t.Error(want, s, code)
		}
	}
	for i, e := range []api.Era{
		{}, {Off: 604800, Format: "X"}, {Format: "X", Kind: 3}, {Format: "X", Kind: -1}, {Format: "X", Kind: api.Fixed, Save: 604800},
		{Format: "X", Save: 1}, {Format: "X", Kind: api.Named}, {Format: "X", Kind: api.Named, Set: "9"}, {Format: "X", Kind: api.Named, Set: "a", Save: 1},
		{Format: "X", Set: "a"}, {Format: "X", Kind: api.Fixed, Set: "a"}, {Format: "a b"}, {Format: strings.Repeat("x", 21)}, {Format: "\""}, {Format: "\x7f"},
		{Format: "X", Until: api.Until{Year: 1}}, {Format: "X", Until: api.Until{Day: fixed(1)}}, {Format: "X", Until: api.Until{At: api.Clock{Base: 1}}},
		{Format: "X", Until: until(1849, 1, 1, api.Clock{})}, {Format: "X", Until: until(2150, 1, 1, api.Clock{})}, {Format: "X", Until: until(1900, 0, 1, api.Clock{})},
		{Format: "X", Until: until(1900, 13, 1, api.Clock{})}, {Format: "X", Until: until(1900, 1, 0, api.Clock{})}, {Format: "X", Until: until(1900, 1, 32, api.Clock{})},
		{Format: "X", Until: until(1900, 1, 1, api.Clock{Base: 3})}, {Format: "X", Until: until(1900, 1, 1, api.Clock{Sec: 604800})},
	} {
		if s, code := Print(e); s != "" || code != api.ErrArg {
			t.Error(i, s, code)
		}
	}
}

// anyEra returns an era that can be written.
func anyEra(r *rand.Rand) api.Era {
	days := []api.Day{fixed(1), fixed(1 + r.Intn(31)), {Kind: api.DayLast, Week: r.Intn(7)}, {Kind: api.DayFrom, Week: r.Intn(7), Day: 1 + r.Intn(31)}, {Kind: api.DayTo, Week: r.Intn(7), Day: 1 + r.Intn(31)}}
	e := api.Era{Off: r.Int63n(1209599) - 604799, Kind: r.Intn(3), Format: []string{"X", "%z", "A/B", "-"}[r.Intn(4)]}
	switch e.Kind {
	case api.Fixed:
		e.Save = r.Int63n(1209599) - 604799
	case api.Named:
		e.Set = []string{"R", "Eire"}[r.Intn(2)]
	}
	if r.Intn(4) > 0 {
		e.Until = api.Until{Is: true, Year: 1850 + r.Intn(300), Month: 1 + r.Intn(12)*r.Intn(2), Day: days[r.Intn(5)], At: api.Clock{Sec: int64(r.Intn(2) * r.Intn(604800)), Base: r.Intn(3)}}
	}
	return e
}

func TestP11_3Back(t *testing.T) {
	random := rand.New(rand.NewSource(11))
	for range 20000 {
		e := anyEra(random)
		line, code := Print(e)
		if code != api.OK {
			t.Fatal(e, code)
		}
		if back, code := Parse(strings.Split(line, " ")); back != e || code != api.OK {
			t.Fatal(line, e, back, code)
		}
	}
}

func TestP11_4Shortest(t *testing.T) {
	random := rand.New(rand.NewSource(114))
	for range 20000 {
		e := anyEra(random)
		line, _ := Print(e)
		l := strings.Split(line, " ")
		for n := range l {
			if back, code := Parse(l[:n]); code == api.OK && back == e {
				t.Fatal(line, n)
			}
		}
	}
}
