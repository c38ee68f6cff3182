package clock

import (
	"strings"
	"testing"

	"analemma/api"
)

var wrong = []api.Clock{
	{Sec: 0, Base: 3}, {Sec: 0, Base: -1}, {Sec: 604800}, {Sec: -604800}, {Sec: 1<<63 - 1}, {Sec: -1 << 63}, {Sec: 604800, Base: 5},
	{Sec: 0, Base: 1 << 40},
}

func TestP6_1Check(t *testing.T) {
	for _, sec := range []int64{0, 1, -1, 604799, -604799} {
		for base := api.Wall; base <= api.Utc; base++ {
			if e := Check(api.Clock{Sec: sec, Base: base}); e != api.OK {
				t.Error(sec, base, e)
			}
		}
	}
	for _, c := range wrong {
		if e := Check(c); e != api.ErrArg {
			t.Error(c, e)
		}
	}
}

func TestP6_2Parse(t *testing.T) {
	for s, want := range map[string]api.Clock{
		"2:00": {Sec: 7200}, "2:00s": {Sec: 7200, Base: api.Std}, "1:00u": {Sec: 3600, Base: api.Utc}, "0z": {Base: api.Utc},
		"-1:30w": {Sec: -5400}, "24g": {Sec: 86400, Base: api.Utc}, "167:59:59s": {Sec: 604799, Base: api.Std}, "0": {},
	} {
		if c, e := Parse(s); c != want || e != api.OK {
			t.Error(s, c, e)
		}
	}
	for _, s := range []string{"", "s", "2:00x", "2:00ss", "02:00", "w", "2:00S", "2:00 s", "s2:00", "-0u", "2:00\xf5", "2:00wu", "2:00W"} {
		if c, e := Parse(s); c != (api.Clock{}) || e != api.ErrForm {
			t.Error(s, c, e)
		}
	}
	for _, s := range []string{"168:00u", "168", "-999s", "999:59:59w"} {
		if c, e := Parse(s); c != (api.Clock{}) || e != api.ErrRange {
			t.Error(s, c, e)
		}
	}
}

func TestP6_3Print(t *testing.T) {
	for c, want := range map[api.Clock]string{
		{Sec: 7200, Base: api.Std}: "2:00s", {Base: api.Utc}: "0:00u", {Sec: -1}: "-0:00:01", {Sec: 604799}: "167:59:59", {}: "0:00",
	} {
		if s, e := Print(c); s != want || e != api.OK {
			t.Error(c, s, e)
		}
	}
	for _, c := range wrong {
		if s, e := Print(c); s != "" || e != api.ErrArg {
			t.Error(c, s, e)
		}
	}
}

func TestP6_4RoundTrip(t *testing.T) {
	seen := map[string]bool{}
	for base := api.Wall; base <= api.Utc; base++ {
		for sec := int64(-api.MaxClock); sec <= api.MaxClock; sec += 13 {
			c := api.Clock{Sec: sec, Base: base}
			s, e := Print(c)
			if e != api.OK || seen[s] {
				t.Fatal(c, s, e)
			}
			seen[s] = true
			if d, e := Parse(s); d != c || e != api.OK || Check(d) != api.OK {
				t.Fatal(c, s, d, e)
			}
		}
	}
}

func TestP6_5Letters(t *testing.T) {
	for _, s := range []string{"2:00", "-0:30", "0", "x", "", "168"} {
		plain, e := Parse(s)
		if c, f := Parse(s + "w"); c != plain || f != e {
			t.Error(s, c, f)
		}
		utc, e := Parse(s + "u")
		for _, letter := range strings.Split("gz", "") {
			if c, f := Parse(s + letter); c != utc || f != e {
				t.Error(s, letter, c, f)
			}
		}
	}
}
