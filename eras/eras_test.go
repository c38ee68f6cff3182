package eras

import (
	"fmt"
	"math/rand"
	"slices"
	"strings"
	"testing"

	"analemma/api"
	"analemma/source"
)

const (
	least    = -1 << 63
	greatest = 1<<63 - 1
	october  = -37238400 // October 27, 1968
)

const eire = `Rule R 1972 max - Mar Sun>=15 2:00u 0 -
Rule R 1972 max - Oct lastSun 1:00u -1:00 S
Rule R 1971 only - Oct 31 2:00u -1:00 S
Zone Z 0:00 - GMT 1968 Oct 27
	1:00 R IST/GMT
`

func read(t *testing.T, text string) api.Source {
	t.Helper()
	s, _, err := source.Parse(text)
	if err != nil {
		t.Fatal(text, err)
	}
	return s
}

func TestP23_1Spans(t *testing.T) {
	s := read(t, eire)
	if l, e := Spans(s, 0); !slices.Equal(l, []api.Span{{Start: least, End: october, Era: 0}, {Start: october, End: greatest, Era: 1}}) || e != api.OK {
		t.Error(l, e)
	}
	for _, i := range []int{1, -1, 1 << 40, least} {
		if l, e := Spans(s, i); len(l) != 0 || e != api.ErrRange {
			t.Error(i, l, e)
		}
	}
	s.Zones = append(s.Zones, api.Zone{Name: "Y"})
	if l, e := Spans(s, 1); len(l) != 0 || e != api.OK {
		t.Error(l, e)
	}
	// The end of the last era does not matter, nor what is wrong with it.
	s.Zones[0].Eras[1].Until.Is = true
	s.Zones[0].Eras[1].Kind = 9
	if l, e := Spans(s, 0); len(l) != 2 || l[1].End != greatest || e != api.OK {
		t.Error(l, e)
	}
	// The rules of the set count, just if the era is Named.
	s = read(t, strings.Replace(eire, "0:00 - GMT 1968 Oct 27", "1:00 R GMT 1973 Jan", 1))
	if l, e := Spans(s, 0); e != api.OK || l[0].End != 3*365*86400+86400 {
		t.Error(l, e)
	}
	s.Zones[0].Eras[0].Kind = api.NoRules
	if l, e := Spans(s, 0); e != api.OK || l[0].End != 3*365*86400+86400-3600 {
		t.Error(l, e)
	}
	zone := func(lines ...string) api.Source { return read(t, "Zone Z "+strings.Join(lines, "\n")+"\n") }
	for i, x := range []struct {
		s  api.Source
		of api.Errno
	}{
		{zone("0 - GMT 1968", "0 - GMT 1968", "0 - GMT"), api.ErrOrder}, {zone("0 - GMT 1968", "0:00:01 - GMT 1968", "0 - GMT"), api.ErrOrder},
		{zone("0 - GMT 1968", "-0:00:01 - GMT 1968", "0 - GMT"), api.OK}, {zone("0 - GMT 1968 Feb 30", "0 - GMT"), api.ErrRange},
		{zone("0 - GMT 1968", "0 - GMT 1967", "0 - GMT 1968 Feb 30", "0 - GMT"), api.ErrOrder}, {zone("0 - GMT 1968 Jan 1 49:00", "0 - GMT"), api.ErrRange},
		{api.Source{Zones: []api.Zone{{Eras: []api.Era{{}, {}}}}}, api.ErrNone}, {api.Source{Zones: []api.Zone{{Eras: []api.Era{{Kind: 3}, {}}}}}, api.ErrArg},
	} {
		l, e := Spans(x.s, 0)
		if e != x.of || e != api.OK && len(l) != 0 {
			t.Error(i, l, e)
		}
	}
}

func TestP23_2Find(t *testing.T) {
	l, _ := Spans(read(t, eire), 0)
	for at, want := range map[int64]int{october: 1, october - 1: 0, least: 0, greatest - 1: 1} {
		if x, ok := Find(l, at); !ok || x != l[want] {
			t.Error(at, x, ok)
		}
	}
	if x, ok := Find(l, greatest); ok || x != (api.Span{}) {
		t.Error(x, ok)
	}
	any := []api.Span{{Start: 5, End: 3, Era: 7}, {Start: 4, End: 9, Era: 1}, {Start: 0, End: 9, Era: 2}}
	for at, want := range map[int64]int{4: 1, 3: 2, 0: 2, 8: 1} {
		if x, ok := Find(any, at); !ok || x.Era != want {
			t.Error(at, x, ok)
		}
	}
	if _, ok := Find(nil, 0); ok {
		t.Error("no spans")
	}
}

// anySource returns a source with one zone of several eras.
func anySource(t *testing.T, r *rand.Rand) api.Source {
	var b strings.Builder
	x := []string{"1:00", "-1:00"}[r.Intn(2)]
	fmt.Fprintf(&b, "Rule R 1950 max - Mar lastSun %d:00%s %s -\nRule R 1950 max - Sep Sun>=%d 2:00%s 0 -\n", r.Intn(5), []string{"", "s", "u"}[r.Intn(3)], x, 1+7*r.Intn(4), []string{"", "s", "u"}[r.Intn(3)])
	b.WriteString("Zone Z 0:10 - LMT 1900\n")
	n := 1 + r.Intn(4)
	for i := range n {
		fmt.Fprintf(&b, "\t%d:00 %s ABC", r.Intn(25)-12, []string{"-", "0:30", "R"}[r.Intn(3)])
		if i < n-1 {
			fmt.Fprintf(&b, " %d %d %d %d:00%s", 1910+20*i, 0, 0, r.Intn(24), []string{"", "s", "u"}[r.Intn(3)])
		}
		b.WriteByte('\n')
	}
	text := strings.ReplaceAll(b.String(), " 0 0 ", " "+[]string{"Jan", "Jun", "Dec"}[r.Intn(3)]+" 15 ")
	return read(t, text)
}

func TestP23_3And4WholeAndLong(t *testing.T) {
	r := rand.New(rand.NewSource(23))
	for range 500 {
		s := anySource(t, r)
		l, e := Spans(s, 0)
		if e != api.OK || len(l) != len(s.Zones[0].Eras) || l[0].Start != least || l[len(l)-1].End != greatest {
			t.Fatal(s, l, e)
		}
		for i, x := range l {
			if x.Era != i || i > 0 && (x.Start != l[i-1].End || i < len(l)-1 && x.End-x.Start <= 40*3600) {
				t.Fatal(s, l)
			}
			for _, at := range []int64{x.Start, x.End - 1} {
				if y, ok := Find(l, at); !ok || y != x {
					t.Fatal(s, l, at)
				}
			}
		}
	}
}

// shifted returns the source with its set shifted by x.
func shifted(s api.Source, x int64) api.Source {
	less := func(c *api.Clock) {
		if c.Base == api.Std {
			c.Sec -= x
		}
	}
	moved := api.Source{Rules: slices.Clone(s.Rules), Zones: []api.Zone{{Name: "Z", Eras: slices.Clone(s.Zones[0].Eras)}}}
	for i := range moved.Rules {
		moved.Rules[i].Save += x
		less(&moved.Rules[i].At)
	}
	for i := range moved.Zones[0].Eras {
		if era := &moved.Zones[0].Eras[i]; era.Kind == api.Named {
			era.Off -= x
			less(&era.Until.At)
		}
	}
	return moved
}

func TestP23_5Shifts(t *testing.T) {
	r := rand.New(rand.NewSource(235))
	for range 500 {
		s := anySource(t, r)
		x := int64(3600)
		if s.Rules[0].Save > 0 {
			x = -3600
		}
		moved := shifted(s, x)
		a, e := Spans(s, 0)
		b, f := Spans(moved, 0)
		if e != api.OK || f != api.OK || !slices.Equal(a, b) {
			t.Fatal(s, moved, a, b)
		}
	}
}
