package source

import (
	"errors"
	"fmt"
	"math/rand"
	"reflect"
	"strings"
	"testing"

	"analemma/api"
)

// text returns a text of lines that stand with ";" between them.
func text(s string) string { return strings.ReplaceAll(s, ";", "\n") }

func good(t *testing.T, s string) (api.Source, api.Lines) {
	t.Helper()
	x, lines, err := Parse(s)
	if err != nil {
		t.Fatal(s, err)
	}
	return x, lines
}

// bad checks that a text is refused with an error at a line.
func bad(t *testing.T, s string, line int, e api.Errno) {
	t.Helper()
	x, lines, err := Parse(s)
	var fault *api.Fault
	if !errors.As(err, &fault) || !errors.Is(err, e) || *fault != (api.Fault{Line: line, Of: e}) {
		t.Errorf("%.300q: %v, not %d %v", s, err, line, e)
	}
	if !reflect.DeepEqual(x, api.Source{}) || !reflect.DeepEqual(lines, api.Lines{}) {
		t.Errorf("%.300q: a result", s)
	}
}

func TestP13_1Parse(t *testing.T) {
	s, lines := good(t, text("Rule R 1990 max - Mar lastSun 2:00 1:00 S; # x; Zone Z/A 1:00 - LMT 1990; 2:00 R E%sT; Link Z/A B"))
	want := api.Source{
		Rules: []api.Rule{{Name: "R", From: 1990, To: api.Forever, Month: 3, Day: api.Day{Kind: api.DayLast}, At: api.Clock{Sec: 7200}, Save: 3600, Letter: "S"}},
		Zones: []api.Zone{{Name: "Z/A", Eras: []api.Era{
			{Off: 3600, Format: "LMT", Until: api.Until{Is: true, Year: 1990, Month: 1, Day: api.Day{Kind: api.DayFixed, Day: 1}}},
			{Off: 7200, Kind: api.Named, Set: "R", Format: "E%sT"},
		}}},
		Links: []api.Link{{Target: "Z/A", Name: "B"}},
	}
	if !reflect.DeepEqual(s, want) || !reflect.DeepEqual(lines, api.Lines{Rules: []int{1}, Eras: [][]int{{3, 4}}, Links: []int{5}}) {
		t.Error(s, lines)
	}
	s, lines = good(t, text("R R 1990 only - Jan 1 0:00 0 -; z Z 0:00 - GMT; l Z Y; sh R"))
	if len(s.Rules) != 1 || len(s.Zones) != 1 || len(s.Links) != 1 || s.Shifts[0] != "R" ||
		!reflect.DeepEqual(lines, api.Lines{Rules: []int{1}, Eras: [][]int{{2}}, Links: []int{3}, Shifts: []int{4}}) {
		t.Error(s, lines)
	}
	for _, empty := range []string{"", "\n\n", "# x", " \t#\x00"} {
		if s, lines := good(t, empty); !reflect.DeepEqual(s, api.Source{}) || !reflect.DeepEqual(lines, api.Lines{}) {
			t.Error(s, lines)
		}
	}
	// Behind an end even the word of a line is a field of an era.
	s, _ = good(t, text("Zone Z 0 - GMT 1990;\t0 Rule GMT"))
	if s.Zones[0].Eras[1].Set != "Rule" {
		t.Error(s)
	}
}

func TestP13_1Errors(t *testing.T) {
	for _, x := range []struct {
		text string
		line int
		of   api.Errno
	}{
		{"# x; Zone; Link", 2, api.ErrForm}, {"Zone Z 0:00 - GMT 1990; # x", 1, api.ErrForm}, {"Zoned Z 0:00 - GMT", 1, api.ErrWord},
		{"Zone Z 0:00 - GMT 1990; Link Z Y", 2, api.ErrForm}, {"Zone Z 0:00 - GMT 1990; 0 - GMT 1991;;#", 2, api.ErrForm}, {"\x01", 1, api.ErrForm},
		{";;\"", 3, api.ErrForm}, {"x \"", 1, api.ErrForm}, {"\"\"", 1, api.ErrWord}, {"Zone -Z x", 1, api.ErrName}, {"Zone Z", 1, api.ErrForm},
		{"Zone Z 0 - GM# 1990", 0, api.OK}, {"Zone Z 0 ! X", 1, api.ErrForm}, {"Zone Z 0 x! X", 1, api.ErrName}, {"Zone Z 0 - X 1849", 1, api.ErrRange},
		{"Rule x", 1, api.ErrForm}, {"Rule 1 1990 only - Jan 1 0:00 0 -", 1, api.ErrName}, {"Rule R 1990 only - J 1 0:00 0 -", 1, api.ErrWord},
		{"Link a", 1, api.ErrForm}, {"Link a -", 1, api.ErrName}, {"Shift", 1, api.ErrForm}, {"Shift 1", 1, api.ErrName}, {"s", 1, api.ErrForm},
		{"Zone Z 0 - \"a b\"", 1, api.ErrFormat}, {"Link a b;Link a", 2, api.ErrForm}, {"0 - GMT", 1, api.ErrWord},
		{"Zone Z 0:00 - GMT 1990;\x01", 2, api.ErrForm}, {"Zone Z 0:00 - GMT 1990;0 -", 2, api.ErrForm},
	} {
		if x.of == api.OK {
			good(t, text(x.text))
		} else {
			bad(t, text(x.text), x.line, x.of)
		}
	}
	bad(t, "x\n"+strings.Repeat("#", 301)+"\n", 2, api.ErrLong)
	bad(t, strings.Repeat("\n", api.MaxText+1), 1, api.ErrLong)
}

func TestP13_1Many(t *testing.T) {
	rule, zone, link, shift := "Rule R 1990 only - Jan 1 0:00 0 -\n", "Zone Z 0 - GMT\n", "Link a b\n", "Shift R\n"
	for _, x := range []struct {
		line string
		most int
	}{{rule, api.MaxRules}, {zone, api.MaxZones}, {link, api.MaxLinks}, {shift, api.MaxRules}} {
		good(t, strings.Repeat(x.line, x.most))
		bad(t, strings.Repeat(x.line, x.most+1)+"x", x.most+1, api.ErrMany)
		bad(t, strings.Repeat(x.line, x.most)+strings.TrimSpace(x.line)+" \x01", x.most+1, api.ErrForm)
	}
	era := "0 - GMT 1990\n"
	s, _ := good(t, "Zone Z "+strings.Repeat(era, 59)+"0 - GMT")
	if len(s.Zones[0].Eras) != api.MaxEras {
		t.Error(len(s.Zones[0].Eras))
	}
	bad(t, "Zone Z "+strings.Repeat(era, 61), 61, api.ErrMany)
	bad(t, "Zone Z "+strings.Repeat(era, 60)+"0 -", 61, api.ErrForm)
	bad(t, "Zone Z "+strings.Repeat(era, 60), 60, api.ErrForm)
	bad(t, strings.Repeat(zone, api.MaxZones)+"Zone Z 0 - GMT x", api.MaxZones+1, api.ErrForm)
}

func TestP13_2Lines(t *testing.T) {
	lines := []string{"Rule R 1990 only - Jan 1 0:00 0 -", "Zone Z 0 - GMT 1990", "1 - A 1991", "2 - B", "Link a b", "Shift R", "Link c d", "Zone Y 0 - GMT", "Rule S 1990 only - Jan 1 0:00 0 -"}
	plain, at := good(t, strings.Join(lines, "\n"))
	r := rand.New(rand.NewSource(13))
	for range 200 {
		var b strings.Builder
		n, moved := 0, make([]int, len(lines)+1)
		for i, line := range lines {
			for range r.Intn(3) {
				b.WriteString([]string{"", "# Zone", " \t", "\t#"}[r.Intn(4)] + "\n")
				n++
			}
			b.WriteString(line + []string{"", "#x", " # \x01", "\t"}[r.Intn(4)] + "\n")
			n++
			moved[i+1] = n
		}
		s, got := good(t, b.String())
		want := api.Lines{Rules: []int{moved[1], moved[9]}, Eras: [][]int{{moved[2], moved[3], moved[4]}, {moved[8]}}, Links: []int{moved[5], moved[7]}, Shifts: []int{moved[6]}}
		if !reflect.DeepEqual(s, plain) || !reflect.DeepEqual(got, want) {
			t.Fatal(b.String(), s, got, want)
		}
	}
	if !reflect.DeepEqual(at, api.Lines{Rules: []int{1, 9}, Eras: [][]int{{2, 3, 4}, {8}}, Links: []int{5, 7}, Shifts: []int{6}}) {
		t.Error(at)
	}
}

func TestP13_3Wrapped(t *testing.T) {
	r := rand.New(rand.NewSource(133))
	words := strings.Fields("Rule Zone Link Shift R Z 0 - GMT 1990 max Jan 1 \" # \x01 1:00 lastSun x")
	for range 5000 {
		var b strings.Builder
		for range r.Intn(20) {
			b.WriteString(words[r.Intn(len(words))] + []string{" ", " ", "\n", ""}[r.Intn(4)])
		}
		s, lines, err := Parse(b.String())
		if err == nil {
			continue
		}
		var fault *api.Fault
		var code api.Errno
		if !errors.As(err, &fault) || !errors.As(err, &code) || code == api.OK || !errors.Is(err, code) || fault.Text != 0 || fault.Line < 1 || fault.Line > 1+strings.Count(b.String(), "\n") {
			t.Fatal(b.String(), err)
		}
		if !reflect.DeepEqual(s, api.Source{}) || !reflect.DeepEqual(lines, api.Lines{}) {
			t.Fatal(b.String(), "a result")
		}
	}
}

func TestP13_4First(t *testing.T) {
	for _, wrong := range []string{"\n#\nRule x", "Zone Z 0 - GMT 1990\nLink", "Link a b\n\x01"} {
		_, _, want := Parse(wrong)
		for i, behind := range []string{"", "\n", "\nZone", "\nLink a b\n", "\n\x01\xff", "\n\""} {
			if _, _, err := Parse(wrong + behind); fmt.Sprint(err) != fmt.Sprint(want) || err == nil {
				t.Error(wrong, i, err)
			}
		}
	}
}
