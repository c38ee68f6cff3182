package system

import (
	"errors"
	"math/rand"
	"slices"
	"strings"
	"testing"

	"analemma/accept"
	"analemma/api"
	"analemma/decode"
	"analemma/lookup"
	"analemma/printer"
	"analemma/sample"
	"analemma/source"
)

const vanguard = `Rule Eire 1971 only - Oct 31 2:00u -1:00 -
Rule Eire 1972 max - Mar Sun>=15 2:00u 0:00 -
Rule Eire 1972 max - Oct lastSun 1:00u -1:00 -
Zone Europe/Dublin 0:00 - GMT 1968 Oct 27
	1:00 Eire IST/GMT
`

const rearguard = `Rule Eire 1971 only - Oct 31 2:00u 0:00 -
Rule Eire 1972 max - Mar Sun>=15 2:00u 1:00 -
Rule Eire 1972 max - Oct lastSun 1:00u 0:00 -
Zone Europe/Dublin 0:00 - GMT 1968 Oct 27
	0:00 Eire GMT/IST
Shift Eire
`

// expect checks that an error is a fault.
func expect(t *testing.T, what any, err error, text, line int, of api.Errno) {
	t.Helper()
	var f *api.Fault
	var code api.Errno
	if !errors.As(err, &f) || *f != (api.Fault{Text: text, Line: line, Of: of}) || !errors.As(err, &code) || code != of || !errors.Is(err, of) {
		t.Errorf("%v: %v, not %d %d %v", what, err, text, line, of)
	}
}

// wrong are texts that are read, but have a source that is not right, or not read at all; with the line and the code.
var wrong = []struct {
	text string
	line int
	of   api.Errno
}{
	{"Rule x", 1, api.ErrForm}, {"\n\nZone", 3, api.ErrForm}, {strings.Repeat("x", 301), 1, api.ErrLong}, {"# x\nRule R 1990 only - Jan 1 0 1:00 -\n", 2, api.ErrSave},
	{"\nZone A 0 - GMT 1990\n# x\n16 - GMT\n", 4, api.ErrRange}, {"Zone A 0 - GMT\nLink A B\n\nLink X C\n", 4, api.ErrName}, {"Zone A 0 - GMT\n\nShift R\n", 3, api.ErrName},
	{"Zone A 0 - GMT\nZone A 0 - GMT", 2, api.ErrTwice}, {"Zone A 0 - GMT 1990", 1, api.ErrForm},
}

func TestP46_1TranslateAndReport(t *testing.T) {
	if s, err := Translate(vanguard, "rearguard"); s != rearguard || err != nil {
		t.Error(s, err)
	}
	if s, err := Translate("# a comment\n"+strings.ReplaceAll(rearguard, "only", "1971"), "vanguard"); s != vanguard || err != nil {
		t.Error(s, err)
	}
	if s, err := Report(vanguard, "rearguard"); s != "rule 0 save\nrule 1 save\nrule 2 save\nera 0 1 off format\n" || err != nil {
		t.Error(s, err)
	}
	if s, err := Report(vanguard, "main"); s != "" || err != nil {
		t.Error(s, err)
	}
	for _, f := range []func(string, string) (string, error){Translate, Report} {
		for _, x := range wrong {
			for _, form := range []string{"main", "vanguard", "rearguard"} {
				s, err := f(x.text, form)
				expect(t, x.text, err, 0, x.line, x.of)
				if s != "" {
					t.Error(x, s)
				}
			}
		}
		for _, form := range []string{"Main", "", "x", "vanguard "} {
			s, err := f(vanguard, form)
			expect(t, form, err, 0, 1, api.ErrForm)
			if s != "" {
				t.Error(form, s)
			}
		}
		_, err := f("\nZone A 0 - X\n", "x")
		expect(t, "a form ahead of a fault", err, 0, 1, api.ErrForm)
		_, err = f("\nRule", "x")
		expect(t, "a line ahead of a form", err, 0, 2, api.ErrForm)
		_, err = f("\n"+strings.Replace(rearguard, "GMT/IST", "%z", 1), "main")
		expect(t, "no form at all", err, 0, 7, api.ErrKind)
	}
}

func TestP46_2Pack(t *testing.T) {
	all := api.Options{Backzone: true, All: true}
	for _, x := range []struct {
		texts [3]string
		o     api.Options
		want  string
	}{
		{[3]string{"Zone A 0 - GMT", "Link A B", ""}, all, "Zone A 0:00 - GMT\nLink A B\n"}, {[3]string{}, all, ""},
		{[3]string{"Zone A 0 - GMT", "Link A B", "Zone B 1 - CET"}, all, "Zone A 0:00 - GMT\nZone B 1:00 - CET\n"}, {[3]string{"Zone A 0 - GMT", "Link A B", "Zone B 1 - CET"}, api.Options{}, "Zone A 0:00 - GMT\nLink A B\n"},
		{[3]string{"Zone A 0 - GMT", "Link A B", "Zone B 1 - CET"}, api.Options{Backzone: true, Keep: []string{"B"}}, "Zone A 0:00 - GMT\nZone B 1:00 - CET\n"},
	} {
		if s, err := Pack(x.texts[0], x.texts[1], x.texts[2], x.o); s != x.want || err != nil {
			t.Error(x, s, err)
		}
	}
	rules := "Rule R 1990 only - Jul 1 0 0 -\nRule R 1991 only - Jul 1 0 1:00 -\n"
	for _, x := range []struct {
		texts      [3]string
		text, line int
		of         api.Errno
	}{
		{[3]string{"Zone A 0 - GMT", "", "\nLink A B"}, 2, 2, api.ErrKind}, {[3]string{"Zone A 0 - GMT", "", "Link A B"}, 2, 1, api.ErrKind}, {[3]string{"x", "y", "z"}, 0, 1, api.ErrWord},
		{[3]string{"", "\ny", "z"}, 1, 2, api.ErrWord}, {[3]string{"Zone A 16 - GMT", "", "\n\nz"}, 2, 3, api.ErrForm}, {[3]string{"\nZone A 16 - GMT", "Zone B 0 - GMT", ""}, 0, 2, api.ErrRange},
		{[3]string{"Zone A 0 - GMT", "\n# x\nZone B 0 - GMT", ""}, 1, 3, api.ErrKind}, {[3]string{"Zone A 0 - GMT\nLink A B", "\nLink A C\nLink A B", ""}, 1, 3, api.ErrTwice},
		{[3]string{"Zone A 5 - %z", "", "\nZone B 5 - +05"}, 2, 1, api.ErrKind}, {[3]string{rules, "", "#\n" + strings.Replace(rules, "1991", "1992", 1)}, 2, 2, api.ErrTwice},
	} {
		s, err := Pack(x.texts[0], x.texts[1], x.texts[2], all)
		expect(t, x, err, x.text, x.line, x.of)
		if s != "" {
			t.Error(x, s)
		}
	}
}

func TestP46_3Compile(t *testing.T) {
	if b, err := Compile("Zone A 0 - GMT", "A", 2); len(b) != 111 || err != nil {
		t.Error(b, err)
	}
	for _, x := range wrong {
		b, err := Compile(x.text, "A", 9)
		expect(t, x.text, err, 0, x.line, x.of)
		if b != nil {
			t.Error(x, b)
		}
	}
	for _, x := range []struct {
		name    string
		version int
		of      api.Errno
	}{{"B", 2, api.ErrName}, {"B", 9, api.ErrName}, {"A", 9, api.ErrVersion}, {"A", 1, api.ErrVersion}} {
		b, err := Compile("\nZone A 0 - GMT", x.name, x.version)
		expect(t, x, err, 0, 1, x.of)
		if b != nil {
			t.Error(x, b)
		}
	}
}

func TestP46_4AtAndNames(t *testing.T) {
	if l, err := At("Zone A 0 - GMT\nLink A B", "B", 0); l != (api.Local{Abbr: "GMT"}) || err != nil {
		t.Error(l, err)
	}
	if l, err := Names("Zone Z 0 - GMT\nLink Z B\nLink B X\nZone A 0 - GMT"); !slices.Equal(l, []string{"A", "B", "X", "Z"}) || err != nil {
		t.Error(l, err)
	}
	if l, err := Names(""); len(l) != 0 || err != nil {
		t.Error(l, err)
	}
	for _, x := range wrong {
		l, err := At(x.text, "A", 1<<63-1)
		expect(t, x.text, err, 0, x.line, x.of)
		names, other := Names(x.text)
		expect(t, x.text, other, 0, x.line, x.of)
		if l != (api.Local{}) || names != nil {
			t.Error(x, l, names)
		}
	}
	l, err := At("\nZone A 0 - GMT", "B", 0)
	expect(t, "B", err, 0, 1, api.ErrName)
	m, other := At("\nZone A 0 - GMT", "B", api.MaxTime+1)
	expect(t, "time", other, 0, 1, api.ErrRange)
	if l != (api.Local{}) || m != l {
		t.Error(l, m)
	}
}

// broken returns a text in which some bytes are other ones.
func broken(r *rand.Rand, text string) string {
	b := []byte(text)
	for range 1 + r.Intn(3) {
		b[r.Intn(len(b))] = "\n\t #\"-:0123459RZLASMxz%/\x01"[r.Intn(25)]
	}
	return string(b)
}

func TestP46_5EitherG6(t *testing.T) {
	r := rand.New(rand.NewSource(46))
	for i := range uint64(1500) {
		s := broken(r, []string{vanguard, rearguard, sample.Text(i)}[r.Intn(3)])
		_, e1 := Translate(s, []string{"main", "rearguard", "vanguard", "x"}[r.Intn(4)])
		_, e2 := Report(s, "rearguard")
		b, e3 := Compile(s, "Europe/Dublin", 3)
		names, e4 := Names(s)
		l, e5 := At(s, "Area/Z0", r.Int63n(1<<40))
		p, e6 := Pack(s, "Link Area/Z0 X", broken(r, vanguard), api.Options{Backzone: true, All: true})
		if b != nil && e3 != nil || names != nil && e4 != nil || l != (api.Local{}) && e5 != nil || p != "" && e6 != nil {
			t.Fatalf("%q", s)
		}
		for _, err := range []error{e1, e2, e3, e4, e5, e6} {
			var f *api.Fault
			if err != nil && (!errors.As(err, &f) || f.Of == api.OK || f.Line < 1 || f.Line > 1+strings.Count(s+vanguard, "\n")) {
				t.Fatalf("%q %v", s, err)
			}
		}
	}
}

// canonical returns the canonical text of a text.
func canonical(t *testing.T, text string) string {
	t.Helper()
	s, _, err := source.Parse(text)
	out, e := printer.Print(s)
	if err != nil || e != api.OK {
		t.Fatal(err, e)
	}
	return out
}

func TestP46_6OnceG2G3(t *testing.T) {
	for i := range uint64(100) {
		text := sample.Text(i)
		for _, form := range []string{"vanguard", "main", "rearguard"} {
			a, err := Translate(text, form)
			b, other := Translate(a, form)
			back, third := Translate(a, "vanguard")
			if a != b || back != canonical(t, text) || err != nil || other != nil || third != nil {
				t.Fatal(text, form, err, other, third)
			}
			if form == "rearguard" && (strings.Contains(a, "%z") || strings.Contains(a, " -1:00 S")) {
				t.Fatal(a)
			}
			if canonical(t, a) != a {
				t.Fatal(a)
			}
		}
	}
}

func TestP46_7TheSameTimeG1G5(t *testing.T) {
	r := rand.New(rand.NewSource(467))
	for i := range uint64(40) {
		text := sample.Text(i)
		names, err := Names(text)
		if err != nil {
			t.Fatal(err)
		}
		for _, form := range []string{"main", "rearguard"} {
			to, err := Translate(text, form)
			if err != nil {
				t.Fatal(err)
			}
			if l, err := Names(to); !slices.Equal(l, names) || err != nil {
				t.Fatal(l, err)
			}
			for _, name := range names {
				data, err := Compile(to, name, 4)
				table, _, e := decode.Decode(data)
				if err != nil || e != api.OK {
					t.Fatal(err, e)
				}
				for range 8 {
					n := r.Int63n(1<<33) - 1<<32
					a, err := At(text, name, n)
					b, other := At(to, name, n)
					c, e := lookup.At(table, n)
					if a.Off != b.Off || a.Abbr != b.Abbr || b != c || err != nil || other != nil || e != api.OK {
						t.Fatal(text, form, name, n, a, b, c)
					}
				}
			}
		}
	}
}

func TestP46_8PackagesG4(t *testing.T) {
	r := rand.New(rand.NewSource(468))
	for i := range uint64(40) {
		text := sample.Text(i)
		backzone := strings.ReplaceAll(strings.Split(sample.Text(i+500), "Link")[0], "Rule ", "Rule B")
		backzone = strings.NewReplacer(" Plus ", " BPlus ", " Many ", " BMany ", " Minus ", " BMinus ").Replace(backzone)
		s, err := Pack(text, "", backzone, api.Options{All: true})
		if err != nil {
			t.Fatal(err)
		}
		names, _ := Names(text)
		if l, err := Names(s); !slices.Equal(l, names) || err != nil {
			t.Fatal(l, names, err)
		}
		x, _, _ := source.Parse(s)
		if _, e := accept.In(x, api.Vanguard); e != api.OK {
			t.Fatal(e)
		}
		for _, name := range names {
			n := r.Int63n(1<<33) - 1<<32
			a, err := At(text, name, n)
			b, other := At(s, name, n)
			if a != b || err != nil || other != nil {
				t.Fatal(text, name, n, a, b)
			}
		}
		if again, err := Pack(s, "", "", api.Options{}); again != s || err != nil {
			t.Fatal(s, again, err)
		}
	}
}
