package lexeme

import (
	"math/rand"
	"slices"
	"strings"
	"testing"

	"analemma/api"
)

func TestP5_1Lines(t *testing.T) {
	longest := strings.Repeat("x", api.MaxLine)
	for _, x := range []struct {
		text string
		want []string
	}{
		{"a\nb\n", []string{"a", "b"}}, {"a\n\n", []string{"a", ""}}, {"", []string{""}}, {"\n", []string{""}},
		{"a\nb", []string{"a", "b"}}, {"\na", []string{"", "a"}}, {"a\r\n\x00\xff", []string{"a\r", "\x00\xff"}},
		{longest + "\n" + longest, []string{longest, longest}}, {"\n\n", []string{"", ""}},
	} {
		if l, n, e := Lines(x.text); !slices.Equal(l, x.want) || n != 0 || e != api.OK {
			t.Errorf("%q: %q %d %v", x.text, l, n, e)
		}
	}
	for _, x := range []struct {
		text string
		want int
	}{
		{longest + "x", 1}, {"\n\n" + longest + "x\n" + longest + "xx", 3}, {longest + "\n" + longest + "\t\n", 2},
		{strings.Repeat("\n", api.MaxText+1), 1}, {strings.Repeat("x", api.MaxText+1), 1},
		{"\n" + strings.Repeat("x", api.MaxText-1), 2},
	} {
		if l, n, e := Lines(x.text); l != nil || n != x.want || e != api.ErrLong {
			t.Error(len(x.text), len(l), n, e)
		}
	}
	if l, n, e := Lines(strings.Repeat("\n", api.MaxText)); len(l) != api.MaxText || n != 0 || e != api.OK {
		t.Error(len(l), n, e)
	}
}

func TestP5_2Fields(t *testing.T) {
	longest := strings.Repeat("x", api.MaxLine)
	for line, want := range map[string][]string{
		"Rule  X 1 # y": {"Rule", "X", "1"}, `"a b"c ""`: {"a bc", ""}, "  # x": nil, "": nil, "a#\x07": {"a"},
		`a"b c"d`: {"ab cd"}, "\ta\t \tb\t": {"a", "b"}, "a\tb": {"a", "b"}, `"#" #`: {"#"}, `""""`: {""}, `a""b`: {"ab"}, "a#b c": {"a"},
		`""#`: {""}, `"" ""`: {"", ""}, "!~": {"!~"}, "#\n\xff": nil, longest: {longest}, `a "b"#"`: {"a", "b"}, `" "`: {" "},
	} {
		if l, e := Fields(line); !slices.Equal(l, want) || e != api.OK {
			t.Errorf("%q: %q %v", line, l, e)
		}
	}
	for _, line := range []string{
		`a "b`, "a \x07", `"`, `"""`, "a\n", "\n", "a\rb", "\x7f", "é", "\"\t\"", "\"\n\"", "\"\x7f\"", `a "#`, "\x00#", " \x1f", "\"é\"",
	} {
		if l, e := Fields(line); l != nil || e != api.ErrForm {
			t.Errorf("%q: %q %v", line, l, e)
		}
	}
	for _, line := range []string{longest + "x", longest + "\n", "#" + longest, longest + longest} {
		if l, e := Fields(line); l != nil || e != api.ErrLong {
			t.Errorf("%q: %q %v", line, l, e)
		}
	}
}

func TestP5_3Join(t *testing.T) {
	longest := strings.Repeat("x", api.MaxLine)
	for _, x := range []struct {
		fields []string
		want   string
	}{
		{[]string{"a", "b c", "", "x#"}, `a "b c" "" "x#"`}, {nil, ""}, {[]string{""}, `""`}, {[]string{"~!"}, "~!"},
		{[]string{longest}, longest}, {[]string{longest[2:], "y"}, longest[2:] + " y"}, {[]string{" "}, `" "`},
	} {
		if line, e := Join(x.fields); line != x.want || e != api.OK {
			t.Errorf("%q: %q %v", x.fields, line, e)
		}
	}
	for _, fields := range [][]string{{`"`}, {"a", "\x1f"}, {"\x7f"}, {"a\n"}, {"\t"}, {"é"}, {longest, longest, `"`}} {
		if line, e := Join(fields); line != "" || e != api.ErrArg {
			t.Errorf("%q: %q %v", fields, line, e)
		}
	}
	for _, fields := range [][]string{{longest + "x"}, {longest, ""}, {longest[2:] + "#"}, {longest[1:], "y"}} {
		if line, e := Join(fields); line != "" || e != api.ErrLong {
			t.Errorf("%q: %q %v", fields, line, e)
		}
	}
}

// pick returns a string of some of the characters.
func pick(r *rand.Rand, from string, most int) string {
	b := make([]byte, r.Intn(most+1))
	for i := range b {
		b[i] = from[r.Intn(len(from))]
	}
	return string(b)
}

func TestP5_4Back(t *testing.T) {
	r := rand.New(rand.NewSource(5))
	for range 20000 {
		fields := make([]string, r.Intn(8))
		for i := range fields {
			fields[i] = pick(r, "ab #~!'-", 6)
		}
		line, e := Join(fields)
		if e != api.OK {
			t.Fatal(fields, e)
		}
		if l, e := Fields(line); !slices.Equal(l, fields) || e != api.OK {
			t.Fatalf("%q: %q %q %v", fields, line, l, e)
		}
	}
}

func TestP5_5Texts(t *testing.T) {
	r := rand.New(rand.NewSource(55))
	for range 20000 {
		text := pick(r, "a\n\n #\xff", 12)
		l, n, e := Lines(text)
		if n != 0 || e != api.OK || strings.Join(l, "\n") != strings.TrimSuffix(text, "\n") || len(l) == 0 {
			t.Fatalf("%q: %q %d %v", text, l, n, e)
		}
		for _, line := range l {
			if len(line) > api.MaxLine || strings.Contains(line, "\n") {
				t.Fatalf("%q: %q", text, l)
			}
		}
	}
}

func TestP5_6Comments(t *testing.T) {
	r := rand.New(rand.NewSource(56))
	for range 20000 {
		line := pick(r, "ab \t\"\"#\x01", 8)
		want, e := Fields(line)
		if e != api.OK {
			continue
		}
		longer := line + "#" + pick(r, "ab \t\"#\x01\n\xff", 8)
		if l, e := Fields(longer); !slices.Equal(l, want) || e != api.OK {
			t.Fatalf("%q: %q, not %q, %v", longer, l, want, e)
		}
	}
}
