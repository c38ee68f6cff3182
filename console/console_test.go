package console

import (
	"fmt"
	"math/rand"
	"strings"
	"testing"

	"analemma/api"
	"analemma/sample"
)

// say executes lines, and checks their responses: a line and its response, one after the other.
func say(t *testing.T, c *Console, l ...string) {
	t.Helper()
	for i := 0; i < len(l); i += 2 {
		if got := c.Say(l[i]); got != l[i+1] {
			t.Errorf("%q: %q, not %q", l[i], got, l[i+1])
		}
	}
}

// add says the lines of a text with a + in front of each.
func add(t *testing.T, c *Console, text string) {
	t.Helper()
	for _, line := range strings.Split(strings.TrimSuffix(text, "\n"), "\n") {
		if got := c.Say("+" + line); got != "ok\n" {
			t.Fatal(line, got)
		}
	}
}

const eire = `Rule E 1971 only - Oct 31 2:00u -1:00 -
Rule E 1972 max - Mar Sun>=15 2:00u 0 -
Rule E 1972 max - Oct lastSun 1:00u -1:00 -
Zone A 0:00 - GMT 1968 Oct 27
	1:00 E IST/GMT
Link A B
`

const vanguard = `Rule E 1971 only - Oct 31 2:00u -1:00 -
Rule E 1972 max - Mar Sun>=15 2:00u 0:00 -
Rule E 1972 max - Oct lastSun 1:00u -1:00 -
Zone A 0:00 - GMT 1968 Oct 27
	1:00 E IST/GMT
Link A B
`

const rearguard = `Rule E 1971 only - Oct 31 2:00u 0:00 -
Rule E 1972 max - Mar Sun>=15 2:00u 1:00 -
Rule E 1972 max - Oct lastSun 1:00u 0:00 -
Zone A 0:00 - GMT 1968 Oct 27
	0:00 E GMT/IST
Link A B
Shift E
`

func TestP47_1Examples(t *testing.T) {
	c := New()
	say(t, c, "names", "none\n", "nams", "error 5\n", "# names", "", "text 3", "error 5\n", "at A", "error 5\n")
	add(t, c, eire)
	say(t, c, "names", "A\nB\n", "at B 0", "3600 std IST\n", "at C 0", "fault 0 1 9\n", "at A -0", "error 5\n",
		"report rearguard", "rule 0 save\nrule 1 save\nrule 2 save\nera 0 1 off format\n", "take rearguard", "ok\n", "at B 0", "3600 dst IST\n", "report rearguard", "none\n",
		"translate x", "fault 0 1 5\n", "text 1", "ok\n", "+Link X", "ok\n", "names", "fault 1 1 5\n", "pack", "fault 1 1 5\n",
		"text 0", "ok\n", "clear", "ok\n", "+Zone A 0 - GMT", "ok\n", "compile A 2", "bytes 111\ntype 0 0:00 std GMT\nfooter GMT0\n", "compile A 5", "fault 0 1 18\n",
		"text 1", "ok\n", "clear", "ok\n", "+Link A B", "ok\n", "pack", "Zone A 0:00 - GMT\nLink A B\n", "show", "Link A B\n")
}

func TestP47_1Lines(t *testing.T) {
	c := New()
	add(t, c, eire)
	say(t, c, "show", eire, "translate vanguard", vanguard, "translate rearguard", rearguard, "show", eire, "take vanguard", "ok\n", "show", vanguard,
		"translate", "error 5\n", "translate ", "fault 0 1 5\n", "translate main x", "fault 0 1 5\n", "report", "error 5\n", "take", "error 5\n", "take x", "fault 0 1 5\n", "show", vanguard,
		"at A 36028797018963968", "3600 std IST\n", "at A 36028797018963969", "fault 0 1 3\n", "at A 9223372036854775807", "fault 0 1 3\n", "at A 9223372036854775808", "error 5\n",
		"at A -9223372036854775808", "fault 0 1 3\n", "at A -1", "3600 std IST\n", "at A +1", "error 5\n", "at A 01", "error 5\n", "at A", "error 5\n", "at  A 0", "error 5\n", "at A  0", "error 5\n", "at A 0 ", "error 5\n",
		"at A 0 0", "error 5\n", "at A 1x", "error 5\n", "at A \t 0", "error 5\n", "at \t 0", "fault 0 1 9\n", "compile A", "error 5\n", "compile A 02", "error 5\n", "compile A 12345678", "error 5\n", "compile A 1234567", "fault 0 1 18\n",
		"compile A -2", "error 5\n", "compile X 2", "fault 0 1 9\n", "compile A 0", "fault 0 1 18\n", "text", "error 5\n", "text 00", "error 5\n", "text 3", "error 5\n", "text -1", "error 5\n", "text 1 ", "error 5\n", "text  1", "error 5\n",
		"text 12345678", "error 5\n", "names ", "error 5\n", "names x", "error 5\n", "clear x", "error 5\n", "show ", "error 5\n", "help x", "error 5\n", "reset ", "error 5\n", "pack ", "error 5\n", "pack keep", "error 5\n", "pack keep ", "error 5\n",
		"pack keep A  B", "error 5\n", "pack all ", "error 5\n", "pack x", "error 5\n", "pack all all", "error 5\n", "pack keep all", vanguard, " ", "error 5\n", " names", "error 5\n", "Names", "error 5\n", "names\n", "error 5\n", "+x\n", "error 5\n", "\n", "error 5\n", "#\n", "",
		"#"+strings.Repeat("x", 1000), "", "+"+strings.Repeat("x", 400), "error 6\n", strings.Repeat("x", 401), "error 6\n", strings.Repeat("x", 400), "error 5\n", strings.Repeat("\n", 401), "error 6\n", "", "", "show", vanguard)
	say(t, c, "text 2", "ok\n", "show", "none\n", "names", "none\n", "report main", "none\n", "translate main", "none\n", "take main", "ok\n", "show", "none\n", "+", "ok\n", "show", "\n", "translate main", "none\n", "+#", "ok\n", "show", "\n#\n", "take main", "ok\n", "show", "none\n",
		"+Zone C 1 - CET", "ok\n", "pack all", strings.Replace(vanguard, "Link", "Zone C 1:00 - CET\nLink", 1), "pack", vanguard, "pack keep X", vanguard, "pack keep C", strings.Replace(vanguard, "Link", "Zone C 1:00 - CET\nLink", 1), "pack keep X C", strings.Replace(vanguard, "Link", "Zone C 1:00 - CET\nLink", 1),
		"+x", "ok\n", "pack", "fault 2 2 8\n", "names", "fault 2 2 8\n", "at A 0", "fault 2 2 8\n", "translate main", "fault 2 2 8\n", "compile A 2", "fault 2 2 8\n", "take main", "fault 2 2 8\n", "report main", "fault 2 2 8\n",
		"text 0", "ok\n", "pack", "fault 2 2 8\n", "reset", "ok\n", "show", "none\n", "pack", "none\n", "text 2", "ok\n", "show", "none\n")
	// A line of 400 bytes is said.
	say(t, c, "+"+strings.Repeat("x", 399), "ok\n", "names", "fault 2 1 6\n", "reset", "ok\n", "+Zone A 0 - GMT", "ok\n", "at A 0", "0 std GMT\n")
}

func TestP47_1ValidAndCopy(t *testing.T) {
	var none *Console
	odd := Console{}
	c := New()
	add(t, c, "Zone A 0 - GMT\n")
	byValue := *c
	for i, x := range []*Console{none, &odd, new(Console), &byValue} {
		if x.Say("show") != "" || x.Say("x") != "" || x.Copy() != nil {
			t.Error(i)
		}
	}
	say(t, c, "text 1", "ok\n", "+Link A B", "ok\n")
	d := c.Copy()
	say(t, d, "show", "Link A B\n", "+Link A C", "ok\n", "text 0", "ok\n", "names", "A\n", "clear", "ok\n")
	say(t, c, "show", "Link A B\n", "+Link A D", "ok\n", "pack", "Zone A 0:00 - GMT\nLink A B\nLink A D\n")
	say(t, d, "show", "none\n", "text 1", "ok\n", "show", "Link A B\nLink A C\n")
	if e := c.Copy().Copy(); e.Say("show") != "Link A B\nLink A D\n" {
		t.Error("a copy of a copy")
	}
}

func TestP47_1MaxText(t *testing.T) {
	c := New()
	line := "+" + strings.Repeat("#", 255)
	for i := range api.MaxText / 256 {
		if got := c.Say(line); got != "ok\n" {
			t.Fatal(i, got)
		}
	}
	say(t, c, "+", "error 6\n", "names", "none\n", "text 1", "ok\n", "+", "ok\n", "text 0", "ok\n", "clear", "ok\n", "+", "ok\n")
	// At 8 bytes less, seven bytes and a line feed fit.
	say(t, c, "clear", "ok\n")
	for range api.MaxText/256 - 1 {
		c.Say(line)
	}
	say(t, c, "+"+strings.Repeat("#", 247), "ok\n", "+12345678", "error 6\n", "+1234567", "ok\n", "+", "error 6\n")
}

func TestP47_2Run(t *testing.T) {
	for script, want := range map[string]string{
		"": "", "\n\n": "", "help": help, "names\n": "none\n", "names\n\nx": "none\nerror 5\n", "+Zone A 0 - GMT\n# x\nnames\nat A 0": "ok\nA\n0 std GMT\n", "text 1\n+x\ntext 0\nshow\n": "ok\nok\nok\nnone\n",
		strings.Repeat("\n", 1000): "", strings.Repeat("#", 1<<20): "",
	} {
		if got, e := Run(script); got != want || e != api.OK {
			t.Errorf("%.60q: %.300q %v", script, got, e)
		}
	}
	for i, x := range []struct {
		script string
		of     api.Errno
	}{
		{strings.Repeat("\n", 1001), api.ErrMany}, {strings.Repeat("#", 1<<20+1), api.ErrLong}, {strings.Repeat("\n", 1<<20+1), api.ErrLong},
	} {
		if got, e := Run(x.script); got != "" || e != x.of {
			t.Error(i, len(got), e)
		}
	}
	// Responses of 2^22 bytes, and of one more: two texts that are shown.
	line := "+" + strings.Repeat("x", 399) + "\n" // adds 400 bytes, and has the response ok
	build := func(more int) string {
		return strings.Repeat(line, 100) + strings.Repeat("show\n", 104) + "text 1\n" + strings.Repeat(line, 84) + "+" + strings.Repeat("x", 145+more) + "\nshow\n"
	}
	if got, e := Run(build(0)); len(got) != 1<<22 || e != api.OK {
		t.Error(len(got), e)
	}
	if got, e := Run(build(1)); got != "" || e != api.ErrLong {
		t.Error(len(got), e)
	}
}

func TestP47_3Help(t *testing.T) {
	want := []string{"text N", "+LINE", "clear", "show", "names", "translate FORM", "report FORM", "take FORM", "at NAME T", "compile NAME VERSION", "pack", "pack all", "pack keep NAME ..", "reset", "help"}
	if got := Help(); got != strings.Join(want, "\n")+"\n" {
		t.Error(got)
	}
	say(t, New(), "help", Help())
}

// anyLine returns a line, mostly one that is right.
func anyLine(r *rand.Rand) string {
	question := []string{"", "# x", "help", "show", "names", "translate main", "report rearguard", "at A 0", "compile B 2", "pack", "pack all", "pack keep A C", "at X 0", "nams", "translate x", "compile A 9", "text 7", "+\n"}
	effect := []string{"text 0", "text 1", "text 2", "clear", "take rearguard", "take vanguard", "take main", "reset", "+Zone A 0 - GMT", "+Link A B", "+x", "+Zone C 1 - CET", "+# x", "+"}
	if r.Intn(2) > 0 {
		return question[r.Intn(len(question))]
	}
	return effect[r.Intn(len(effect))]
}

func TestP47_4Texts(t *testing.T) {
	r := rand.New(rand.NewSource(47))
	for range 400 {
		c := New()
		for range r.Intn(30) {
			c.Say(anyLine(r))
		}
		before, taken := c.Say("show"), c.Say("translate main")
		d := New()
		if before != "none\n" {
			add(t, d, before)
			say(t, d, "show", before)
		}
		if c.Say("take main") == "ok\n" && taken != "none\n" {
			d = New()
			add(t, d, taken)
			say(t, d, "show", c.Say("show"))
		}
	}
}

func TestP47_5Questions(t *testing.T) {
	r := rand.New(rand.NewSource(475))
	for range 300 {
		c, d := New(), New()
		for range 40 {
			line := anyLine(r)
			word := strings.SplitN(line, " ", 2)[0]
			before := c.Copy()
			got := c.Say(line)
			effect := strings.HasPrefix(line, "+") || word == "text" || word == "clear" || word == "take" || word == "reset"
			if effect && got == "ok\n" {
				if d.Say(line) != got {
					t.Fatal(line)
				}
			} else if before.chosen != c.chosen || fmt.Sprint(before.texts) != fmt.Sprint(c.texts) {
				t.Fatal(line)
			}
			if c.Say("show") != d.Say("show") || c.Say("pack all") != d.Say("pack all") {
				t.Fatal(line)
			}
		}
	}
}

func TestP47_6TheSame(t *testing.T) {
	r := rand.New(rand.NewSource(476))
	for i := range uint64(30) {
		c := New()
		add(t, c, sample.Text(i))
		c.Say("take vanguard")
		first, names := c.Say("show"), c.Say("names")
		for _, form := range []string{"rearguard", "main"} {
			questions, answers := []string{}, []string{}
			for range 10 {
				q := fmt.Sprint("at Area/Z0 ", r.Int63n(1<<33)-1<<32)
				questions, answers = append(questions, q), append(answers, c.Say(q))
			}
			say(t, c, "take "+form, "ok\n", "names", names)
			for k, q := range questions {
				a, b := strings.Fields(answers[k]), strings.Fields(c.Say(q))
				if len(a) != 3 || len(b) != 3 || a[0] != b[0] || a[2] != b[2] {
					t.Fatal(sample.Text(i), q, a, b)
				}
			}
			once := c.Say("show")
			say(t, c, "take "+form, "ok\n", "show", once, "take vanguard", "ok\n", "show", first)
		}
	}
}

func TestP47_7Parts(t *testing.T) {
	r := rand.New(rand.NewSource(477))
	for range 300 {
		var l []string
		for range r.Intn(30) {
			l = append(l, strings.ReplaceAll(anyLine(r), "\n", ""))
		}
		n := r.Intn(len(l) + 1)
		all, e := Run(strings.Join(l, "\n"))
		part, f := Run(strings.Join(l[:n], "\n"))
		if !strings.HasPrefix(all, part) || e != api.OK || f != api.OK {
			t.Fatal(l, n, e, f)
		}
	}
}
