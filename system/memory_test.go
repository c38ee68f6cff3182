package system_test

import (
	"reflect"
	"sync"
	"testing"

	"analemma/api"
	"analemma/expand"
	"analemma/flatten"
	"analemma/keep"
	"analemma/merge"
	"analemma/pack"
	"analemma/printer"
	"analemma/ruleset"
	"analemma/sample"
	"analemma/shift"
	"analemma/source"
	"analemma/system"
	"analemma/translate"
	"analemma/turn"
)

// read returns the source of a text that is right.
func read(t *testing.T, text string) api.Source {
	t.Helper()
	s, _, err := source.Parse(text)
	if err != nil {
		t.Fatal(text, err)
	}
	return s
}

// elements counts how often the elements of the slices of a value are used, by their addresses.
func elements(v reflect.Value, used map[uintptr]int) {
	switch v.Kind() {
	case reflect.Slice:
		for i := range v.Len() {
			used[v.Index(i).Addr().Pointer()]++
			elements(v.Index(i), used)
		}
	case reflect.Struct:
		for i := range v.NumField() {
			elements(v.Field(i), used)
		}
	}
}

// results returns sources that were made of a source, one by each function that makes some.
func results(s, backward, backzone api.Source) map[string]api.Source {
	out := map[string]api.Source{
		"printer.Copy": printer.Copy(s), "shift.Eras": shift.Eras(s, "Minus", 5), "turn.Eras": turn.Eras(s, "Minus"),
		"shift.Rules": {Rules: shift.Rules(s.Rules, 5)}, "ruleset.Of": {Rules: ruleset.Of(s, "Plus")},
		"keep.Zones": keep.Zones(s, []string{s.Zones[0].Name}), "keep.Without": keep.Without(s, []string{"X"}), "flatten.Sort": flatten.Sort(s),
	}
	out["shift.Set"], _ = shift.Set(s, "Minus", 5)
	out["expand.Expand"], _ = expand.Expand(s)
	out["expand.Contract"], _ = expand.Contract(s)
	out["merge.Sources"], _, _ = merge.Sources(s, backzone)
	out["flatten.Links"], _ = flatten.Links(s)
	out["pack.Pack"], _, _, _ = pack.Pack(s, backward, backzone, api.Options{Backzone: true, All: true})
	for form := api.Vanguard; form <= api.Rearguard; form++ {
		out["translate.To "+string(rune('0'+form))], _, _ = translate.To(s, form)
	}
	return out
}

func TestR4Memory(t *testing.T) {
	for i := range uint64(30) {
		s := read(t, sample.Text(i))
		backward := api.Source{Links: []api.Link{{Target: s.Zones[0].Name, Name: "B"}}}
		backzone := api.Source{Rules: s.Rules, Zones: []api.Zone{{Name: "C", Eras: s.Zones[0].Eras}}}
		before := printer.Copy(s)
		arguments := map[uintptr]int{}
		elements(reflect.ValueOf(s), arguments)
		elements(reflect.ValueOf(backward), arguments)
		for function, x := range results(s, backward, backzone) {
			if len(x.Rules) == 0 && function != "ruleset.Of" && function != "keep.Zones" {
				t.Fatal(i, function, "no result")
			}
			used := map[uintptr]int{}
			elements(reflect.ValueOf(x), used)
			for address, n := range used {
				if n > 1 || arguments[address] > 0 {
					t.Fatal(i, function, "shared memory")
				}
			}
		}
		if !printer.Same(s, before) {
			t.Fatal(i, "an argument has changed")
		}
	}
}

func TestR8AndR9EqualCallsOfGoroutines(t *testing.T) {
	for i := range uint64(5) {
		text := sample.Text(i)
		want, err := system.Translate(text, "rearguard")
		if err != nil {
			t.Fatal(err)
		}
		var group sync.WaitGroup
		got := make([]string, 8)
		for k := range got {
			group.Go(func() { got[k], _ = system.Translate(text, "rearguard") })
		}
		group.Wait()
		for _, s := range got {
			if s != want {
				t.Fatal(i, s)
			}
		}
	}
}
