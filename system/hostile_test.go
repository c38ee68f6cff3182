package system_test

import (
	"math/rand"
	"reflect"
	"testing"

	"analemma/accept"
	"analemma/apart"
	"analemma/api"
	"analemma/bigend"
	"analemma/checked"
	"analemma/civil"
	"analemma/clock"
	"analemma/console"
	"analemma/dayform"
	"analemma/dayspec"
	"analemma/decode"
	"analemma/eraline"
	"analemma/eras"
	"analemma/events"
	"analemma/expand"
	"analemma/flatten"
	"analemma/footer"
	"analemma/format"
	"analemma/keep"
	"analemma/lexeme"
	"analemma/linkline"
	"analemma/links"
	"analemma/lookup"
	"analemma/meaning"
	"analemma/merge"
	"analemma/name"
	"analemma/numeric"
	"analemma/offset"
	"analemma/pack"
	"analemma/pool"
	"analemma/posix"
	"analemma/printer"
	"analemma/report"
	"analemma/ruleline"
	"analemma/ruleset"
	"analemma/shift"
	"analemma/source"
	"analemma/state"
	"analemma/system"
	"analemma/table"
	"analemma/translate"
	"analemma/turn"
	"analemma/tzif"
	"analemma/until"
	"analemma/variant"
	"analemma/walk"
	"analemma/word"
	"analemma/zic"
)

// functions are all functions that the chapters list.
func functions() map[string]any {
	return map[string]any{
		"accept.Check": accept.Check, "accept.In": accept.In, "accept.Forms": accept.Forms, "apart.Check": apart.Check, "apart.Far": apart.Far,
		"bigend.Put": bigend.Put, "bigend.Get": bigend.Get, "bigend.Bytes": bigend.Bytes,
		"checked.Add": checked.Add, "checked.Sub": checked.Sub, "checked.Mul": checked.Mul, "checked.Div": checked.Div, "checked.Mod": checked.Mod, "checked.Sum": checked.Sum,
		"civil.Leap": civil.Leap, "civil.Len": civil.Len, "civil.Days": civil.Days, "civil.Date": civil.Date, "civil.Weekday": civil.Weekday, "civil.Year": civil.Year,
		"clock.Check": clock.Check, "clock.Parse": clock.Parse, "clock.Print": clock.Print, "console.Run": console.Run, "console.Help": console.Help,
		"dayform.Check": dayform.Check, "dayform.On": dayform.On, "dayform.Always": dayform.Always, "dayspec.Parse": dayspec.Parse, "dayspec.Print": dayspec.Print, "decode.Decode": decode.Decode,
		"eraline.Parse": eraline.Parse, "eraline.Print": eraline.Print, "eras.Spans": eras.Spans, "eras.Find": eras.Find,
		"events.On": events.On, "events.In": events.In, "events.Before": events.Before, "events.After": events.After, "expand.Expand": expand.Expand, "expand.Contract": expand.Contract,
		"flatten.Links": flatten.Links, "flatten.Sort": flatten.Sort, "footer.Date": footer.Date, "footer.Of": footer.Of, "footer.Year": footer.Year,
		"format.Kind": format.Kind, "format.Parts": format.Parts, "format.Abbr": format.Abbr, "format.Check": format.Check, "keep.Names": keep.Names, "keep.Zones": keep.Zones, "keep.Without": keep.Without,
		"lexeme.Lines": lexeme.Lines, "lexeme.Fields": lexeme.Fields, "lexeme.Join": lexeme.Join, "linkline.Link": linkline.Link, "linkline.Print": linkline.Print, "linkline.Shift": linkline.Shift, "linkline.PrintShift": linkline.PrintShift,
		"links.Names": links.Names, "links.Find": links.Find, "links.Check": links.Check, "lookup.At": lookup.At, "lookup.Index": lookup.Index,
		"meaning.At": meaning.At, "meaning.Era": meaning.Era, "meaning.First": meaning.First, "merge.Sources": merge.Sources, "name.Zone": name.Zone, "name.Set": name.Set, "name.Letter": name.Letter, "name.Abbr": name.Abbr,
		"numeric.Text": numeric.Text, "numeric.Parse": numeric.Parse, "numeric.Expansion": numeric.Expansion, "offset.Parse": offset.Parse, "offset.Print": offset.Print, "pack.Check": pack.Check, "pack.Pack": pack.Pack,
		"pool.Abbrs": pool.Abbrs, "pool.Types": pool.Types, "posix.Check": posix.Check, "posix.Print": posix.Print, "posix.Parse": posix.Parse, "posix.At": posix.At,
		"printer.Print": printer.Print, "printer.Copy": printer.Copy, "printer.Same": printer.Same, "report.Compare": report.Compare, "report.Text": report.Text, "ruleline.Parse": ruleline.Parse, "ruleline.Print": ruleline.Print,
		"ruleset.Names": ruleset.Names, "ruleset.Of": ruleset.Of, "ruleset.Least": ruleset.Least, "ruleset.Other": ruleset.Other, "ruleset.Check": ruleset.Check, "shift.Rules": shift.Rules, "shift.Eras": shift.Eras, "shift.Set": shift.Set,
		"source.Parse": source.Parse, "state.Initial": state.Initial, "state.Before": state.Before, "state.Instant": state.Instant, "state.At": state.At,
		"system.Translate": system.Translate, "system.Report": system.Report, "system.Pack": system.Pack, "system.Compile": system.Compile, "system.At": system.At, "system.Names": system.Names,
		"table.Check": table.Check, "table.Of": table.Of, "table.Same": table.Same, "table.Text": table.Text, "translate.To": translate.To, "turn.Format": turn.Format, "turn.Eras": turn.Eras, "tzif.Version": tzif.Version, "tzif.Encode": tzif.Encode,
		"until.Check": until.Check, "until.Nominal": until.Nominal, "until.Instant": until.Instant, "variant.Word": variant.Word, "variant.Parse": variant.Parse, "variant.Check": variant.Check, "walk.Next": walk.Next, "walk.All": walk.All,
		"word.Line": word.Line, "word.Month": word.Month, "word.Week": word.Week, "word.To": word.To, "word.MonthText": word.MonthText, "word.WeekText": word.WeekText, "zic.Compile": zic.Compile,
	}
}

// hostile sets a value to some numbers and strings that can be trouble.
func hostile(r *rand.Rand, v reflect.Value) {
	numbers := []int64{
		0, 1, 2, 3, 4, 5, -1, 7, 12, 13, 29, 31, 32, 1849, 1850, 1970, 2000, 2149, 2150, 3600, -3600, 10800, 54000, 86400, 259200, 604799, -604799, 604800,
		api.Forever, api.Forever + 1, api.MaxCivil, -api.MaxCivil - 1, 1 << 31, -1 << 31, 1 << 55, -1 << 55, 1 << 62, 1<<63 - 1, 1<<63 - 2, -1 << 63,
	}
	strings := []string{"", "A", "R", "GMT", "%z", "%s", "AB%s", "+05", "+05/+06", "CET/CEST", "-", "S", "only", "max", "Europe/Dublin", "\x00", "\xff", "\n", "CET-1CEST,M3.5.0,M10.5.0/3", "GMT0", "1:00", "-0", "Sun>=1", "main", "Zone A 0 - GMT"}
	switch v.Kind() {
	case reflect.Int, reflect.Int64:
		most := len(numbers)
		if r.Intn(3) == 0 {
			most = 6
		}
		v.SetInt(numbers[r.Intn(most)])
	case reflect.Uint8:
		v.SetUint(uint64(r.Intn(256)))
	case reflect.Bool:
		v.SetBool(r.Intn(2) > 0)
	case reflect.String:
		v.SetString(strings[r.Intn(len(strings))])
	case reflect.Slice:
		n := r.Intn(4)
		v.Set(reflect.MakeSlice(v.Type(), n, n+r.Intn(2)))
		for i := range n {
			hostile(r, v.Index(i))
		}
	case reflect.Struct:
		for i := range v.NumField() {
			hostile(r, v.Field(i))
		}
	}
}

// failed reports whether a result is an error.
func failed(v reflect.Value) bool {
	if e, ok := v.Interface().(api.Errno); ok {
		return e != api.OK
	}
	_, ok := v.Interface().(*api.Fault)
	return ok
}

// position reports whether a result that is not zero may stand beside an error, as some chapters say.
func position(function string, v reflect.Value) bool {
	switch function {
	case "apart.Check", "ruleset.Check", "lexeme.Lines", "pack.Check", "pack.Pack":
		return true
	}
	return v.Type() == reflect.TypeOf(api.Place{})
}

// TestP1AllArguments calls all functions with arguments of any kind: none panics, and with an error all other results are zero values.
func TestP1AllArguments(t *testing.T) {
	r := rand.New(rand.NewSource(1))
	for function, f := range functions() {
		v := reflect.ValueOf(f)
		for range 1500 {
			args := make([]reflect.Value, v.Type().NumIn())
			for i := range args {
				args[i] = reflect.New(v.Type().In(i)).Elem()
				hostile(r, args[i])
			}
			func() {
				defer func() {
					if x := recover(); x != nil {
						t.Fatal(function, x, args)
					}
				}()
				results := v.Call(args)
				wrong := false
				for _, x := range results {
					wrong = wrong || failed(x)
				}
				for _, x := range results {
					empty := x.IsZero() || x.Kind() == reflect.Slice && x.Len() == 0
					if wrong && !failed(x) && !empty && !position(function, x) {
						t.Fatal(function, args, x)
					}
				}
			}()
		}
	}
}
