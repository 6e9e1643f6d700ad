package scenario

import (
	"math/rand"
	"reflect"
	"strconv"
	"strings"
	"testing"

	"tollway/api"
	"tollway/batch"
	"tollway/engine"
	"tollway/event"
	"tollway/report"
	"tollway/sample"
	"tollway/text"
	"tollway/trace"
)

// print writes a configuration as lines.
func print(c api.Config) string {
	var b strings.Builder
	add := func(l ...any) {
		for i, x := range l {
			if i > 0 {
				b.WriteString(" ")
			}
			switch v := x.(type) {
			case int:
				b.WriteString(strconv.Itoa(v))
			case string:
				if v == "" {
					v = "-"
				}
				b.WriteString(v)
			}
		}
		b.WriteString("\n")
	}
	kind := func(n int, words string) string { return strings.Fields(words)[n] }
	window := func(word string, w api.Window) { add(word, w.Days, w.From, w.To) }
	for _, p := range c.Top.Net.Points {
		add("point", p.Name, kind(p.Kind-1, "open entry exit check"), p.System)
	}
	for _, k := range c.Top.Net.Links {
		add("link", k.From, k.To, k.Min, k.Max)
	}
	for _, s := range c.Top.Systems {
		closed := 0
		if s.Closed {
			closed = 1
		}
		add("system", s.Name, kind(closed, "open closed"), s.Most)
	}
	for _, d := range c.Devices {
		add("device", d.Name, d.Point, kind(d.Kind-1, "tag camera loop"), d.Lane)
		for _, o := range d.Offsets {
			add("offset", o.From, o.Delta)
		}
		for _, i := range d.Down {
			add("down", i.From, i.To)
		}
	}
	for _, r := range c.Classes {
		add("class", r.From, r.To, r.Class)
	}
	for _, x := range c.Tags {
		add("state", x.Tag, x.From, x.State)
	}
	add("gap", c.Gap)
	add("weak", c.Weak)
	add("agency", c.Agency)
	for _, x := range c.Tariffs {
		add("tariff", x.Valid.From, x.Valid.To)
		for _, y := range x.Bands {
			add("band", y.Name, y.Window.Days, y.Window.From, y.Window.To)
		}
		for _, r := range x.Rates {
			add("rate", r.From, r.To, r.Class, r.Band, r.Cents)
		}
	}
	add("scale", c.Scale.Period, c.Scale.Parts[0])
	for i := range c.Scale.Up {
		add("level", c.Scale.Up[i], c.Scale.Down[i], c.Scale.Parts[i+1])
	}
	for _, d := range c.Discounts {
		add("discount", d.Name, kind(d.Kind-1, "part fixed free"), d.Amount, d.Group, d.System, d.Class, d.Window.Days, d.Window.From, d.Window.To, d.Least)
	}
	for _, x := range c.Caps {
		add("cap", x.Name, x.System, x.Days, x.Cents)
	}
	for _, z := range c.Zones {
		add("zone", z.Name, z.Grace, z.Free, z.DayMax, z.MaxStay)
		for _, w := range z.Hours {
			window("hours", w)
		}
		for _, s := range z.Steps {
			add("step", s.Upto, s.Unit, s.Cents)
		}
	}
	for _, p := range c.Permits {
		add("permit", p.Name, p.Zone, p.Valid.From, p.Valid.To, p.Most)
		for _, s := range p.Plates {
			add("plate", s)
		}
		for _, w := range p.Hours {
			window("allow", w)
		}
	}
	for _, a := range c.Accounts {
		k := 1
		if a.Prepay {
			k = 0
		} else if a.Exempt {
			k = 2
		}
		add("account", a.Name, kind(k, "prepay postpay exempt"))
		for _, o := range a.Owned {
			add("owns", o.Tag, o.Plate, o.Time.From, o.Time.To)
		}
		if a.Refill != (api.Refill{}) {
			add("refill", a.Refill.Below, a.Refill.Cents, a.Refill.Tries, a.Refill.Wait)
		}
	}
	for _, r := range c.Reliefs {
		add("relief", kind(r.Kind, "any tag camera loop"), r.Part)
	}
	for _, d := range c.Holidays {
		add("holiday", d)
	}
	add("law", c.Law.Limit)
	for i := range c.Law.Days {
		add("stage", c.Law.Days[i], c.Law.Fees[i])
	}
	for _, k := range c.Keeping {
		add("keep", k.Purpose, k.Seconds, k.Least)
	}
	return b.String()
}

// rich is the configuration of the samples with something in every field.
func rich() api.Config {
	c := sample.Config()
	c.Accounts[1].Refill = api.Refill{Below: 500, Cents: 1000, Tries: 2, Wait: 3}
	c.Permits[0].Hours = []api.Window{{Days: 1, From: 0, To: 720}, {Days: 2, From: 5, To: 6}}
	c.Reliefs = append(c.Reliefs, api.Relief{Kind: 0, Part: 5}, api.Relief{Kind: 3, Part: 0})
	c.Discounts = append(c.Discounts, api.Discount{Name: "fix", Kind: api.KFixed, Amount: 7, Group: "g", System: "ring", Class: 2, Window: api.Window{Days: 3, From: 4, To: 5}, Least: 6}, api.Discount{Name: "gratis", Kind: api.KFree, Group: "g"})
	c.Zones[0].Steps = append([]api.Step{{Upto: 600, Unit: 60, Cents: 1}}, c.Zones[0].Steps...)
	c.Zones[0].DayMax = 800
	c.Scale.Up, c.Scale.Down, c.Scale.Parts = append(c.Scale.Up, 9), append(c.Scale.Down, 8), append(c.Scale.Parts, 2000)
	c.Caps = append(c.Caps, api.Cap{Name: "m", System: "ring", Days: 0, Cents: 5})
	return c
}

// P53.1: every kind of line
func TestConf(t *testing.T) {
	want := rich()
	s := print(want)
	if c, line, e := Conf(s); !reflect.DeepEqual(c, want) || line != 0 || e != api.OK {
		t.Error(c, line, int(e))
	}
	n := strings.Count(s, "\n")
	if c, line, e := Conf("# x\n\n" + s + "#\n\nask total\ngap x\n"); !reflect.DeepEqual(c, want) || line != n+5 || e != api.OK {
		t.Error(line, int(e))
	}
	if c, line, e := Conf(""); !reflect.DeepEqual(c, api.Config{}) || line != 0 || e != api.OK {
		t.Error(c, line, int(e))
	}
	// Later lines replace what earlier ones set; an account has the agency as it is then.
	c, _, _ := Conf("account a prepay\nagency x\naccount b exempt\nagency y\naccount c postpay\nrefill 1 2 3 4\nrefill 5 6 7 8\ngap 1\ngap 2\nweak 3\nweak 4\nscale 5 6\nlevel 7 8 9\nscale 10 11\nlaw 12\nstage 1 2\nlaw 13\n")
	want = api.Config{Gap: 2, Weak: 4, Agency: "y", Scale: api.Scale{Period: 10, Parts: []int{11}}, Law: api.Law{Days: []int{1}, Fees: []int{2}, Limit: 13}, Accounts: []api.Account{{Name: "a", Prepay: true}, {Name: "b", Agency: "x", Exempt: true}, {Name: "c", Agency: "y", Refill: api.Refill{Below: 5, Cents: 6, Tries: 7, Wait: 8}}}}
	if !reflect.DeepEqual(c, want) {
		t.Error(c)
	}
}

// P53.1: errors
func TestConfErrors(t *testing.T) {
	if c, line, e := Conf(strings.Repeat("\n", api.MaxText+1)); !reflect.DeepEqual(c, api.Config{}) || line != 0 || e != api.ErrLong {
		t.Error(line, int(e))
	}
	for s, want := range map[string]api.Errno{
		"gap x": api.ErrForm, "gap": api.ErrForm, "gap 1 2": api.ErrForm, "gap  1": api.ErrForm, "gap 1 ": api.ErrForm, "gap 01": api.ErrForm, "gap 2147483649": api.ErrRange, "gap 2147483648": api.OK, "gap -5": api.OK, "gap \t": api.ErrForm, "gap " + strings.Repeat("1", 600): api.ErrLong, "gap 99999999999x": api.ErrForm,
		"point a open": api.ErrForm, "point a opened s": api.ErrForm, "point a Open s": api.ErrForm, "point a open s": api.OK, "point A+ check -": api.OK, "point a - s": api.ErrForm, "system s open x": api.ErrForm, "system s shut 5": api.ErrForm, "system s shut 2147483649": api.ErrForm, "system s open 2147483649": api.ErrRange, "device d p tag 99": api.OK, "device d p radar 1": api.ErrForm, "discount d part 1 - - 0 0 0 0 0": api.OK, "discount d all 1 - - 0 0 0 0 0": api.ErrForm, "discount d part 1 - - 0 0 0 0": api.ErrForm, "account a gold": api.ErrForm, "account a": api.ErrForm, "relief all 5": api.ErrForm, "relief any 5": api.OK, "relief loop 5": api.OK,
		"offset 1 2": api.ErrState, "offset 1": api.ErrForm, "offset 1 x": api.ErrForm, "down 1 2": api.ErrState, "band b 1 2 3": api.ErrState, "rate a - 1 - 5": api.ErrState, "rate a - 1 - 2147483649": api.ErrRange, "level 1 2 3": api.ErrState, "hours 1 2 3": api.ErrState, "step 0 1 2": api.ErrState, "plate AB": api.ErrState, "allow 1 2 3": api.ErrState, "owns - AB 0 5": api.ErrState, "refill 1 2 3 4": api.ErrState, "keep 1 2 3": api.OK, "holiday -5": api.OK, "state x 1 2": api.OK, "state x y 2": api.ErrForm, "link a b 1 2": api.OK, "class 1 2 3": api.OK, "stage 1 2": api.OK, "law x": api.ErrForm, "permit p z 0 5 1": api.OK, "zone z 1 2 3 4": api.OK, "cap c - 1 5": api.OK, "tariff 0 5": api.OK, "scale 1 2": api.OK, "agency a b": api.ErrForm,
	} {
		c, line, e := Conf("# first\n" + s + "\ngap y\n")
		if want == api.OK {
			if line != 3 || e != api.ErrForm || !reflect.DeepEqual(c, api.Config{}) {
				t.Error(s, line, int(e))
			}
		} else if line != 2 || e != want || !reflect.DeepEqual(c, api.Config{}) {
			t.Error(s, line, int(e))
		}
	}
	for _, s := range []string{"x", "gapx 5", "Gap 5", " gap 5", "gap\t5", "gap#", "detect", "ask", "ask total", "close 5"} {
		if _, line, e := Conf("gap 1\n" + s + "\ngap y\n"); line != 2 || e != api.OK {
			t.Error(s, line, int(e))
		}
	}
}

// run returns the output of a script with the configuration of the samples.
func run(t *testing.T, lines ...string) string {
	t.Helper()
	out, e := Run(print(sample.Config()) + strings.Join(lines, "\n"))
	if e != api.OK {
		t.Fatal(int(e))
	}
	return out
}

func facts(l []api.Fact, _ api.Errno) []api.Fact { return l }

func lineOf(e api.Event) string {
	s, _ := event.Print(e)
	return s
}

// P53.2: the configuration
func TestRunConfiguration(t *testing.T) {
	for s, want := range map[string]string{"gap x": "error 5 1\n", "# \ngap 1\nlevel 1 2 3\nask total": "error 11 3\n", "agency a": "error 1 0\n", "": "error 1 0\n", print(sample.Config()): "", print(sample.Config()) + "# end": "", "point A open s\nask total": "error 6 0\n", print(sample.Config()) + "gap 5000\n": "error 12 0\n"} {
		if out, e := Run(s); out != want || e != api.OK {
			t.Errorf("%q: %q %d", s, out, int(e))
		}
	}
	if out, e := Run(strings.Repeat("\n", api.MaxText+1)); out != "" || e != api.ErrLong {
		t.Error(out, int(e))
	}
}

// P53.2: events and queries
func TestRunLines(t *testing.T) {
	one := lineOf(sample.Detect("topen", 1, 50, sample.Tag(1), 0))
	s, _ := engine.New(sample.Config())
	s, n := engine.All(s, []api.Event{sample.Detect("topen", 1, 50, sample.Tag(1), 0), sample.Detect("copen", 2, 5000, "XY99", 0), {Kind: api.IClose, Day: 1}})
	if n != 3 {
		t.Fatal(n)
	}
	before := []string{one, lineOf(sample.Detect("copen", 2, 5000, "XY99", 0)), "close 1"}
	account, _ := report.Account(s, "ann")
	first, _ := report.Day(s, 0)
	violation, _ := report.Case(s, "v1")
	for line, want := range map[string]string{
		"ask account ann": account, "ask account eve": "error 25\n", "ask account": "error 5\n", "ask account ann x": "error 5\n", "ask day 0": first, "ask day -1": "error 12\n", "ask day x": "error 5\n", "ask day 2147483649": "error 5\n", "ask day": "error 5\n", "ask case v1": violation, "ask case v2": "error 28\n", "ask total": report.Total(s), "ask total x": "error 5\n", "ask check": "sound\n", "ask audit": "clean\n", "ask check x": "error 5\n", "ask audit x": "error 5\n",
		"ask detection topen 1": trace.Print(facts(trace.Detection(s, api.Source{Device: "topen", Seq: 1}))), "ask detection topen 9": "error 10\n", "ask detection topen x": "error 5\n", "ask detection topen": "error 5\n", "ask detection topen 1 2": "error 5\n", "ask passage topen 1": "error 5\n", "ask passage topen.1": trace.Print(facts(trace.Passage(s, "topen.1"))), "ask passage x": "error 10\n", "ask charge t:topen.1": trace.Print(facts(trace.Charge(s, "t:topen.1"))), "ask charge x": "error 10\n", "ask": "error 5\n", "ask ": "error 5\n", "ask  total": "error 5\n", "ask x": "error 5\n", "ask total ": "error 5\n", "asking": "error 5\n", "ask " + strings.Repeat("x", 600): "error 5\n",
		"close 1": "error 11\n", "close 2": "ok\n", "close x": "error 5\n", "close 99999999999": "error 1\n", "pay ann 5": "ok\n", "pay eve 5": "error 25\n", "late 9": "ok\n", "gap 5": "error 5\n", "# x": "", "": "", strings.Repeat("x", 513): "error 4\n", "detect": "error 5\n", one: "ok\n", "park 1 zone AB12 28800 32400": "ok\n", "park 1 zone AB12 28800 0": "error 12\n", "x": "error 5\n",
	} {
		if out := run(t, append(before, line)...); out != "ok\nok\nok\n"+want {
			t.Errorf("%q: %q, want %q", line, out, want)
		}
	}
	if out := run(t, "ask total", "gap 7", "ask check", "", "#", "late 5"); !strings.HasSuffix(out, "error 5\nsound\nok\n") {
		t.Error(out)
	}
}

// P53.2: the rules 1 and 3, and findings, of states that no script has
func TestBroken(t *testing.T) {
	s, _ := engine.New(sample.Config())
	s, _ = engine.All(s, []api.Event{sample.Detect("topen", 1, 50, sample.Tag(1), 0), sample.Detect("copen", 2, 90000, "XY99", 0)})
	if out := examine(s); out != "sound\n" {
		t.Error(out)
	}
	changed := s
	changed.Result.Charges = nil
	if out := examine(changed); out != "broken 1 3\n" {
		t.Error(out)
	}
	if out, e := compare(changed); out != "t:copen.2 1 0 400\nt:topen.1 0 0 400\n" || e != api.OK {
		t.Error(out, int(e))
	}
	changed = s
	changed.Result.Stays = []api.Stay{{}}
	if out := examine(changed); out != "broken 3\n" {
		t.Error(out)
	}
	changed.Config.Caps = []api.Cap{{}}
	if out, e := compare(changed); out != "" || e != api.ErrName {
		t.Error(out, int(e))
	}
}

// P53.3
func TestCheck(t *testing.T) {
	conf := print(sample.Config())
	n := strings.Count(conf, "\n")
	for s, want := range map[string][2]int{
		"gap x": {1, 5}, "": {0, 1}, "agency a\nask x": {0, 1}, conf: {0, 0}, conf + "close 1\nclose 2\nask total\n": {0, 0}, conf + "close 1\n# x\n\nclose 1\nx\n": {n + 4, 11}, conf + "ask x\nclose 0\n": {n + 1, 5}, conf + "ask account eve": {n + 1, 25}, conf + "late 1\n" + strings.Repeat("x", 513): {n + 2, 4},
	} {
		if line, e := Check(s); line != want[0] || int(e) != want[1] {
			t.Errorf("%q: %d %d", s, line, int(e))
		}
	}
	if line, e := Check(strings.Repeat("\n", api.MaxText+1)); line != 0 || e != api.ErrLong {
		t.Error(line, int(e))
	}
}

func randomLines(r *rand.Rand, n int) []string {
	var l []string
	for range n {
		switch r.Intn(8) {
		case 0:
			l = append(l, []string{"ask total", "ask account ann", "ask day 1", "ask check", "ask audit", "ask case v1", "ask x", "x"}[r.Intn(8)])
		default:
			l = append(l, lineOf(sample.Event(r.Intn)))
		}
	}
	return l
}

// P53.4 to P53.6
func TestConsequences(t *testing.T) {
	r := rand.New(rand.NewSource(1))
	for range 8 {
		lines := append([]string{"ask check"}, randomLines(r, 40)...)
		whole := run(t, lines...)
		if again := run(t, lines...); again != whole {
			t.Fatal("not a function of the text")
		}
		// The outputs of the lines, one after the other.
		s, _ := engine.New(sample.Config())
		want := ""
		for _, x := range lines {
			out, e := "ok\n", api.OK
			if word(x) == "ask" {
				out, e = ask(s, x)
			} else {
				s, e = process(s, x)
			}
			if e != api.OK {
				out = "error " + strconv.Itoa(int(e)) + "\n"
			}
			want += out
		}
		if whole != want {
			t.Fatal(whole, want)
		}
		// Without the queries, and without the lines that have errors, the other outputs are the same.
		var events []string
		outputs := ""
		for i, x := range lines {
			if i > 0 && strings.HasPrefix(x, "ask") {
				continue
			}
			events = append(events, x)
		}
		for _, x := range strings.Split(strings.TrimSuffix(run(t, events...), "\n"), "\n") {
			outputs += x[:1]
		}
		if len(outputs) != len(events) {
			t.Fatal(outputs)
		}
		var good []string
		for i, x := range events {
			if outputs[i] != 'e' {
				good = append(good, x)
			}
		}
		if out := run(t, append(good, "ask total")...); strings.Contains(out, "error") || !strings.HasSuffix(out, last3(run(t, append(events, "ask total")...))) {
			t.Fatal(out)
		}
		// Exchanging two inputs changes nothing later.
		a, b := lineOf(sample.Detect("topen", 901, 3000, sample.Tag(1), 0)), lineOf(sample.Park(api.EvIn, "AB12", 100, 0))
		x := run(t, append(append([]string{a, b}, good...), "ask total")...)
		y := run(t, append(append([]string{b, a}, good...), "ask total")...)
		if x != y {
			t.Fatal("the order matters", x, y)
		}
	}
	if e := batch.Check(rich()); e != api.OK || !text.Name("x") {
		t.Error(int(e))
	}
}

// last3 returns the last lines of an output: the report of the total.
func last3(s string) string {
	l := strings.Split(s, "\n")
	return strings.Join(l[len(l)-12:], "\n")
}
