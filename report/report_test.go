package report

import (
	"math"
	"math/rand"
	"strconv"
	"strings"
	"testing"

	"tollway/api"
	"tollway/engine"
	"tollway/money"
	"tollway/sample"
	"tollway/text"
)

const day = 86400

func lines(l ...string) string { return strings.Join(l, "\n") + "\n" }

func charge() api.Charge {
	return api.Charge{Key: "t:d.5", Vehicle: "AB1", System: "s", Class: 1, Time: day, Lines: []api.Line{{Text: "base", Cents: 400}}, Cents: 400}
}

// P51.1
func TestCharge(t *testing.T) {
	if s := Charge(charge()); s != lines("charge t:d.5 AB1 s 1 86400 4.00", "line 4.00 base") {
		t.Error(s)
	}
	odd := api.Charge{Key: "a b", Class: -1, Time: math.MinInt, Cents: math.MinInt, Lines: []api.Line{{Text: "%", Cents: -5}, {}}}
	if s := Charge(odd); s != lines("charge a%20b % % -1 -9223372036854775808 -92233720368547758.08", "line -0.05 %25", "line 0.00 %") {
		t.Error(s)
	}
}

// P51.2, P51.6
func TestDay(t *testing.T) {
	s := api.State{Result: api.Result{Charges: []api.Charge{charge()}}}
	for n, want := range map[int]string{1: lines("day 2001-01-02", "charge t:d.5 AB1 s 1 86400 4.00", "line 4.00 base", "sum 1 4.00"), 0: lines("day 2001-01-01", "sum 0 0.00"), api.MaxDay - 1: lines("day 4178-08-19", "sum 0 0.00")} {
		if r, e := Day(s, n); r != want || e != api.OK {
			t.Error(n, r, int(e))
		}
	}
	for _, n := range []int{-1, api.MaxDay, math.MinInt, math.MaxInt} {
		if r, e := Day(s, n); r != "" || e != api.ErrTime {
			t.Error(n, r, int(e))
		}
	}
	second := charge()
	second.Key, second.Time, second.Cents = "a", 2*day-1, -30
	other := charge()
	other.Time = 2 * day
	s.Result.Charges = append(s.Result.Charges, other, second)
	if r, _ := Day(s, 1); r != lines("day 2001-01-02")+Charge(charge())+Charge(second)+lines("sum 2 3.70") {
		t.Error(r)
	}
}

// P51.3
func TestAccount(t *testing.T) {
	s := api.State{Config: api.Config{Accounts: []api.Account{{Name: "ann", Prepay: true}, {Name: "bob"}, {Name: "eve", Prepay: true, Exempt: true}, {Name: "a b"}}}}
	post := func(name string, cents int) api.Post { return api.Post{Account: name, Cents: cents} }
	s.Books.Ledger.Entries = []api.Entry{
		{Key: "t:x#0", Time: day, Posts: []api.Post{post("account:ann", 400), post("revenue:s", -400)}},
		{Key: "k k", Time: api.MaxTime, Posts: []api.Post{post("account:ann", 5), post("account:bob", -5), post("account:ann", -5)}},
		{Key: "pay#0", Time: 3*day - 1, Posts: []api.Post{post("cash", 150), post("account:ann", -150)}},
		{Key: "other", Time: 5, Posts: []api.Post{post("ann", 7), post("account:annex", -7)}},
	}
	for name, want := range map[string]string{
		"ann": lines("account ann prepay", "balance 2.50", "entry 2001-01-02 4.00 t:x#0", "entry - 0.00 k%20k", "entry 2001-01-03 -1.50 pay#0"),
		"bob": lines("account bob postpay", "balance -0.05", "entry - -0.05 k%20k"),
		"eve": lines("account eve exempt", "balance 0.00"),
		"a b": lines("account a%20b postpay", "balance 0.00"),
	} {
		if r, e := Account(s, name); r != want || e != api.OK {
			t.Error(name, r, int(e))
		}
	}
	if r, e := Account(s, "annex"); r != "" || e != api.ErrAccount {
		t.Error(r, int(e))
	}
}

// P51.4
func TestCase(t *testing.T) {
	x := api.Case{ID: "v1", Plate: "AB1", Key: "k", Stage: 1, Owed: 500}
	s := api.State{Cases: []api.Case{x, {ID: "v1", Plate: "ZZ9"}}}
	if r, e := Case(s, "v1"); r != lines("case v1 AB1 k", "stage new 2001-01-01", "owed 5.00", "paid 0.00", "due -", "appeal -") || e != api.OK {
		t.Error(r, int(e))
	}
	if r, e := Case(s, "v2"); r != "" || e != api.ErrCase {
		t.Error(r, int(e))
	}
	s.Config = sample.Config()
	for i, c := range []struct {
		change func(x *api.Case)
		want   string
	}{
		{func(x *api.Case) {}, lines("stage new 2001-01-01", "owed 5.00", "paid 0.00", "due 2001-01-09", "appeal -")}, // day 4 is a holiday
		{func(x *api.Case) { x.Stage, x.Since, x.Paid = 2, 31, 120 }, lines("stage notice 2001-02-01", "owed 5.00", "paid 1.20", "due 2001-02-15", "appeal -")},
		{func(x *api.Case) { x.Stage, x.Appeal = 3, api.Appeal{State: 1, Ground: 2, Day: 5} }, lines("stage remind 2001-01-01", "owed 5.00", "paid 0.00", "due -", "appeal filed 2001-01-06")},
		{func(x *api.Case) { x.Stage, x.Appeal = 7, api.Appeal{State: 2, Day: 6} }, lines("stage waived 2001-01-01", "owed 5.00", "paid 0.00", "due -", "appeal upheld 2001-01-07")},
		{func(x *api.Case) { x.Stage, x.Appeal = 4, api.Appeal{State: 3, Day: -1} }, lines("stage penalty 2001-01-01", "owed 5.00", "paid 0.00", "due 2001-01-30", "appeal denied -")},
		{func(x *api.Case) { x.Stage, x.Appeal.State = 5, 4 }, lines("stage court 2001-01-01", "owed 5.00", "paid 0.00", "due -", "appeal -")},
		{func(x *api.Case) { x.Stage, x.Appeal.State = 6, -1 }, lines("stage paid 2001-01-01", "owed 5.00", "paid 0.00", "due -", "appeal -")},
		{func(x *api.Case) { x.Stage, x.Since = 8, api.MaxDay }, lines("stage barred -", "owed 5.00", "paid 0.00", "due -", "appeal -")},
		{func(x *api.Case) { x.Stage = 9 }, lines("stage - 2001-01-01", "owed 5.00", "paid 0.00", "due -", "appeal -")},
		{func(x *api.Case) { x.Stage = 0 }, lines("stage - 2001-01-01", "owed 5.00", "paid 0.00", "due -", "appeal -")},
		{func(x *api.Case) { x.Stage, x.Appeal.State = math.MinInt, math.MaxInt }, lines("stage - 2001-01-01", "owed 5.00", "paid 0.00", "due -", "appeal -")},
	} {
		y := x
		c.change(&y)
		s.Cases = []api.Case{y}
		if r, e := Case(s, "v1"); r != lines("case v1 AB1 k")+c.want || e != api.OK {
			t.Error(i, r, int(e))
		}
	}
}

// P51.5
func TestTotal(t *testing.T) {
	if r := Total(api.State{}); r != lines("events 0", "closed 2001-01-01", "passages 0", "rejects 0", "trips 0", "stays 0", "charges 0 0.00", "exclusions 0", "posted 0", "entries 0 0.00", "cases 0 0") {
		t.Error(r)
	}
	s := api.State{
		Count:  7,
		Closed: -1,
		Result: api.Result{Passages: make([]api.Passage, 1), Rejects: make([]api.Reject, 2), Trips: make([]api.Trip, 3), Stays: make([]api.Stay, 4), Charges: []api.Charge{{Cents: 5}, {Cents: 250}}, Exclusions: make([]api.Exclusion, 5)},
		Books:  api.Books{Done: make([]api.Charge, 6), Ledger: api.Ledger{Entries: []api.Entry{{Posts: []api.Post{{Cents: 7}, {Cents: -7}, {Cents: 3}, {Cents: -3}}}}}},
		Cases:  []api.Case{{Stage: 5}, {Stage: 6}, {Stage: 1}},
	}
	if r := Total(s); r != lines("events 7", "closed -", "passages 1", "rejects 2", "trips 3", "stays 4", "charges 2 2.55", "exclusions 5", "posted 6", "entries 1 0.10", "cases 3 2") {
		t.Error(r)
	}
}

// P51.6, P51.7
func TestConsequences(t *testing.T) {
	r := rand.New(rand.NewSource(1))
	for range 10 {
		s, e := engine.New(sample.Config())
		if e != api.OK {
			t.Fatal(int(e))
		}
		var es []api.Event
		for range 80 {
			es = append(es, sample.Event(r.Intn))
		}
		s, _ = engine.All(s, es)
		reports := []string{Total(s)}
		for _, a := range s.Config.Accounts {
			x, e := Account(s, a.Name)
			if e != api.OK {
				t.Fatal(int(e))
			}
			reports = append(reports, x)
		}
		for _, c := range s.Cases {
			x, e := Case(s, c.ID)
			if e != api.OK {
				t.Fatal(int(e))
			}
			reports = append(reports, x)
		}
		for d := range 9 {
			x, e := Day(s, d)
			if e != api.OK {
				t.Fatal(int(e))
			}
			reports = append(reports, x)
			want, n, sum := "", 0, 0
			for _, c := range s.Result.Charges {
				if c.Time/day == d {
					want += Charge(c)
					n++
					sum += c.Cents
				}
			}
			if x[strings.Index(x, "\n")+1:] != want+"sum "+strconv.Itoa(n)+" "+money.Show(sum)+"\n" {
				t.Fatal(x)
			}
		}
		for _, x := range reports {
			if !strings.HasSuffix(x, "\n") {
				t.Fatal(x)
			}
			for _, k := range strings.Split(strings.TrimSuffix(x, "\n"), "\n") {
				if l, e := text.Fields(k); e != api.OK || len(l) < 2 {
					t.Fatal(k, int(e))
				}
			}
		}
	}
}
