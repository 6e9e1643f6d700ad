package engine

import (
	"math"
	"math/rand"
	"reflect"
	"slices"
	"strconv"
	"strings"
	"testing"

	"tollway/account"
	"tollway/api"
	"tollway/batch"
	"tollway/detect"
	"tollway/event"
	"tollway/fresh"
	"tollway/ledger"
	"tollway/notice"
	"tollway/post"
	"tollway/price"
	"tollway/sample"
)

const day = 86400

func start(t *testing.T) api.State {
	t.Helper()
	s, e := New(sample.Config())
	if e != api.OK {
		t.Fatal(int(e))
	}
	return s
}

func do1(t *testing.T, s api.State, es ...api.Event) api.State {
	t.Helper()
	for _, e := range es {
		next, why := Do(s, e)
		if why != api.OK {
			t.Fatal(e, int(why))
		}
		if next.Count != s.Count+1 {
			t.Fatal("Count", next.Count)
		}
		s = next
	}
	return s
}

func closing(n int) api.Event { return api.Event{Kind: api.IClose, Day: n} }

func late(n int) api.Event { return api.Event{Kind: api.ILate, Day: n} }

func pay(name string, cents int) api.Event {
	return api.Event{Kind: api.IPay, Name: name, Cents: cents}
}

// same compares states; lists may be nil or empty.
func same(a, b api.State) bool {
	cases := slices.Equal(a.Cases, b.Cases) && slices.Equal(a.Seen, b.Seen) && slices.Equal(a.Rejects, b.Rejects) && slices.Equal(a.Parked, b.Parked)
	books := len(a.Books.Done) == len(b.Books.Done) && len(a.Books.Ledger.Entries) == len(b.Books.Ledger.Entries)
	if books && len(a.Books.Done) > 0 {
		books = reflect.DeepEqual(a.Books.Done, b.Books.Done)
	}
	if books && len(a.Books.Ledger.Entries) > 0 {
		books = reflect.DeepEqual(a.Books.Ledger, b.Books.Ledger)
	}
	return cases && books && a.Closed == b.Closed && a.Count == b.Count && batch.Same(a.Result, b.Result) && reflect.DeepEqual(a.Config, b.Config)
}

// P48.1
func TestNew(t *testing.T) {
	c := sample.Config()
	s := start(t)
	if !reflect.DeepEqual(s, api.State{Config: c}) {
		t.Error(s)
	}
	s.Config.Devices[0].Name, s.Config.Accounts[0].Owned[0].Tag = "x", "x"
	if !reflect.DeepEqual(c, sample.Config()) {
		t.Error("shared memory")
	}
	c.Agency = ""
	if s, e := New(c); e != api.ErrName || !reflect.DeepEqual(s, api.State{}) {
		t.Error(int(e))
	}
}

// P48.2, P48.4: the examples
func TestExample(t *testing.T) {
	s := do1(t, start(t), sample.Detect("topen", 1, 3*day+50, sample.Tag(1), 0))
	if len(s.Result.Charges) != 1 || s.Result.Charges[0].Cents != 400 || Balance(s, "ann") != 0 || Day(s) != 0 {
		t.Error(s.Result)
	}
	s = do1(t, s, closing(4))
	if Balance(s, "ann") != 400 || Day(s) != 4 || len(s.Cases) != 0 || len(s.Books.Done) != 1 {
		t.Error(Balance(s, "ann"), s.Cases)
	}
	if r, e := Do(s, closing(4)); e != api.ErrState || !same(r, s) {
		t.Error(int(e))
	}
	s = do1(t, s, sample.Detect("copen", 2, 3*day+60, "AB12", 0))
	if len(s.Result.Charges) != 1 || s.Result.Charges[0].Cents != 400 || s.Result.Passages[0].Plate != "AB12" || Balance(s, "ann") != 400 {
		t.Error(s.Result)
	}
	s = do1(t, s, pay("ann", 400))
	if Balance(s, "ann") != 0 || Balance(s, "bob") != 0 || Balance(s, "x") != 0 {
		t.Error(Balance(s, "ann"))
	}
	if e := s.Books.Ledger.Entries[1]; e.Key != "pay#0" || e.Time != 4*day {
		t.Error(e)
	}
}

// P48.2: a closing corrects what is posted.
func TestCorrection(t *testing.T) {
	s := do1(t, start(t), sample.Detect("topen", 1, 50, sample.Tag(1), 0), sample.Detect("topen", 2, 1000, sample.Tag(1), 0), sample.Detect("topen", 3, 2000, sample.Tag(1), 0), closing(1))
	if Balance(s, "ann") != 1160 { // the third one has a discount
		t.Error(Balance(s, "ann"))
	}
	s = do1(t, s, sample.Detect("topen", 4, 500, sample.Tag(1), 0))
	if Balance(s, "ann") != 1160 {
		t.Error("posted before the closing")
	}
	s = do1(t, s, closing(2))
	if Balance(s, "ann") != 1520 || len(s.Books.Done) != 4 {
		t.Error(Balance(s, "ann"))
	}
	// A report that contradicts makes the charge disappear: it is voided.
	s = do1(t, s, sample.Detect("topen", 4, 501, sample.Tag(1), 0), closing(3))
	if Balance(s, "ann") != 1160 || len(s.Books.Done) != 3 {
		t.Error(Balance(s, "ann"))
	}
	if post.Check(s.Books) != api.OK {
		t.Error("books")
	}
}

// P48.2: charges of a day are posted only when it is closed.
func TestDays(t *testing.T) {
	s := do1(t, start(t), sample.Detect("topen", 1, day-1, sample.Tag(1), 0), sample.Detect("topen", 2, day+100, sample.Tag(1), 0))
	s = do1(t, s, closing(1))
	if Balance(s, "ann") != 400 || len(s.Books.Done) != 1 || s.Books.Ledger.Entries[0].Time != day-1 {
		t.Error(s.Books)
	}
	if s = do1(t, s, closing(2)); len(s.Books.Done) != 2 {
		t.Error(s.Books)
	}
}

// P48.2: a charge at the end of a day belongs to the next one; a charge that is gone is voided at the begin of the day of the closing.
func TestTimes(t *testing.T) {
	s := do1(t, start(t), sample.Detect("topen", 1, day, sample.Tag(1), 0), closing(1))
	if len(s.Books.Done) != 0 || Balance(s, "ann") != 0 {
		t.Error(s.Books)
	}
	if s = do1(t, s, closing(2)); len(s.Books.Done) != 1 || s.Books.Ledger.Entries[0].Time != day {
		t.Error(s.Books)
	}
	s = do1(t, s, sample.Detect("topen", 1, day+1, sample.Tag(1), 0), closing(7))
	if len(s.Books.Done) != 0 || Balance(s, "ann") != 0 || len(s.Books.Ledger.Entries) != 2 || s.Books.Ledger.Entries[1].Time != 7*day {
		t.Error(s.Books)
	}
	c := sample.Config()
	c.Tariffs[0].Rates[0].Cents = 1
	z, _ := New(c)
	if z = do1(t, z, sample.Detect("copen", 1, 50, "XY99", 0), closing(1)); len(z.Cases) != 1 || z.Cases[0].Owed != 1 {
		t.Error(z.Cases)
	}
}

// P48.2: cases
func TestCases(t *testing.T) {
	s := do1(t, start(t), sample.Detect("copen", 1, 50, "XY99", 0), sample.Detect("copen", 2, 2000, "ZZ11", 0), sample.Detect("topen", 3, 4000, sample.Tag(1), 0), sample.Detect("copen", 4, day, "XY99", 0), closing(1))
	want := []api.Case{{ID: "v1", Plate: "XY99", Key: "t:copen.1", Begun: 1, Since: 1, Stage: 1, Owed: 400}, {ID: "v2", Plate: "ZZ11", Key: "t:copen.2", Begun: 1, Since: 1, Stage: 1, Owed: 400}}
	if !slices.Equal(s.Cases, want) || !slices.Equal(Open(s), want) || ledger.Balance(s.Books.Ledger, "case:XY99") != 400 {
		t.Error(s.Cases)
	}
	s = do1(t, s, closing(2))
	if len(s.Cases) != 3 || s.Cases[2].ID != "v3" || s.Cases[2].Begun != 2 || s.Cases[0] != want[0] {
		t.Error(s.Cases)
	}
	// Cases advance by days.
	s = do1(t, s, late(9))
	if s.Cases[0].Stage != api.SNotice || s.Cases[0].Owed != 500 || s.Cases[2].Stage != api.SNew || s.Cases[0].Since != 9 { // day 4 is a holiday
		t.Error(s.Cases)
	}
	before := s
	s = do1(t, s, late(3)) // earlier than Since: Advance has an error
	if !slices.Equal(s.Cases, before.Cases) {
		t.Error(s.Cases)
	}
	// A tag that is read at the same time: the charge has another key, and the case is waived.
	s = do1(t, s, sample.Detect("aopen", 1, 5, "x", 0), sample.Detect("copen", 1, 51, "XY99", 0), closing(3))
	if s.Cases[0].Stage != api.SWaived || s.Cases[1].Stage != api.SNotice || len(Open(s)) != 2 || len(s.Cases) != 3 {
		t.Error(s.Cases)
	}
	waived := s.Cases[0]
	s = do1(t, s, late(60), closing(60))
	if s.Cases[0] != waived || s.Cases[1].Stage == api.SNotice {
		t.Error(s.Cases)
	}
	// A charge of 0 is no case.
	c := sample.Config()
	c.Discounts[0] = api.Discount{Name: "free", Kind: api.KFree}
	z, _ := New(c)
	if z = do1(t, z, sample.Detect("copen", 1, 50, "XY99", 0), closing(1)); len(z.Cases) != 0 || len(z.Books.Done) != 1 {
		t.Error(z.Cases)
	}
}

// P48.2: errors, with which the state is unchanged
func TestErrors(t *testing.T) {
	s := do1(t, start(t), sample.Detect("copen", 1, 50, "XY99", 0), closing(3), pay("ann", 5))
	full := fresh.State(s)
	for i := range api.MaxList - 1 {
		full.Rejects = append(full.Rejects, api.Reject{D: api.Detection{Device: "x", Seq: i}})
	}
	parked := fresh.State(s)
	parked.Parked = make([]api.Parked, api.MaxList)
	odd := closing(9)
	odd.Cents = 1
	clash := fresh.State(s)
	clash.Books.Ledger.Entries[1].Key = "pay#1"
	huge := fresh.State(s)
	huge.Result.Charges[0].Lines[0].Cents = 5 // it does not add up
	strange := fresh.State(s)
	strange.Result.Charges[0].Vehicle, strange.Result.Charges[0].Key = "?", "t:new" // no plate
	sum := fresh.State(s)
	sum.Config.Tariffs[0].Valid.To = api.MaxTime
	for i, x := range []struct {
		s api.State
		e api.Event
		w api.Errno
	}{
		{s, api.Event{}, api.ErrArg}, {s, odd, api.ErrArg}, {full, sample.Detect("copen", 1, 50, "XY99", 0), api.ErrLimit}, {s, sample.Park(9, "AB12", 5, 0), api.ErrArg}, {s, sample.Park(1, "?", 5, 0), api.ErrPlate}, {s, sample.Park(3, "AB12", -5, 0), api.ErrTime}, {parked, sample.Park(5, "AB12", 5, 0), api.ErrLimit}, {parked, sample.Park(9, "AB12", 5, 0), api.ErrArg},
		{s, closing(-1), api.ErrTime}, {s, closing(api.MaxDay), api.ErrTime}, {s, closing(3), api.ErrState}, {s, closing(0), api.ErrState}, {huge, closing(4), api.ErrSum}, {strange, closing(4), api.ErrPlate}, {s, late(-1), api.ErrTime}, {s, late(api.MaxDay), api.ErrTime}, {s, pay("eve", -1), api.ErrAccount}, {s, pay("ann", 0), api.ErrMoney}, {s, pay("ann", -5), api.ErrMoney}, {clash, pay("ann", 5), api.ErrExists},
		{sum, sample.Detect("copen", 9, api.MaxDay*86400+5, "XY99", 0), api.ErrTime}, // the error of batch.Finish
	} {
		before := fresh.State(x.s)
		r, e := Do(x.s, x.e)
		if e != x.w || !same(r, before) || !same(x.s, before) {
			t.Error(i, int(e))
		}
	}
	if r := do1(t, s, closing(api.MaxDay-1), late(api.MaxDay-1)); r.Closed != api.MaxDay-1 {
		t.Error(r.Closed)
	}
	full.Rejects = full.Rejects[1:]
	do1(t, full, sample.Detect("copen", 1, 50, "XY99", 0))
}

// P48.3
func TestAll(t *testing.T) {
	r := rand.New(rand.NewSource(1))
	for range 20 {
		s := start(t)
		var es []api.Event
		for range 80 {
			es = append(es, sample.Event(r.Intn))
		}
		before := fresh.State(s)
		got, n := All(s, es)
		accepted := 0
		for _, e := range es {
			next, why := Do(s, e)
			if why == api.OK {
				accepted++
			}
			s = next
		}
		if n != accepted || !same(got, s) || n != got.Count || n == len(es) || n < 20 {
			t.Fatal(n, accepted)
		}
		if !same(before, start(t)) {
			t.Fatal("changed")
		}
	}
	if s, n := All(start(t), nil); n != 0 || !same(s, start(t)) {
		t.Error(n)
	}
}

// R5: a new state shares no memory with the old one.
func TestMemory(t *testing.T) {
	s := do1(t, start(t), sample.Detect("copen", 1, 50, "XY99", 0), closing(1))
	for _, e := range []api.Event{sample.Detect("copen", 2, 5000, "XY99", 0), sample.Park(5, "AB12", 5, 0), closing(2), pay("ann", 5), late(9)} {
		before := fresh.State(s)
		r := do1(t, s, e)
		r.Result.Charges[0].Lines[0].Text, r.Result.Passages[0].Sources[0].Seq, r.Books.Done[0].Lines[0].Text = "x", 77, "y"
		r.Books.Ledger.Entries[0].Posts[0].Cents, r.Cases[0].Owed, r.Seen[0].Time, r.Config.Devices[0].Lane, r.Result.Trips[0].Stops[0].Time = 77, 77, 77, 7, 77
		if !same(s, before) {
			t.Error(e, "shared memory")
		}
	}
	if s.Books.Done[0].Lines[0].Text = "y"; s.Result.Charges[0].Lines[0].Text != "base" {
		t.Error("two lists of a state share memory")
	}
}

// P48.4
func TestQuestions(t *testing.T) {
	s := api.State{Closed: -7, Cases: []api.Case{{ID: "a", Stage: 5}, {ID: "b", Stage: 6}, {ID: "c", Stage: 1}, {ID: "d"}}}
	if l := Open(s); len(l) != 2 || l[0].ID != "a" || l[1].ID != "c" || Day(s) != -7 || Balance(s, "x") != 0 {
		t.Error(l)
	}
	s.Books.Ledger.Entries = []api.Entry{{Posts: []api.Post{{Account: "account:x", Cents: 5}, {Account: "account:x y", Cents: 7}, {Account: "x", Cents: 9}}}}
	if n := Balance(s, "x"); n != 5 {
		t.Error(n)
	}
}

// P48.5 to P48.8
func TestConsequences(t *testing.T) {
	r := rand.New(rand.NewSource(2))
	for range 25 {
		var accepted, inputs []api.Event
		s := start(t)
		for range 90 {
			e := sample.Event(r.Intn)
			next, why := Do(s, e)
			if why != api.OK {
				continue
			}
			accepted = append(accepted, e)
			if e.Kind == api.IDetect || e.Kind == api.IPark {
				inputs = append(inputs, e)
				again, why := Do(next, e)
				again.Count--
				if why != api.OK || !same(again, next) {
					t.Fatal("again", e)
				}
			}
			s = next
			if e.Kind == api.IClose {
				checkClosed(t, s, e.Day)
			}
		}
		want, e := batch.Run(s.Config, accepted)
		if e != api.OK || !batch.Same(s.Result, want) {
			t.Fatal("not the result of a recomputation")
		}
		other := start(t)
		r.Shuffle(len(inputs), func(i, j int) { inputs[i], inputs[j] = inputs[j], inputs[i] })
		other = do1(t, other, inputs...)
		if !batch.Same(other.Result, s.Result) || !slices.Equal(other.Seen, s.Seen) || !slices.Equal(other.Rejects, s.Rejects) || !slices.Equal(other.Parked, s.Parked) {
			t.Fatal("the order matters")
		}
		a, b := do1(t, s, closing(100)), do1(t, other, closing(100))
		for _, name := range append(ledger.Accounts(a.Books.Ledger), ledger.Accounts(b.Books.Ledger)...) {
			if !strings.HasPrefix(name, "account:") && name != "cash" && ledger.Balance(a.Books.Ledger, name) != ledger.Balance(b.Books.Ledger, name) {
				t.Fatal("the balances differ", name)
			}
		}
	}
}

// checkClosed examines a state directly after a closing.
func checkClosed(t *testing.T, s api.State, n int) {
	t.Helper()
	var want []api.Charge
	keys := map[string]bool{}
	for _, x := range price.Sort(s.Result.Charges) {
		if x.Time < n*day {
			want = append(want, x)
			keys[x.Key] = true
		}
	}
	slices.SortFunc(want, func(a, b api.Charge) int { return strings.Compare(a.Key, b.Key) })
	if len(want)+len(s.Books.Done) > 0 && !reflect.DeepEqual(s.Books.Done, want) || s.Closed != n {
		t.Fatal("Done", s.Books.Done, want)
	}
	cases := map[string]int{}
	for i, x := range s.Cases {
		cases[x.Key]++
		if notice.Open(x) && !keys[x.Key] || cases[x.Key] > 1 || x.ID != "v"+strconv.Itoa(i+1) {
			t.Fatal("case", x)
		}
	}
	for _, x := range want {
		_, owned := account.Owner(s.Config.Accounts, x.Vehicle, x.Time)
		if !owned && x.Cents > 0 && cases[x.Key] != 1 {
			t.Fatal("no case", x)
		}
	}
}

// R1: any state is accepted.
func TestAnyState(t *testing.T) {
	odd := api.State{
		Config: api.Config{Gap: -5, Weak: math.MinInt, Law: api.Law{Days: []int{1}}},
		Seen:   []api.Seen{{Time: math.MinInt, Kind: 1, Point: "p"}, {Time: math.MaxInt, Kind: 2, Point: "p"}, {Kind: 3, Point: "p"}, {Kind: 9}},
		Parked: []api.Parked{{Kind: 77}, {Kind: 5, Time: -5}},
		Closed: math.MinInt,
		Result: api.Result{Charges: []api.Charge{{}, {Time: math.MinInt}}},
		Cases:  []api.Case{{Stage: 1, Since: -5}, {Stage: math.MaxInt}},
		Count:  math.MaxInt,
	}
	for _, e := range []api.Event{sample.Detect("copen", 1, 5, "AB12", 0), sample.Park(5, "AB12", 5, 0), closing(5), late(5), pay("ann", 5)} {
		Do(odd, e)
		Do(api.State{}, e)
		All(odd, []api.Event{e, e})
	}
	if event.Right(api.Event{}) || detect.Check(nil, api.Detection{}) == 0 {
		t.Error("zero values")
	}
}
