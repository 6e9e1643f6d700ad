package post

import (
	"math"
	"math/rand"
	"reflect"
	"slices"
	"strconv"
	"strings"
	"testing"

	"tollway/api"
	"tollway/ledger"
	"tollway/price"
)

func config() api.Config {
	own := func(name, plate string, from, to int) api.Account {
		return api.Account{Name: name, Owned: []api.Owned{{Plate: plate, Time: api.Interval{From: from, To: to}}}}
	}
	return api.Config{Accounts: []api.Account{own("ann", "AB1", 0, 1000), own("bob", "AB1", 1000, 9000)}}
}

func charge(key, vehicle, system string, time, cents int) api.Charge {
	return api.Charge{Key: key, Vehicle: vehicle, System: system, Time: time, Lines: []api.Line{{Text: "base", Cents: cents}}, Cents: cents}
}

func entry(key string, time int, l ...any) api.Entry {
	e := api.Entry{Key: key, Time: time}
	for i := 0; i < len(l); i += 2 {
		e.Posts = append(e.Posts, api.Post{Account: l[i].(string), Cents: l[i+1].(int)})
	}
	return e
}

func books(done []api.Charge, l ...api.Entry) api.Books {
	return api.Books{Ledger: api.Ledger{Entries: l}, Done: done}
}

// P37.1
func TestCheck(t *testing.T) {
	a, b := charge("a", "AB1", "s", 5, 10), charge("b", "AB1", "s", 5, 10)
	wrong := b
	wrong.Cents = 9
	good, other := entry("k", 5, "x", 1, "y", -1), entry("m", 5, "x", 1, "y", -1)
	for i, x := range []struct {
		b api.Books
		e api.Errno
	}{
		{api.Books{}, api.OK}, {books([]api.Charge{a, b}, good, other), api.OK}, {books([]api.Charge{b, a}, good, other), api.ErrOrder}, {books([]api.Charge{a, a}), api.ErrOrder}, {books([]api.Charge{b, a, wrong}), api.ErrSum}, {books([]api.Charge{wrong}, good, good), api.ErrExists}, {books([]api.Charge{wrong}, good, good, entry("q", 5)), api.ErrArg}, {books(nil, entry("q", 5, "x", 1)), api.ErrBalance},
	} {
		if e := Check(x.b); e != x.e {
			t.Error(i, int(e))
		}
	}
}

// P37.2
func TestEntry(t *testing.T) {
	for i, x := range []struct {
		x            api.Charge
		old, version int
		want         api.Entry
		e            api.Errno
	}{
		{charge("t:c1.5", "AB1", "ring", 5, 400), 0, 0, entry("t:c1.5#0", 5, "account:ann", 400, "revenue:ring", -400), api.OK}, {charge("t:c1.5", "AB1", "ring", 1000, 300), 400, 1, entry("t:c1.5#1", 1000, "account:bob", -100, "revenue:ring", 100), api.OK}, {charge("k", "XY9", "", 5, 300), api.MaxMoney, api.MaxNumber, entry("k#2147483648", 5, "case:XY9", 300-api.MaxMoney, "revenue:-", api.MaxMoney-300), api.OK},
		{charge("", "XY9", "", 5, 300), -1, -1, api.Entry{}, api.ErrName}, {charge("k", "XY9", "", -1, 300), 0, 0, api.Entry{}, api.ErrTime}, {charge("k", "XY9", "", 5, 300), -1, -1, api.Entry{}, api.ErrMoney}, {charge("k", "XY9", "", 5, 300), api.MaxMoney + 1, 0, api.Entry{}, api.ErrMoney}, {charge("k", "XY9", "", 5, 300), 300, -1, api.Entry{}, api.ErrArg}, {charge("k", "XY9", "", 5, 300), 300, api.MaxNumber + 1, api.Entry{}, api.ErrArg}, {charge("k", "XY9", "", 5, 300), 300, 0, api.Entry{}, api.ErrNone},
	} {
		if g, e := Entry(config(), x.x, x.old, x.version); !reflect.DeepEqual(g, x.want) || e != x.e {
			t.Error(i, g, int(e))
		}
	}
}

// P37.3: the example, changes of accounts, and charges of 0
func TestApply(t *testing.T) {
	c := config()
	var b api.Books
	apply := func(x api.Charge, last ...api.Entry) {
		t.Helper()
		before := len(b.Ledger.Entries)
		next, e := Apply(c, b, x)
		if e != api.OK || !reflect.DeepEqual(next.Ledger.Entries[before:], last) && len(next.Ledger.Entries)-before+len(last) > 0 {
			t.Error(next.Ledger.Entries[before:], int(e))
		}
		i := slices.IndexFunc(next.Done, func(y api.Charge) bool { return y.Key == x.Key })
		if i < 0 || !reflect.DeepEqual(next.Done[i], x) || Check(next) != api.OK || Posted(next, x.Key) != x.Cents {
			t.Error(next.Done, int(Check(next)))
		}
		b = next
	}
	apply(charge("t:c1.5", "AB1", "ring", 5, 400), entry("t:c1.5#0", 5, "account:ann", 400, "revenue:ring", -400))
	apply(charge("t:c1.5", "AB1", "ring", 5, 300), entry("t:c1.5#1", 5, "account:ann", -100, "revenue:ring", 100))
	apply(charge("t:c1.5", "AB1", "ring", 6, 300)) // the same amount: nothing is posted
	apply(charge("t:c1.5", "AB1", "ring", 1000, 300), entry("t:c1.5#2", 1000, "account:ann", -300, "account:bob", 300))
	apply(charge("t:c1.5", "XY9", "other", 1000, 250), entry("t:c1.5#3", 1000, "account:bob", -300, "revenue:ring", 300, "case:XY9", 250, "revenue:other", -250))
	apply(charge("t:c1.5", "AB1", "other", 5, 300), entry("t:c1.5#4", 5, "case:XY9", -250, "revenue:other", -50, "account:ann", 300))
	apply(charge("t:c1.5", "AB1", "other", 5, 0), entry("t:c1.5#5", 5, "account:ann", -300, "revenue:other", 300))
	apply(charge("t:c1.5", "AB1", "new", 5, 0))
	apply(charge("t:c1.5", "AB1", "new", 5, 7), entry("t:c1.5#6", 5, "account:ann", 7, "revenue:new", -7))
	apply(charge("a", "AB1", "", 5, 7), entry("a#0", 5, "account:ann", 7, "revenue:-", -7))
	apply(charge("z", "AB1", "", 5, 0))
	apply(charge("m", "AB1", "", 5, 1), entry("m#0", 5, "account:ann", 1, "revenue:-", -1))
	// The version counts the entries of the key alone.
	b, _ = Apply(c, b, charge("m#0", "AB1", "", 5, 1))
	apply(charge("m", "AB1", "", 5, 2), entry("m#1", 5, "account:ann", 1, "revenue:-", -1))
	apply(charge("mm", "AB1", "", 5, 2), entry("mm#0", 5, "account:ann", 2, "revenue:-", -2))
	if Posted(b, "x") != 0 || Posted(b, "a") != 7 {
		t.Error(Posted(b, "a"))
	}
}

// P37.3, P37.4, P37.7: with an error the books are unchanged.
func TestErrors(t *testing.T) {
	c := config()
	b, _ := Apply(c, api.Books{}, charge("a", "AB1", "s", 5, 10))
	same := func(name string, r api.Books, e, want api.Errno) {
		t.Helper()
		if e != want || !reflect.DeepEqual(r, b) {
			t.Error(name, r, int(e))
		}
	}
	r, e := Apply(c, b, charge("", "AB1", "s", 5, 10))
	same("key", r, e, api.ErrName)
	r, e = Apply(c, b, charge("k", "AB1", "s", 5, -10))
	same("cents", r, e, api.ErrMoney)
	r, e = Apply(c, b, charge("k k", "AB1", "s", 5, 10))
	same("the error of ledger.Post", r, e, api.ErrForm)
	r, e = Apply(c, b, charge("k", "XY 9", "s", 5, 10))
	same("the account", r, e, api.ErrForm)
	r, e = Apply(c, b, charge("k", "AB1", "s", 5, api.MaxMoney))
	same("the balance", r, e, api.ErrMoney)
	r, e = Void(c, b, "k", -1)
	same("void none", r, e, api.ErrNone)
	r, e = Void(c, b, "a", -1)
	same("void time", r, e, api.ErrTime)
	r, e = Void(c, b, "a", api.MaxTime+1)
	same("void time", r, e, api.ErrTime)
	r, e = Pay(b, "Ann", 0, -1)
	same("pay name", r, e, api.ErrName)
	r, e = Pay(b, "ann", 0, -1)
	same("pay cents", r, e, api.ErrMoney)
	r, e = Pay(b, "ann", api.MaxMoney+1, -1)
	same("pay cents", r, e, api.ErrMoney)
	r, e = Pay(b, "ann", 5, -1)
	same("pay time", r, e, api.ErrTime)
	r, e = Pay(b, "ann", 5, api.MaxTime+1)
	same("pay time", r, e, api.ErrTime)
	x := charge("x", "AB1", "s", 5, 1)
	r, e = Sync(c, b, []api.Charge{x, charge("", "", "", 0, 0), x}, -1)
	same("sync twice", r, e, api.ErrExists)
	r, e = Sync(c, b, []api.Charge{x, charge("y", "AB1", "s", -1, 0)}, 5)
	same("sync charge", r, e, api.ErrTime)
	r, e = Sync(c, b, []api.Charge{x}, -1)
	same("sync void", r, e, api.ErrTime)
	r, e = Sync(c, b, []api.Charge{charge("x", "AB1", "s", 7, 1), charge("y", "AB1", "s", 6, -1), charge("z", "AB1", "s", 5, api.MaxMoney)}, -1)
	same("the first error in canonical order", r, e, api.ErrMoney)
}

// P37.4
func TestVoid(t *testing.T) {
	c := config()
	b, _ := Apply(c, api.Books{}, charge("a", "AB1", "s", 5, 10))
	b, _ = Apply(c, b, charge("b", "AB1", "s", 5, 0))
	r, e := Void(c, b, "a", api.MaxTime)
	if e != api.OK || len(r.Done) != 1 || !reflect.DeepEqual(r.Ledger.Entries[1:], []api.Entry{entry("a#1", api.MaxTime, "account:ann", -10, "revenue:s", 10)}) {
		t.Error(r, int(e))
	}
	if x, e := Void(c, r, "b", -1); e != api.ErrTime || !reflect.DeepEqual(x, r) {
		t.Error("a charge of 0 at no time", int(e))
	}
	r, e = Void(c, r, "b", 0)
	if e != api.OK || len(r.Done) != 0 || len(r.Ledger.Entries) != 2 {
		t.Error(r, int(e))
	}
	if len(b.Done) != 2 || len(b.Ledger.Entries) != 1 {
		t.Error("changed")
	}
}

// P37.5
func TestSync(t *testing.T) {
	c := config()
	b, _ := Sync(c, api.Books{}, []api.Charge{charge("b", "AB1", "s", 5, 10), charge("a", "AB1", "s", 6, 20), charge("c", "AB1", "s", 5, 30)}, 7)
	keys := func(b api.Books) string {
		s := ""
		for _, e := range b.Ledger.Entries {
			s += e.Key + " "
		}
		for _, x := range b.Done {
			s += x.Key + strconv.Itoa(x.Cents) + " "
		}
		return s
	}
	if s := keys(b); s != "b#0 c#0 a#0 a20 b10 c30 " {
		t.Error(s)
	}
	b, e := Sync(c, b, []api.Charge{charge("b", "AB1", "s", 5, 11)}, 8)
	if s := keys(b); s != "b#0 c#0 a#0 b#1 a#1 c#1 b11 " || e != api.OK || b.Ledger.Entries[5].Time != 8 || b.Ledger.Entries[3].Time != 5 {
		t.Error(s, int(e))
	}
	again, e := Sync(c, b, []api.Charge{charge("b", "AB1", "s", 5, 11)}, -1) // nothing is voided
	if !reflect.DeepEqual(again, b) || e != api.OK {
		t.Error(again, int(e))
	}
	again.Done[0].Lines[0].Cents = 99
	again.Ledger.Entries[0].Posts[0].Cents = 99
	if b.Done[0].Lines[0].Cents != 11 || b.Ledger.Entries[0].Posts[0].Cents != 10 {
		t.Error("shared memory")
	}
}

// P37.7
func TestPay(t *testing.T) {
	b, e := Pay(api.Books{}, "ann", 400, 5)
	if e != api.OK || !reflect.DeepEqual(b.Ledger.Entries, []api.Entry{entry("pay#0", 5, "cash", 400, "account:ann", -400)}) {
		t.Error(b, int(e))
	}
	b.Ledger.Entries = append(b.Ledger.Entries, entry("pay#x", 5, "a", 1, "b", -1), entry("pay", 5, "a", 1, "b", -1))
	b, e = Pay(b, "nobody", api.MaxMoney-400, api.MaxTime)
	if e != api.OK || b.Ledger.Entries[3].Key != "pay#2" || b.Ledger.Entries[3].Time != api.MaxTime {
		t.Error(b, int(e))
	}
	if r, e := Pay(b, "bob", 1, 5); e != api.ErrMoney || len(r.Ledger.Entries) != 4 {
		t.Error("the cash does not fit", int(e))
	}
	b.Ledger.Entries = append(b.Ledger.Entries, entry("pay#4", 5, "a", 1, "b", -1))
	if r, e := Pay(b, "bob", 1, 5); e != api.ErrExists || len(r.Ledger.Entries) != 5 {
		t.Error(int(e))
	}
}

// P37.8 to P37.10
func TestExactlyOnce(t *testing.T) {
	r := rand.New(rand.NewSource(1))
	c := config()
	random := func() []api.Charge {
		var l []api.Charge
		for i := range 6 {
			if r.Intn(3) > 0 {
				l = append(l, charge("k"+strconv.Itoa(i), []string{"AB1", "XY9"}[r.Intn(2)], []string{"s", "t", ""}[r.Intn(3)], 100*r.Intn(20), 50*r.Intn(4)))
			}
		}
		return l
	}
	for range 300 {
		var b, direct api.Books
		paid := 0
		for range 1 + r.Intn(5) {
			var e api.Errno
			if r.Intn(3) == 0 {
				n := 1 + r.Intn(100)
				paid += n
				b, e = Pay(b, "ann", n, r.Intn(5000))
			} else if r.Intn(3) == 0 && len(b.Done) > 0 {
				b, e = Void(c, b, b.Done[r.Intn(len(b.Done))].Key, 5)
			} else {
				for _, x := range random() {
					b, e = Apply(c, b, x)
					again, f := Apply(c, b, x)
					if !reflect.DeepEqual(again, b) || f != api.OK {
						t.Fatal("applied twice", x, again)
					}
				}
			}
			if e != api.OK || Check(b) != api.OK {
				t.Fatal(int(e), int(Check(b)))
			}
		}
		check := func(b api.Books) {
			sums := map[string]int{"account:ann": -paid}
			for _, x := range b.Done {
				a := accountsOf(c, x)
				sums[a.debit] += x.Cents
				sums[a.credit] -= x.Cents
			}
			for _, name := range ledger.Accounts(b.Ledger) {
				if n := ledger.Balance(b.Ledger, name); name != "cash" && n != sums[name] {
					t.Fatal(name, n, sums)
				}
			}
		}
		check(b)
		final := random()
		b, _ = Sync(c, b, final, 5)
		check(b)
		want := slices.Clone(final)
		slices.SortFunc(want, func(a, b api.Charge) int { return strings.Compare(a.Key, b.Key) })
		if len(want)+len(b.Done) > 0 && !reflect.DeepEqual(b.Done, want) {
			t.Fatal(b.Done, want)
		}
		if again, e := Sync(c, b, price.Sort(final), math.MinInt); !reflect.DeepEqual(again, b) || e != api.OK {
			t.Fatal("not the same", int(e))
		}
		if paid > 0 {
			direct, _ = Pay(direct, "ann", paid, 0)
		}
		direct, _ = Sync(c, direct, final, 5)
		for _, name := range append(ledger.Accounts(b.Ledger), ledger.Accounts(direct.Ledger)...) {
			if ledger.Balance(b.Ledger, name) != ledger.Balance(direct.Ledger, name) {
				t.Fatal("the path matters", name)
			}
		}
	}
}
