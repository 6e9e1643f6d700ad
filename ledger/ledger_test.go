package ledger

import (
	"math"
	"math/rand"
	"reflect"
	"slices"
	"strconv"
	"strings"
	"testing"

	"tollway/api"
)

func posts(l ...any) []api.Post {
	var r []api.Post
	for i := 0; i < len(l); i += 2 {
		r = append(r, api.Post{Account: l[i].(string), Cents: l[i+1].(int)})
	}
	return r
}

func entry(key string, time int, l ...any) api.Entry {
	return api.Entry{Key: key, Time: time, Posts: posts(l...)}
}

// P32.1
func TestCheck(t *testing.T) {
	most := api.MaxMoney
	for i, x := range []struct {
		e    api.Entry
		want api.Errno
	}{
		{entry("k", 5, "a", 300, "b", -300), api.OK}, {entry("k", api.MaxTime, "a", 300, "b", -200, "a", -100), api.OK}, {entry("!~", 0, "a", most, "b", -most), api.OK}, {entry(strings.Repeat("k", 9999), 0, "a", 1, "b", -1), api.OK}, {entry("k", 5, slices.Repeat([]any{"a", most, "b", -most}, 512)...), api.OK},
		{entry("", -1, "a", 300, "b", -300), api.ErrForm}, {entry("a b", 5, "a", 300, "b", -300), api.ErrForm}, {entry("a\x7f", 5, "a", 300, "b", -300), api.ErrForm}, {entry("é", 5, "a", 300, "b", -300), api.ErrForm}, {entry("k", -1), api.ErrTime}, {entry("k", api.MaxTime+1), api.ErrTime}, {entry("k", 5), api.ErrArg}, {entry("k", 5, slices.Repeat([]any{"", 0}, 1025)...), api.ErrLimit},
		{entry("k", 5, "", 0, "b", -300), api.ErrForm}, {entry("k", 5, "a", 0, "", -300), api.ErrZero}, {entry("k", 5, "a", most+1, "b", 0), api.ErrMoney}, {entry("k", 5, "a", math.MinInt, "b", 0), api.ErrMoney}, {entry("k", 5, "a", 5, "b", -4), api.ErrBalance}, {entry("k", 5, "a", 5), api.ErrBalance}, {entry("k", 5, "a", 5, "b c", 5), api.ErrForm},
	} {
		if e := Check(x.e); e != x.want {
			t.Error(i, int(e))
		}
		if x.want == api.OK {
			continue
		}
		l := api.Ledger{Entries: []api.Entry{entry("k", 5, "a", 1, "b", -1)}}
		if r, e := Post(l, x.e); e != x.want || !reflect.DeepEqual(r, l) {
			t.Error("Post", i, int(e))
		}
	}
}

// P32.2
func TestPost(t *testing.T) {
	e := entry("k", 5, "account:a", 300, "revenue:s", -300)
	l, why := Post(api.Ledger{}, e)
	if why != api.OK || !reflect.DeepEqual(l, api.Ledger{Entries: []api.Entry{e}}) {
		t.Error(l, int(why))
	}
	if r, why := Post(l, entry("k", 6, "x", 1, "y", -1)); why != api.ErrExists || !reflect.DeepEqual(r, l) {
		t.Error(r, int(why))
	}
	e.Posts[0].Cents = 9
	if l.Entries[0].Posts[0].Cents != 300 {
		t.Error("the entry is shared")
	}
	room := api.Ledger{Entries: append(make([]api.Entry, 0, 5), l.Entries...)}
	r, _ := Post(room, entry("m", 1, "a", 1, "b", -1))
	if room.Entries[:2][1].Key != "" || len(r.Entries) != 2 || r.Entries[1].Key != "m" {
		t.Error("the memory behind the ledger is changed")
	}
	r.Entries[0].Posts[0].Cents = 9
	if l.Entries[0].Posts[0].Cents != 300 {
		t.Error("the ledger is shared")
	}
	// Balances must fit, but only those of the accounts of the entry are asked for, after all its posts.
	big, _ := Post(api.Ledger{}, entry("a", 1, "x", api.MaxMoney, "y", -api.MaxMoney))
	if r, why := Post(big, entry("b", 1, "x", 1, "z", -1)); why != api.ErrMoney || !reflect.DeepEqual(r, big) {
		t.Error(int(why))
	}
	if _, why := Post(big, entry("b", 1, "z", 1, "y", -1)); why != api.ErrMoney {
		t.Error(int(why))
	}
	if _, why := Post(big, entry("b", 1, "x", 5, "x", -5)); why != api.OK {
		t.Error(int(why))
	}
	if _, why := Post(big, entry("b", 1, "x", -api.MaxMoney, "y", api.MaxMoney)); why != api.OK {
		t.Error(int(why))
	}
	if _, why := Post(big, entry("b", 1, "v", 1, "w", -1)); why != api.OK {
		t.Error(int(why))
	}
	if _, why := Post(big, entry("a", 1, "x", 1, "z", -1)); why != api.ErrExists {
		t.Error("the key comes first", int(why))
	}
}

// P32.3 to P32.5
func TestQuestions(t *testing.T) {
	l := api.Ledger{Entries: []api.Entry{entry("k", 5, "account:a", 300, "revenue:s", -300), entry("m", 3, "b", 7, "account:a", -7), entry("k", 9, "z", 1, "z", -1)}}
	if e, ok := Find(l, "k"); !ok || e.Time != 5 || len(e.Posts) != 2 {
		t.Error(e, ok)
	}
	if e, ok := Find(l, "x"); ok || !reflect.DeepEqual(e, api.Entry{}) {
		t.Error(e, ok)
	}
	e, _ := Find(l, "k")
	e.Posts[0].Cents = 9
	if l.Entries[0].Posts[0].Cents != 300 {
		t.Error("shared memory")
	}
	for name, want := range map[string]int{"account:a": 293, "revenue:s": -300, "b": 7, "z": 0, "x": 0, "": 0} {
		if n := Balance(l, name); n != want {
			t.Error(name, n)
		}
	}
	if a := Accounts(l); !slices.Equal(a, []string{"account:a", "b", "revenue:s", "z"}) {
		t.Error(a)
	}
	for at, want := range map[int]string{3: "", 4: "m", 5: "m", 6: "km", 9: "km", 10: "kmk", math.MaxInt: "kmk", math.MinInt: ""} {
		u := Until(l, at)
		s := ""
		for _, e := range u.Entries {
			s += e.Key
		}
		if s != want {
			t.Error(at, s)
		}
	}
	Until(l, 10).Entries[0].Posts[0].Cents = 9
	if l.Entries[0].Posts[0].Cents != 300 {
		t.Error("shared memory")
	}
	if a, b := Trial(l); a != 308 || b != 308 {
		t.Error(a, b)
	}
	if a, b := Trial(api.Ledger{Entries: []api.Entry{{Posts: posts("a", 5, "b", -7, "c", 0)}}}); a != 5 || b != 7 {
		t.Error(a, b)
	}
	if a, b := Trial(api.Ledger{}); a != 0 || b != 0 || len(Accounts(api.Ledger{})) != 0 {
		t.Error(a, b)
	}
}

// P32.6 to P32.8
func TestBalanced(t *testing.T) {
	r := rand.New(rand.NewSource(1))
	for range 300 {
		var l api.Ledger
		var accepted []api.Entry
		for range r.Intn(12) {
			n := 1 + r.Intn(1000)
			e := entry("k"+strconv.Itoa(r.Intn(9)), r.Intn(50), string(rune('a'+r.Intn(4))), n, string(rune('a'+r.Intn(4))), -n)
			if r.Intn(5) == 0 {
				e.Posts[0].Cents++
			}
			account := e.Posts[0].Account
			before := Balance(l, account)
			next, why := Post(l, e)
			if why == api.OK {
				accepted = append(accepted, e)
				change := 0
				for _, p := range e.Posts {
					if p.Account == account {
						change += p.Cents
					}
				}
				if Balance(next, account) != before+change {
					t.Fatal(l, e)
				}
			} else if !reflect.DeepEqual(next, l) {
				t.Fatal("changed")
			}
			l = next
		}
		for _, x := range []api.Ledger{l, Until(l, r.Intn(50))} {
			sum := 0
			for _, a := range Accounts(x) {
				sum += Balance(x, a)
			}
			if a, b := Trial(x); sum != 0 || a != b {
				t.Fatal(x)
			}
		}
		r.Shuffle(len(accepted), func(i, j int) { accepted[i], accepted[j] = accepted[j], accepted[i] })
		var m api.Ledger
		for _, e := range accepted {
			m, _ = Post(m, e)
		}
		for _, a := range Accounts(l) {
			if Balance(m, a) != Balance(l, a) {
				t.Fatal("the order matters")
			}
		}
	}
}
