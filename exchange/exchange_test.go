package exchange

import (
	"math"
	"math/rand"
	"reflect"
	"slices"
	"strconv"
	"testing"

	"tollway/api"
)

func rec(kind int, key string, cents int) api.Record {
	return api.Record{Kind: kind, Key: key, Time: 5, Cents: cents}
}

func claim(key string, cents int) []api.Record { return []api.Record{rec(api.RCharge, key, cents)} }

func file(from string, seq int, l ...api.Record) api.File {
	return api.File{From: from, To: "south", Seq: seq, Records: l}
}

// P43.1
func TestNew(t *testing.T) {
	if p, e := New("north"); !reflect.DeepEqual(p, api.Partner{Name: "north", Out: 1, In: 1}) || e != api.OK {
		t.Error(p, int(e))
	}
	for _, s := range []string{"", "North", "a b"} {
		if p, e := New(s); !reflect.DeepEqual(p, api.Partner{}) || e != api.ErrName {
			t.Error(s, p, int(e))
		}
	}
}

// P43.2, P43.4, P43.5: the example
func TestSend(t *testing.T) {
	p, _ := New("north")
	q, f, e := Send(p, "south", claim("k", 500))
	want := api.File{From: "south", To: "north", Seq: 1, Records: claim("k", 500)}
	if e != api.OK || !reflect.DeepEqual(f, want) || !reflect.DeepEqual(q, api.Partner{Name: "north", Out: 2, In: 1, Waiting: []api.File{want}, Ours: claim("k", 500)}) {
		t.Error(q, f, int(e))
	}
	if a, b := Claims(q); a != 500 || b != 0 {
		t.Error(a, b)
	}
	r, e := Ack(q, 1)
	if e != api.OK || len(r.Waiting) != 0 || r.Out != 2 || len(r.Ours) != 1 {
		t.Error(r, int(e))
	}
	if r, e := Ack(q, 2); e != api.ErrSeq || !reflect.DeepEqual(r, q) {
		t.Error(r, int(e))
	}
	f.Records[0].Cents = 9
	if q.Waiting[0].Records[0].Cents != 500 || q.Ours[0].Cents != 500 {
		t.Error("shared memory")
	}
	Resend(q)[0].Records[0].Cents = 9
	if q.Waiting[0].Records[0].Cents != 500 {
		t.Error("shared memory")
	}
	q, f, e = Send(q, "south", nil)
	if e != api.OK || f.Seq != 2 || len(q.Waiting) != 2 || len(Resend(q)) != 2 || Resend(q)[1].Seq != 2 {
		t.Error(q, f, int(e))
	}
	many := slices.Repeat(claim("k", 1), api.MaxList)
	for i, x := range []struct {
		change func(p *api.Partner)
		from   string
		l      []api.Record
		e      api.Errno
	}{
		{func(p *api.Partner) {}, "South", many, api.ErrName}, {func(p *api.Partner) {}, "north", nil, api.ErrAgency}, {func(p *api.Partner) { p.Out = 0 }, "south", nil, api.ErrSeq}, {func(p *api.Partner) { p.Out = math.MaxInt }, "south", nil, api.ErrSeq}, {func(p *api.Partner) {}, "south", append(many, many[0]), api.ErrLimit}, {func(p *api.Partner) { p.Ours = many }, "south", []api.Record{{}}, api.ErrArg}, {func(p *api.Partner) { p.Ours = many }, "south", claim("k", 1), api.ErrLimit}, {func(p *api.Partner) { p.Ours = many }, "south", nil, api.OK}, {func(p *api.Partner) { p.Ours = many[1:] }, "south", claim("k", 1), api.OK}, {func(p *api.Partner) { p.Waiting = make([]api.File, api.MaxList) }, "south", nil, api.ErrLimit}, {func(p *api.Partner) { p.Waiting = make([]api.File, api.MaxList-1) }, "south", nil, api.OK},
	} {
		p, _ := New("north")
		x.change(&p)
		r, f, e := Send(p, x.from, x.l)
		if e != x.e || e != api.OK && (!reflect.DeepEqual(r, p) || !reflect.DeepEqual(f, api.File{})) {
			t.Error(i, int(e))
		}
	}
}

// P43.3
func TestReceive(t *testing.T) {
	p, _ := New("north")
	one, two := file("north", 1, claim("k", 500)...), file("north", 2, claim("m", 7)...)
	if r, e := Receive(p, two); e != api.ErrSeq || !reflect.DeepEqual(r, p) {
		t.Error(r, int(e))
	}
	q, e := Receive(p, one)
	if e != api.OK || q.In != 2 || !slices.Equal(q.Theirs, one.Records) || q.Out != 1 || len(q.Ours) != 0 {
		t.Error(q, int(e))
	}
	if r, e := Receive(q, one); e != api.OK || !reflect.DeepEqual(r, q) {
		t.Error(r, int(e))
	}
	r, e := Receive(q, two)
	if e != api.OK || r.In != 3 || len(r.Theirs) != 2 || len(q.Theirs) != 1 {
		t.Error(r, int(e))
	}
	other := one
	other.To = "elsewhere"
	if r, e := Receive(p, other); e != api.OK || r.In != 2 {
		t.Error("To does not matter", int(e))
	}
	many := slices.Repeat(claim("k", 1), api.MaxList)
	for i, x := range []struct {
		change func(p *api.Partner)
		f      api.File
		e      api.Errno
	}{
		{func(p *api.Partner) {}, file("West", 9), api.ErrName}, {func(p *api.Partner) {}, file("west", 9), api.ErrAgency}, {func(p *api.Partner) {}, file("west", 0), api.ErrSeq}, {func(p *api.Partner) {}, file("north", 0), api.ErrSeq}, {func(p *api.Partner) { p.In = 5 }, file("north", 4, many...), api.OK}, {func(p *api.Partner) { p.Theirs = many }, file("north", 2, claim("k", 1)...), api.ErrSeq}, {func(p *api.Partner) { p.Theirs = many }, file("north", 1, claim("k", 1)...), api.ErrLimit}, {func(p *api.Partner) { p.In = math.MinInt }, file("north", 1), api.ErrSeq},
	} {
		p, _ := New("north")
		x.change(&p)
		if r, e := Receive(p, x.f); e != x.e || !reflect.DeepEqual(r, p) {
			t.Error(i, int(e))
		}
	}
	p.Theirs = many[1:]
	if r, e := Receive(p, one); e != api.OK || len(r.Theirs) != api.MaxList {
		t.Error(int(e))
	}
}

// P43.4
func TestAck(t *testing.T) {
	p, _ := New("north")
	for range 3 {
		p, _, _ = Send(p, "south", nil)
	}
	for seq, want := range map[int]int{0: 3, 1: 2, 2: 1, 3: 0} {
		r, e := Ack(p, seq)
		if e != api.OK || len(r.Waiting) != want || len(p.Waiting) != 3 || want > 0 && r.Waiting[0].Seq != seq+1 {
			t.Error(seq, r, int(e))
		}
	}
	for _, seq := range []int{-1, 4, math.MinInt, math.MaxInt} {
		if r, e := Ack(p, seq); e != api.ErrSeq || !reflect.DeepEqual(r, p) {
			t.Error(seq, int(e))
		}
	}
	p.Waiting[0].Seq, p.Waiting[2].Seq = 9, -9 // any partner is accepted
	if r, e := Ack(p, 2); e != api.OK || len(r.Waiting) != 1 || r.Waiting[0].Seq != 9 {
		t.Error(r, int(e))
	}
}

// P43.5
func TestClaims(t *testing.T) {
	p := api.Partner{Ours: []api.Record{rec(1, "k", 500), rec(3, "k", 0), rec(1, "k", 30), rec(1, "m", 4)}, Theirs: []api.Record{rec(4, "k", 7)}}
	if a, b := Claims(p); a != 34 || b != -7 {
		t.Error(a, b)
	}
	if a, b := Claims(api.Partner{}); a != 0 || b != 0 || len(Resend(api.Partner{})) != 0 {
		t.Error(a, b)
	}
}

// P43.6, P43.7
func TestInOrder(t *testing.T) {
	r := rand.New(rand.NewSource(1))
	for range 200 {
		sender, _ := New("south")
		receiver, _ := New("north")
		for i := range r.Intn(8) {
			sender, _, _ = Send(sender, "north", claim("k"+strconv.Itoa(i), r.Intn(100)))
		}
		files := Resend(sender)
		for receiver.In < sender.Out {
			before := receiver
			f := files[r.Intn(len(files))]
			next, e := Receive(receiver, f)
			if (e == api.ErrSeq) != (f.Seq > before.In) || e != api.OK && e != api.ErrSeq {
				t.Fatal(f, before.In, int(e))
			}
			receiver = next
		}
		if !slices.Equal(receiver.Theirs, sender.Ours) || receiver.In != sender.Out {
			t.Fatal(receiver, sender)
		}
		if seq := r.Intn(sender.Out); true {
			acked, _ := Ack(sender, seq)
			for _, f := range files {
				if slices.ContainsFunc(acked.Waiting, func(x api.File) bool { return x.Seq == f.Seq }) != (f.Seq > seq) {
					t.Fatal(seq, acked.Waiting)
				}
			}
			if acked.Out != sender.Out || !slices.Equal(acked.Ours, sender.Ours) {
				t.Fatal(acked)
			}
		}
		if all, _ := Ack(sender, sender.Out-1); len(all.Waiting) != 0 {
			t.Fatal(all)
		}
	}
}
