package sessions_test

import (
	"reflect"
	"slices"
	"strings"
	"testing"

	"firewall/api"
	"firewall/corpus"
	"firewall/lines"
	"firewall/load"
	"firewall/nums"
	"firewall/progs"
	"firewall/runs"
	"firewall/sessions"
)

const minus = 1<<64 - 1

var layout = api.Layout{
	Maps:   []api.Map{{Kind: api.MapArray, Key: 4, Value: 2, Max: 2}, {Kind: api.MapHash, Key: 8, Value: 8, Max: 3}},
	Packet: 4,
}

func loaded(t *testing.T, text string, m api.Layout) load.Program {
	t.Helper()
	l, line, e := lines.Read(strings.ReplaceAll(text, " / ", "\n"))
	if e != api.OK {
		t.Fatalf("%q: line %d, %v", text, line, e)
	}
	p, pc, e := load.Load(progs.Encode(l), m)
	if e != api.OK {
		t.Fatalf("%q: %v at %d", text, e, pc)
	}
	return p
}

// counter counts its runs in the array, and lays each mark into the hash, under a key that is drawn.
const counter = "mov64 r6 r1 / call 7 / stx8 r10 -8 r0 / ldx8 r7 r6 16 / stx8 r10 -16 r7 / st4 r10 -20 1 / mov64 r2 r10 / add64 r2 -20 / ldmap r1 0 / call 1 / jeq64 r0 0 +3 / ldx2 r7 r0 0 / add64 r7 1 / stx2 r0 0 r7 / mov64 r2 r10 / add64 r2 -8 / mov64 r3 r10 / add64 r3 -16 / mov64 r4 0 / ldmap r1 1 / call 2 / ldx8 r2 r6 0 / ldx8 r3 r6 8 / mov64 r4 r2 / add64 r4 4 / jgt64 r4 r3 +1 / st1 r2 3 65 / st8 r6 16 9 / exit"

func key(v uint64) string { return nums.Bytes(v, 8) }

func open(t *testing.T, p load.Program, entries [][]api.Entry) *sessions.Session {
	t.Helper()
	s, e := sessions.Open(p, entries)
	if e != api.OK || s == nil {
		t.Fatal(e)
	}
	return s
}

func TestExample(t *testing.T) {
	update := corpus.All()[12]
	s := open(t, loaded(t, update.Text, update.Layout), nil)
	five := [][]api.Entry{{{Key: key(5), Value: key(77)}}}
	for range 2 {
		if end, e := s.Run(sessions.Event{}); e != api.OK || end.Out.R0 != 0 || !reflect.DeepEqual(s.Maps(), five) || !reflect.DeepEqual(end.Left.Maps, five) {
			t.Error(end, e, s.Maps())
		}
	}
	if e := s.Delete(0, key(5)); e != api.OK || len(s.Maps()) != 1 || len(s.Maps()[0]) != 0 {
		t.Error(e, s.Maps())
	}
	if e := s.Delete(0, key(5)); e != api.ErrNone {
		t.Error(e)
	}
	if s.Many() != 2 {
		t.Error(s.Many())
	}
}

func TestOpen(t *testing.T) {
	p := loaded(t, counter, layout)
	array := func(a, b string) []api.Entry {
		return []api.Entry{{Key: "\x00\x00\x00\x00", Value: a}, {Key: "\x01\x00\x00\x00", Value: b}}
	}
	for n, x := range []struct {
		maps [][]api.Entry
		want [][]api.Entry
		e    api.Errno
	}{
		{nil, [][]api.Entry{array("\x00\x00", "\x00\x00"), nil}, api.OK},
		{[][]api.Entry{array("ab", "cd")[1:]}, [][]api.Entry{array("\x00\x00", "cd"), nil}, api.OK},
		{[][]api.Entry{nil, {{Key: key(2), Value: key(3)}, {Key: key(1), Value: key(4)}, {Key: key(2), Value: key(5)}}}, [][]api.Entry{array("\x00\x00", "\x00\x00"), {{Key: key(2), Value: key(5)}, {Key: key(1), Value: key(4)}}}, api.OK},
		{[][]api.Entry{array("a", "cd")}, nil, api.ErrArg}, {[][]api.Entry{nil, {{Key: "", Value: key(3)}}}, nil, api.ErrArg}, {[][]api.Entry{nil, nil, array("ab", "cd")}, nil, api.ErrArg},
		{[][]api.Entry{nil, {{Key: key(1), Value: key(3)}, {Key: key(2), Value: key(3)}, {Key: key(3), Value: key(3)}, {Key: key(4), Value: key(3)}}}, nil, api.ErrArg},
	} {
		s, e := sessions.Open(p, x.maps)
		if e != x.e || (s == nil) != (e != api.OK) {
			t.Fatalf("%d: %v, %v", n, s, e)
		}
		if e == api.OK && (!reflect.DeepEqual(s.Maps(), x.want) || s.Many() != 0) {
			t.Errorf("%d: %v, want %v", n, s.Maps(), x.want)
		}
	}
	for _, packet := range []int{-1, 201, 1 << 62, -1 << 63} {
		q := p
		q.Layout.Packet = packet
		if s, e := sessions.Open(q, nil); s != nil || e != api.ErrArg {
			t.Errorf("a packet of %d: %v", packet, e)
		}
	}
	if s, e := sessions.Open(load.Program{Layout: api.Layout{Maps: []api.Map{{}}}}, nil); s != nil || e != api.ErrArg {
		t.Error(e)
	}
}

func TestNone(t *testing.T) {
	for _, s := range []*sessions.Session{nil, {}} {
		if end, e := s.Run(sessions.Event{Packet: "abcd"}); e != api.ErrNil || !reflect.DeepEqual(end, runs.End{}) {
			t.Error(end, e)
		}
		if s.Update(0, "a", "b") != api.ErrNil || s.Delete(0, "a") != api.ErrNil || len(s.Maps()) != 0 || s.Many() != 0 || s.Copy() != nil {
			t.Error("of none something is told")
		}
	}
}

func TestRun(t *testing.T) {
	p := loaded(t, counter, layout)
	s := open(t, p, nil)
	event := sessions.Event{Packet: "abcd", Mark: 6, Draws: []uint64{30}}
	want, _ := runs.Code(p, api.Start{Packet: "abcd", Mark: 6, Draws: []uint64{30}, Maps: s.Maps()}, nil)
	end, e := s.Run(event)
	if e != api.OK || !reflect.DeepEqual(end, want) || end.Left.Packet != "abcA" || end.Left.Mark != 9 || !reflect.DeepEqual(s.Maps(), end.Left.Maps) {
		t.Error(end, want, e)
	}
	before := s.Maps()
	for n, x := range []sessions.Event{{Packet: "abc"}, {}, {Packet: "abcde"}, {Packet: "abcd", Draws: make([]uint64, 101)}} {
		if end, e := s.Run(x); e != api.ErrArg || !reflect.DeepEqual(end, runs.End{}) || s.Many() != 1 || !reflect.DeepEqual(s.Maps(), before) {
			t.Errorf("%d: %v, %v", n, end, e)
		}
	}
	for n := range 5 {
		event.Draws[0] = uint64(n)
		end, e = s.Run(event)
	}
	// The hash has room for three: the first draws stay, the others are refused.
	if e != api.OK || end.Out.R0 != minus-6 || s.Many() != 6 || s.Maps()[0][1].Value != "\x06\x00" || len(s.Maps()[1]) != 3 {
		t.Error(end, e, s.Maps())
	}
	q := p
	q.Code = "\xf7\xf3"
	bad := open(t, q, nil)
	if end, e := bad.Run(event); e != api.ErrDiv || bad.Many() != 0 || !reflect.DeepEqual(end, runs.End{}) {
		t.Error(end, e)
	}
}

func TestChanges(t *testing.T) {
	s := open(t, loaded(t, counter, layout), nil)
	for n, x := range []struct {
		e    api.Errno
		want api.Errno
	}{
		{s.Update(0, "\x01\x00\x00\x00", "xy"), api.OK}, {s.Update(0, "\x02\x00\x00\x00", "xy"), api.ErrNone}, {s.Update(0, "\x01", "xy"), api.ErrArg}, {s.Update(0, "\x01\x00\x00\x00", "x"), api.ErrArg}, {s.Update(2, "\x01\x00\x00\x00", "xy"), api.ErrArg}, {s.Update(-1, "\x01\x00\x00\x00", "xy"), api.ErrArg},
		{s.Update(1, key(1), key(1)), api.OK}, {s.Update(1, key(2), key(2)), api.OK}, {s.Update(1, key(3), key(3)), api.OK}, {s.Update(1, key(4), key(4)), api.ErrLong}, {s.Update(1, key(2), key(9)), api.OK},
		{s.Delete(0, "\x01\x00\x00\x00"), api.ErrArg}, {s.Delete(1, key(4)), api.ErrNone}, {s.Delete(1, "1"), api.ErrArg}, {s.Delete(7, key(1)), api.ErrArg}, {s.Delete(1, key(1)), api.OK}, {s.Delete(1, key(1)), api.ErrNone},
	} {
		if x.e != x.want {
			t.Errorf("%d: %v, want %v", n, x.e, x.want)
		}
	}
	want := [][]api.Entry{{{Key: "\x00\x00\x00\x00", Value: "\x00\x00"}, {Key: "\x01\x00\x00\x00", Value: "xy"}}, {{Key: key(2), Value: key(9)}, {Key: key(3), Value: key(3)}}}
	if !reflect.DeepEqual(s.Maps(), want) || s.Many() != 0 {
		t.Error(s.Maps())
	}
	// The entries are laid in order: what comes new then comes last.
	if e := s.Update(1, key(7), key(7)); e != api.OK || s.Maps()[1][2].Key != key(7) {
		t.Error(e, s.Maps())
	}
	if _, e := s.Run(sessions.Event{Packet: "abcd"}); e != api.OK || s.Maps()[0][1].Value != "yy" {
		t.Error("a run does not see what was laid:", e, s.Maps())
	}
}

func TestCopy(t *testing.T) {
	p := loaded(t, counter, layout)
	entries := [][]api.Entry{nil, {{Key: key(1), Value: key(1)}}}
	s := open(t, p, entries)
	entries[1][0].Value = key(9)
	s.Run(sessions.Event{Packet: "abcd", Draws: []uint64{50}})
	c := s.Copy()
	s.Run(sessions.Event{Packet: "abcd", Draws: []uint64{51}})
	c.Delete(1, key(1))
	if s.Many() != 2 || c.Many() != 1 || len(s.Maps()[1]) != 3 || len(c.Maps()[1]) != 1 || s.Maps()[1][0].Value != key(1) {
		t.Error(s.Maps(), c.Maps())
	}
	told := s.Maps()
	told[1][0].Key = ""
	end, _ := s.Run(sessions.Event{Packet: "abcd", Draws: []uint64{50}})
	end.Left.Maps[1][0].Key = ""
	if s.Maps()[1][0].Key != key(1) {
		t.Error("what is told is not the caller's own")
	}
	p.Slots[0].Op, p.Layout.Maps[0].Max = 0, 1
	if _, e := s.Run(sessions.Event{Packet: "abcd"}); e != api.OK {
		t.Error("the program that was handed in is looked at later:", e)
	}
}

// TestGoesOnAsTheInterpreter: run by run, with changes between.
func TestGoesOnAsTheInterpreter(t *testing.T) {
	for n, text := range []string{counter, "ldx8 r0 r1 16 / exit", "st8 r10 -8 2 / mov64 r2 r10 / add64 r2 -8 / ldmap r1 1 / call 3 / exit", "call 7 / and64 r0 3 / stx8 r10 -8 r0 / mov64 r2 r10 / add64 r2 -8 / ldmap r1 1 / call 1 / jeq64 r0 0 +3 / ldx8 r1 r0 0 / add64 r1 1 / stx8 r0 0 r1 / mov64 r0 1 / exit"} {
		p := loaded(t, text, layout)
		s := open(t, p, nil)
		entries := s.Maps()
		for i := range 60 {
			if i%5 == 3 {
				s.Update(1, key(uint64(i%4)), key(uint64(i)))
				s.Delete(1, key(uint64(i*7%4)))
				entries = s.Maps()
			}
			x := sessions.Event{Packet: "ab" + string([]byte{byte(i), byte(n)}), Mark: uint64(i) << 60, Draws: []uint64{uint64(i * i % 7), 3}}
			want, e := runs.Slots(p, api.Start{Packet: x.Packet, Mark: x.Mark, Draws: x.Draws, Maps: entries})
			end, f := s.Run(x)
			if e != api.OK || f != api.OK || !runs.Same(end, want) {
				t.Fatalf("%q, run %d: %v, %v, want %v, %v", text, i, end, f, want, e)
			}
			entries = want.Left.Maps
			if !slices.EqualFunc(entries, s.Maps(), slices.Equal) || s.Many() != i+1 {
				t.Fatalf("%q, run %d: %v, want %v", text, i, s.Maps(), entries)
			}
		}
	}
}
