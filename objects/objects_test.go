package objects_test

import (
	"reflect"
	"slices"
	"strings"
	"testing"

	"firewall/api"
	"firewall/corpus"
	"firewall/lines"
	"firewall/load"
	"firewall/objects"
	"firewall/progs"
)

var (
	array = api.Map{Kind: api.MapArray, Key: 4, Value: 64, Max: 16}
	hash  = api.Map{Kind: api.MapHash, Key: 8, Value: 2, Max: 3}
)

func TestExamples(t *testing.T) {
	const file = "fw\x01\x01a\x03\x00\x00\x00"
	s, e := objects.Put(objects.Object{Name: "a", Layout: api.Layout{Packet: 3}})
	if s != file || e != api.OK {
		t.Errorf("%q, %v", s, e)
	}
	if p, pc, e := objects.Take(file); pc != 0 || e != api.ErrLong || !reflect.DeepEqual(p, load.Program{}) {
		t.Error(p, pc, e)
	}
	if o, e := objects.Get(""); e != api.ErrForm || !reflect.DeepEqual(o, objects.Object{}) {
		t.Error(o, e)
	}
	if s, e := objects.Put(objects.Object{}); s != "" || e != api.ErrArg {
		t.Error(s, e)
	}
}

func TestCheckAndPut(t *testing.T) {
	good := objects.Object{Name: "ab", Layout: api.Layout{Maps: []api.Map{array, hash}, Packet: 200}, Bytes: strings.Repeat("x", 300)}
	want := "fw\x01\x02ab\xc8\x02\x01\x04\x40\x10\x02\x08\x02\x03\x2c\x01" + good.Bytes
	if s, e := objects.Put(good); s != want || e != api.OK {
		t.Errorf("%q, %v", s, e)
	}
	for n, x := range []struct {
		f  func(o *objects.Object)
		ok bool
	}{
		{func(o *objects.Object) {}, true},
		{func(o *objects.Object) { o.Name = "" }, false}, {func(o *objects.Object) { o.Name = strings.Repeat("n", 32) }, true}, {func(o *objects.Object) { o.Name = strings.Repeat("n", 33) }, false}, {func(o *objects.Object) { o.Name = "\x00\xff" }, true},
		{func(o *objects.Object) { o.Layout.Packet = 0 }, true}, {func(o *objects.Object) { o.Layout.Packet = -1 }, false}, {func(o *objects.Object) { o.Layout.Packet = 201 }, false}, {func(o *objects.Object) { o.Layout.Packet = 256 }, false},
		{func(o *objects.Object) { o.Layout.Maps = nil }, true}, {func(o *objects.Object) { o.Layout.Maps = slices.Repeat(o.Layout.Maps, 2) }, true}, {func(o *objects.Object) { o.Layout.Maps = slices.Repeat(o.Layout.Maps, 3) }, false}, {func(o *objects.Object) { o.Layout.Maps = []api.Map{{}} }, false}, {func(o *objects.Object) { o.Layout.Maps = []api.Map{{Kind: 1, Key: 4, Value: 65, Max: 1}} }, false}, {func(o *objects.Object) { o.Layout.Maps = []api.Map{{Kind: 257, Key: 4, Value: 6, Max: 1}} }, false},
		{func(o *objects.Object) { o.Bytes = "" }, true}, {func(o *objects.Object) { o.Bytes = strings.Repeat("x", 512) }, true}, {func(o *objects.Object) { o.Bytes = strings.Repeat("x", 513) }, false}, {func(o *objects.Object) { o.Bytes = "1234567" }, true},
	} {
		o := good
		x.f(&o)
		e := objects.Check(o)
		s, f := objects.Put(o)
		if (e == api.OK) != x.ok || f != e || !x.ok && (e != api.ErrArg || s != "") {
			t.Errorf("%d: %v, %q, %v", n, e, s, f)
		}
		if !x.ok {
			continue
		}
		if g, e := objects.Get(s); e != api.OK || !objects.Same(g, o) {
			t.Errorf("%d: %v, %v", n, g, e)
		}
	}
}

func TestGetRefuses(t *testing.T) {
	const file = "fw\x01\x02ab\x03\x02\x01\x04\x40\x10\x02\x08\x02\x03\x04\x00wxyz"
	if o, e := objects.Get(file); e != api.OK || o.Name != "ab" || o.Layout.Packet != 3 || !slices.Equal(o.Layout.Maps, []api.Map{array, hash}) || o.Bytes != "wxyz" {
		t.Fatal(o, e)
	}
	refused := func(s string) {
		t.Helper()
		if o, e := objects.Get(s); e != api.ErrForm || !reflect.DeepEqual(o, objects.Object{}) {
			t.Errorf("Get(%q) = %v, %v", s, o, e)
		}
		if p, pc, e := objects.Take(s); e != api.ErrForm || pc != 0 || p.Slots != nil {
			t.Errorf("Take(%q) = %v, %d, %v", s, p, pc, e)
		}
	}
	for n := range len(file) {
		refused(file[:n])
	}
	refused(file + "\x00")
	refused(file + file)
	for at, b := range map[int]string{0: "F", 1: "W", 2: "\x02", 3: "\x00", 6: "\xc9", 7: "\x05", 8: "\x03", 9: "\x05", 10: "\x41", 11: "\x11", 13: "\x00", 14: "\x00", 15: "\x00", 17: "\x01"} {
		refused(file[:at] + b + file[at+1:])
	}
	refused("fw\x01\x21" + strings.Repeat("n", 33) + "\x00\x00\x00\x00")
	refused("fw\x01\x01a\x00\x00\x01\x02" + strings.Repeat("x", 513))
	refused("fw\x01\x00\x00\x00\x00\x00")
	if o, e := objects.Get("fw\x01\x01a\x00\x00\x00\x02" + strings.Repeat("x", 512)); e != api.OK || len(o.Bytes) != 512 {
		t.Error(e)
	}
}

// TestThereAndBack: what is got is put as it stood, whatever bytes these are.
func TestThereAndBack(t *testing.T) {
	seed := uint64(41)
	const file = "fw\x01\x02ab\x03\x02\x01\x04\x40\x10\x02\x08\x02\x03\x04\x00wxyz"
	got := 0
	for range 20000 {
		b := []byte(file)
		for range 1 + seed>>62 {
			seed = seed*6364136223846793005 + 1442695040888963407
			b[seed>>33%uint64(len(b))] = byte(seed>>50) >> (seed >> 40 & 7)
		}
		o, e := objects.Get(string(b))
		if e != api.OK {
			continue
		}
		got++
		if s, e := objects.Put(o); e != api.OK || s != string(b) {
			t.Fatalf("%q is got, and put as %q", b, s)
		}
	}
	if got < 1000 {
		t.Error(got)
	}
}

func TestSame(t *testing.T) {
	good := objects.Object{Name: "ab", Layout: api.Layout{Maps: []api.Map{array, hash}, Packet: 2}, Bytes: "xy"}
	for n, x := range []struct {
		f    func(o *objects.Object)
		want bool
	}{
		{func(o *objects.Object) {}, true}, {func(o *objects.Object) { o.Layout.Maps = []api.Map{array, hash} }, true}, {func(o *objects.Object) { o.Name = "a" }, false}, {func(o *objects.Object) { o.Bytes = "xz" }, false}, {func(o *objects.Object) { o.Layout.Packet = 3 }, false}, {func(o *objects.Object) { o.Layout.Maps = []api.Map{array} }, false}, {func(o *objects.Object) { o.Layout.Maps = []api.Map{hash, array} }, false},
	} {
		o := good
		x.f(&o)
		if objects.Same(good, o) != x.want || objects.Same(o, good) != x.want {
			t.Errorf("%d: %v", n, o)
		}
	}
	if !objects.Same(objects.Object{}, objects.Object{Layout: api.Layout{Maps: []api.Map{}}}) {
		t.Error("a list that is nil, and one that is empty")
	}
}

// TestTakeAndSave: what was taken in, saved, and taken in again, is the same program.
func TestTakeAndSave(t *testing.T) {
	for _, x := range corpus.All() {
		l, _, _ := lines.Read(x.Text)
		p, _, e := load.Load(progs.Encode(l), x.Layout)
		if e != api.OK {
			t.Fatal(x.Name, e)
		}
		s, e := objects.Save(x.Name, p)
		want, f := objects.Put(objects.Object{Name: x.Name, Layout: x.Layout, Bytes: progs.Encode(l)})
		if e != api.OK || f != api.OK || s != want {
			t.Errorf("%s: %q, %v, want %q, %v", x.Name, s, e, want, f)
		}
		q, pc, e := objects.Take(s)
		if e != api.OK || pc != 0 || !reflect.DeepEqual(p, q) {
			t.Errorf("%s: %v, %d, %v", x.Name, q, pc, e)
		}
	}
	if s, e := objects.Save("", load.Program{}); s != "" || e != api.ErrArg {
		t.Error(s, e)
	}
	if s, e := objects.Save("a", load.Program{Slots: make([]api.Insn, 65)}); s != "" || e != api.ErrArg {
		t.Error(len(s), e)
	}
	bad, _ := objects.Put(objects.Object{Name: "bad", Bytes: "\xb7\x00\x00\x00\x01\x00\x00\x00\x95\x00\x00\x00\x00\x00\x00\x00\x95\x00\x00\x00\x00\x00\x00\x00"})
	if p, pc, e := objects.Take(bad); pc != 2 || e != api.ErrReach || p.Slots != nil {
		t.Error(pc, e)
	}
}
