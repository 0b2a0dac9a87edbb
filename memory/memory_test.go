package memory_test

import (
	"slices"
	"strings"
	"testing"

	"firewall/api"
	"firewall/memory"
	"firewall/nums"
)

func made(t *testing.T, l ...api.Region) *memory.Memory {
	t.Helper()
	m, e := memory.New(l)
	if e != api.OK || m == nil {
		t.Fatalf("New(%v): %v", l, e)
	}
	return m
}

func small(t *testing.T) *memory.Memory {
	return made(t, api.Region{Base: 18, Data: "\x03"}, api.Region{Base: 16, Data: "\x01\x02", Write: true})
}

func TestNew(t *testing.T) {
	top := uint64(1<<64 - 1)
	for _, x := range []struct {
		l []api.Region
		e api.Errno
	}{
		{nil, api.OK},
		{[]api.Region{{Base: 16, Data: "a"}, {Base: 16, Data: "b"}}, api.ErrArg},
		{[]api.Region{{Base: 16, Data: "abc"}, {Base: 18, Data: "b"}}, api.ErrArg},
		{[]api.Region{{Base: 18, Data: "b"}, {Base: 16, Data: "abc"}}, api.ErrArg},
		{[]api.Region{{Base: 18, Data: "b"}, {Base: 16, Data: "ab"}, {Base: 19, Data: "b"}}, api.OK},
		{[]api.Region{{Base: 10, Data: "abcdefghij"}, {Base: 12, Data: "b"}}, api.ErrArg},
		{[]api.Region{{Base: 10, Data: "abcdefghij"}, {Base: 30, Data: "b"}, {Base: 12, Data: "b"}}, api.ErrArg},
		{[]api.Region{{Base: 16}}, api.ErrArg},
		{[]api.Region{{Base: 16, Data: "a"}, {Base: 99}}, api.ErrArg},
		{[]api.Region{{Base: top, Data: "a"}}, api.ErrArg},
		{[]api.Region{{Base: top - 1, Data: "a"}}, api.OK},
		{[]api.Region{{Base: top - 1, Data: "ab"}}, api.ErrArg},
		{[]api.Region{{Base: top - 5, Data: "abcdefghijk"}}, api.ErrArg},
		{[]api.Region{{Base: 0, Data: "a"}}, api.OK},
	} {
		if m, e := memory.New(x.l); e != x.e || (m == nil) != (e != api.OK) {
			t.Errorf("New(%v): %v, %v", x.l, m, e)
		}
	}
}

func TestNone(t *testing.T) {
	for _, m := range []*memory.Memory{nil, {}} {
		if v, e := m.Read(16, 1); v != 0 || e != api.ErrNil {
			t.Error("Read", v, e)
		}
		if v, e := m.Read(16, 3); v != 0 || e != api.ErrNil {
			t.Error("Read of 3", v, e)
		}
		if e := m.Write(16, 1, 1); e != api.ErrNil {
			t.Error("Write", e)
		}
		if s, e := m.Text(16, 0); s != "" || e != api.ErrNil {
			t.Error("Text", s, e)
		}
		if len(m.Regions()) != 0 || m.Copy() != nil {
			t.Error("Regions, Copy")
		}
	}
	m := made(t)
	if _, e := m.Read(16, 1); e != api.ErrFault {
		t.Error("a memory without regions:", e)
	}
	if m.Copy() == nil {
		t.Error("a memory without regions has no copy")
	}
}

func TestReadAndWrite(t *testing.T) {
	m := small(t)
	for _, x := range []struct {
		addr uint64
		n    int
		v    uint64
		e    api.Errno
	}{
		{16, 2, 513, api.OK}, {18, 1, 3, api.OK}, {17, 1, 2, api.OK}, {16, 1, 1, api.OK},
		{17, 2, 0, api.ErrFault}, {16, 4, 0, api.ErrFault}, {16, 8, 0, api.ErrFault}, {15, 1, 0, api.ErrFault}, {15, 2, 0, api.ErrFault}, {19, 1, 0, api.ErrFault}, {0, 1, 0, api.ErrFault}, {1<<64 - 1, 1, 0, api.ErrFault}, {1<<64 - 1, 8, 0, api.ErrFault},
		{16, 3, 0, api.ErrArg}, {16, 0, 0, api.ErrArg}, {16, -1, 0, api.ErrArg}, {0, 3, 0, api.ErrArg}, {16, 16, 0, api.ErrArg}, {16, 1 << 60, 0, api.ErrArg},
	} {
		if v, e := m.Read(x.addr, x.n); v != x.v || e != x.e {
			t.Errorf("Read(%d, %d) = %d, %v", x.addr, x.n, v, e)
		}
		if e := m.Write(x.addr, x.n, x.v); e != x.e && !(x.addr == 18 && e == api.ErrRight) {
			t.Errorf("Write(%d, %d) = %v", x.addr, x.n, e)
		}
	}
	if e := m.Write(17, 1, 261); e != api.OK {
		t.Error(e)
	}
	if v, _ := m.Read(16, 2); v != 1281 {
		t.Error(v)
	}
	if e := m.Write(18, 1, 0); e != api.ErrRight {
		t.Error(e)
	}
	if v, _ := m.Read(18, 1); v != 3 {
		t.Error("what is refused is written:", v)
	}
}

func TestText(t *testing.T) {
	m := small(t)
	for _, x := range []struct {
		addr uint64
		n    int
		s    string
		e    api.Errno
	}{
		{16, 2, "\x01\x02", api.OK}, {16, 1, "\x01", api.OK}, {18, 1, "\x03", api.OK}, {5, 0, "", api.OK}, {16, 0, "", api.OK},
		{16, 3, "", api.ErrFault}, {5, 1, "", api.ErrFault}, {16, 1<<63 - 1, "", api.ErrFault}, {1<<64 - 1, 5, "", api.ErrFault}, {16, -1, "", api.ErrArg}, {5, -1 << 63, "", api.ErrArg},
	} {
		if s, e := m.Text(x.addr, x.n); s != x.s || e != x.e {
			t.Errorf("Text(%d, %d) = %q, %v", x.addr, x.n, s, e)
		}
	}
}

func TestRegionsAndCopy(t *testing.T) {
	m := small(t)
	c := m.Copy()
	m.Write(16, 1, 9)
	if r := m.Regions(); !slices.Equal(r, []api.Region{{Base: 16, Data: "\x09\x02", Write: true}, {Base: 18, Data: "\x03"}}) {
		t.Error(r)
	}
	if r := c.Regions(); !slices.Equal(r, []api.Region{{Base: 16, Data: "\x01\x02", Write: true}, {Base: 18, Data: "\x03"}}) {
		t.Error("the copy went along:", r)
	}
	c.Write(17, 1, 8)
	if v, _ := m.Read(17, 1); v != 2 {
		t.Error("the copy is not one of its own")
	}
	r := m.Regions()
	r[0] = api.Region{}
	if m.Regions()[0].Base != 16 {
		t.Error("the regions that are told are not the caller's own")
	}
}

// TestAgainstBytes holds a memory of many regions against an array of bytes.
func TestAgainstBytes(t *testing.T) {
	var l []api.Region
	const size = 400
	var want [size]int // -1: nothing is there
	var region [size]int
	for i := range want {
		want[i] = -1
	}
	for k, at := 0, 3; at < size-30; k++ {
		n := 1 + k*5%13
		l = append(l, api.Region{Base: uint64(at), Data: strings.Repeat(string(rune('a'+k%20)), n), Write: k%3 > 0})
		for i := range n {
			want[at+i], region[at+i] = 'a'+k%20, k
		}
		at += n + k%4
	}
	slices.Reverse(l)
	m := made(t, l...)
	slices.Reverse(l)
	seed := uint64(5)
	for step := range 20000 {
		seed = seed*6364136223846793005 + 1442695040888963407
		at, n, v := int(seed>>40)%(size-10), 1<<(seed>>30%4), seed>>3
		there := true
		for i := range n {
			there = there && want[at+i] >= 0 && region[at+i] == region[at]
		}
		text := ""
		for i := 0; there && i < n; i++ {
			text += string([]byte{byte(want[at+i])})
		}
		e := api.OK
		if !there {
			e = api.ErrFault
		}
		if r, f := m.Read(uint64(at), n); f != e || r != nums.Num(text) {
			t.Fatalf("step %d: Read(%d, %d) = %d, %v, want %q, %v", step, at, n, r, f, text, e)
		}
		if s, f := m.Text(uint64(at), n); f != e || s != text {
			t.Fatalf("step %d: Text(%d, %d) = %q, %v", step, at, n, s, f)
		}
		if there && !l[region[at]].Write {
			e = api.ErrRight
		}
		if f := m.Write(uint64(at), n, v); f != e {
			t.Fatalf("step %d: Write(%d, %d) = %v, want %v", step, at, n, f, e)
		}
		for i := 0; e == api.OK && i < n; i++ {
			want[at+i] = int(byte(v >> (8 * i)))
		}
	}
}
