package harbor

import (
	"slices"
	"testing"
)

// inside is an image of code on page 0 and data on page 2, with a byte each.
const inside = "HBR1\x00\x00\x02\x00" + "\x00\x01\x01\x00\x18\x00\x01\x00" + "\x02\x01\x03\x00\x19\x00\x01\x00" + "cd"

func loadInside(t *testing.T, m *Machine, leaf, draw int) int {
	t.Helper()
	manifest, _ := Sign("s", leaf, inside)
	id, e, at := m.Load(inside, manifest, draw)
	if e != OK || at != 0 {
		t.Fatalf("Load: %d, %d, %d", id, e, at)
	}
	return id
}

func newInside(t *testing.T) *Machine {
	t.Helper()
	root, _ := Root("s")
	m, e := New(root)
	if e != OK {
		t.Fatalf("New: %d", e)
	}
	return m
}

// A page's bytes are the memory's, and cannot grow into the next page.
func TestPageIsAPieceOfTheMemory(t *testing.T) {
	m := newInside(t)
	for page := range pageCount {
		bytes := m.bytesOf(page)
		if len(bytes) != pageSize || cap(bytes) != pageSize {
			t.Errorf("page %d: %d bytes, room for %d", page, len(bytes), cap(bytes))
		}
		_ = append(bytes, 255)
		for i := range bytes {
			bytes[i] = byte(page + i)
		}
	}
	for at, b := range m.memory {
		if want := byte(at/pageSize + at%pageSize); b != want {
			t.Errorf("place %d: %d, want %d", at, b, want)
		}
	}
}

// All pages that are taken for an image are cleared, and no others.
func TestTakenPagesAreCleared(t *testing.T) {
	m := newInside(t)
	for at := range m.memory {
		m.memory[at] = 255
	}
	loadInside(t, m, 0, 10)
	for at, b := range m.memory {
		want := byte(255)
		switch page := at / pageSize; {
		case at == 10*pageSize:
			want = 'c'
		case at == 12*pageSize:
			want = 'd'
		case page >= 9 && page <= 16:
			want = 0
		}
		if b != want {
			t.Errorf("place %d: %d, want %d", at, b, want)
		}
	}
}

// An image that is taken away leaves nothing: of its pages, of their bytes, of
// itself.
func TestGivenBackPagesAreCleared(t *testing.T) {
	m := newInside(t)
	id := loadInside(t, m, 0, 10)
	for at := range m.memory {
		m.Store(at, 7)
	}
	if stored := slices.Index(m.memory[:], 7); stored != 12*pageSize {
		t.Errorf("the first place that may be written is %d", stored)
	}
	m.Unload(id)
	empty := newInside(t)
	if m.memory != empty.memory || m.pages != empty.pages || len(m.images) != 0 {
		t.Errorf("left: %v, %v, %v", m.memory, m.pages, m.images)
	}
}

// Those of another image stay as they are.
func TestOthersPagesAreNotCleared(t *testing.T) {
	m := newInside(t)
	first := loadInside(t, m, 0, 10)
	loadInside(t, m, 1, 18)
	want := m.memory
	clear(want[9*pageSize : 17*pageSize])
	m.Unload(first)
	if m.memory != want {
		t.Errorf("%v, want %v", m.memory, want)
	}
}

// Code may be done all that may be done with constants, and be fetched.
func TestMayBeDone(t *testing.T) {
	for kind, want := range []int{0, 5, 1, 3, 1} {
		if perm := mayBeDone(kind); perm != want {
			t.Errorf("P12: kind %d: %d, want %d", kind, perm, want)
		}
	}
	if mayBeDone(kindCode) != mayBeDone(kindConstants)|mayFetch {
		t.Errorf("P12: code: %d", mayBeDone(kindCode))
	}
}
