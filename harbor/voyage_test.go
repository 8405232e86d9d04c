package harbor_test

import (
	"fmt"
	"math"
	"math/rand/v2"
	"slices"
	"strings"
	"testing"

	"harbor/harbor"
)

// Long sequences of calls, which are the same each time the tests are run:
// behind each call all that can be seen is held against the model, and P16
// against what can be seen.

// text is bytes none of which is 0, so that they are not taken for a gap.
func text(r *rand.Rand, n int) string {
	b := make([]byte, n)
	for i := range b {
		b[i] = byte(1 + r.IntN(255))
	}
	return string(b)
}

// anyCargo is an image with code, and anything else that an image may have.
func anyCargo(r *rand.Rand) cargo {
	var c cargo
	count, room := 1+r.IntN(4), 244
	code := r.IntN(count)
	page := 0
	for i := range count {
		page += max(0, r.IntN(5)-2)
		p := piece{page: page, pages: 1 + r.IntN(1+r.IntN(4)), kind: 1 + r.IntN(4)}
		least := 0
		if i == code {
			p.kind, least = 1, 1
		}
		p.bytes = text(r, least+r.IntN(min(32*p.pages, room-count)))
		room -= len(p.bytes)
		if i == code {
			c.entry = 32*p.page + r.IntN(len(p.bytes))
		}
		c.pieces = append(c.pieces, p)
		page += p.pages
	}
	c.shifts = anyShifts(r, c.pieces)
	return c
}

func anyShifts(r *rand.Rand, pieces []piece) []shift {
	var list []shift
	next := 0
	for _, p := range pieces {
		for p.kind >= 3 && len(list) < 4 && r.IntN(3) > 0 {
			place := max(next, 32*p.page) + r.IntN(32*p.pages)
			if place+2 > 32*(p.page+p.pages) {
				break
			}
			list = append(list, shift{place, []int{0, 65535, 65000, r.IntN(65536)}[r.IntN(4)]})
			next = place + 2
		}
	}
	return list
}

func anyDraw(r *rand.Rand) int {
	edges := []int{-1, 0, 1, 63, 64, math.MaxInt, math.MinInt}
	if r.IntN(3) == 0 {
		return edges[r.IntN(len(edges))]
	}
	return int(r.Uint64())
}

// page is most often one with which something may be done.
func (x both) page(r *rand.Rand) int {
	var used []int
	for page := range 64 {
		if x.w.perm(page) != 0 {
			used = append(used, page)
		}
	}
	if len(used) > 0 && r.IntN(4) > 0 {
		return used[r.IntN(len(used))]
	}
	return r.IntN(68) - 2
}

// refuseAny asks for a load that is refused for its image or its signature.
func (x both) refuseAny(r *rand.Rand) {
	image, leaf := anyCargo(r).image(), r.IntN(4)
	switch r.IntN(4) {
	case 0:
		long := image + strings.Repeat("x", 301-len(image)+r.IntN(3))
		x.refused(long, wantManifest(seed, leaf, long), anyDraw(r), harbor.ErrLong, 0)
	case 1:
		flawed := changed(image, r.IntN(len(image)), byte(1+r.IntN(255)))
		if at := expect(flawed); at != fine {
			x.refused(flawed, wantManifest(seed, leaf, flawed), anyDraw(r), harbor.ErrImage, at)
		}
	case 2:
		manifest := changed(wantManifest(seed, leaf, image), r.IntN(833), byte(1+r.IntN(255)))
		x.refused(image, manifest, anyDraw(r), harbor.ErrSign, 0)
	case 3:
		x.refused(image, wantManifest("t", leaf, image), anyDraw(r), harbor.ErrSign, 0)
	}
}

// step does one thing with the machine, and tells what it did and the error.
func (x both) step(r *rand.Rand) (string, harbor.Errno) {
	switch n := r.IntN(20); {
	case n < 4:
		c := anyCargo(r)
		if r.IntN(8) == 0 {
			span := 1 + r.IntN(32)
			c = sized(span, 1+r.IntN(min(span, 25)))
		}
		_, e := x.load(c, r.IntN(4), anyDraw(r))
		return "load", e
	case n < 5:
		x.refuseAny(r)
		return "refused", harbor.OK
	case n < 7:
		return "unload", x.unload(r.IntN(7) - 1)
	case n < 12:
		return "protect", x.protect(x.page(r), []int{1, 3, 1, 3, r.IntN(10) - 1}[r.IntN(5)])
	default:
		at := 32*x.page(r) + r.IntN(32)
		return "store", x.store(at, []int{r.IntN(256), r.IntN(256), r.IntN(260) - 2}[r.IntN(3)])
	}
}

func TestP16Voyages(t *testing.T) {
	type deed struct {
		what string
		e    harbor.Errno
	}
	met := map[deed]int{}
	for voyage := range uint64(400) {
		r := rand.New(rand.NewPCG(voyage, 16))
		x := newBoth(t)
		for range 40 {
			what, e := x.step(r)
			met[deed{what, e}]++
		}
	}
	for _, d := range []deed{
		{"load", harbor.OK}, {"load", harbor.ErrSpent}, {"load", harbor.ErrMany}, {"load", harbor.ErrFrames}, {"load", harbor.ErrRoom},
		{"refused", harbor.OK}, {"unload", harbor.OK}, {"unload", harbor.ErrNone},
		{"protect", harbor.OK}, {"protect", harbor.ErrArg}, {"protect", harbor.ErrNone}, {"protect", harbor.ErrPolicy},
		{"store", harbor.OK}, {"store", harbor.ErrArg}, {"store", harbor.ErrFault},
	} {
		if met[d] < 5 {
			t.Errorf("the voyages met %v %d times", d, met[d])
		}
	}
}

// voyage is a sequence of calls, and all that could be seen behind each.
func voyage(t *testing.T, number uint64) []view {
	r := rand.New(rand.NewPCG(number, 2))
	x := newBoth(t)
	var seen []view
	for range 30 {
		x.step(r)
		seen = append(seen, *look(x.m))
	}
	return seen
}

// A machine answers the same to the same calls, alone or while others are used.
func TestP2Voyages(t *testing.T) {
	for i := range uint64(8) {
		alone := voyage(t, i)
		t.Run(fmt.Sprint(i), func(t *testing.T) {
			t.Parallel()
			if !slices.Equal(voyage(t, i), alone) {
				t.Errorf("P2: voyage %d is another one while others are made", i)
			}
		})
	}
}
