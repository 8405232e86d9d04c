package harbor_test

import (
	"fmt"
	"math"
	"slices"
	"strings"
	"testing"

	"harbor/harbor"
)

// mixed is a cargo with each kind of segment, gaps between them and ahead, and
// moves: over a segment's bytes, behind them, across two pages, and one that
// goes beyond 65535.
func mixed() cargo {
	return cargo{
		entry:  33,
		shifts: []shift{{5*32 + 1, 7}, {6*32 - 1, 0x1234}, {9 * 32, 65535}, {9*32 + 30, 65535 - 32*9}},
		pieces: []piece{
			{1, 1, 1, "code"},
			{3, 1, 2, strings.Repeat("constant", 4)},
			{5, 2, 3, strings.Repeat("data", 9)},
			{9, 1, 4, "loaded"},
		},
	}
}

// draws are the edges, and their numbers modulo 64.
var draws = map[int]int{
	0: 0, 1: 1, 2: 2, 62: 62, 63: 63, 64: 0, 65: 1, 127: 63, 128: 0,
	-1: 63, -2: 62, -62: 2, -63: 1, -64: 0, -65: 63, -127: 1, -128: 0,
	math.MaxInt: 63, math.MaxInt - 60: 3, math.MinInt: 0, math.MinInt + 1: 1, math.MinInt + 7: 7,
	math.MaxInt32: 63, math.MinInt32: 0,
}

func TestP9Root(t *testing.T) {
	for _, n := range []int{0, 1, 31, 33, 64, 833, 1 << 20} {
		if m, e := harbor.New(strings.Repeat("r", n)); m != nil || e != harbor.ErrArg {
			t.Errorf("P9: a root of %d bytes: %v, %d", n, m, e)
		}
	}
	for _, root := range []string{strings.Repeat("\x00", 32), strings.Repeat("\xff", 32), strings.Repeat("é", 16), wantRoot(seed)} {
		m, e := harbor.New(root)
		if m == nil || e != harbor.OK {
			t.Fatalf("P9: New(%q) = %v, %d", root, m, e)
		}
		both{t, m, &model{}}.same("P9: a new machine")
	}
}

// Images are loaded by the root that the machine was made with alone.
func TestP9RootIsKept(t *testing.T) {
	image := mixed().image()
	for _, own := range []string{"s", "t", ""} {
		for _, other := range []string{"s", "t", ""} {
			m, _ := harbor.New(wantRoot(own))
			id, e, at := m.Load(image, wantManifest(other, 1, image), 0)
			want, wantID := harbor.ErrSign, 0
			if own == other {
				want, wantID = harbor.OK, 1
			}
			if id != wantID || e != want || at != 0 {
				t.Errorf("P10: signed by %q, the root of %q: %d, %d, %d", other, own, id, e, at)
			}
		}
	}
}

func TestP10EachLeafOnce(t *testing.T) {
	for leaf := range 4 {
		x := newBoth(t)
		x.loads(mixed(), leaf, 1, 1, harbor.OK)
		x.loads(mixed(), leaf, 1, 0, harbor.ErrSpent)
		x.loads(tiny(), leaf, 30, 0, harbor.ErrSpent)
		x.unload(1)
		x.loads(mixed(), leaf, 1, 0, harbor.ErrSpent)
		for other := range 4 {
			if other != leaf {
				x.loads(tiny(), other, 1, x.w.loads+1, harbor.OK)
				x.loads(tiny(), leaf, 1, 0, harbor.ErrSpent)
			}
		}
	}
}

// Numbers go on by one with each load that is not refused, whatever is taken
// away in between.
func TestP10Numbers(t *testing.T) {
	x := newBoth(t)
	for leaf := range 4 {
		x.refused("HBR2", "", 0, harbor.ErrImage, 3)
		x.refused(tiny().image(), "", 0, harbor.ErrSign, 0)
		x.loads(sized(32, 23), leaf, 0, 0, harbor.ErrFrames)
		x.loads(tiny(), leaf, 0, leaf+1, harbor.OK)
		x.unload(leaf + 1)
	}
}

func TestP10Images(t *testing.T) {
	x := newBoth(t)
	x.loads(tiny(), 3, 1, 1, harbor.OK)
	x.loads(tiny(), 1, 1, 2, harbor.OK)
	x.loads(tiny(), 2, 1, 3, harbor.OK)
	x.loads(tiny(), 0, 1, 0, harbor.ErrMany)
	x.unload(2)
	x.loads(tiny(), 0, 1, 4, harbor.OK)
	x.loads(tiny(), 1, 1, 0, harbor.ErrSpent)
}

func TestP10Frames(t *testing.T) {
	for pages := 1; pages <= 25; pages++ {
		x := newBoth(t)
		if pages <= 22 {
			x.loads(sized(32, pages), 0, 1, 1, harbor.OK)
		} else {
			x.loads(sized(32, pages), 0, 1, 0, harbor.ErrFrames)
		}
	}
	// Three images: pages of segments and stacks are counted, gaps are not.
	for _, c := range []struct {
		first, second, third cargo
		want                 harbor.Errno
	}{
		{sized(6, 6), sized(6, 6), sized(6, 6), harbor.OK},
		{sized(6, 6), sized(6, 6), sized(7, 7), harbor.ErrFrames},
		{sized(7, 7), sized(6, 6), sized(6, 6), harbor.ErrFrames},
		{sized(16, 16), sized(1, 1), sized(1, 1), harbor.OK},
		{sized(16, 16), sized(1, 1), sized(2, 2), harbor.ErrFrames},
		{sized(30, 1), sized(10, 1), sized(2, 2), harbor.OK},
		{mixed(), sized(3, 3), sized(12, 10), harbor.OK},
		{mixed(), sized(3, 3), sized(12, 11), harbor.ErrFrames},
	} {
		x := newBoth(t)
		x.loads(c.first, 0, 1, 1, harbor.OK)
		x.loads(c.second, 1, 1, 2, harbor.OK)
		if c.want == harbor.OK {
			x.loads(c.third, 2, 1, 3, harbor.OK)
			continue
		}
		x.loads(c.third, 2, 1, 0, c.want)
		x.unload(1)
		x.loads(c.third, 2, 1, 3, harbor.OK)
	}
}

// Pages that Protect has closed to writing are in use as before.
func TestP10FramesBehindProtect(t *testing.T) {
	x := newBoth(t)
	x.loads(sized(19, 19), 0, 1, 1, harbor.OK)
	for page := 1; page < 24; page++ {
		x.protect(page, 1)
	}
	x.loads(sized(2, 2), 1, 1, 0, harbor.ErrFrames)
	x.loads(sized(1, 1), 1, 1, 2, harbor.OK)
}

// full is a machine with three images of 24 pages, with the leaves 0 to 2, and
// no room beside them for a span of more than 9.
func full(t *testing.T) both {
	x := newBoth(t)
	x.loads(sized(14, 14), 0, 1, 1, harbor.OK)
	x.loads(sized(2, 2), 1, 29, 2, harbor.OK)
	x.loads(sized(2, 2), 2, 44, 3, harbor.OK)
	return x
}

// Of several errors the one named first is told.
func TestP10FirstOfSeveral(t *testing.T) {
	x := full(t)
	image, long := sized(13, 13).image(), sized(13, 13).image()+strings.Repeat("x", 300)
	for leaf := range 4 {
		other := wantManifest(seed, leaf, tiny().image())
		x.refused(long, "", 1, harbor.ErrLong, 0)
		x.refused(long, wantManifest(seed, leaf, long), 1, harbor.ErrLong, 0)
		for _, f := range flaws() {
			flawed := f.in(goodImage())
			x.refused(flawed, wantManifest(seed, leaf, flawed), leaf, harbor.ErrImage, f.at)
			x.refused(flawed, other, leaf, harbor.ErrImage, f.at)
		}
		x.refused("", "", leaf, harbor.ErrImage, 0)
		x.refused(goodImage()[:47], other, leaf, harbor.ErrImage, 47)
		x.refused(image, other, 1, harbor.ErrSign, 0)
		if leaf < 3 {
			x.loads(sized(13, 13), leaf, 1, 0, harbor.ErrSpent)
		}
	}
	x.loads(sized(13, 13), 3, 1, 0, harbor.ErrMany)
	x.loads(tiny(), 3, 1, 0, harbor.ErrMany)
	x.unload(2)
	x.loads(sized(32, 13), 2, 1, 0, harbor.ErrSpent)
	x.loads(sized(32, 3), 3, 1, 0, harbor.ErrFrames)
	x.loads(sized(32, 2), 3, 1, 0, harbor.ErrRoom)
	x.loads(sized(20, 2), 3, 1, 0, harbor.ErrRoom)
	x.loads(sized(19, 2), 2, 1, 0, harbor.ErrSpent)
	x.loads(sized(19, 2), 3, 1, 4, harbor.OK)
}

// What is no manifest of the image, in each way that Verify knows.
func TestP10Unsigned(t *testing.T) {
	x := newBoth(t)
	image := mixed().image()
	good := wantManifest(seed, 2, image)
	bad := []string{"", good[:1], good[:832], good[1:], good + "x", "\x02" + good, wantManifest("t", 2, image), strings.Repeat("\x00", 833)}
	for _, leaf := range []byte{0, 1, 3, 4, 5, 128, 255} {
		bad = append(bad, string([]byte{leaf})+good[1:])
	}
	for at := range good {
		bad = append(bad, changed(good, at, 1))
	}
	for _, manifest := range bad {
		if id, e, at := x.m.Load(image, manifest, 1); id != 0 || e != harbor.ErrSign || at != 0 {
			t.Fatalf("P10: Load with %d bytes that sign nothing: %d, %d, %d", len(manifest), id, e, at)
		}
	}
	x.same("behind loads that were not signed")
	x.loads(mixed(), 2, 1, 1, harbor.OK)
}

// A load that is refused spends no leaf.
func TestP10RefusedSpendsNothing(t *testing.T) {
	x := newBoth(t)
	image := tiny().image()
	x.refused("HBR1", wantManifest(seed, 0, "HBR1"), 1, harbor.ErrImage, 4)
	x.refused(image, changed(wantManifest(seed, 0, image), 40, 1), 1, harbor.ErrSign, 0)
	x.loads(sized(25, 25), 0, 1, 0, harbor.ErrFrames)
	x.loads(sized(30, 1), 1, 20, 1, harbor.OK)
	x.loads(sized(30, 1), 0, 1, 0, harbor.ErrRoom)
	x.loads(tiny(), 2, 1, 2, harbor.OK)
	x.loads(tiny(), 3, 1, 3, harbor.OK)
	x.loads(tiny(), 0, 1, 0, harbor.ErrMany)
	x.unload(3)
	x.loads(tiny(), 0, 1, 4, harbor.OK)
}

// In a machine with no page taken an image of any span stands at the draw, or
// at 1 where there is no room from there to the end.
func TestP11EveryDraw(t *testing.T) {
	for span := 1; span <= 32; span++ {
		for draw := range 64 {
			first := draw
			if draw == 0 || draw > 60-span {
				first = 1
			}
			newBoth(t).stands(sized(span, min(span, 1+draw%3)), draw%4, draw, first)
		}
	}
}

func TestP11DrawEdges(t *testing.T) {
	for draw, page := range draws {
		first := page
		if page == 0 || page > 59 {
			first = 1
		}
		newBoth(t).stands(tiny(), 0, draw, first)
	}
}

// With one image there, another stands at each page where there is room.
func TestP11BesideAnother(t *testing.T) {
	for _, first := range []int{1, 2, 5, 6, 7, 8, 30, 57, 58, 59} {
		for draw := range 64 {
			x := newBoth(t)
			x.stands(tiny(), 0, first, first)
			x.load(sized(3, 2), 1, draw)
		}
	}
	// The pages 9 to 14 are taken: another tiny one ends below 9, or begins
	// with its page ahead at 15.
	for draw, first := range map[int]int{3: 3, 4: 4, 5: 16, 9: 16, 10: 16, 14: 16, 15: 16, 16: 16, 17: 17, 59: 59, 60: 1, 0: 1} {
		x := newBoth(t)
		x.stands(tiny(), 0, 10, 10)
		x.stands(tiny(), 1, draw, first)
	}
}

// A hole between two images holds what fits, at its one page, and no more.
func TestP11Hole(t *testing.T) {
	for draw := range 64 {
		x := newBoth(t)
		x.stands(sized(20, 1), 0, 1, 1)   // pages 0 to 24
		x.stands(sized(28, 1), 1, 32, 32) // pages 31 to 63
		x.loads(sized(2, 1), 2, draw, 0, harbor.ErrRoom)
		x.stands(sized(1, 1), 2, draw, 26)
	}
}

func TestP12Laid(t *testing.T) {
	x := newBoth(t)
	x.stands(mixed(), 1, 20, 20)
	for page := range 64 {
		want := map[int]int{21: 5, 23: 1, 25: 3, 26: 3, 29: 1, 31: 3, 32: 3}[page]
		if p := x.m.Perm(page); p != want {
			t.Errorf("P12: Perm(%d) = %d, want %d", page, p, want)
		}
		taken := page >= 19 && page <= 33
		if e := x.m.Protect(page, 1); taken == (e == harbor.ErrNone) {
			t.Errorf("P12: Protect(%d, 1) = %d", page, e)
		}
	}
	data := []byte(strings.Repeat("data", 9) + strings.Repeat("\x00", 28))
	data[1], data[2] = 0x87, 0x02   // 7 + 640
	data[31], data[32] = 0xb4, 0x14 // 0x1234 + 640
	loaded := []byte("loaded" + strings.Repeat("\x00", 26))
	loaded[0], loaded[1] = 0x7f, 0x02   // 65535 + 640 - 65536
	loaded[30], loaded[31] = 0x5f, 0x01 // 65535 - 288 + 640 - 65536
	for _, c := range []struct {
		page int
		want string
	}{
		{21, "code" + strings.Repeat("\x00", 28)},
		{23, strings.Repeat("constant", 4)},
		{25, string(data)},
		{29, string(loaded)},
		{31, strings.Repeat("\x00", 64)},
	} {
		for i := range c.want {
			if b, e := x.m.Read(32*c.page + i); b != int(c.want[i]) || e != harbor.OK {
				t.Errorf("P12: Read(32 * %d + %d) = %d, %d, want %d", c.page, i, b, e, c.want[i])
			}
		}
	}
}

// Segments of every number of pages, kind and many sizes.
func TestP12Segments(t *testing.T) {
	bytes := strings.Repeat("0123456789abcdefghijklmnopqrstuvwxyz-", 8)
	for kind := 1; kind <= 4; kind++ {
		for pages := 1; pages <= 8; pages++ {
			for _, size := range []int{0, 1, 31, 32, 33, 63, 64, 65, 32*pages - 1, 32 * pages} {
				if size > 32*pages || 24+1+size > 300 {
					continue
				}
				x := newBoth(t)
				x.stands(cargo{pieces: []piece{{0, 1, 1, "c"}, {1 + pages%2, pages, kind, bytes[:size]}}}, 0, 11, 11)
			}
		}
	}
	x := newBoth(t)
	x.stands(cargo{entry: 31*32 + 255 - 7*32, pieces: []piece{{24, 8, 1, bytes[:256]}}}, 0, 28, 28)
}

// Bytes of the image that two segments share are laid twice.
func TestP12SharedBytes(t *testing.T) {
	image := build(2, []part{{0, 1, 1, 0, 25, 3}, {1, 1, 3, 0, 24, 4}}, nil, "xabcy")
	x := newBoth(t)
	if id, e, _ := x.m.Load(image, wantManifest(seed, 0, image), 5); id != 1 || e != harbor.OK {
		t.Fatalf("P10: %d, %d", id, e)
	}
	x.m.Store(6*32+1, 'z')
	for at, want := range map[int]int{160: 'a', 161: 'b', 162: 'c', 163: 0, 192: 'x', 193: 'z', 194: 'b', 195: 'c', 196: 0} {
		if b, e := x.m.Read(at); b != want || e != harbor.OK {
			t.Errorf("P12: Read(%d) = %d, %d, want %d", at, b, e, want)
		}
	}
}

func TestP12Moves(t *testing.T) {
	for _, number := range []int{0, 1, 255, 256, 32767, 65535, 65536 - 32, 65535 - 32, 65536 - 640, 65535 - 640} {
		for _, first := range []int{1, 2, 8, 20, 57} {
			for _, kind := range []int{3, 4} {
				x := newBoth(t)
				c := cargo{shifts: []shift{{32, number}, {63, 65535 - number}, {94, number ^ 255}}, pieces: []piece{{0, 1, 1, "c"}, {1, 2, kind, "bytes"}}}
				x.stands(c, 0, first, first)
				sum := (number + 32*first) % 65536
				low, _ := x.m.Read(32 * (first + 1))
				high, e := x.m.Read(32*(first+1) + 1)
				if low+256*high != sum || e != harbor.OK {
					t.Errorf("P12: %d moved to page %d: %d and %d, want %d", number, first, low, high, sum)
				}
			}
		}
	}
}

// Where an image stood and was written to, another one finds nothing of it.
func TestP12NothingLeft(t *testing.T) {
	x := newBoth(t)
	dirty := cargo{pieces: []piece{{0, 8, 1, strings.Repeat("d", 200)}, {8, 8, 3, "d"}}}
	x.stands(dirty, 0, 10, 10)
	for page := 18; page < 29; page++ {
		for i := range 32 {
			x.m.Store(32*page+i, 255)
			x.w.store(32*page+i, 255)
		}
		x.protect(page, 1)
	}
	x.unload(1)
	x.stands(cargo{pieces: []piece{{0, 3, 1, "c"}, {5, 2, 2, ""}, {7, 4, 3, ""}, {12, 1, 4, ""}}}, 1, 10, 10)
	x.unload(2)
	x.stands(cargo{entry: 256, pieces: []piece{{0, 8, 3, "x"}, {8, 8, 1, "c"}}}, 2, 10, 10)
}

func TestP13Start(t *testing.T) {
	x := newBoth(t)
	x.stands(mixed(), 0, 20, 20)
	x.stands(cargo{entry: 65, pieces: []piece{{2, 1, 1, "ab"}}}, 1, 40, 40)
	for _, c := range []struct {
		id, entry, end int
		want           harbor.Errno
	}{
		{1, 20*32 + 33, 33 * 32, harbor.OK}, {2, 40*32 + 65, 46 * 32, harbor.OK},
		{-1, 0, 0, harbor.ErrNone}, {0, 0, 0, harbor.ErrNone}, {3, 0, 0, harbor.ErrNone}, {4, 0, 0, harbor.ErrNone},
		{math.MaxInt, 0, 0, harbor.ErrNone}, {math.MinInt, 0, 0, harbor.ErrNone}, {1 << 32, 0, 0, harbor.ErrNone},
	} {
		if entry, end, e := x.m.Start(c.id); entry != c.entry || end != c.end || e != c.want {
			t.Errorf("P13: Start(%d) = %d, %d, %d, want %d, %d, %d", c.id, entry, end, e, c.entry, c.end, c.want)
		}
	}
	// The stack's last byte can be written, the one behind it cannot.
	if e, f := x.m.Store(33*32-1, 1), x.m.Store(33*32, 1); e != harbor.OK || f != harbor.ErrFault {
		t.Errorf("P13: Store beside the stack's end: %d, %d", e, f)
	}
}

func TestP13NoSuchImage(t *testing.T) {
	x := newBoth(t)
	ids := []int{-1, 0, 1, 2, 3, 64, math.MaxInt, math.MinInt, 1<<32 + 1}
	for _, id := range ids {
		x.unload(id)
	}
	x.stands(mixed(), 0, 20, 20)
	for _, id := range ids {
		if id != 1 {
			x.unload(id)
		}
	}
	x.unload(1)
	x.unload(1)
}

// Three images are taken away in every order, and others laid where each stood.
func TestP13EveryOrder(t *testing.T) {
	for _, order := range [][]int{{1, 2, 3}, {1, 3, 2}, {2, 1, 3}, {2, 3, 1}, {3, 1, 2}, {3, 2, 1}} {
		x := newBoth(t)
		x.stands(sized(3, 3), 3, 10, 10) // pages 9 to 16
		x.stands(sized(3, 2), 2, 18, 18) // pages 17 to 24
		x.stands(sized(3, 1), 1, 26, 26) // pages 25 to 32
		for page := range 64 {
			x.protect(page, 1+2*(page%2))
		}
		x.unload(order[0])
		x.stands(cargo{pieces: []piece{{0, 1, 1, "n"}, {1, 2, 3, "new"}}}, 0, 2+8*order[0], 2+8*order[0])
		for _, id := range append(order[1:], 4) {
			x.unload(id)
			x.unload(id)
		}
		differ(t, "P13: all taken away", look(x.m), look(newBoth(t).m))
	}
}

func TestP14Protect(t *testing.T) {
	x := newBoth(t)
	x.stands(mixed(), 0, 20, 20)
	pages := []int{math.MinInt, -65, -64, math.MaxInt, 1 << 32, 1<<32 + 25}
	for page := -1; page <= 64; page++ {
		pages = append(pages, page)
	}
	perms := []int{math.MinInt, math.MaxInt, 1 << 32, 1<<32 + 1, 257}
	for perm := -1; perm <= 8; perm++ {
		perms = append(perms, perm)
	}
	for _, page := range pages {
		for _, perm := range perms {
			x.protect(page, perm)
		}
	}
}

func TestP14Errors(t *testing.T) {
	x := newBoth(t)
	x.stands(mixed(), 0, 20, 20)
	for _, c := range []struct {
		page, perm int
		want       harbor.Errno
	}{
		{-1, 1, harbor.ErrArg}, {64, 3, harbor.ErrArg}, {-1, 9, harbor.ErrArg},
		{0, 2, harbor.ErrArg}, {21, 5, harbor.ErrArg}, {25, 2, harbor.ErrArg}, {25, 7, harbor.ErrArg}, {31, 0, harbor.ErrArg},
		{0, 1, harbor.ErrNone}, {18, 3, harbor.ErrNone}, {34, 1, harbor.ErrNone}, {63, 1, harbor.ErrNone},
		{19, 1, harbor.ErrPolicy}, {20, 3, harbor.ErrPolicy}, {21, 1, harbor.ErrPolicy}, {21, 3, harbor.ErrPolicy},
		{22, 1, harbor.ErrPolicy}, {23, 1, harbor.ErrPolicy}, {23, 3, harbor.ErrPolicy}, {24, 1, harbor.ErrPolicy},
		{27, 1, harbor.ErrPolicy}, {29, 1, harbor.ErrPolicy}, {29, 3, harbor.ErrPolicy}, {30, 3, harbor.ErrPolicy}, {33, 3, harbor.ErrPolicy},
		{25, 1, harbor.OK}, {26, 1, harbor.OK}, {26, 3, harbor.OK}, {31, 1, harbor.OK}, {32, 1, harbor.OK}, {32, 3, harbor.OK},
	} {
		if e := x.m.Protect(c.page, c.perm); e != c.want {
			t.Errorf("P14: Protect(%d, %d) = %d, want %d", c.page, c.perm, e, c.want)
		}
	}
	for page, want := range map[int]int{-1: -1, 64: -1, math.MinInt: -1, math.MaxInt: -1, 0: 0, 63: 0, 19: 0, 20: 0, 21: 5, 23: 1, 25: 1, 26: 3, 29: 1, 31: 1, 32: 3} {
		if p := x.m.Perm(page); p != want {
			t.Errorf("P14: Perm(%d) = %d, want %d", page, p, want)
		}
	}
}

// What Protect closes cannot be written, keeps its bytes, and can be opened.
func TestP14ClosedAndOpened(t *testing.T) {
	x := newBoth(t)
	x.stands(mixed(), 0, 20, 20)
	for _, page := range []int{25, 26, 31, 32} {
		x.store(32*page+31, 77)
		x.protect(page, 1)
		x.store(32*page+31, 78)
		x.store(32*page, 78)
		x.protect(page, 3)
		x.store(32*page, 79)
	}
}

func TestP15Places(t *testing.T) {
	empty, loaded := newBoth(t), newBoth(t)
	loaded.stands(tiny(), 0, 1, 1)
	loaded.stands(tiny(), 1, 59, 59)
	places := []int{-1, 0, 1, 31, 32, 63, 64, 95, 96, 127, 128, 2015, 2016, 2047, 2048, 2049, -2048, 1 << 32, 1<<32 + 96, math.MaxInt, math.MinInt}
	worths := []int{-1, 0, 1, 255, 256, 257, -256, 1 << 32, math.MaxInt, math.MinInt}
	for _, x := range []both{empty, loaded} {
		for _, at := range places {
			b, e := x.m.Read(at)
			f, g := x.m.Fetch(at)
			if r, c := x.w.get(at, 1), x.w.get(at, 4); r != (answer{b, e}) || c != (answer{f, g}) {
				t.Errorf("P15: place %d: Read %d, %d, want %v; Fetch %d, %d, want %v", at, b, e, r, f, g, c)
			}
			for _, b := range worths {
				x.store(at, b)
			}
		}
	}
}

func TestP15Errors(t *testing.T) {
	x := newBoth(t)
	x.stands(mixed(), 0, 20, 20)
	for _, c := range []struct {
		at, b int
		want  harbor.Errno
	}{
		{-1, 0, harbor.ErrArg}, {2048, 0, harbor.ErrArg}, {800, -1, harbor.ErrArg}, {800, 256, harbor.ErrArg}, {-1, 256, harbor.ErrArg},
		{0, -1, harbor.ErrArg}, {0, 256, harbor.ErrArg}, {2047, 256, harbor.ErrArg}, {21 * 32, 256, harbor.ErrArg},
		{0, 0, harbor.ErrFault}, {2047, 255, harbor.ErrFault}, {20 * 32, 1, harbor.ErrFault}, {21 * 32, 1, harbor.ErrFault},
		{23 * 32, 1, harbor.ErrFault}, {25*32 - 1, 1, harbor.ErrFault}, {27 * 32, 1, harbor.ErrFault}, {29 * 32, 1, harbor.ErrFault},
		{31*32 - 1, 1, harbor.ErrFault}, {33 * 32, 1, harbor.ErrFault},
		{25 * 32, 0, harbor.OK}, {27*32 - 1, 255, harbor.OK}, {31 * 32, 255, harbor.OK}, {33*32 - 1, 1, harbor.OK},
	} {
		if e := x.m.Store(c.at, c.b); e != c.want {
			t.Errorf("P15: Store(%d, %d) = %d, want %d", c.at, c.b, e, c.want)
		}
	}
	for _, c := range []struct {
		at          int
		read, fetch answer
	}{
		{-1, answer{0, harbor.ErrArg}, answer{0, harbor.ErrArg}},
		{2048, answer{0, harbor.ErrArg}, answer{0, harbor.ErrArg}},
		{20 * 32, answer{0, harbor.ErrFault}, answer{0, harbor.ErrFault}},
		{21*32 + 1, answer{'o', harbor.OK}, answer{'o', harbor.OK}},
		{22*32 - 1, answer{0, harbor.OK}, answer{0, harbor.OK}},
		{23 * 32, answer{'c', harbor.OK}, answer{0, harbor.ErrFault}},
		{27*32 - 1, answer{255, harbor.OK}, answer{0, harbor.ErrFault}},
		{29*32 + 2, answer{'a', harbor.OK}, answer{0, harbor.ErrFault}},
		{31 * 32, answer{255, harbor.OK}, answer{0, harbor.ErrFault}},
	} {
		b, e := x.m.Read(c.at)
		f, g := x.m.Fetch(c.at)
		if c.read != (answer{b, e}) || c.fetch != (answer{f, g}) {
			t.Errorf("P15: place %d: Read %d, %d, want %v; Fetch %d, %d, want %v", c.at, b, e, c.read, f, g, c.fetch)
		}
	}
}

// Each byte that may be stored stands there, and nowhere else.
func TestP15EveryByte(t *testing.T) {
	x := newBoth(t)
	x.stands(mixed(), 0, 20, 20)
	for b := range 256 {
		x.store(25*32+b%64, b)
		x.store(31*32+(b*7)%64, 255-b)
	}
}

// No call panics at any numbers, and what is refused answers 0 and changes
// nothing.
func TestP1AnyNumbers(t *testing.T) {
	x := full(t)
	before := look(x.m)
	edges := []int{math.MinInt, math.MinInt + 1, math.MinInt32, -65536, -2049, -2048, -64, -32, -1, 2048, 65536, 1 << 31, 1 << 32, math.MaxInt - 1, math.MaxInt}
	for _, n := range edges {
		entry, end, e := x.m.Start(n)
		b, f := x.m.Read(n)
		c, g := x.m.Fetch(n)
		zeros := []int{entry, end, b, c}
		if !slices.Equal(zeros, []int{0, 0, 0, 0}) {
			t.Errorf("P1: %d: %v beside %d, %d, %d", n, zeros, e, f, g)
		}
		x.unload(n)
		for _, other := range edges {
			x.protect(n, other)
			x.store(n, other)
		}
		x.refused(tiny().image(), "", n, harbor.ErrSign, 0)
		x.loads(tiny(), 3, n, 0, harbor.ErrMany)
		x.loads(tiny(), 2, n, 0, harbor.ErrSpent)
	}
	differ(t, "P1: behind refused calls", look(x.m), before)
}

// Strings of all kinds, as an image and as a manifest.
func TestP1AnyTexts(t *testing.T) {
	x := full(t)
	good := tiny().image()
	for i, text := range texts() {
		id, e, at := x.m.Load(text, signedManifest, i)
		want, wantAt := harbor.Vet(text)
		if want == harbor.OK {
			want = harbor.ErrSign
		}
		if id != 0 || e != want || at != wantAt {
			t.Fatalf("P10: Load(%.20q, %d bytes) = %d, %d, %d, want 0, %d, %d", text, len(text), id, e, at, want, wantAt)
		}
		if id, e, at := x.m.Load(good, text, i); id != 0 || e != harbor.ErrSign || at != 0 {
			t.Fatalf("P10: Load with the manifest %.20q, %d bytes: %d, %d, %d", text, len(text), id, e, at)
		}
	}
	x.same("behind texts of all kinds")
}

// Calls that end at a length make nothing, however long the text is.
func TestP1LengthAheadOfLoading(t *testing.T) {
	x := newBoth(t)
	long := strings.Repeat("HBR1", 1<<20)
	made := testing.AllocsPerRun(10, func() {
		if m, e := harbor.New(long); m != nil || e != harbor.ErrArg {
			t.Errorf("P9: New: %v, %d", m, e)
		}
		if id, e, at := x.m.Load(long, long, 1); id != 0 || e != harbor.ErrLong || at != 0 {
			t.Errorf("P10: Load: %d, %d, %d", id, e, at)
		}
	})
	if made != 0 {
		t.Errorf("P1: %v things made for texts that are too long", made)
	}
}

// What is done with one machine is not seen in another one.
func TestP2MachinesShareNothing(t *testing.T) {
	first, second := newBoth(t), newBoth(t)
	for leaf := range 3 {
		first.stands(mixed2(leaf), leaf, 15*leaf+1, 15*leaf+1)
		second.same("P2: the other machine")
	}
	for leaf := range 3 {
		second.stands(mixed2(2-leaf), leaf, 15*leaf+2, 15*leaf+2)
		first.same("P2: the other machine")
	}
	first.store(32*2+5, 9)
	second.same("P2: the other machine")
	first.protect(2, 1)
	second.same("P2: the other machine")
	first.unload(1)
	second.same("P2: the other machine")
	second.unload(2)
	first.same("P2: the other machine")
}

// mixed2 is a cargo of code and two pages of data, which tell its number.
func mixed2(number int) cargo {
	return cargo{shifts: []shift{{40, number}}, pieces: []piece{{0, 1, 1, fmt.Sprint("code ", number)}, {1, 2, 3, fmt.Sprint("data ", number)}}}
}
