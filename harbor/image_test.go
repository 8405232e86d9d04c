package harbor_test

import (
	"strings"
	"testing"

	"harbor/harbor"
)

// part is a segment as it stands in an image.
type part struct{ page, pages, kind, zero, begin, size int }

// shift is a move as it stands in an image.
type shift struct{ place, number int }

func two(n int) string { return string([]byte{byte(n), byte(n >> 8)}) }

// build lays an image out, with what is told of it right or wrong.
func build(entry int, parts []part, shifts []shift, body string) string {
	image := "HBR1" + two(entry) + string([]byte{byte(len(parts)), byte(len(shifts))})
	for _, p := range parts {
		image += string([]byte{byte(p.page), byte(p.pages), byte(p.kind), byte(p.zero)}) + two(p.begin) + two(p.size)
	}
	for _, s := range shifts {
		image += two(s.place) + two(s.number)
	}
	return image + body
}

// goodImage has code, constants, data and what is written while it is loaded,
// and a move in each of the last two.
func goodImage() string {
	const body = 48
	return build(33, []part{
		{1, 1, 1, 0, body, 4},
		{3, 2, 2, 0, body + 1, 3},
		{5, 1, 3, 0, body + 4, 2},
		{6, 1, 4, 0, body + 6, 0},
	}, []shift{{5*32 + 3, 7}, {6*32 + 30, 65535}}, "abcdef")
}

// one is an image of one segment, with its bytes as the whole body.
func one(p part, body string) string { return build(p.page*32, []part{p}, nil, body) }

func check(t *testing.T, what, image string, at int) {
	t.Helper()
	want := harbor.ErrImage
	if at < 0 {
		want, at = harbor.OK, 0
	}
	if e, got := harbor.Vet(image); e != want || got != at {
		t.Errorf("%s: Vet(%q) = %d, %d, want %d, %d", what, image, e, got, want, at)
	}
}

const fine = -1 // the place of nothing wrong, for check

func TestP7Good(t *testing.T) {
	check(t, "good", goodImage(), fine)
	check(t, "anything behind", goodImage()+"\xff\x00more", fine)
	check(t, "one byte", one(part{0, 1, 1, 0, 16, 1}, "x"), fine)
	check(t, "bytes that are shared", build(0, []part{{0, 1, 1, 0, 24, 2}, {1, 1, 2, 0, 24, 2}}, nil, "xy"), fine)
}

func TestP7Length(t *testing.T) {
	good := goodImage()
	check(t, "MaxImage", good+strings.Repeat("x", 300-len(good)), fine)
	check(t, "MaxImage, none", strings.Repeat("x", 300), 0)
	for _, n := range []int{301, 302, 512, 1 << 16} {
		for _, start := range []string{good, "", "HBR1\x00\x00\x09\x09"} {
			long := start + strings.Repeat("x", n-len(start))
			if e, at := harbor.Vet(long); e != harbor.ErrLong || at != 0 {
				t.Errorf("P7: %d bytes: %d, %d", n, e, at)
			}
		}
	}
}

func TestP8Head(t *testing.T) {
	good := goodImage()
	for i := range 4 {
		for _, b := range []string{"\x00", "h", "2", "\xff"} {
			check(t, "another byte", good[:i]+b+good[i+1:], i)
			check(t, "another byte, the last", good[:i]+b, i)
		}
	}
	check(t, "nothing", "", 0)
	for n := range 8 {
		check(t, "head cut", good[:n], n)
	}
	code := part{0, 1, 1, 0, 16, 1}
	parts := []part{{0, 1, 1, 0, 0, 1}, {1, 1, 2, 0, 0, 0}, {2, 1, 3, 0, 0, 0}, {3, 1, 4, 0, 0, 0}, {4, 1, 2, 0, 0, 0}}
	for n, at := range []int{6, fine, fine, fine, fine, 6} {
		some := append([]part{}, parts[:n]...)
		for i := range some {
			some[i].begin = 8 + 8*n
		}
		check(t, "how many segments", build(0, some, nil, "x"), at)
	}
	check(t, "255 segments", "HBR1\x00\x00\xff\x00"+strings.Repeat("\x00", 200), 6)
	shifts := []shift{{32, 1}, {34, 2}, {36, 3}, {38, 4}, {40, 5}}
	for n, at := range []int{fine, fine, fine, fine, fine, 7} {
		begin := 24 + 4*n
		code.begin = begin
		check(t, "how many moves", build(0, []part{code, {1, 1, 3, 0, begin, 0}}, shifts[:n], "x"), at)
	}
	check(t, "255 moves", "HBR1\x00\x00\x01\xff"+strings.Repeat("\x00", 200), 7)
}

// Cut anywhere ahead of the body, the length is told; within it, how many bytes
// the first segment has that is cut.
func TestP8Cut(t *testing.T) {
	good := goodImage()
	for n := range 48 {
		check(t, "cut", good[:n], n)
	}
	for _, n := range []int{48, 49, 50, 51} {
		check(t, "code cut", good[:n], 14)
	}
	for _, n := range []int{52, 53} {
		check(t, "data cut", good[:n], 30)
	}
	check(t, "whole", good[:54], fine)
}

func TestP8Pages(t *testing.T) {
	for _, c := range []struct{ page, pages, at int }{
		{0, 1, fine}, {0, 8, fine}, {31, 1, fine}, {24, 8, fine}, {30, 2, fine},
		{32, 1, 8}, {33, 1, 8}, {255, 1, 8}, {32, 0, 8}, {255, 255, 8},
		{0, 0, 9}, {0, 9, 9}, {0, 255, 9}, {31, 2, 9}, {25, 8, 9}, {30, 3, 9}, {31, 0, 9},
	} {
		check(t, "page and pages", one(part{c.page, c.pages, 1, 0, 16, 1}, "x"), c.at)
	}
	for _, c := range []struct{ firstPages, page, at int }{
		{1, 0, 16}, {1, 1, fine}, {1, 2, fine}, {3, 2, 16}, {3, 3, fine}, {8, 7, 16}, {8, 8, fine}, {1, 31, fine}, {1, 32, 16},
	} {
		image := build(0, []part{{0, c.firstPages, 1, 0, 24, 1}, {c.page, 1, 2, 0, 24, 0}}, nil, "x")
		check(t, "page behind another", image, c.at)
	}
	image := build(0, []part{{0, 1, 1, 0, 32, 1}, {5, 2, 2, 0, 32, 0}, {1, 1, 2, 0, 32, 0}}, nil, "x")
	check(t, "page in a gap ahead", image, 24)
}

func TestP8KindAndZero(t *testing.T) {
	for kind := range 256 {
		at := fine
		if kind < 1 || kind > 4 {
			at = 18
		}
		check(t, "kind", build(0, []part{{0, 1, 1, 0, 24, 1}, {1, 1, kind, 0, 24, 1}}, nil, "x"), at)
	}
	for zero := 1; zero < 256; zero++ {
		check(t, "the byte behind", one(part{0, 1, 1, zero, 16, 1}, "x"), 11)
	}
}

func TestP8Bytes(t *testing.T) {
	for _, c := range []struct{ begin, size, at int }{
		{16, 1, fine}, {16, 100 - 16, 14}, {16, 32, fine}, {16, 33, 14}, {16, 0x0101, 14}, {16, 65535, 14},
		{15, 1, 12}, {0, 1, 12}, {15, 65535, 12},
		{68, 32, fine}, {69, 32, 14}, {99, 1, fine}, {99, 2, 14}, {100, 1, 14},
		{101, 0, 12}, {0x0110, 1, 12}, {65535, 1, 12}, {65535, 65535, 12},
	} {
		check(t, "begin and size", one(part{0, 1, 1, 0, c.begin, c.size}, strings.Repeat("x", 84)), c.at)
	}
	for begin, at := range map[int]int{23: 20, 24: fine, 100: fine, 101: 20} {
		image := build(0, []part{{0, 1, 1, 0, 24, 1}, {1, 1, 2, 0, begin, 0}}, nil, strings.Repeat("x", 76))
		check(t, "no bytes", image, at)
	}
	for begin, at := range map[int]int{27: 12, 28: fine} {
		image := build(0, []part{{0, 1, 1, 0, begin, 1}, {1, 1, 3, 0, 28, 0}}, []shift{{32, 0}}, "xx")
		check(t, "begin beside the moves", image, at)
	}
	for _, c := range []struct{ pages, size, at int }{{2, 64, fine}, {2, 65, 14}, {7, 224, fine}, {7, 225, 14}, {8, 256, fine}, {8, 257, 14}} {
		check(t, "bytes of pages", one(part{0, c.pages, 1, 0, 16, c.size}, strings.Repeat("x", 284)), c.at)
	}
}

func TestP8MovePlaces(t *testing.T) {
	// Pages: 0 code, 2 and 3 data, 4 loaded, 5 constants.
	for _, c := range []struct{ place, at int }{
		{0, 40}, {62, 40}, {63, 40}, {64, fine}, {65, fine}, {94, fine}, {95, fine}, {126, fine},
		{127, 40}, {128, fine}, {158, fine}, {159, 40}, {160, 40}, {190, 40}, {65535, 40}, {65534, 40}, {0x0140, 40},
	} {
		parts := []part{{0, 1, 1, 0, 44, 1}, {2, 2, 3, 0, 44, 0}, {4, 1, 4, 0, 44, 1}, {5, 1, 2, 0, 44, 1}}
		check(t, "move", build(0, parts, []shift{{c.place, 9}}, "x"), c.at)
	}
	// Two segments of data side by side, on pages 7 and 8.
	for _, c := range []struct{ place, at int }{
		{223, 32}, {224, fine}, {254, fine}, {255, 32}, {256, fine}, {286, fine}, {287, 32}, {288, 32},
	} {
		parts := []part{{0, 1, 1, 0, 36, 1}, {7, 1, 3, 0, 36, 0}, {8, 1, 3, 0, 36, 0}}
		check(t, "move beside two segments of a kind", build(0, parts, []shift{{c.place, 9}}, "x"), c.at)
	}
	end := build(0, []part{{0, 1, 1, 0, 28, 1}, {31, 1, 3, 0, 28, 0}}, []shift{{1022, 65535}}, "x")
	check(t, "move at the span's end", end, fine)
	start := build(32, []part{{0, 1, 3, 0, 28, 0}, {1, 1, 1, 0, 28, 1}}, []shift{{0, 0}}, "x")
	check(t, "move at the span's start", start, fine)
	none := build(0, []part{{0, 1, 1, 0, 20, 1}}, []shift{{0, 0}}, "x")
	check(t, "move of code", none, 16)
}

func TestP8MoveOrder(t *testing.T) {
	// Code on page 0, data on pages 1 and 2; the moves stand at 24, 28 and 32.
	for _, c := range []struct{ first, second, third, at int }{
		{32, 34, 36, fine}, {32, 40, 64, fine}, {62, 64, 66, fine}, {61, 63, 65, fine},
		{32, 33, 36, 28}, {32, 32, 36, 28}, {40, 38, 50, 28}, {64, 32, 66, 28},
		{32, 34, 35, 32}, {32, 40, 40, 32}, {32, 64, 40, 32}, {32, 64, 34, 32},
		{32, 33, 33, 28}, {31, 31, 31, 24}, {95, 34, 32, 24}, {94, 96, 32, 28},
	} {
		parts := []part{{0, 1, 1, 0, 36, 1}, {1, 2, 3, 0, 36, 0}}
		shifts := []shift{{c.first, 0}, {c.second, 0}, {c.third, 0}}
		check(t, "moves", build(0, parts, shifts, "x"), c.at)
	}
}

func TestP8Entry(t *testing.T) {
	// Places: code with bytes from 32 to 64, constants from 96 on, data from
	// 128 on, code with one byte at 160.
	parts := []part{{1, 2, 1, 0, 40, 33}, {3, 1, 2, 0, 40, 4}, {4, 1, 3, 0, 40, 4}, {5, 1, 1, 0, 40, 1}}
	for _, c := range []struct{ entry, at int }{
		{32, fine}, {33, fine}, {63, fine}, {64, fine}, {160, fine},
		{0, 4}, {31, 4}, {65, 4}, {95, 4}, {96, 4}, {99, 4}, {128, 4}, {131, 4}, {159, 4}, {161, 4}, {192, 4},
		{0x0120, 4}, {0x2000, 4}, {65535, 4},
	} {
		check(t, "entry", build(c.entry, parts, nil, strings.Repeat("x", 40)), c.at)
	}
	check(t, "entry in loaded", build(0, []part{{0, 1, 4, 0, 16, 1}}, nil, "x"), 4)
	check(t, "entry in code without bytes", build(0, []part{{0, 1, 1, 0, 16, 0}}, nil, "x"), 4)
	check(t, "entry far up", build(31*32, []part{{31, 1, 1, 0, 16, 1}}, nil, "x"), fine)
}

// flaw is one thing that P8 names, done wrong in goodImage.
type flaw struct {
	at    int // the place that is told
	where int
	bytes string // what stands there instead
}

// flaws are in the order of P8.
func flaws() []flaw {
	list := []flaw{{0, 0, "x"}, {1, 1, "x"}, {2, 2, "x"}, {3, 3, "x"}, {6, 6, "\x05"}, {7, 7, "\x05"}}
	for at := 8; at < 40; at += 8 {
		list = append(list, flaw{at, at, "\x20"}, flaw{at + 1, at + 1, "\x00"}, flaw{at + 2, at + 2, "\x05"},
			flaw{at + 3, at + 3, "\x01"}, flaw{at + 4, at + 4, "\x00\x00"}, flaw{at + 6, at + 6, "\xff\xff"})
	}
	return append(list, flaw{40, 40, "\x00\x00"}, flaw{44, 44, "\x00\x00"}, flaw{4, 4, "\xff\xff"})
}

func (f flaw) in(image string) string {
	return image[:f.where] + f.bytes + image[f.where+len(f.bytes):]
}

func TestP8FirstOfSeveral(t *testing.T) {
	list := flaws()
	all := goodImage()
	for i := len(list) - 1; i >= 0; i-- {
		check(t, "one flaw", list[i].in(goodImage()), list[i].at)
		for _, later := range list[i+1:] {
			check(t, "two flaws", list[i].in(later.in(goodImage())), list[i].at)
		}
		all = list[i].in(all)
		check(t, "this flaw and all behind it", all, list[i].at)
	}
}

// What is cut comes behind the head's flaws, and ahead of those of segments,
// moves and the entry.
func TestP8CutAmongSeveral(t *testing.T) {
	for _, f := range flaws() {
		flawed := f.in(goodImage())
		for n := 8; n < 48; n++ {
			at := n
			if f.where < 4 || f.where == 6 || f.where == 7 {
				at = f.at
			}
			check(t, "cut beside a flaw", flawed[:n], at)
		}
	}
}

// TestP8EveryByte holds Vet against expect, for every byte of an image with
// every worth, and for many pairs.
func TestP8EveryByte(t *testing.T) {
	for _, image := range []string{goodImage(), build(0, []part{{0, 2, 1, 0, 32, 40}, {2, 1, 3, 0, 40, 5}}, []shift{{64, 1}, {94, 2}}, strings.Repeat("y", 40))} {
		for i := range image {
			for b := range 256 {
				changed := image[:i] + string([]byte{byte(b)}) + image[i+1:]
				check(t, "byte changed", changed, expect(changed))
			}
		}
		for i := range image {
			for j := range i {
				for _, b := range []byte{0, 1, 2, 3, 4, 31, 32, 33, 64, 95} {
					changed := []byte(image)
					changed[i], changed[j] = b, 33-b%32
					check(t, "bytes changed", string(changed), expect(string(changed)))
				}
			}
		}
	}
}

// expect tells the place that P8 asks for, in another way than the program:
// by a map of the places of the image's span.
func expect(image string) int {
	for i, c := range []byte("HBR1") {
		if i == len(image) || image[i] != c {
			return i
		}
	}
	if len(image) < 8 {
		return len(image)
	}
	if image[6] == 0 || image[6] > 4 {
		return 6
	}
	if image[7] > 4 {
		return 7
	}
	moves := 8 + 8*int(image[6])
	body := moves + 4*int(image[7])
	if len(image) < body {
		return len(image)
	}
	owner, code, wrong := span(image, moves, body)
	if wrong != fine {
		return wrong
	}
	return expectPlaces(image, moves, body, owner, code)
}

// places is how many an image's span has. Behind them stand two more, that
// are of no segment, for all that is beyond.
const places = 32 * 32

func place(image string, at int) int {
	return min(int(image[at])+256*int(image[at+1]), places)
}

// span tells of each place where its segment stands in the image, if it may be
// moved, and whether it is a byte of code.
func span(image string, moves, body int) (owner []int, code []bool, wrong int) {
	owner, code = make([]int, places+2), make([]bool, places+2)
	next := 0
	for at := 8; at < moves; at += 8 {
		page, pages, kind := int(image[at]), int(image[at+1]), image[at+2]
		begin := int(image[at+4]) + 256*int(image[at+5])
		size := int(image[at+6]) + 256*int(image[at+7])
		switch {
		case page < next || page > 31:
			return owner, code, at
		case pages == 0 || pages > 8 || page+pages > 32:
			return owner, code, at + 1
		case kind == 0 || kind > 4:
			return owner, code, at + 2
		case image[at+3] != 0:
			return owner, code, at + 3
		case begin < body || begin > len(image):
			return owner, code, at + 4
		case size > 32*pages || size > len(image)-begin:
			return owner, code, at + 6
		}
		next = page + pages
		for i := 32 * page; i < 32*next; i++ {
			if kind >= 3 {
				owner[i] = at
			}
			code[i] = kind == 1 && i-32*page < size
		}
	}
	return owner, code, fine
}

func expectPlaces(image string, moves, body int, owner []int, code []bool) int {
	for at := moves; at < body; at += 4 {
		p := place(image, at)
		if owner[p] == 0 || owner[p] != owner[p+1] {
			return at
		}
		clear(owner[:p+2])
	}
	if !code[place(image, 4)] {
		return 4
	}
	return fine
}
