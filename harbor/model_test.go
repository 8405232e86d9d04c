package harbor_test

import (
	"math/big"
	"testing"

	"harbor/harbor"
)

// piece is a segment of a cargo, with its bytes.
type piece struct {
	page, pages, kind int
	bytes             string
}

// cargo is what an image is built of.
type cargo struct {
	entry  int
	shifts []shift
	pieces []piece
}

// image lays the cargo out: the bytes of one piece behind those of another.
func (c cargo) image() string {
	var parts []part
	body := ""
	for _, p := range c.pieces {
		begin := 8 + 8*len(c.pieces) + 4*len(c.shifts) + len(body)
		parts = append(parts, part{p.page, p.pages, p.kind, 0, begin, len(p.bytes)})
		body += p.bytes
	}
	return build(c.entry, parts, c.shifts, body)
}

func (c cargo) span() int {
	last := c.pieces[len(c.pieces)-1]
	return last.page + last.pages
}

// frames is how many pages it has in use, with its stack.
func (c cargo) frames() int {
	n := 2
	for _, p := range c.pieces {
		n += p.pages
	}
	return n
}

// tiny is a cargo of one page of code.
func tiny() cargo { return cargo{pieces: []piece{{0, 1, 1, "t"}}} }

// sized is a cargo of that span and that many pages, without its stack; the
// pages that are not of the last one are at its start.
func sized(span, pages int) cargo {
	c := cargo{entry: 32 * (span - 1)}
	for page := 0; pages > 1; {
		n := min(8, pages-1)
		c.pieces = append(c.pieces, piece{page, n, 3, "d"})
		page, pages = page+n, pages-n
	}
	c.pieces = append(c.pieces, piece{span - 1, 1, 1, "c"})
	return c
}

// stay is an image that is in a machine.
type stay struct {
	cargo
	first  int
	perms  map[int]int // by page, as Protect has made them
	stored map[int]int // by place, as Store has made them
}

// kind is that of a page of the machine: of a segment, 3 for the stack, 0 for
// another page that is taken for the image, -1 for any other.
func (s *stay) kind(page int) int {
	page -= s.first
	if page < -1 || page > s.span()+3 {
		return -1
	}
	if page == s.span()+1 || page == s.span()+2 {
		return 3
	}
	for _, p := range s.pieces {
		if page >= p.page && page < p.page+p.pages {
			return p.kind
		}
	}
	return 0
}

func (s *stay) perm(page int) int {
	if perm, ok := s.perms[page]; ok {
		return perm
	}
	return map[int]int{-1: 0, 0: 0, 1: 5, 2: 1, 3: 3, 4: 1}[s.kind(page)]
}

// worth is what stands at a place of the machine.
func (s *stay) worth(at int) int {
	if b, ok := s.stored[at]; ok {
		return b
	}
	at -= 32 * s.first
	for _, v := range s.shifts {
		moved := (v.number + 32*s.first) % 65536
		if at == v.place {
			return moved % 256
		}
		if at == v.place+1 {
			return moved / 256
		}
	}
	for _, p := range s.pieces {
		if i := at - 32*p.page; i >= 0 && i < len(p.bytes) {
			return int(p.bytes[i])
		}
	}
	return 0
}

// model is a machine as the document tells it, made in another way than the
// program: it keeps the images and what was done to them, and no memory.
type model struct {
	stays map[int]*stay
	spent map[int]bool
	loads int
}

// at is the image that a page is taken for, or nil.
func (w *model) at(page int) *stay {
	for _, s := range w.stays {
		if s.kind(page) >= 0 {
			return s
		}
	}
	return nil
}

func (w *model) perm(page int) int {
	if s := w.at(page); s != nil {
		return s.perm(page)
	}
	return 0
}

func (w *model) frames() int {
	n := 0
	for _, s := range w.stays {
		n += s.frames()
	}
	return n
}

// room is the page at which the cargo comes to stand, or -1.
func (w *model) room(c cargo, draw int) int {
	for i := range 64 {
		sum := new(big.Int).Add(big.NewInt(int64(draw)), big.NewInt(int64(i)))
		first := int(sum.Mod(sum, big.NewInt(64)).Int64())
		if first >= 1 && first+c.span()+3 <= 63 && w.isFree(first-1, first+c.span()+3) {
			return first
		}
	}
	return -1
}

func (w *model) isFree(from, to int) bool {
	for page := from; page <= to; page++ {
		if w.at(page) != nil {
			return false
		}
	}
	return true
}

// load loads a cargo whose image is none of the wrong ones, and is signed.
func (w *model) load(c cargo, leaf, draw int) (int, harbor.Errno) {
	switch {
	case w.spent[leaf]:
		return 0, harbor.ErrSpent
	case len(w.stays) == 3:
		return 0, harbor.ErrMany
	case w.frames()+c.frames() > 24:
		return 0, harbor.ErrFrames
	case w.room(c, draw) < 0:
		return 0, harbor.ErrRoom
	}
	w.loads++
	w.stays[w.loads] = &stay{c, w.room(c, draw), map[int]int{}, map[int]int{}}
	w.spent[leaf] = true
	return w.loads, harbor.OK
}

func (w *model) unload(id int) harbor.Errno {
	if w.stays[id] == nil {
		return harbor.ErrNone
	}
	delete(w.stays, id)
	return harbor.OK
}

func (w *model) start(id int) start {
	s := w.stays[id]
	if s == nil {
		return start{e: harbor.ErrNone}
	}
	return start{32*s.first + s.entry, 32 * (s.first + s.span() + 3), harbor.OK}
}

func (w *model) protect(page, perm int) harbor.Errno {
	if page < 0 || page > 63 || perm != 1 && perm != 3 {
		return harbor.ErrArg
	}
	s := w.at(page)
	if s == nil {
		return harbor.ErrNone
	}
	if s.kind(page) != 3 {
		return harbor.ErrPolicy
	}
	s.perms[page] = perm
	return harbor.OK
}

// get is what a place answers, if what is wanted may be done with its page.
func (s *stay) get(at, may int) answer {
	if may == 0 {
		return answer{0, harbor.ErrFault}
	}
	return answer{s.worth(at), harbor.OK}
}

func (w *model) get(at, wanted int) answer {
	if at < 0 || at > 2047 {
		return answer{0, harbor.ErrArg}
	}
	return w.at(at/32).get(at, w.perm(at/32)&wanted)
}

func (w *model) store(at, b int) harbor.Errno {
	if b < 0 || b > 255 {
		return harbor.ErrArg
	}
	e := w.get(at, 2).e
	if e == harbor.OK {
		w.at(at / 32).stored[at] = b
	}
	return e
}

type answer struct {
	b int
	e harbor.Errno
}

type start struct {
	entry, end int
	e          harbor.Errno
}

// view is all that can be seen of a machine, with what is beside its pages and
// places: the first of each list is the one of -1.
type view struct {
	perms    [66]int
	protects [66]harbor.Errno // to what may be done with the page anyhow
	reads    [2050]answer
	fetches  [2050]answer
	stores   [2050]harbor.Errno // of what stands there anyhow
	starts   [8]start
}

// look looks all over a machine, and leaves it as it was.
func look(m *harbor.Machine) *view {
	v := &view{}
	for i := range v.perms {
		v.perms[i] = m.Perm(i - 1)
		v.protects[i] = m.Protect(i-1, 1|v.perms[i]&2)
	}
	for i := range v.reads {
		v.reads[i].b, v.reads[i].e = m.Read(i - 1)
		v.fetches[i].b, v.fetches[i].e = m.Fetch(i - 1)
		v.stores[i] = m.Store(i-1, v.reads[i].b)
	}
	for i := range v.starts {
		s := &v.starts[i]
		s.entry, s.end, s.e = m.Start(i - 1)
	}
	return v
}

// view is what the document asks for.
func (w *model) view() *view {
	v := &view{}
	for i := range v.perms {
		v.perms[i] = w.perm(i - 1)
		if i == 0 || i == 65 {
			v.perms[i] = -1
		}
		v.protects[i] = w.protect(i-1, 1|v.perms[i]&2)
	}
	beside := answer{0, harbor.ErrArg}
	v.reads[0], v.fetches[0], v.stores[0] = beside, beside, harbor.ErrArg
	v.reads[2049], v.fetches[2049], v.stores[2049] = beside, beside, harbor.ErrArg
	for page := range 64 {
		s, perm := w.at(page), w.perm(page)
		for at := 32 * page; at < 32*page+32; at++ {
			v.reads[1+at] = s.get(at, perm&1)
			v.stores[1+at] = s.get(at, perm&2).e
			v.fetches[1+at] = s.get(at, perm&4)
		}
	}
	for i := range v.starts {
		v.starts[i] = w.start(i - 1)
	}
	return v
}

// differ tells the first things that are not as they should be.
func differ(t *testing.T, what string, got, want *view) {
	t.Helper()
	if *got == *want {
		return
	}
	for i := range got.perms {
		if got.perms[i] != want.perms[i] || got.protects[i] != want.protects[i] {
			t.Fatalf("%s: page %d: perm %d, want %d; Protect %d, want %d", what, i-1, got.perms[i], want.perms[i], got.protects[i], want.protects[i])
		}
	}
	for i := range got.reads {
		if got.reads[i] != want.reads[i] || got.fetches[i] != want.fetches[i] || got.stores[i] != want.stores[i] {
			t.Fatalf("%s: place %d: Read %v, want %v; Fetch %v, want %v; Store %d, want %d", what, i-1,
				got.reads[i], want.reads[i], got.fetches[i], want.fetches[i], got.stores[i], want.stores[i])
		}
	}
	t.Fatalf("%s: Start from -1 on: %v, want %v", what, got.starts, want.starts)
}

// both is a machine and its model. Each call goes to both of them, the answers
// are held against each other, and so is all that can be seen from then on.
type both struct {
	t *testing.T
	m *harbor.Machine
	w *model
}

const seed = "s"

func newBoth(t *testing.T) both {
	t.Helper()
	m, e := harbor.New(wantRoot(seed))
	if m == nil || e != harbor.OK {
		t.Fatalf("P9: New: %v, %d", m, e)
	}
	x := both{t, m, &model{map[int]*stay{}, map[int]bool{}, 0}}
	x.same("P9: a new machine")
	return x
}

// same holds what can be seen against the model, and P16 against what can be
// seen.
func (x both) same(what string) {
	x.t.Helper()
	got := look(x.m)
	differ(x.t, what, got, x.w.view())
	for page, perm := range got.perms[1:65] {
		if perm&2 != 0 && perm&4 != 0 {
			x.t.Fatalf("%s: P16: page %d may be written and fetched: %d", what, page, perm)
		}
	}
	for at, f := range got.fetches[1:2049] {
		if f.e != harbor.OK {
			continue
		}
		if got.stores[1+at] == harbor.OK {
			x.t.Fatalf("%s: P16: place %d was written, and can be fetched", what, at)
		}
		if b, ok := x.w.code(at); !ok || b != f.b {
			x.t.Fatalf("%s: P16: place %d: %d is fetched, the code of an image has %d, %v", what, at, f.b, b, ok)
		}
	}
}

// code is what stands at a place in the code of an image that is there.
func (w *model) code(at int) (int, bool) {
	for _, s := range w.stays {
		for _, p := range s.pieces {
			i := at - 32*(s.first+p.page)
			if p.kind != 1 || i < 0 || i >= 32*p.pages {
				continue
			}
			if i < len(p.bytes) {
				return int(p.bytes[i]), true
			}
			return 0, true
		}
	}
	return 0, false
}

func (x both) load(c cargo, leaf, draw int) (int, harbor.Errno) {
	x.t.Helper()
	image := c.image()
	if at := expect(image); at != fine {
		x.t.Fatalf("the test's image is wrong at %d: %v", at, c)
	}
	id, e, at := x.m.Load(image, wantManifest(seed, leaf, image), draw)
	wantID, want := x.w.load(c, leaf, draw)
	if id != wantID || e != want || at != 0 {
		x.t.Fatalf("P10: Load(%v, leaf %d, %d) = %d, %d, %d, want %d, %d, 0", c, leaf, draw, id, e, at, wantID, want)
	}
	x.same("behind Load")
	return id, e
}

// loads asks for a load that ends as told.
func (x both) loads(c cargo, leaf, draw, wantID int, want harbor.Errno) {
	x.t.Helper()
	if id, e := x.load(c, leaf, draw); id != wantID || e != want {
		x.t.Fatalf("P10: Load(%v, leaf %d, %d) = %d, %d, want %d, %d", c, leaf, draw, id, e, wantID, want)
	}
}

// stands asks for a load that ends with the image at that page.
func (x both) stands(c cargo, leaf, draw, first int) int {
	x.t.Helper()
	id, e := x.load(c, leaf, draw)
	entry, end, startErr := x.m.Start(id)
	if e != harbor.OK || startErr != harbor.OK || entry != 32*first+c.entry || end != 32*(first+c.span()+3) {
		x.t.Fatalf("P11: Load(%v, leaf %d, %d): %d, then Start: %d, %d, %d, want it at page %d", c, leaf, draw, e, entry, end, startErr, first)
	}
	return id
}

// refused asks for a load that is refused ahead of all that the model knows.
func (x both) refused(image, manifest string, draw int, want harbor.Errno, place int) {
	x.t.Helper()
	if id, e, at := x.m.Load(image, manifest, draw); id != 0 || e != want || at != place {
		x.t.Fatalf("P10: Load(%.80q, %d bytes, %d) = %d, %d, %d, want 0, %d, %d", image, len(manifest), draw, id, e, at, want, place)
	}
	x.same("behind a refused Load")
}

func (x both) unload(id int) harbor.Errno {
	x.t.Helper()
	e, want := x.m.Unload(id), x.w.unload(id)
	if e != want {
		x.t.Fatalf("P13: Unload(%d) = %d, want %d", id, e, want)
	}
	x.same("behind Unload")
	return e
}

func (x both) protect(page, perm int) harbor.Errno {
	x.t.Helper()
	e, want := x.m.Protect(page, perm), x.w.protect(page, perm)
	if e != want {
		x.t.Fatalf("P14: Protect(%d, %d) = %d, want %d", page, perm, e, want)
	}
	x.same("behind Protect")
	return e
}

func (x both) store(at, b int) harbor.Errno {
	x.t.Helper()
	e, want := x.m.Store(at, b), x.w.store(at, b)
	if e != want {
		x.t.Fatalf("P15: Store(%d, %d) = %d, want %d", at, b, e, want)
	}
	x.same("behind Store")
	return e
}
