package harbor

// What may be done with a page is a sum of these.
const (
	mayRead  = 1
	mayWrite = 2
	mayFetch = 4
)

const (
	stackPages = 2
	noKind     = 0 // of pages between segments and around them
)

// page is what a machine knows of one of its pages, beside its bytes.
type page struct {
	taken bool
	kind  int // of its segment
	perm  int // what may be done with it
}

// berth is where an image stands in a machine.
type berth struct {
	first int // the image's first page
	span  int
	entry int
}

// ahead is the page ahead of the image, the first one that is taken for it.
func (b berth) ahead() int { return b.first - 1 }

// last is the page behind the stack, the last one that is taken.
func (b berth) last() int { return b.first + b.span + 1 + stackPages }

// place is where in the machine a place of the image is.
func (b berth) place(inImage int) int { return b.first*pageSize + inImage }

func isPage(page int) bool { return page >= 0 && page < pageCount }

// mayBeDone is what may be done with pages of a kind. Writing and fetching
// never come together.
func mayBeDone(kind int) int {
	perm := 0
	switch kind {
	case kindData:
		perm = mayRead | mayWrite
	case kindCode:
		perm = mayFetch
		fallthrough
	case kindConstants, kindLoaded:
		perm |= mayRead
	}
	return perm
}

// segmentsAndStack is all that is laid of an image. The stack is data without
// bytes, so that it is laid, counted and protected as data is.
func (l layout) segmentsAndStack() []segment {
	stack := segment{page: l.span() + 1, pages: stackPages, kind: kindData}
	return append(l.segments[:len(l.segments):len(l.segments)], stack)
}

// frames is how many pages the image has in use while it is there.
func (l layout) frames() int {
	count := 0
	for _, s := range l.segmentsAndStack() {
		count += s.pages
	}
	return count
}

// frames is how many pages of the machine are in use.
func (m *Machine) frames() int {
	count := 0
	for _, p := range m.pages {
		if p.kind != noKind {
			count++
		}
	}
	return count
}

// room is where an image can stand, from the draw on.
func (m *Machine) room(l layout, draw int) (berth, bool) {
	start := (draw%pageCount + pageCount) % pageCount // a remainder may be below 0
	for i := range pageCount {
		b := berth{first: (start + i) % pageCount, span: l.span(), entry: l.entry}
		if m.isFree(b) {
			return b, true
		}
	}
	return berth{}, false
}

func (m *Machine) isFree(b berth) bool {
	if !isPage(b.ahead()) || !isPage(b.last()) {
		return false
	}
	for page := b.ahead(); page <= b.last(); page++ {
		if m.pages[page].taken {
			return false
		}
	}
	return true
}

// lay puts an image where there is room for it.
func (m *Machine) lay(image string, l layout, b berth) {
	for page := b.ahead(); page <= b.last(); page++ {
		m.take(page, noKind)
	}
	for _, s := range l.segmentsAndStack() {
		m.fill(b.first+s.page, s, image[s.begin:s.begin+s.size])
	}
	for _, v := range l.moves {
		at, moved := b.place(v.place), b.place(v.number)
		m.put(at, byte(moved))
		m.put(at+1, byte(moved>>8))
	}
}

// fill takes the pages of a segment, and gives each what it holds of the
// segment's bytes.
func (m *Machine) fill(first int, s segment, bytes string) {
	for page := first; page < first+s.pages; page++ {
		m.take(page, s.kind)
		bytes = bytes[copy(m.bytesOf(page), bytes):]
	}
}

func (m *Machine) take(number, kind int) {
	clear(m.bytesOf(number))
	m.pages[number] = page{taken: true, kind: kind, perm: mayBeDone(kind)}
}

func (m *Machine) giveBack(number int) {
	clear(m.bytesOf(number))
	m.pages[number] = page{}
}

// bytesOf is a page's piece of the memory, which cannot grow into the next one.
func (m *Machine) bytesOf(page int) []byte {
	first, end := page*pageSize, (page+1)*pageSize
	return m.memory[first:end:end]
}

// fault tells why something may not be done at a place.
func (m *Machine) fault(at, wanted int) Errno {
	if at < 0 || at >= len(m.memory) {
		return ErrArg
	}
	if m.pages[at/pageSize].perm&wanted == 0 {
		return ErrFault
	}
	return OK
}

// look is what stands at a place, if what is wanted may be done there.
func (m *Machine) look(at, wanted int) (int, Errno) {
	if e := m.fault(at, wanted); e != OK {
		return 0, e
	}
	return int(m.bytesOf(at / pageSize)[at%pageSize]), OK
}

func (m *Machine) put(at int, b byte) {
	m.bytesOf(at / pageSize)[at%pageSize] = b
}
