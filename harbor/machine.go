package harbor

// Machine is pages, and images in them. Make it by New.
type Machine struct {
	root   sum
	memory [pageCount * pageSize]byte
	pages  [pageCount]page
	images map[int]berth // those that are there, by their numbers
	last   int           // the number of the image that was loaded last
	spent  [leaves]bool  // the leaves that images were loaded with
}

// New makes a machine (P9).
func New(root string) (*Machine, Errno) {
	if len(root) != sumSize {
		return nil, ErrArg
	}
	return &Machine{root: sumAt(root, 0), images: map[int]berth{}}, OK
}

// Load loads an image (P10 to P12).
func (m *Machine) Load(image string, manifest string, draw int) (int, Errno, int) {
	if e, at := Vet(image); e != OK {
		return 0, e, at
	}
	if !Verify(string(m.root[:]), image, manifest) {
		return 0, ErrSign, 0
	}
	leaf, l := manifest[leafAt], layoutOf(image)
	if e := m.bounds(leaf, l); e != OK {
		return 0, e, 0
	}
	b, found := m.room(l, draw)
	if !found {
		return 0, ErrRoom, 0
	}
	// From here on nothing is refused: what is refused has changed nothing.
	m.lay(image, l, b)
	m.spent[leaf] = true
	m.last++
	m.images[m.last] = b
	return m.last, OK, 0
}

// bounds tells which of the machine's bounds the image would go beyond.
func (m *Machine) bounds(leaf byte, l layout) Errno {
	switch {
	case m.spent[leaf]:
		return ErrSpent
	case len(m.images) >= maxImages:
		return ErrMany
	case m.frames()+l.frames() > maxFrames:
		return ErrFrames
	}
	return OK
}

// Start tells where an image begins, and where its stack ends (P13).
func (m *Machine) Start(id int) (int, int, Errno) {
	b, there := m.images[id]
	if !there {
		return 0, 0, ErrNone
	}
	return b.place(b.entry), b.last() * pageSize, OK
}

// Unload takes an image away (P13).
func (m *Machine) Unload(id int) Errno {
	b, there := m.images[id]
	if !there {
		return ErrNone
	}
	for page := b.ahead(); page <= b.last(); page++ {
		m.giveBack(page)
	}
	delete(m.images, id)
	return OK
}

// Protect changes what may be done with a page (P14).
func (m *Machine) Protect(page int, perm int) Errno {
	if !isPage(page) || perm != mayRead && perm != mayRead|mayWrite {
		return ErrArg
	}
	p := &m.pages[page]
	if !p.taken {
		return ErrNone
	}
	if p.kind != kindData {
		return ErrPolicy
	}
	p.perm = perm
	return OK
}

// Perm tells what may be done with a page (P14).
func (m *Machine) Perm(page int) int {
	if !isPage(page) {
		return -1
	}
	return m.pages[page].perm
}

// Read reads a byte (P15).
func (m *Machine) Read(at int) (int, Errno) { return m.look(at, mayRead) }

// Fetch fetches a byte to be done (P15).
func (m *Machine) Fetch(at int) (int, Errno) { return m.look(at, mayFetch) }

// Store stores a byte (P15).
func (m *Machine) Store(at int, b int) Errno {
	if b < 0 || b > 255 {
		return ErrArg
	}
	if e := m.fault(at, mayWrite); e != OK {
		return e
	}
	m.put(at, byte(b))
	return OK
}
