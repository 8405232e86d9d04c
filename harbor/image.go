package harbor

const (
	magic       = "HBR1"
	entryAt     = 4
	segmentsAt  = 6
	movesAt     = 7
	headSize    = 8
	segmentSize = 8
	moveSize    = 4
	movedBytes  = 2 // that a move writes
)

// Kinds of segments.
const (
	kindCode      = 1
	kindConstants = 2
	kindData      = 3
	kindLoaded    = 4 // written while it is loaded alone
)

// segment is what an image tells of one of its segments.
type segment struct {
	page, pages, kind, zero int
	begin, size             int // its bytes in the image
}

// end is the page behind the segment.
func (s segment) end() int { return s.page + s.pages }

// move is a number of an image that grows with the place at which it stands.
type move struct{ place, number int }

// layout is what an image tells of itself, right or wrong.
type layout struct {
	segments []segment
	moves    []move
	entry    int
}

// span is the page behind the last segment.
func (l layout) span() int { return l.segments[len(l.segments)-1].end() }

// layoutOf reads an image that has all the bytes ahead of its body.
func layoutOf(image string) layout {
	l := layout{entry: number(image, entryAt)}
	for at := headSize; at < movesOf(image); at += segmentSize {
		l.segments = append(l.segments, segmentAt(image, at))
	}
	for at := movesOf(image); at < bodyOf(image); at += moveSize {
		l.moves = append(l.moves, move{number(image, at), number(image, at+2)})
	}
	return l
}

func segmentAt(image string, at int) segment {
	return segment{
		page:  int(image[at]),
		pages: int(image[at+1]),
		kind:  int(image[at+2]),
		zero:  int(image[at+3]),
		begin: number(image, at+4),
		size:  number(image, at+6),
	}
}

// movesOf is where an image's moves begin.
func movesOf(image string) int { return headSize + int(image[segmentsAt])*segmentSize }

// bodyOf is the end of an image's moves.
func bodyOf(image string) int { return movesOf(image) + int(image[movesAt])*moveSize }

// number is two bytes of the image, the lower one first.
func number(image string, at int) int {
	return int(image[at]) | int(image[at+1])<<8
}

// noImage is what panic carries from where an image is given up to the face.
type noImage struct{ at int }

// demand gives the image up at a place of it, unless a thing is as it must be.
func demand(holds bool, at int) {
	if !holds {
		panic(noImage{at})
	}
}

// placeOf is the place that demand told when it gave the image up.
func placeOf(given any) int {
	if wrong, ok := given.(noImage); ok {
		return wrong.at
	}
	return 0
}

// vetImage goes through the image in the order of P8, as the first thing that
// is wrong is the one that is told.
func vetImage(image string) {
	vetHead(image)
	demand(bodyOf(image) <= len(image), len(image))
	l := layoutOf(image)
	vetSegments(l.segments, bodyOf(image), len(image))
	vetMoves(l, movesOf(image))
	demand(isCode(l.segments, l.entry), entryAt)
}

func vetHead(image string) {
	for i := range len(magic) {
		demand(i < len(image) && image[i] == magic[i], i)
	}
	demand(headSize <= len(image), len(image))
	segments, moves := image[segmentsAt], image[movesAt]
	demand(segments >= 1 && segments <= maxSegments, segmentsAt)
	demand(moves <= maxMoves, movesAt)
}

func vetSegments(segments []segment, body, length int) {
	lastEnd := 0
	for i, s := range segments {
		at := headSize + i*segmentSize
		demand(s.page >= lastEnd && s.page < maxSpan, at)
		demand(s.pages >= 1 && s.pages <= maxPages && s.end() <= maxSpan, at+1)
		demand(s.kind >= kindCode && s.kind <= kindLoaded, at+2)
		demand(s.zero == 0, at+3)
		demand(s.begin >= body && s.begin <= length, at+4)
		demand(s.size <= s.pages*pageSize && s.begin+s.size <= length, at+6)
		lastEnd = s.end()
	}
}

func vetMoves(l layout, first int) {
	lastEnd := 0
	for i, v := range l.moves {
		at := first + i*moveSize
		demand(v.place >= lastEnd && isMovable(l.segments, v.place), at)
		lastEnd = v.place + movedBytes
	}
}

// isMovable tells whether a move's bytes lie within one segment that may be
// written while it is loaded.
func isMovable(segments []segment, place int) bool {
	for _, s := range segments {
		writable := s.kind == kindData || s.kind == kindLoaded
		if writable && place >= s.page*pageSize && place+movedBytes <= s.end()*pageSize {
			return true
		}
	}
	return false
}

// isCode tells whether a byte of code stands at the place: the zeros behind a
// segment's bytes are none.
func isCode(segments []segment, place int) bool {
	for _, s := range segments {
		first := s.page * pageSize
		if s.kind == kindCode && place >= first && place < first+s.size {
			return true
		}
	}
	return false
}
