package harbor

const (
	magic       = "HBR1"
	entryAt     = 4
	segmentsAt  = 6
	movesAt     = 7
	headSize    = 8
	segmentSize = 8
	moveSize    = 4
	movedBytes  = 2 // that a move writes
)

// Kinds of segments.
const (
	kindCode      = 1
	kindConstants = 2
	kindData      = 3
	kindLoaded    = 4 // written while it is loaded alone
)

// segment is what an image tells of one of its segments.
type segment struct {
	page, pages, kind int
	begin, size       int // its bytes in the image
}

// end is the page behind the segment.
func (s segment) end() int { return s.page + s.pages }

// noImage is what panic carries from where an image is given up to the face.
type noImage struct{ at int }

// demand gives the image up at a place of it, unless a thing is as it must be.
func demand(holds bool, at int) {
	if !holds {
		panic(noImage{at})
	}
}

// placeOf is the place that demand told when it gave the image up.
func placeOf(given any) int {
	if wrong, ok := given.(noImage); ok {
		return wrong.at
	}
	return 0
}

// vetImage goes through the image in the order of P8, as the first thing that
// is wrong is the one that is told.
func vetImage(image string) {
	vetHead(image)
	firstMove := headSize + int(image[segmentsAt])*segmentSize
	body := firstMove + int(image[movesAt])*moveSize
	demand(body <= len(image), len(image))
	segments := vetSegments(image, firstMove, body)
	vetMoves(image, firstMove, body, segments)
	demand(isCode(segments, number(image, entryAt)), entryAt)
}

func vetHead(image string) {
	for i := range len(magic) {
		demand(i < len(image) && image[i] == magic[i], i)
	}
	demand(headSize <= len(image), len(image))
	segments, moves := image[segmentsAt], image[movesAt]
	demand(segments >= 1 && segments <= maxSegments, segmentsAt)
	demand(moves <= maxMoves, movesAt)
}

func vetSegments(image string, firstMove, body int) []segment {
	var segments []segment
	lastEnd := 0
	for at := headSize; at < firstMove; at += segmentSize {
		s := vetSegment(image, at, lastEnd, body)
		segments = append(segments, s)
		lastEnd = s.end()
	}
	return segments
}

func vetSegment(image string, at, lastEnd, body int) segment {
	s := segment{
		page:  int(image[at]),
		pages: int(image[at+1]),
		kind:  int(image[at+2]),
		begin: number(image, at+4),
		size:  number(image, at+6),
	}
	demand(s.page >= lastEnd && s.page < maxSpan, at)
	demand(s.pages >= 1 && s.pages <= maxPages && s.end() <= maxSpan, at+1)
	demand(s.kind >= kindCode && s.kind <= kindLoaded, at+2)
	demand(image[at+3] == 0, at+3)
	demand(s.begin >= body && s.begin <= len(image), at+4)
	demand(s.size <= s.pages*pageSize && s.begin+s.size <= len(image), at+6)
	return s
}

func vetMoves(image string, firstMove, body int, segments []segment) {
	lastEnd := 0
	for at := firstMove; at < body; at += moveSize {
		place := number(image, at)
		demand(place >= lastEnd && isMovable(segments, place), at)
		lastEnd = place + movedBytes
	}
}

// isMovable tells whether a move's bytes lie within one segment that may be
// written while it is loaded.
func isMovable(segments []segment, place int) bool {
	for _, s := range segments {
		writable := s.kind == kindData || s.kind == kindLoaded
		if writable && place >= s.page*pageSize && place+movedBytes <= s.end()*pageSize {
			return true
		}
	}
	return false
}

// isCode tells whether a byte of code stands at the place: the zeros behind a
// segment's bytes are none.
func isCode(segments []segment, place int) bool {
	for _, s := range segments {
		first := s.page * pageSize
		if s.kind == kindCode && place >= first && place < first+s.size {
			return true
		}
	}
	return false
}

// number is two bytes of the image, the lower one first.
func number(image string, at int) int {
	return int(image[at]) | int(image[at+1])<<8
}
