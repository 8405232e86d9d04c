// Package harbor loads signed images into a machine of pages: see DOC.md.
package harbor

// Errno is what a call answers: OK or the reason for a refusal.
type Errno int

const (
	OK        Errno = 0
	ErrLong   Errno = 1  // above a bound
	ErrArg    Errno = 2  // a number or text that may not be
	ErrImage  Errno = 3  // no image
	ErrSign   Errno = 4  // not signed
	ErrSpent  Errno = 5  // signed with a leaf that is spent
	ErrMany   Errno = 6  // too many images
	ErrFrames Errno = 7  // too many pages
	ErrRoom   Errno = 8  // no room where it could stand
	ErrNone   Errno = 9  // no such image or page
	ErrPolicy Errno = 10 // a page that stays as it is
	ErrFault  Errno = 11 // what may not be done with a page
)

const (
	maxData     = 1000 // bytes that are hashed
	maxSeed     = 16   // bytes of a seed
	maxImage    = 300  // bytes of an image
	maxSegments = 4    // of an image
	maxMoves    = 4    // of an image
	maxSpan     = 32   // pages of an image
	maxPages    = 8    // pages of a segment
	maxImages   = 3    // of a machine
	maxFrames   = 24   // pages of a machine that are in use
	pageSize    = 32   // bytes of a page
	pageCount   = 64   // pages of a machine
	leaves      = 4    // of a seed
	signed      = 12   // bits of an image's sum
)

// Hash is the SHA-256 of the bytes (P3).
func Hash(data string) (string, Errno) {
	if len(data) > maxData {
		return "", ErrLong
	}
	s := sumOf(data)
	return string(s[:]), OK
}

// Root is what a seed's signatures are verified by (P4).
func Root(seed string) (string, Errno) {
	if len(seed) > maxSeed {
		return "", ErrLong
	}
	root := rootOf(seed)
	return string(root[:]), OK
}

// Sign signs an image with one of a seed's leaves (P5).
func Sign(seed string, leaf int, image string) (string, Errno) {
	if len(seed) > maxSeed || len(image) > maxImage {
		return "", ErrLong
	}
	if leaf < 0 || leaf >= leaves {
		return "", ErrArg
	}
	return manifestOf(seed, leaf, image), OK
}

// Verify tells whether an image is signed (P6).
func Verify(root string, image string, manifest string) bool {
	if len(root) != sumSize || len(image) > maxImage || len(manifest) != manifestSize {
		return false
	}
	if manifest[leafAt] >= leaves {
		return false
	}
	return sumAt(root, 0) == rootFrom(image, manifest)
}

// Vet tells whether bytes are an image (P7, P8).
func Vet(image string) (e Errno, at int) {
	if len(image) > maxImage {
		return ErrLong, 0
	}
	defer func() {
		// Whatever ended the look, what was not looked over to its end is
		// never passed as an image.
		if given := recover(); given != nil {
			e, at = ErrImage, placeOf(given)
		}
	}()
	vetImage(image)
	return OK, 0
}
