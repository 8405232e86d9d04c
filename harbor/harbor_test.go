package harbor_test

import (
	"strings"
	"sync"
	"testing"

	"harbor/harbor"
)

func TestErrorNumbers(t *testing.T) {
	for want, e := range []harbor.Errno{
		harbor.OK, harbor.ErrLong, harbor.ErrArg, harbor.ErrImage, harbor.ErrSign, harbor.ErrSpent,
		harbor.ErrMany, harbor.ErrFrames, harbor.ErrRoom, harbor.ErrNone, harbor.ErrPolicy, harbor.ErrFault,
	} {
		if int(e) != want {
			t.Errorf("the error number %d is %d", want, e)
		}
	}
}

// A signature that is right, for calls with another text in one place of it.
var signedRoot, signedManifest = wantRoot("seed"), wantManifest("seed", 2, "image")

// answers is all that the calls that are built answer to one text, at each
// place where it may stand.
type answers struct {
	sum, root, seedSigns, imageSigned         string
	hashErr, rootErr, seedErr, imageErr       harbor.Errno
	rootPasses, imagePasses, manifestPasses   bool
	rootsImage, rootsManifest, imagesManifest bool // two texts in places of Verify
	vetErr                                    harbor.Errno
	at                                        int
}

func ask(text string) answers {
	var a answers
	a.sum, a.hashErr = harbor.Hash(text)
	a.root, a.rootErr = harbor.Root(text)
	a.seedSigns, a.seedErr = harbor.Sign(text, 3, "image")
	a.imageSigned, a.imageErr = harbor.Sign("seed", 1, text)
	a.rootPasses = harbor.Verify(text, "image", signedManifest)
	a.imagePasses = harbor.Verify(signedRoot, text, signedManifest)
	a.manifestPasses = harbor.Verify(signedRoot, "image", text)
	a.rootsImage = harbor.Verify(text, text, signedManifest)
	a.rootsManifest = harbor.Verify(text, "image", text)
	a.imagesManifest = harbor.Verify(signedRoot, text, text)
	a.vetErr, a.at = harbor.Vet(text)
	return a
}

// texts are inputs of many kinds: of every length up to above all bounds, good
// and bad images, what signs one, and bytes that are no letters.
func texts() []string {
	list := []string{goodImage(), strings.Repeat("\xff", 300), strings.Repeat("\x00", 300)}
	list = append(list, "image", "seed", signedRoot, signedManifest, strings.Repeat("\x00", 833), strings.Repeat("\xff", 833))
	for n := range 1003 {
		list = append(list, strings.Repeat("a", n), "HBR1"+strings.Repeat("\x04", n), "HBR1"+strings.Repeat("\xff", n))
	}
	good := goodImage()
	for n := range len(good) {
		list = append(list, good[:n], good[n:], good[:n]+"\xff"+good[n+1:])
	}
	return list
}

func TestP1ResultsBesideErrors(t *testing.T) {
	for _, text := range texts() {
		a := ask(text)
		if a.hashErr != harbor.OK && a.sum != "" {
			t.Errorf("Hash(%.20q, %d bytes): error %d beside a sum", text, len(text), a.hashErr)
		}
		if a.rootErr != harbor.OK && a.root != "" {
			t.Errorf("Root(%.20q, %d bytes): error %d beside a root", text, len(text), a.rootErr)
		}
		if a.seedErr != harbor.OK && a.seedSigns != "" || a.imageErr != harbor.OK && a.imageSigned != "" {
			t.Errorf("Sign with %.20q, %d bytes: error %d or %d beside a manifest", text, len(text), a.seedErr, a.imageErr)
		}
		if a.vetErr != harbor.ErrImage && a.at != 0 {
			t.Errorf("Vet(%.20q, %d bytes): place %d beside %d", text, len(text), a.at, a.vetErr)
		}
		if a.at < 0 || a.at > len(text) {
			t.Errorf("Vet(%.20q, %d bytes): place %d", text, len(text), a.at)
		}
	}
}

// A call that looks at its length alone makes nothing, however long the text.
func TestP1LengthAheadOfOtherWork(t *testing.T) {
	long := strings.Repeat("HBR1", 1<<20)
	want := answers{
		hashErr: harbor.ErrLong, rootErr: harbor.ErrLong, seedErr: harbor.ErrLong,
		imageErr: harbor.ErrLong, vetErr: harbor.ErrLong,
	}
	made := testing.AllocsPerRun(10, func() {
		if a := ask(long); a != want {
			t.Errorf("%d bytes: %v", len(long), a)
		}
	})
	if made != 0 {
		t.Errorf("P1: %v things made for texts that are too long", made)
	}
}

func TestP2ArgumentsAlone(t *testing.T) {
	list := texts()
	var first []answers
	for _, text := range list {
		first = append(first, ask(text))
	}
	for i := len(list) - 1; i >= 0; i-- {
		if a := ask(list[i]); a != first[i] {
			t.Errorf("P2: asked again about %.20q, %d bytes: %v, before %v", list[i], len(list[i]), a, first[i])
		}
	}
	var all sync.WaitGroup
	for range 4 {
		all.Go(func() {
			for i, text := range list {
				if a := ask(text); a != first[i] {
					t.Errorf("P2: asked side by side about %.20q, %d bytes: %v, before %v", text, len(text), a, first[i])
				}
			}
		})
	}
	all.Wait()
}
