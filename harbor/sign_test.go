package harbor_test

import (
	"crypto/sha256"
	"fmt"
	"math"
	"strings"
	"testing"

	"harbor/harbor"
)

// The same as the program's, in another way: by the library's SHA-256 and by
// texts that are joined.

func hash(texts ...string) string {
	h := sha256.Sum256([]byte(strings.Join(texts, "")))
	return string(h[:])
}

func wantSecret(seed string, leaf, number, worth int) string {
	return hash("harbor", string([]byte{byte(leaf), byte(number), byte(worth)}), seed)
}

func wantLeaf(seed string, leaf int) string {
	var sums []string
	for i := range 24 {
		sums = append(sums, hash(wantSecret(seed, leaf, i/2, i%2)))
	}
	return hash(sums...)
}

func wantPair(seed string, first int) string {
	return hash(wantLeaf(seed, first), wantLeaf(seed, first+1))
}

func wantRoot(seed string) string { return hash(wantPair(seed, 0), wantPair(seed, 2)) }

// wantBits is the bits that are signed, written as a text of the digits 0 and 1.
func wantBits(leaf int, image string) string {
	h := hash(string([]byte{byte(leaf)}), image)
	return fmt.Sprintf("%08b%08b", h[0], h[1])[:12]
}

func wantManifest(seed string, leaf int, image string) string {
	texts := []string{string([]byte{byte(leaf)})}
	for number, digit := range wantBits(leaf, image) {
		worth := int(digit - '0')
		texts = append(texts, wantSecret(seed, leaf, number, worth), hash(wantSecret(seed, leaf, number, 1-worth)))
	}
	other := []int{1, 0, 3, 2}[leaf]
	pair := []int{2, 2, 0, 0}[leaf]
	return strings.Join(append(texts, wantLeaf(seed, other), wantPair(seed, pair)), "")
}

// rootsOf is what stands in a manifest, brought together: with the own leaf
// and the own pair ahead or behind, all four ways.
func rootsOf(image, manifest string) []string {
	var sums []string
	for number, digit := range wantBits(int(manifest[0]), image) {
		both := manifest[1+64*number : 65+64*number]
		if digit == '0' {
			sums = append(sums, hash(both[:32]), both[32:])
		} else {
			sums = append(sums, both[32:], hash(both[:32]))
		}
	}
	leaf, otherLeaf, otherPair := hash(sums...), manifest[769:801], manifest[801:]
	return []string{
		hash(hash(leaf, otherLeaf), otherPair),
		hash(hash(otherLeaf, leaf), otherPair),
		hash(otherPair, hash(leaf, otherLeaf)),
		hash(otherPair, hash(otherLeaf, leaf)),
	}
}

// seeds are of every length that may be, and of bytes of all kinds.
func seeds() []string {
	list := []string{"\x00", "\xff", strings.Repeat("\x00", 16), strings.Repeat("\xff", 16), "é", "harbor"}
	for n := range 17 {
		list = append(list, "a seed of 16 byt"[:n])
	}
	return list
}

// bodies are images to be signed: Sign asks for no more than their length.
func bodies() []string {
	list := []string{goodImage(), "\x00", "\xff\xfe", "é"}
	for _, n := range []int{0, 1, 2, 31, 32, 54, 55, 56, 62, 63, 64, 118, 119, 120, 255, 256, 299, 300} {
		list = append(list, strings.Repeat("image ", 50)[:n])
	}
	return list
}

func TestP4Root(t *testing.T) {
	seen := map[string]string{}
	for _, seed := range seeds() {
		root, e := harbor.Root(seed)
		if root != wantRoot(seed) || e != harbor.OK {
			t.Errorf("P4: Root(%q) = %x, %d, want %x", seed, root, e, wantRoot(seed))
		}
		if twin, ok := seen[root]; ok && twin != seed {
			t.Errorf("P4: Root(%q) is Root(%q)", seed, twin)
		}
		seen[root] = seed
	}
}

func TestP4TooLong(t *testing.T) {
	for _, n := range []int{17, 18, 32, 300, 1001, 1 << 20} {
		if root, e := harbor.Root(strings.Repeat("s", n)); root != "" || e != harbor.ErrLong {
			t.Errorf("P4: Root of %d bytes = %x, %d", n, root, e)
		}
	}
}

func checkManifest(t *testing.T, seed string, leaf int, image string) {
	t.Helper()
	got, e := harbor.Sign(seed, leaf, image)
	if want := wantManifest(seed, leaf, image); got != want || len(got) != 833 || e != harbor.OK {
		t.Errorf("P5: Sign(%q, %d, %.20q, %d bytes) = %x, %d, want %x", seed, leaf, image, len(image), got, e, want)
	}
	if !harbor.Verify(wantRoot(seed), image, got) {
		t.Errorf("P6: Sign(%q, %d, %.20q, %d bytes) is not verified", seed, leaf, image, len(image))
	}
}

func TestP5P6Signed(t *testing.T) {
	for leaf := range 4 {
		for _, seed := range seeds() {
			checkManifest(t, seed, leaf, "an image")
		}
		for _, image := range bodies() {
			checkManifest(t, "s", leaf, image)
		}
	}
}

// Each bit that is signed is 0 in some image and 1 in some other one.
func TestP5P6EachWorth(t *testing.T) {
	for leaf := range 4 {
		var seen [12][2]bool
		for i := range 40 {
			image := fmt.Sprint("image ", i)
			checkManifest(t, "s", leaf, image)
			for number, digit := range wantBits(leaf, image) {
				seen[number][digit-'0'] = true
			}
		}
		for number, both := range seen {
			if both != [2]bool{true, true} {
				t.Errorf("leaf %d: the images try the bit %d no more than one way", leaf, number)
			}
		}
	}
}

func TestP5Errors(t *testing.T) {
	s16, s17 := strings.Repeat("s", 16), strings.Repeat("s", 17)
	i300, i301 := strings.Repeat("i", 300), strings.Repeat("i", 301)
	for _, c := range []struct {
		seed  string
		leaf  int
		image string
		want  harbor.Errno
	}{
		{s17, 0, "", harbor.ErrLong},
		{"", 0, i301, harbor.ErrLong},
		{s17, 0, i301, harbor.ErrLong},
		{s16, 3, i301, harbor.ErrLong},
		{s17, 3, i300, harbor.ErrLong},
		{s17, -1, "", harbor.ErrLong},
		{s17, 4, i300, harbor.ErrLong},
		{"", -1, i301, harbor.ErrLong},
		{s16, 4, i301, harbor.ErrLong},
		{s17, 4, i301, harbor.ErrLong},
		{"", -1, "", harbor.ErrArg},
		{"", 4, "", harbor.ErrArg},
		{s16, -1, i300, harbor.ErrArg},
		{s16, 4, i300, harbor.ErrArg},
		{"s", 5, "i", harbor.ErrArg},
		{"s", 255, "i", harbor.ErrArg},
		{"s", 256, "i", harbor.ErrArg},
		{"s", -4, "i", harbor.ErrArg},
		{"s", -256, "i", harbor.ErrArg},
		{"s", 1 << 32, "i", harbor.ErrArg},
		{"s", math.MaxInt, "i", harbor.ErrArg},
		{"s", math.MinInt, "i", harbor.ErrArg},
	} {
		if got, e := harbor.Sign(c.seed, c.leaf, c.image); got != "" || e != c.want {
			t.Errorf("P5: Sign(%d bytes, %d, %d bytes) = %x, %d, want %d", len(c.seed), c.leaf, len(c.image), got, e, c.want)
		}
	}
	for _, leaf := range []int{0, 3} {
		checkManifest(t, s16, leaf, i300)
		checkManifest(t, "", leaf, "")
	}
}

func refuse(t *testing.T, what, root, image, manifest string) {
	t.Helper()
	if harbor.Verify(root, image, manifest) {
		t.Errorf("P6: %s: Verify(%x, %.20q, %x) = true", what, root, image, manifest)
	}
}

func TestP6Lengths(t *testing.T) {
	root, image := wantRoot("s"), "an image"
	manifest := wantManifest("s", 2, image)
	for _, n := range []int{0, 1, 31} {
		refuse(t, "short root", root[:n], image, manifest)
		refuse(t, "end of a root", root[32-n:], image, manifest)
	}
	for _, more := range []string{"\x00", "x", root} {
		refuse(t, "long root", root+more, image, manifest)
		refuse(t, "long root", more+root, image, manifest)
		refuse(t, "long manifest", root, image, manifest+more)
		refuse(t, "long manifest", root, image, more+manifest)
	}
	for _, n := range []int{0, 1, 2, 769, 801, 832} {
		refuse(t, "short manifest", root, image, manifest[:n])
		refuse(t, "end of a manifest", root, image, manifest[833-n:])
	}
	refuse(t, "nothing", "", "", "")
	refuse(t, "no root and no manifest", "", image, "")
	refuse(t, "all too long", root+"x", strings.Repeat("i", 301), manifest+"x")
}

// A signature over an image that is too long is right in all else.
func TestP6LongImage(t *testing.T) {
	for leaf := range 4 {
		for _, n := range []int{300, 301, 302, 512, 1001} {
			image := strings.Repeat("i", n)
			if got, want := harbor.Verify(wantRoot("s"), image, wantManifest("s", leaf, image)), n <= 300; got != want {
				t.Errorf("P6: leaf %d: an image of %d bytes: %v", leaf, n, got)
			}
		}
	}
}

// A manifest that nobody signed: whatever stands in it, the root that comes of
// it is the right one, and the order of the leaf's numbers is the only one.
func TestP6WhatStandsThere(t *testing.T) {
	for leaf := range 256 {
		manifest := []byte{byte(leaf)}
		for i := 1; i < 833; i++ {
			manifest = append(manifest, byte(i*i+leaf))
		}
		image := fmt.Sprint("image ", leaf)
		for way, root := range rootsOf(image, string(manifest)) {
			if got, want := harbor.Verify(root, image, string(manifest)), way == leaf; got != want {
				t.Errorf("P6: leaf %d, way %d: %v", leaf, way, got)
			}
		}
	}
}

func TestP6ByteChanged(t *testing.T) {
	const image = "an image"
	root := wantRoot("s")
	for leaf := range 4 {
		manifest := wantManifest("s", leaf, image)
		for i := range manifest {
			for _, flip := range []byte{1, 2, 4, 128, 255} {
				refuse(t, fmt.Sprint("byte ", i), root, image, changed(manifest, i, flip))
			}
		}
		for i := range root {
			for bit := range 8 {
				refuse(t, fmt.Sprint("byte of the root ", i), changed(root, i, 1<<bit), image, manifest)
			}
		}
		refuse(t, "zeros as the root", strings.Repeat("\x00", 32), image, manifest)
		refuse(t, "another seed's root", wantRoot("t"), image, manifest)
		refuse(t, "another seed's manifest", root, image, wantManifest("t", leaf, image))
	}
}

func changed(text string, at int, flip byte) string {
	b := []byte(text)
	b[at] ^= flip
	return string(b)
}

// The leaf is signed too: a manifest is none under another leaf's number.
func TestP6OtherLeaf(t *testing.T) {
	const image = "an image"
	for leaf := range 4 {
		manifest := wantManifest("s", leaf, image)
		for other := range 256 {
			if other != leaf {
				refuse(t, fmt.Sprint("leaf ", other), wantRoot("s"), image, string([]byte{byte(other)})+manifest[1:])
			}
		}
	}
}

// Sums of the manifest that stand at each other's places.
func TestP6Swapped(t *testing.T) {
	const image = "an image"
	for leaf := range 4 {
		manifest := wantManifest("s", leaf, image)
		for i := range 26 {
			for j := range i {
				first, second := manifest[1+32*j:33+32*j], manifest[1+32*i:33+32*i]
				swapped := manifest[:1+32*j] + second + manifest[33+32*j:1+32*i] + first + manifest[33+32*i:]
				refuse(t, fmt.Sprint("swapped ", j, i), wantRoot("s"), image, swapped)
			}
		}
	}
}

// Twelve bits of the image's sum are signed, all of them and no others: an
// image passes as another one if these are the same.
func TestP6ImageChanged(t *testing.T) {
	root := wantRoot("s")
	for leaf := range 4 {
		bits := wantBits(leaf, "an image")
		manifest := wantManifest("s", leaf, "an image")
		same, lone := 0, map[int]bool{}
		for i := range 30000 {
			image := fmt.Sprint("image ", i)
			number, many := difference(bits, wantBits(leaf, image))
			if many > 1 {
				continue
			}
			if many == 0 {
				same++
			} else {
				lone[number] = true
			}
			if got, want := harbor.Verify(root, image, manifest), many == 0; got != want {
				t.Errorf("P6: leaf %d: %q with %d other bits, the last %d: %v", leaf, image, many, number, got)
			}
		}
		if same == 0 || len(lone) != 12 {
			t.Errorf("leaf %d: the images try %d same ones, and each of %v alone", leaf, same, lone)
		}
	}
}

// difference tells how many bits are others, and the number of the last one.
func difference(bits, others string) (number, many int) {
	for i := range bits {
		if bits[i] != others[i] {
			number, many = i, many+1
		}
	}
	return number, many
}

func TestP6ImageByteChanged(t *testing.T) {
	root := wantRoot("s")
	for leaf := range 4 {
		image := goodImage()
		manifest := wantManifest("s", leaf, image)
		for i := range image {
			other := changed(image, i, 16)
			want := wantBits(leaf, other) == wantBits(leaf, image)
			if got := harbor.Verify(root, other, manifest); got != want {
				t.Errorf("P6: leaf %d: the image's byte %d changed: %v", leaf, i, got)
			}
		}
	}
}
