package harbor

import "iter"

const (
	secretName = "harbor" // ahead of all that a secret is made of
	worths     = 2        // that a bit can have
)

// What stands in a manifest, and where.
const (
	leafAt       = 0
	shownAt      = leafAt + 1 // for each bit a secret, and the sum of the other one
	shownSize    = worths * sumSize
	besideLeafAt = shownAt + signed*shownSize
	besidePairAt = besideLeafAt + sumSize
	manifestSize = besidePairAt + sumSize
)

// seals are the sums of a leaf's secrets, by a bit's number and its worth.
type seals [signed][worths]sum

// bitsOf goes through the bits of an image that are signed with a leaf: each
// one's number and its worth.
func bitsOf(leaf int, image string) iter.Seq2[int, int] {
	return func(yield func(number, worth int) bool) {
		s := sumOf(string([]byte{byte(leaf)}) + image)
		for number := range signed {
			worth := int(s[number/8]>>(7-number%8)) & 1
			if !yield(number, worth) {
				return
			}
		}
	}
}

// secretOf is what a manifest shows for a bit, and the seed alone can tell.
func secretOf(seed string, leaf, number, worth int) sum {
	return sumOf(secretName + string([]byte{byte(leaf), byte(number), byte(worth)}) + seed)
}

func sealsOf(seed string, leaf int) seals {
	var made seals
	for number := range signed {
		for worth := range worths {
			made[number][worth] = sumOfSums(secretOf(seed, leaf, number, worth))
		}
	}
	return made
}

func leafSum(s seals) sum {
	var all []sum
	for _, both := range s {
		all = append(all, both[:]...)
	}
	return sumOfSums(all...)
}

func pairSum(seed string, pair int) sum {
	return sumOfSums(leafSum(sealsOf(seed, 2*pair)), leafSum(sealsOf(seed, 2*pair+1)))
}

func rootOf(seed string) sum {
	return sumOfSums(pairSum(seed, 0), pairSum(seed, 1))
}

// manifestOf signs the image: it shows one secret of each bit, and of all else
// no more than sums.
func manifestOf(seed string, leaf int, image string) string {
	own := sealsOf(seed, leaf)
	besideLeaf := leafSum(sealsOf(seed, twin(leaf)))
	besidePair := pairSum(seed, twin(leaf/2))
	manifest := []byte{byte(leaf)}
	for number, worth := range bitsOf(leaf, image) {
		shown := secretOf(seed, leaf, number, worth)
		manifest = append(manifest, shown[:]...)
		manifest = append(manifest, own[number][twin(worth)][:]...)
	}
	manifest = append(manifest, besideLeaf[:]...)
	manifest = append(manifest, besidePair[:]...)
	return string(manifest)
}

// rootFrom is the root that what stands in a manifest leads to, if this is the
// image that it signs.
func rootFrom(image, manifest string) sum {
	leaf := int(manifest[leafAt])
	var own seals
	for number, worth := range bitsOf(leaf, image) {
		at := shownAt + number*shownSize
		own[number][worth] = sumOfSums(sumAt(manifest, at))
		own[number][twin(worth)] = sumAt(manifest, at+sumSize)
	}
	pair := joined(leaf, leafSum(own), sumAt(manifest, besideLeafAt))
	return joined(leaf/2, pair, sumAt(manifest, besidePairAt))
}

// twin is the number of the other one of two: 0 and 1, 2 and 3.
func twin(number int) int { return number ^ 1 }

// joined is the sum of two sums, the one with the lower number ahead.
func joined(number int, own, other sum) sum {
	if number < twin(number) {
		return sumOfSums(own, other)
	}
	return sumOfSums(other, own)
}
