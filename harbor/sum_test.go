package harbor_test

import (
	"crypto/sha256"
	"fmt"
	"strings"
	"testing"

	"harbor/harbor"
)

func TestP3KnownSums(t *testing.T) {
	for _, c := range []struct{ data, want string }{
		{"", "e3b0c44298fc1c149afbf4c8996fb92427ae41e4649b934ca495991b7852b855"},
		{"abc", "ba7816bf8f01cfea414140de5dae2223b00361a396177a9cb410ff61f20015ad"},
		{"abcdbcdecdefdefgefghfghighijhijkijkljklmklmnlmnomnopnopq", "248d6a61d20638b8e5c026930c3e6039a33ce45964ff2167f6ecedd419db06c1"},
	} {
		s, e := harbor.Hash(c.data)
		if got := fmt.Sprintf("%x", s); got != c.want || e != harbor.OK {
			t.Errorf("P3: Hash(%q) = %s, %d, want %s", c.data, got, e, c.want)
		}
	}
}

// Every length from 0 to MaxData is an edge of some block.
func TestP3EveryLength(t *testing.T) {
	for n := range 1001 {
		data := make([]byte, n)
		for i := range data {
			data[i] = byte(i*167 + n)
		}
		checkSum(t, string(data))
		checkSum(t, strings.Repeat("\xff", n))
		checkSum(t, strings.Repeat("\x00", n))
	}
}

func checkSum(t *testing.T, data string) {
	t.Helper()
	want := sha256.Sum256([]byte(data))
	if s, e := harbor.Hash(data); s != string(want[:]) || e != harbor.OK {
		t.Errorf("P3: Hash of %d bytes = %x, %d, want %x", len(data), s, e, want)
	}
}

func TestP3TooLong(t *testing.T) {
	for _, n := range []int{1001, 1002, 1024, 65536, 1 << 20} {
		if s, e := harbor.Hash(strings.Repeat("a", n)); s != "" || e != harbor.ErrLong {
			t.Errorf("P3: Hash of %d bytes = %x, %d", n, s, e)
		}
	}
}
