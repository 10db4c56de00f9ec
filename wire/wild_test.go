package wire_test

import (
	"math"
	"math/rand"
	"slices"
	"testing"

	"crosswalk/api"
	"crosswalk/wire"
)

// Each byte alone is any other one: Get answers the file that has these bytes, if there is one.
func TestL2EachByteOfAFile(t *testing.T) {
	for _, s := range samples() {
		files := 0
		b := put(t, s.file)
		for at := range b {
			was := b[at]
			for other := range 256 {
				b[at] = byte(other)
				if b[at] != was && checkFound(t, b) {
					files++
				}
			}
			b[at] = was
		}
		if files == 0 {
			t.Errorf("%s: no other file", s.name)
		}
	}
}

// Each number alone is any other one.
func TestL2EachNumberOfAFile(t *testing.T) {
	numbers := []int64{math.MinInt64, math.MinInt64 + 1, -1 << 32, -2, -1, 26, 90, 91, 400, 401, 2400, 2401, 1 << 32, 1<<32 + 1, 1 << 56, 1<<56 + 1, math.MaxInt64 - 1, math.MaxInt64}
	for n := range int64(26) {
		numbers = append(numbers, n)
	}
	for _, s := range samples() {
		b := put(t, s.file)
		for at := 1; at < len(b); at += 8 {
			for _, n := range numbers {
				checkFound(t, withNumber(b, at, n))
			}
		}
	}
}

// Bytes are left out, doubled, put in, or change places.
func TestL2BytesThatMoved(t *testing.T) {
	for _, s := range samples() {
		b := put(t, s.file)
		for at := range b {
			for _, n := range []int{1, 2, 7, 8, 9, 16, 48} {
				if at+n > len(b) {
					continue
				}
				checkFound(t, slices.Concat(b[:at], b[at+n:]))
				checkFound(t, slices.Concat(b[:at+n], b[at:]))
				checkFound(t, slices.Concat(b[:at], make([]byte, n), b[at:]))
				if at+2*n <= len(b) {
					checkFound(t, slices.Concat(b[:at], b[at+n:at+2*n], b[at:at+n], b[at+2*n:]))
				}
			}
		}
	}
}

func TestL2WildBytes(t *testing.T) {
	r := rand.New(rand.NewSource(2))
	for range 20000 {
		b := make([]byte, r.Intn(400))
		r.Read(b)
		if len(b) > 0 && r.Intn(4) > 0 {
			b[0] = byte(r.Intn(3))
		}
		checkFound(t, b)
		numbers := make([]int64, r.Intn(60))
		for k := range numbers {
			numbers[k] = int64(r.Intn(6) * r.Intn(2))
		}
		checkFound(t, lay(byte(r.Intn(3)), numbers...))
		// A beginning that may be leads further in.
		head := []int64{4, -1, 0, 0, 0, 0, 0, 0, 0, 1, 0, 0, 0, 0, 0, 1, 1}
		checkFound(t, lay(byte(r.Intn(3)), append(head[:r.Intn(len(head)+1)], numbers...)...))
	}
}

// Files in which a few numbers are others: some of them may be, some may not.
func TestL2WildFiles(t *testing.T) {
	r := newMaker(3, 12)
	may := map[bool]int{}
	for n := range 6000 {
		first := forms()[n%2]
		l := laid(first, r.make(first))
		places := slices.Concat(l.rows, l.rows, l.counts)
		b := l.bytes
		for range r.from(1, 3) {
			at := places[r.Intn(len(places))]
			b = withNumber(b, at, numberAt(b, at)+int64(r.from(-2, 2)))
		}
		may[checkFound(t, b)]++
		if n%3 == 0 {
			b[0] = 3 - b[0]
			checkFound(t, b)
		}
	}
	if may[true] < 100 || may[false] < 100 {
		t.Errorf("files that may be, and not: %v", may)
	}
}

// No two files have the same bytes, and no file has two.
func TestL2NoTwoFilesHaveTheSameBytes(t *testing.T) {
	r := newMaker(4, 2)
	files := map[string]api.File{}
	for n := range 4000 {
		f := r.make(forms()[n%2])
		b := string(put(t, f))
		if g, ok := files[b]; ok && !sameFile(f, g) {
			t.Fatalf("the same bytes: %+v\nand %+v", f, g)
		}
		files[b] = f
	}
}

// FuzzGet: whatever Get answers is what is found.
func FuzzGet(f *testing.F) {
	for _, s := range samples() {
		b, _ := wire.Put(s.file)
		f.Add(b)
	}
	f.Fuzz(func(t *testing.T, b []byte) { checkFound(t, b) })
}
