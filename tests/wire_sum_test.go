package tests

import (
	"bytes"
	"testing"

	"loop.example/g00222/impl"
)

func TestSumWordsByHand(t *testing.T) {
	cases := []struct {
		data []byte
		want int64
	}{
		{nil, 65535},
		{[]byte{}, 65535},
		{[]byte{0}, 65535},
		{[]byte{0, 0}, 65535},
		{[]byte{1}, 65279},
		{[]byte{0, 1}, 65534},
		{[]byte{1, 2, 3}, 64509},
		{[]byte{255}, 255},
		{[]byte{255, 255}, 0},
		{[]byte{255, 254, 0, 1}, 0},
		{[]byte{255, 255, 0, 1}, 65534},
		{[]byte{255, 255, 255, 255}, 0},
		{[]byte{255, 255, 255, 254}, 1},
		{[]byte{128, 0, 128}, 65534},
		{[]byte{128, 0, 127, 255, 0, 1}, 65534},
		{[]byte{0, 0, 255, 255, 0}, 0},
	}
	for _, c := range cases {
		if got := impl.SumWords(guarded(c.data)); got != c.want {
			t.Errorf("SumWords(%v) = %d, want %d", c.data, got, c.want)
		}
		if got := impl.WholeSum(guarded(c.data)); got != (c.want == 0) {
			t.Errorf("WholeSum(%v) = %v where the sum is %d", c.data, got, c.want)
		}
	}
	if impl.SumWords(nil) != 65535 || impl.WholeSum(nil) {
		t.Error("no bytes at all have the sum 65535 and are not whole")
	}
}

func TestSumWordsOfAnyLength(t *testing.T) {
	for length := range 700 {
		data := guarded(upTo(int64(length), length))
		if got := impl.SumWords(data); got != wantSum(data) {
			t.Errorf("SumWords of %d bytes = %d, want %d", length, got, wantSum(data))
		}
	}
	for _, length := range []int{100000, 100001, 262144} {
		for _, b := range []byte{1, 128, 255} {
			data := bytes.Repeat([]byte{b}, length)
			if got := impl.SumWords(data); got != wantSum(data) {
				t.Errorf("SumWords of %d times %d = %d, want %d", length, b, got, wantSum(data))
			}
		}
	}
}

func TestOddLastByteHasANoughtBehindIt(t *testing.T) {
	for length := 1; length < 60; length += 2 {
		data := upTo(int64(length), length)
		if impl.SumWords(data) != impl.SumWords(joined(data, []byte{0})) {
			t.Errorf("the odd last byte of %v is not taken as the higher one of a word", data)
		}
	}
}

func withSum(data []byte) []byte {
	return joined(data, impl.PutNumber(impl.SumWords(data), 2).Bytes)
}

func evenPieces() [][]byte {
	pieces := [][]byte{nil, {0, 0}, {255, 255}, {255, 255, 255, 255}, {0, 1}, {255, 254, 0, 1}, make([]byte, 40)}
	for length := 2; length < 400; length += 6 {
		pieces = append(pieces, upTo(int64(length), length))
	}
	return pieces
}

func TestEvenBytesWithTheirSumAreWhole(t *testing.T) {
	for _, data := range evenPieces() {
		whole := withSum(data)
		if !impl.WholeSum(whole) {
			t.Errorf("%v is not whole", whole)
		}
		if len(whole) != len(data)+2 {
			t.Errorf("the sum of %v has not two bytes", data)
		}
	}
}

// The words 0 and 65535 turn no sum: the definition of SumWords takes them both for nothing once the sum is 65535.
func TestOneWordMoreIsSeen(t *testing.T) {
	for _, data := range [][]byte{nil, {0, 0}, {255, 255}, {1, 2}, upTo(5, 20)} {
		whole := withSum(data)
		for word := range 65536 {
			more := joined(whole, wantNumber(uint64(word), 2))
			if impl.WholeSum(more) != (word == 0 || word == 65535) {
				t.Fatalf("%v with the word %d more: WholeSum is %v", whole, word, impl.WholeSum(more))
			}
		}
	}
}

func TestWordThatIsOneMoreIsSeen(t *testing.T) {
	for _, data := range evenPieces() {
		whole := withSum(data)
		for at := 0; at < len(whole); at += 2 {
			word := impl.TakeNumber(whole, int64(at), 2).Value
			if word == 65535 {
				continue
			}
			turned := bytes.Clone(whole)
			copy(turned[at:], wantNumber(uint64(word+1), 2))
			if impl.WholeSum(turned) {
				t.Errorf("%v is whole, though its word at %d is one more", turned, at)
			}
		}
	}
}
