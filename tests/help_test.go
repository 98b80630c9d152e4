package tests

import (
	"bytes"
	"encoding/binary"
	"math"
	"math/rand"
	"reflect"
	"slices"
	"sync"
	"testing"
)

// farNumbers are numbers that a sum or a shift done too early would wrap round.
var farNumbers = []int64{
	math.MinInt64, math.MinInt64 + 1, -1 << 62, -1 << 61, -1 << 48, -1 << 32, -65536, -256, -8, -7, -6, -2, -1,
	1 << 32, 1<<32 + 1, 1 << 61, 1<<61 + 1, 1<<61 + 6, 1 << 62, 1<<63 - 8, math.MaxInt64 - 1, math.MaxInt64,
}

// guarded copies data into memory with more room behind its end, all of it 0xEE, so that reading or writing there shows.
func guarded(data []byte) []byte {
	room := bytes.Repeat([]byte{0xEE}, len(data)+64)
	copy(room[32:], data)
	return room[32 : 32+len(data)]
}

// guardHolds tells whether the room around a piece made by guarded, and the piece, are as they were.
func guardHolds(piece, data []byte) bool {
	behind := piece[len(piece):cap(piece)]
	return bytes.Equal(piece, data) && bytes.Equal(behind, bytes.Repeat([]byte{0xEE}, len(behind)))
}

// spoil overwrites all that can be reached by a list, its spare room too.
func spoil(list []byte) {
	all := list[:cap(list)]
	for i := range all {
		all[i] ^= 0x5A
	}
}

// mustAnswerTheSame asks all questions again, the last one first and several at a time, and wants what was answered at first.
func mustAnswerTheSame[Q any](t *testing.T, questions []Q, ask func(Q) []any) {
	t.Helper()
	var first [][]any
	for _, q := range questions {
		first = append(first, ask(q))
	}
	var all sync.WaitGroup
	for range 4 {
		all.Go(func() {
			for i, q := range slices.Backward(questions) {
				if !reflect.DeepEqual(ask(q), first[i]) {
					t.Errorf("%v is answered in two ways", q)
				}
			}
		})
	}
	all.Wait()
}

// told gives a code where something is so.
func told(so bool, code int64) int64 {
	return map[bool]int64{true: code}[so]
}

// upTo gives count bytes that hang on the seed alone.
func upTo(seed int64, count int) []byte {
	out := make([]byte, count)
	rand.New(rand.NewSource(seed)).Read(out)
	return out
}

func joined(pieces ...[]byte) []byte {
	return bytes.Join(pieces, nil)
}

// wantNumber writes a number by the library.
func wantNumber(n uint64, size int) []byte {
	return binary.BigEndian.AppendUint64(nil, n)[8-size:]
}

// wantSum tells the sum by one division at the end, where the document takes less away word by word.
func wantSum(data []byte) int64 {
	total := int64(0)
	for i, b := range data {
		if i%2 == 0 {
			total += 256 * int64(b)
		} else {
			total += int64(b)
		}
	}
	if total == 0 {
		return 65535
	}
	return 65535 - (1 + (total-1)%65535)
}

func wantFrame(data []byte) []byte {
	return joined(wantNumber(uint64(len(data)), 2), wantNumber(uint64(wantSum(data)), 2), data)
}

// wantFrames looks for the frames by writing each piece that could be one.
func wantFrames(data []byte) ([][]byte, int64) {
	var frames [][]byte
	used := 0
	for {
		found := false
		for count := 0; count <= 250 && used+4+count <= len(data) && !found; count++ {
			inner := data[used+4 : used+4+count]
			if bytes.HasPrefix(data[used:], wantFrame(inner)) {
				frames = append(frames, bytes.Clone(inner))
				used += 4 + count
				found = true
			}
		}
		if !found {
			return frames, int64(used)
		}
	}
}

func sameLists(a, b [][]byte) bool {
	if len(a) != len(b) {
		return false
	}
	for i := range a {
		if !bytes.Equal(a[i], b[i]) {
			return false
		}
	}
	return true
}

func TestHelpersAgreeWithTheExamples(t *testing.T) {
	if wantSum([]byte{1, 2, 3}) != 64509 || wantSum(nil) != 65535 || wantSum([]byte{255, 255}) != 0 {
		t.Error("wantSum is off")
	}
	if !bytes.Equal(wantFrame([]byte{1, 2}), []byte{0, 2, 254, 253, 1, 2}) {
		t.Error("wantFrame is off")
	}
}
