package tests

import (
	"bytes"
	"math/rand"
	"testing"

	"loop.example/g00222/impl"
)

func TestCodesAndBounds(t *testing.T) {
	got := []int64{
		impl.OK, impl.ErrForm, impl.ErrMany, impl.ErrRange, impl.ErrNone, impl.ErrText,
		impl.ErrSum, impl.ErrTaken, impl.ErrBusy, impl.ErrOld, impl.ErrState,
	}
	for want, code := range got {
		if code != int64(want) {
			t.Errorf("code %d is %d", want, code)
		}
	}
	if impl.MaxBytes != 600 {
		t.Errorf("MaxBytes is %d", impl.MaxBytes)
	}
}

func mustPut(t *testing.T, n, size int64, want []byte) {
	t.Helper()
	got := impl.PutNumber(n, size)
	if got.Code != impl.OK || !bytes.Equal(got.Bytes, want) {
		t.Errorf("PutNumber(%d, %d) = %v, want the bytes %v", n, size, got, want)
	}
}

func mustNotPut(t *testing.T, n, size int64) {
	t.Helper()
	got := impl.PutNumber(n, size)
	if got.Code != impl.ErrRange || len(got.Bytes) != 0 {
		t.Errorf("PutNumber(%d, %d) = %v, want ErrRange and nothing else", n, size, got)
	}
}

func mustTake(t *testing.T, data []byte, at, size, want int64) {
	t.Helper()
	got := impl.TakeNumber(data, at, size)
	if got != (impl.IntResult{Value: want}) {
		t.Errorf("TakeNumber(%v, %d, %d) = %v, want %d", data, at, size, got, want)
	}
}

func mustNotTake(t *testing.T, data []byte, at, size int64) {
	t.Helper()
	got := impl.TakeNumber(data, at, size)
	if got != (impl.IntResult{Code: impl.ErrRange}) {
		t.Errorf("TakeNumber(%v, %d, %d) = %v, want ErrRange and nothing else", data, at, size, got)
	}
}

func TestPutNumberHasTheHighestByteFirst(t *testing.T) {
	mustPut(t, 0, 1, []byte{0})
	mustPut(t, 7, 1, []byte{7})
	mustPut(t, 258, 2, []byte{1, 2})
	mustPut(t, 258, 3, []byte{0, 1, 2})
	mustPut(t, 0x0A0B0C0D, 4, []byte{10, 11, 12, 13})
	mustPut(t, 0x80000000, 4, []byte{128, 0, 0, 0})
	mustPut(t, 0x0102030405, 5, []byte{1, 2, 3, 4, 5})
	mustPut(t, 0x010203040506, 6, []byte{1, 2, 3, 4, 5, 6})
	mustPut(t, 0, 6, []byte{0, 0, 0, 0, 0, 0})
}

func TestPutNumberAtTheBoundsOfEachSize(t *testing.T) {
	for size := int64(1); size <= 6; size++ {
		limit := int64(1) << (8 * size)
		mustPut(t, 0, size, make([]byte, size))
		mustPut(t, 1, size, append(make([]byte, size-1), 1))
		mustPut(t, limit-2, size, append(bytes.Repeat([]byte{255}, int(size-1)), 254))
		mustPut(t, limit-1, size, bytes.Repeat([]byte{255}, int(size)))
		mustNotPut(t, limit, size)
		mustNotPut(t, limit+1, size)
		for _, n := range farNumbers {
			if n < 0 || n >= limit {
				mustNotPut(t, n, size)
			}
		}
	}
}

func TestPutNumberOfNoSize(t *testing.T) {
	for _, size := range append([]int64{0, 7, 8, 9, 16, 64}, farNumbers...) {
		for _, n := range append([]int64{0, 1, 255, 256}, farNumbers...) {
			mustNotPut(t, n, size)
		}
	}
}

func TestTakeNumberHasTheHighestByteFirst(t *testing.T) {
	data := []byte{0, 1, 2, 255, 254, 3, 128, 0}
	mustTake(t, data, 0, 1, 0)
	mustTake(t, data, 3, 1, 255)
	mustTake(t, data, 7, 1, 0)
	mustTake(t, data, 1, 2, 258)
	mustTake(t, data, 3, 2, 65534)
	mustTake(t, data, 6, 2, 32768)
	mustTake(t, data, 0, 3, 258)
	mustTake(t, data, 3, 4, 0xFFFE0380)
	mustTake(t, data, 0, 6, 0x000102FFFE03)
	mustTake(t, data, 2, 6, 0x02FFFE038000)
	mustTake(t, bytes.Repeat([]byte{255}, 6), 0, 6, 1<<48-1)
}

func TestTakeNumberAtTheEndsOfTheBytes(t *testing.T) {
	for length := 0; length <= 8; length++ {
		data := guarded(upTo(int64(length), length))
		for size := int64(1); size <= 6; size++ {
			for at := int64(-9); at <= 9; at++ {
				if at < 0 || at+size > int64(length) {
					mustNotTake(t, data, at, size)
					continue
				}
				want := int64(0)
				for _, b := range data[at : at+size] {
					want = want*256 + int64(b)
				}
				mustTake(t, data, at, size, want)
			}
			for _, at := range farNumbers {
				mustNotTake(t, data, at, size)
			}
		}
	}
	mustNotTake(t, nil, 0, 1)
	mustNotTake(t, []byte{}, 0, 1)
}

func TestTakeNumberOfNoSize(t *testing.T) {
	data := upTo(1, 100)
	for _, size := range append([]int64{0, 7, 8, 9, 16, 64}, farNumbers...) {
		for _, at := range append([]int64{0, 1, 50, 99, 100, 101}, farNumbers...) {
			mustNotTake(t, data, at, size)
			mustNotTake(t, nil, at, size)
		}
	}
}

func TestNumberThatIsPutIsTaken(t *testing.T) {
	random := rand.New(rand.NewSource(2))
	for range 3000 {
		size := 1 + random.Int63n(6)
		n := random.Int63n(1 << (8 * (1 + random.Int63n(size))))
		put := impl.PutNumber(n, size)
		mustPut(t, n, size, wantNumber(uint64(n), int(size)))
		before := upTo(n, random.Intn(5))
		behind := upTo(n+1, random.Intn(5))
		mustTake(t, joined(before, put.Bytes, behind), int64(len(before)), size, n)
	}
}
