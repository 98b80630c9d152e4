package tests

import (
	"bytes"
	"math/rand"
	"testing"

	"loop.example/g00222/impl"
)

func TestPutFrameByHand(t *testing.T) {
	cases := []struct{ data, want []byte }{
		{nil, []byte{0, 0, 255, 255}},
		{[]byte{}, []byte{0, 0, 255, 255}},
		{[]byte{0}, []byte{0, 1, 255, 255, 0}},
		{[]byte{1, 2}, []byte{0, 2, 254, 253, 1, 2}},
		{[]byte{1, 2, 3}, []byte{0, 3, 251, 253, 1, 2, 3}},
		{[]byte{255, 255}, []byte{0, 2, 0, 0, 255, 255}},
	}
	for _, c := range cases {
		got := impl.PutFrame(c.data)
		if got.Code != impl.OK || !bytes.Equal(got.Bytes, c.want) {
			t.Errorf("PutFrame(%v) = %v, want the bytes %v", c.data, got, c.want)
		}
	}
}

func TestPutFrameOfAnyLength(t *testing.T) {
	for length := range 251 {
		data := upTo(int64(length), length)
		got := impl.PutFrame(data)
		if got.Code != impl.OK || !bytes.Equal(got.Bytes, wantFrame(data)) {
			t.Errorf("PutFrame of %d bytes = %v", length, got)
		}
	}
	for _, length := range []int{251, 252, 255, 256, 257, 506, 600, 601, 65536, 65538} {
		got := impl.PutFrame(make([]byte, length))
		if got.Code != impl.ErrMany || len(got.Bytes) != 0 {
			t.Errorf("PutFrame of %d bytes = %v, want ErrMany and nothing else", length, got)
		}
	}
}

func mustFind(t *testing.T, data []byte, used int64, frames ...[]byte) {
	t.Helper()
	got := impl.TakeFrames(guarded(data))
	if got.Code != impl.OK || got.Used != used || !sameLists(got.Frames, frames) {
		t.Errorf("TakeFrames(%v) = %v, want %v and %d bytes used", data, got, frames, used)
	}
}

func TestTakeFramesByHand(t *testing.T) {
	pair := []byte{0, 2, 254, 253, 1, 2}
	none := []byte{0, 0, 255, 255}
	mustFind(t, nil, 0)
	mustFind(t, []byte{}, 0)
	mustFind(t, pair, 6, []byte{1, 2})
	mustFind(t, none, 4, nil)
	mustFind(t, joined(none, none, none), 12, nil, nil, nil)
	mustFind(t, joined(none, pair, none), 14, nil, []byte{1, 2}, nil)
	mustFind(t, joined(pair, []byte{0}), 6, []byte{1, 2})
	mustFind(t, joined(pair, []byte{0, 2, 254, 253, 1}), 6, []byte{1, 2})
	mustFind(t, joined(pair, []byte{9, 9, 9, 9}, pair), 6, []byte{1, 2})
	mustFind(t, joined([]byte{0}, pair), 0)
}

func TestTakeFramesWithAWrongSum(t *testing.T) {
	good := wantFrame([]byte{1, 2, 3, 4})
	for sum := range 65536 {
		bad := joined([]byte{0, 4}, wantNumber(uint64(sum), 2), []byte{1, 2, 3, 4})
		if bytes.Equal(bad, good) {
			continue
		}
		if got := impl.TakeFrames(joined(good, bad, good)); got.Used != 8 || len(got.Frames) != 1 || got.Code != impl.OK {
			t.Fatalf("a frame with the sum %d in place of %d: %v", sum, wantSum([]byte{1, 2, 3, 4}), got)
		}
	}
	// 0 and 65535 stand for one another where words are summed up, but only one of them is what PutFrame writes.
	mustFind(t, []byte{0, 0, 0, 0}, 0)
	mustFind(t, []byte{0, 1, 0, 0, 0}, 0)
	mustFind(t, []byte{0, 2, 0, 0, 0, 0}, 0)
	mustFind(t, []byte{0, 2, 255, 255, 255, 255}, 0)
	mustFind(t, []byte{0, 2, 0, 0, 255, 255}, 6, []byte{255, 255})
}

func TestTakeFramesOfTheGreatestData(t *testing.T) {
	most := upTo(250, 250)
	mustFind(t, wantFrame(most), 254, most)
	mustFind(t, joined(wantFrame(most), wantFrame(most), wantFrame(most[:88])), 600, most, most, most[:88])
	for _, length := range []int{251, 252, 255, 256, 300, 596} {
		more := upTo(int64(length), length)
		mustFind(t, wantFrame(more), 0)
		if length < 300 {
			mustFind(t, joined(wantFrame(most[:7]), wantFrame(more)), 11, most[:7])
		}
	}
}

func TestTakeFramesOfTheMostBytes(t *testing.T) {
	none := []byte{0, 0, 255, 255}
	mustFind(t, bytes.Repeat(none, 150), 600, make([][]byte, 150)...)
	mustFind(t, joined(bytes.Repeat(none, 149), []byte{0, 0, 255}), 596, make([][]byte, 149)...)
	mustFind(t, make([]byte, 600), 0)
	cases := [][]byte{
		make([]byte, 601),
		joined(bytes.Repeat(none, 150), []byte{0}),
		bytes.Repeat(none, 151),
		make([]byte, 100000),
	}
	for _, data := range cases {
		got := impl.TakeFrames(data)
		if got.Code != impl.ErrMany || got.Used != 0 || len(got.Frames) != 0 {
			t.Errorf("TakeFrames of %d bytes = %v, want ErrMany and nothing else", len(data), got)
		}
	}
}

// someFrames gives data for frames that have room together within MaxBytes.
func someFrames(random *rand.Rand) [][]byte {
	var list [][]byte
	room := 600
	for range random.Intn(12) {
		length := random.Intn(1 + random.Intn(251))
		if length+4 > room {
			break
		}
		room -= length + 4
		list = append(list, upTo(random.Int63(), length))
	}
	return list
}

func putAll(list [][]byte) []byte {
	var all []byte
	for _, data := range list {
		all = append(all, impl.PutFrame(data).Bytes...)
	}
	return all
}

func TestFramesThatArePutAreTaken(t *testing.T) {
	random := rand.New(rand.NewSource(3))
	for range 500 {
		list := someFrames(random)
		all := putAll(list)
		mustFind(t, all, int64(len(all)), list...)
	}
}

func TestBeginningOfFramesHasTheFirstOnes(t *testing.T) {
	random := rand.New(rand.NewSource(4))
	for range 40 {
		list := someFrames(random)
		all := putAll(list)
		for cut := range len(all) + 1 {
			whole, used := 0, 0
			for whole < len(list) && used+4+len(list[whole]) <= cut {
				used += 4 + len(list[whole])
				whole++
			}
			mustFind(t, all[:cut], int64(used), list[:whole]...)
		}
	}
}

func TestTakeFramesOfTurnedBytes(t *testing.T) {
	random := rand.New(rand.NewSource(5))
	for range 1500 {
		data := joined(putAll(someFrames(random)), upTo(random.Int63(), random.Intn(9)))
		for range random.Intn(4) {
			if len(data) > 0 {
				data[random.Intn(len(data))] = byte(random.Intn(256))
			}
		}
		data = data[:min(len(data), 600)]
		frames, used := wantFrames(data)
		mustFind(t, data, used, frames...)
	}
}
