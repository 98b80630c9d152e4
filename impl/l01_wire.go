package impl

const OK = 0
const ErrForm = 1
const ErrMany = 2
const ErrRange = 3
const ErrNone = 4
const ErrText = 5
const ErrSum = 6
const ErrTaken = 7
const ErrBusy = 8
const ErrOld = 9
const ErrState = 10
const MaxBytes = 600

const maxNumberSize = 6
const maxWord = 65535
const maxFrameData = 250
const frameHeadSize = 4

type IntResult struct {
	Code  int64
	Value int64
}
type IntsResult struct {
	Code int64
	List []int64
}
type BytesResult struct {
	Code  int64
	Bytes []byte
}
type TextResult struct {
	Code int64
	Text string
}
type FramesResult struct {
	Code   int64
	Used   int64
	Frames [][]byte
}

// PutNumber writes n in size bytes, the highest first.
func PutNumber(n int64, size int64) BytesResult {
	if !isNumberSize(size) || n < 0 || uint64(n) > greatestNumber(size) {
		return BytesResult{Code: ErrRange}
	}
	return BytesResult{Bytes: numberBytes(uint64(n), size)}
}

// TakeNumber reads the number that stands in the size bytes from at on.
func TakeNumber(data []byte, at int64, size int64) IntResult {
	// The size is taken from the length, not put onto at, which may be so great that the sum wraps round.
	if !isNumberSize(size) || at < 0 || at > int64(len(data))-size {
		return IntResult{Code: ErrRange}
	}
	n := uint64(0)
	for _, b := range data[at : at+size] {
		n = n<<8 | uint64(b)
	}
	return IntResult{Value: int64(n)}
}

// SumWords tells what the words of data lack to maxWord, carries put back in.
func SumWords(data []byte) int64 {
	sum := uint64(0)
	for at := 0; at < len(data); at += 2 {
		sum += wordAt(data, at)
		for sum > maxWord {
			sum -= maxWord
		}
	}
	return maxWord - int64(sum)
}

// WholeSum tells whether data carries a sum that fits the rest of it.
func WholeSum(data []byte) bool {
	return SumWords(data) == 0
}

// PutFrame writes data behind its length and its sum.
func PutFrame(data []byte) BytesResult {
	if len(data) > maxFrameData {
		return BytesResult{Code: ErrMany}
	}
	count := numberBytes(uint64(len(data)), 2)
	sum := numberBytes(uint64(SumWords(data)), 2)
	return BytesResult{Bytes: joinPieces(count, sum, data)}
}

// TakeFrames reads the frames at the beginning of data, up to the first piece that is none.
func TakeFrames(data []byte) FramesResult {
	if len(data) > MaxBytes {
		return FramesResult{Code: ErrMany}
	}
	var frames [][]byte
	used := 0
	for {
		inner, found := firstFrame(data[used:])
		if !found {
			return FramesResult{Used: int64(used), Frames: frames}
		}
		frames = append(frames, joinPieces(inner))
		used += frameHeadSize + len(inner)
	}
}

// firstFrame finds the data of the frame that data begins with; what it finds still lies in data.
func firstFrame(data []byte) ([]byte, bool) {
	count := TakeNumber(data, 0, 2)
	sum := TakeNumber(data, 2, 2)
	if count.Code != OK || sum.Code != OK || count.Value > maxFrameData {
		return nil, false
	}
	end := frameHeadSize + int(count.Value)
	if end > len(data) {
		return nil, false
	}
	inner := data[frameHeadSize:end]
	// WholeSum would not do: it takes the words 0 and maxWord for the same.
	return inner, SumWords(inner) == sum.Value
}

func isNumberSize(size int64) bool {
	return size >= 1 && size <= maxNumberSize
}

func greatestNumber(size int64) uint64 {
	return uint64(1)<<(8*uint64(size)) - 1
}

func numberBytes(n uint64, size int64) []byte {
	out := make([]byte, size)
	for i := range out {
		behind := len(out) - 1 - i
		out[i] = byte(n >> (8 * uint64(behind)))
	}
	return out
}

// wordAt reads two bytes as a word; a last one without its second counts as if a 0 followed.
func wordAt(data []byte, at int) uint64 {
	word := uint64(data[at]) << 8
	if at+1 < len(data) {
		word |= uint64(data[at+1])
	}
	return word
}

// joinPieces copies pieces one behind the other into new memory.
func joinPieces(pieces ...[]byte) []byte {
	var out []byte
	for _, piece := range pieces {
		out = append(out, piece...)
	}
	return out
}
