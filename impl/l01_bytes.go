package impl

// Constants, see chapter 1.
const (
	OK        = 0
	ErrForm   = 1
	ErrSize   = 2
	ErrSyntax = 3
	ErrShort  = 4
	ErrSum    = 5
	ErrNone   = 6
	ErrThere  = 7
	ErrRange  = 8
	ErrFull   = 9
	ErrFrag   = 10
	ErrKind   = 11
	ErrHops   = 12
	ErrBig    = 13
	MaxBytes  = 20000
	MaxList   = 400
	MaxTime   = 1000000000
)

const maxByte = 255

// maxWord is also what a sum and its check come to together.
const maxWord = 65535

// byteText lets one sum serve the texts that are handed in and the bytes
// that are laid inside.
type byteText interface {
	string | []byte
}

// Word: see chapter 2.
func Word(text string, at int64) int64 {
	// The place is held against the length less 2: at and 1 together could leave int64.
	if tooLong(text) || at < 0 || at > int64(len(text))-2 {
		return 0
	}
	return wordFrom(text, int(at))
}

// WordBytes: see chapter 2.
func WordBytes(n int64) string {
	if !isWord(n) {
		return ""
	}
	return string(layWords(n))
}

// Sum: see chapter 2.
func Sum(text string) int64 {
	if tooLong(text) {
		return 0
	}
	return sumOf(text)
}

// SumAdd: see chapter 2.
func SumAdd(a int64, b int64) int64 {
	if !isWord(a) || !isWord(b) {
		return 0
	}
	return sumOf(layWords(a, b))
}

// SumRight: see chapter 2.
func SumRight(text string) bool {
	// A text that is too long has the sum 0, and so is not right either.
	return Sum(text) == maxWord
}

// SumTurn: see chapter 2.
func SumTurn(sum int64, old int64, new1 int64) int64 {
	if !isWord(sum) || !isWord(old) || !isWord(new1) {
		return 0
	}
	// In these sums 65535 less a word takes that word away.
	return maxWord - sumOf(layWords(maxWord-sum, maxWord-old, new1))
}

func sumOf[T byteText](text T) int64 {
	var sum int64
	for i := range (len(text) + 1) / 2 {
		sum += wordFrom(text, 2*i)
		// Two words come to less than twice 65536, so one turn brings them back into 16 bits.
		sum = sum&maxWord + sum>>16
	}
	return sum
}

// wordFrom takes a byte 0 for the lower one that an odd last byte lacks.
func wordFrom[T byteText](text T, at int) int64 {
	word := int64(text[at]) << 8
	if at+1 < len(text) {
		word |= int64(text[at+1])
	}
	return word
}

func layWords(words ...int64) []byte {
	laid := make([]byte, 0, 2*len(words))
	for _, word := range words {
		laid = append(laid, byte(word>>8), byte(word))
	}
	return laid
}

func isByte(n int64) bool {
	return n >= 0 && n <= maxByte
}

func isWord(n int64) bool {
	return n >= 0 && n <= maxWord
}

func isTime(n int64) bool {
	return n >= 0 && n <= MaxTime
}

func tooLong(text string) bool {
	return len(text) > MaxBytes
}
