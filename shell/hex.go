package shell

import (
	"strings"

	"pressmark/api"
)

const digits = "0123456789abcdef"

// Hex is bytes as digits.
func Hex(s string) string {
	var out strings.Builder
	for i := range len(s) {
		out.WriteByte(digits[s[i]>>4])
		out.WriteByte(digits[s[i]&15])
	}
	return out.String()
}

// Unhex is the bytes of some digits.
func Unhex(s string) (string, api.Errno) {
	if len(s)%2 != 0 {
		return "", api.ErrForm
	}
	out := make([]byte, 0, len(s)/2)
	for i := 0; i < len(s); i += 2 {
		high, low := strings.IndexByte(digits, s[i]), strings.IndexByte(digits, s[i+1])
		if high < 0 || low < 0 {
			return "", api.ErrForm
		}
		out = append(out, byte(high<<4|low))
	}
	return string(out), api.OK
}
