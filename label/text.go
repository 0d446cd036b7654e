package label

import (
	"strings"

	"plimsoll/api"
)

// Text is l's text, if l is right.
func Text(l []api.Label) (string, api.Errno) {
	if Check(l) != api.OK {
		return "", api.ErrLabels
	}
	var b strings.Builder
	ahead := `{`
	for _, one := range l {
		b.WriteString(ahead + one.Name + `="` + escape(one.Value) + `"`)
		ahead = `,`
	}
	b.WriteString(`}`)
	return b.String(), api.OK
}

// Parse is the right labels whose text s is.
func Parse(s string) ([]api.Label, api.Errno) {
	var l []api.Label
	rest, ahead := s, `{`
	for rest != `}` {
		one, behind, ok := cutLabel(rest, ahead)
		if !ok || len(l) == api.MaxLabels {
			return nil, api.ErrCode
		}
		l = append(l, one)
		rest, ahead = behind, `,`
	}
	// What was read loosely (a \ that need not be, or is missing) has another text.
	if text, err := Text(l); err != api.OK || text != s {
		return nil, api.ErrCode
	}
	return l, api.OK
}

// escape is value as it stands in a text.
func escape(value string) string {
	var b strings.Builder
	for place := range len(value) {
		c := value[place]
		switch c {
		case '\n':
			c = 'n'
			fallthrough
		case '"', '\\':
			b.WriteByte('\\')
		}
		b.WriteByte(c)
	}
	return b.String()
}

// cutLabel reads the label that s begins with behind what stands ahead of it; and what is behind the label.
func cutLabel(s, ahead string) (one api.Label, behind string, ok bool) {
	s, begins := strings.CutPrefix(s, ahead)
	name, quoted, named := strings.Cut(s, `="`)
	if !begins || !named {
		return api.Label{}, "", false
	}
	value, behind, ends := cutValue(quoted)
	return api.Label{Name: name, Value: value}, behind, ends
}

// cutValue reads the value up to the " that ends it; and what is behind that.
func cutValue(s string) (value, behind string, ok bool) {
	var b strings.Builder
	for place := 0; place < len(s); place++ {
		c := s[place]
		if c == '"' {
			return b.String(), s[place+1:], true
		}
		if c == '\\' && place+1 < len(s) {
			place++
			c = unescape(s[place])
		}
		b.WriteByte(c)
	}
	return "", "", false
}

// unescape is what c, with a \ ahead of it, stands for.
func unescape(c byte) byte {
	if c == 'n' {
		return '\n'
	}
	return c
}
