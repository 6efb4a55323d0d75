package amend

import (
	"amend/api"
	"amend/diff"
	"amend/document"
	"amend/patch"
	"amend/pointer"
	"amend/text"
	"amend/value"
)

// session is what is kept from one step of a script to the next.
type session struct {
	config   api.Config
	document *document.Document // nil, if there is none
}

// patchLevels is how much deeper a patch is than the values that it puts in:
// an array, and an object for each operation.
const patchLevels = 2

func (s *session) step(o api.Op) api.Answer {
	switch {
	case !isConfig(s.config):
		return failed(api.ErrConfig)
	case o.Kind < api.Load || o.Kind > api.MergeDiff:
		return failed(api.ErrKind)
	case o.Kind == api.Load:
		return s.reading(o.S, s.load)
	case s.document == nil:
		return failed(api.ErrNone)
	}
	return s.ask(o)
}

// ask answers a step that needs a document.
func (s *session) ask(o api.Op) api.Answer {
	switch o.Kind {
	case api.Dump:
		return api.Answer{Text: text.Canonical(s.document.Whole())}
	case api.Get:
		return s.get(o.S)
	case api.Test:
		return s.test(o.S, o.T)
	case api.Patch:
		return s.patch(o.S)
	case api.Merge:
		return s.reading(o.S, s.merge)
	case api.Invert:
		return s.invert()
	case api.Diff:
		return s.reading(o.S, s.diff)
	}
	// Of those that step lets come here it is the only one left.
	return s.reading(o.S, s.mergeDiff)
}

// read reads a text to Depth.
func (s *session) read(source string) (*value.Value, api.Errno) {
	return text.Read(source, s.config.Depth, s.config.Exponent)
}

// reading reads a text to Depth, and answers with what is answered to its
// value.
func (s *session) reading(source string, answer func(*value.Value) api.Answer) api.Answer {
	v, code := s.read(source)
	if code != api.OK {
		return failed(code)
	}
	return answer(v)
}

func (s *session) load(v *value.Value) api.Answer {
	s.document = document.New(v)
	return api.Answer{}
}

func (s *session) get(path string) api.Answer {
	p, ok := pointer.Read(path)
	if !ok {
		return failed(api.ErrPointer)
	}
	v, code := p.Find(s.document.Whole())
	if code != api.OK {
		return failed(code)
	}
	return api.Answer{Text: text.Canonical(v)}
}

func (s *session) test(path, source string) api.Answer {
	p, ok := pointer.Read(path)
	if !ok {
		return failed(api.ErrPointer)
	}
	want, code := s.read(source)
	if code != api.OK {
		return failed(code)
	}
	v, code := p.Find(s.document.Whole())
	if code != api.OK {
		return failed(code)
	}
	if !value.Same(v, want) {
		return failed(api.ErrTest)
	}
	return api.Answer{}
}

func (s *session) patch(source string) api.Answer {
	v, code := text.Read(source, s.config.Depth+patchLevels, s.config.Exponent)
	if code != api.OK {
		return failed(code)
	}
	p, at, ok := patch.Read(v)
	if !ok {
		return api.Answer{Code: api.ErrPatch, At: at}
	}
	at, code = s.document.Patch(p, s.config.Depth)
	return api.Answer{Code: code, At: at}
}

func (s *session) invert() api.Answer {
	p, ok := s.document.Inverse()
	if !ok {
		return failed(api.ErrNone)
	}
	return api.Answer{Text: patch.Text(p)}
}

func (s *session) merge(p *value.Value) api.Answer {
	return api.Answer{Code: s.document.Merge(p)}
}

func (s *session) diff(to *value.Value) api.Answer {
	return api.Answer{Text: patch.Text(diff.Patch(s.document.Whole(), to, s.config.Cells))}
}

func (s *session) mergeDiff(to *value.Value) api.Answer {
	p, ok := diff.MergePatch(s.document.Whole(), to)
	if !ok {
		return failed(api.ErrNever)
	}
	return api.Answer{Text: text.Canonical(p)}
}

func failed(code api.Errno) api.Answer { return api.Answer{Code: code} }

func isConfig(c api.Config) bool {
	return within(c.Depth, 1, api.MaxDepth) &&
		within(c.Exponent, 0, api.MaxExponent) &&
		within(c.Cells, 0, api.MaxCells)
}

func within(n, least, most int) bool { return least <= n && n <= most }
