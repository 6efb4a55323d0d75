// Package amend keeps a document and amends it: see DOC.md.
package amend

import "amend/api"

// Run answers a script, step by step.
func Run(c api.Config, script []api.Op) []api.Answer {
	answers := make([]api.Answer, len(script))
	s := session{config: c}
	for i, o := range script {
		answers[i] = s.step(o)
	}
	return answers
}
