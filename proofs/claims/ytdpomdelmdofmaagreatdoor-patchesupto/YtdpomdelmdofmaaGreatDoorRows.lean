/-
  NARROWER THAN 'FOR EVERY INPUT', by the rows' own cells (each row's printed sentence says how): Loads: laid · Round: laid · Spelled: laid · Prefix: laid · Gets: laid · Patches: laid · Rolled: laid · Runs: laid · Undone: laid · Reached: laid · Merged: laid · Once: laid.
  DERIVED. THE GIVEN ROWS OF THIS SEAT. 12 by the template 'for every input the law returns true; each argument reads behind the call as it read before'; 0 by the template 'total and deterministic' (their statements: YtdpomdelmdofmaaGreatDoorTotals.lean).
  GIVEN WITH THE SEED: the statements are not yours to turn. If you find one false, say at which input.
  Laid BY PROGRAM, IN A SANDBOX (cutbox-rows.mjs): the forced cells as the released guide's own fill.sh prints them over the translation a10ef89aa0146b89… (all of the seat's roots in one cut). By AI agents, Wed Nov 11 2026. No macro, syntax, notation, axiom, sorry.
-/
import Derived.Test.YtdpomdelmdofmaaGreatDoorChecked
import GoSem.PinnedTables
import GoSem.Claim
import GoSem.ClaimJoined
import GoSem.ClaimMapViews
import Derived.JoinedTies
import Derived.KernelRfl
namespace Go.Proofs.YtdpomdelmdofmaaGreatDoor
/- THE CELL 'sum', in the pinned program and in every row, IS THE sha256 OF THE DUMP (.gsa) THAT YtdpomdelmdofmaaGreatDoorProg.lean LOADS. Nothing in Lean hashes anything: it is a label: what it is worth is what the hold of that sum in a sandbox is worth. -/
noncomputable def Tryz.pinned : Pinned := { name := "ytdpomdelmdofmaagreatdoor", sum := "a10ef89aa0146b898df96f9eab2e92a8698949384dd6a100402ee8284137ced2", checked := Tryz.checked }
namespace Rows
def none {H : Type} : Left H := { results := [], args := [] }

/- WHAT THE LISTED PACKAGE-LEVEL VARIABLES READ AS WHEN THE CALL BEGINS. Each datum BY PROGRAM (the guide's laid-datum.mjs) off the statement by which the dump's own 'gosem.cut.vars' lays the variable. In a bare row this is a premise. The card (YtdpomdelmdofmaaGreatDoorCards.lean) ties it to the program's text. -/
def laid_math_bits_deBruijn32tab {H : Type} : DataW H := .agg [.lit (.int .u8 0), .lit (.int .u8 1), .lit (.int .u8 28), .lit (.int .u8 2), .lit (.int .u8 29), .lit (.int .u8 14), .lit (.int .u8 24), .lit (.int .u8 3), .lit (.int .u8 30), .lit (.int .u8 22), .lit (.int .u8 20), .lit (.int .u8 15), .lit (.int .u8 25), .lit (.int .u8 17), .lit (.int .u8 4), .lit (.int .u8 8), .lit (.int .u8 31), .lit (.int .u8 27), .lit (.int .u8 13), .lit (.int .u8 23), .lit (.int .u8 21), .lit (.int .u8 19), .lit (.int .u8 16), .lit (.int .u8 7), .lit (.int .u8 26), .lit (.int .u8 12), .lit (.int .u8 18), .lit (.int .u8 6), .lit (.int .u8 11), .lit (.int .u8 5), .lit (.int .u8 10), .lit (.int .u8 9)]
def laid_math_bits_deBruijn64tab {H : Type} : DataW H := .agg [.lit (.int .u8 0), .lit (.int .u8 1), .lit (.int .u8 56), .lit (.int .u8 2), .lit (.int .u8 57), .lit (.int .u8 49), .lit (.int .u8 28), .lit (.int .u8 3), .lit (.int .u8 61), .lit (.int .u8 58), .lit (.int .u8 42), .lit (.int .u8 50), .lit (.int .u8 38), .lit (.int .u8 29), .lit (.int .u8 17), .lit (.int .u8 4), .lit (.int .u8 62), .lit (.int .u8 47), .lit (.int .u8 59), .lit (.int .u8 36), .lit (.int .u8 45), .lit (.int .u8 43), .lit (.int .u8 51), .lit (.int .u8 22), .lit (.int .u8 53), .lit (.int .u8 39), .lit (.int .u8 33), .lit (.int .u8 30), .lit (.int .u8 24), .lit (.int .u8 18), .lit (.int .u8 12), .lit (.int .u8 5), .lit (.int .u8 63), .lit (.int .u8 55), .lit (.int .u8 48), .lit (.int .u8 27), .lit (.int .u8 60), .lit (.int .u8 41), .lit (.int .u8 37), .lit (.int .u8 16), .lit (.int .u8 46), .lit (.int .u8 35), .lit (.int .u8 44), .lit (.int .u8 21), .lit (.int .u8 52), .lit (.int .u8 32), .lit (.int .u8 23), .lit (.int .u8 11), .lit (.int .u8 54), .lit (.int .u8 26), .lit (.int .u8 40), .lit (.int .u8 15), .lit (.int .u8 34), .lit (.int .u8 20), .lit (.int .u8 31), .lit (.int .u8 10), .lit (.int .u8 25), .lit (.int .u8 14), .lit (.int .u8 19), .lit (.int .u8 9), .lit (.int .u8 13), .lit (.int .u8 8), .lit (.int .u8 7), .lit (.int .u8 6)]
def laid_internal_strconv_uint64pow10 {H : Type} : DataW H := .agg [.lit (.int .u64 1), .lit (.int .u64 10), .lit (.int .u64 100), .lit (.int .u64 1000), .lit (.int .u64 10000), .lit (.int .u64 100000), .lit (.int .u64 1000000), .lit (.int .u64 10000000), .lit (.int .u64 100000000), .lit (.int .u64 1000000000), .lit (.int .u64 10000000000), .lit (.int .u64 100000000000), .lit (.int .u64 1000000000000), .lit (.int .u64 10000000000000), .lit (.int .u64 100000000000000), .lit (.int .u64 1000000000000000), .lit (.int .u64 10000000000000000), .lit (.int .u64 100000000000000000), .lit (.int .u64 1000000000000000000), .lit (.int .u64 10000000000000000000)]
def laid_unicode_utf8_acceptRanges {H : Type} : DataW H := .agg [.agg [.lit (.int .u8 128), .lit (.int .u8 191)], .agg [.lit (.int .u8 160), .lit (.int .u8 191)], .agg [.lit (.int .u8 128), .lit (.int .u8 159)], .agg [.lit (.int .u8 144), .lit (.int .u8 191)], .agg [.lit (.int .u8 128), .lit (.int .u8 143)], .agg [.lit (.int .u8 0), .lit (.int .u8 0)], .agg [.lit (.int .u8 0), .lit (.int .u8 0)], .agg [.lit (.int .u8 0), .lit (.int .u8 0)], .agg [.lit (.int .u8 0), .lit (.int .u8 0)], .agg [.lit (.int .u8 0), .lit (.int .u8 0)], .agg [.lit (.int .u8 0), .lit (.int .u8 0)], .agg [.lit (.int .u8 0), .lit (.int .u8 0)], .agg [.lit (.int .u8 0), .lit (.int .u8 0)], .agg [.lit (.int .u8 0), .lit (.int .u8 0)], .agg [.lit (.int .u8 0), .lit (.int .u8 0)], .agg [.lit (.int .u8 0), .lit (.int .u8 0)]]
def laid_strconv_ErrRange {H : Type} : DataW H := .iface "*errors.errorString" (.ptr (.agg [.lit (.string [118, 97, 108, 117, 101, 32, 111, 117, 116, 32, 111, 102, 32, 114, 97, 110, 103, 101])]))
def laid_strconv_ErrSyntax {H : Type} : DataW H := .iface "*errors.errorString" (.ptr (.agg [.lit (.string [105, 110, 118, 97, 108, 105, 100, 32, 115, 121, 110, 116, 97, 120])]))
def laid_amend_pointer_escapes {H : Type} : DataW H := .agg [.agg [.lit (.string [126, 48]), .lit (.int .u8 126)], .agg [.lit (.string [126, 49]), .lit (.int .u8 47)]]
def laid_amend_text_words {H : Type} : DataW H := .agg [.lit (.string [110, 117, 108, 108]), .lit (.string [116, 114, 117, 101]), .lit (.string [102, 97, 108, 115, 101])]
def laid_amend_text_escapes {H : Type} : DataW H := .agg [.agg [.lit (.int .u8 34), .lit (.int .i32 34)], .agg [.lit (.int .u8 92), .lit (.int .i32 92)], .agg [.lit (.int .u8 47), .lit (.int .i32 47)], .agg [.lit (.int .u8 98), .lit (.int .i32 8)], .agg [.lit (.int .u8 102), .lit (.int .i32 12)], .agg [.lit (.int .u8 110), .lit (.int .i32 10)], .agg [.lit (.int .u8 114), .lit (.int .i32 13)], .agg [.lit (.int .u8 116), .lit (.int .i32 9)]]
def laid_amend_patch_operations {H : Type} : DataW H := .agg [.agg [.lit (.string [97, 100, 100]), .lit (.bool true), .lit (.bool false)], .agg [.lit (.string [114, 101, 109, 111, 118, 101]), .lit (.bool false), .lit (.bool false)], .agg [.lit (.string [114, 101, 112, 108, 97, 99, 101]), .lit (.bool true), .lit (.bool false)], .agg [.lit (.string [109, 111, 118, 101]), .lit (.bool false), .lit (.bool true)], .agg [.lit (.string [99, 111, 112, 121]), .lit (.bool false), .lit (.bool true)], .agg [.lit (.string [116, 101, 115, 116]), .lit (.bool true), .lit (.bool false)]]
/-- One of Go's own tables, pinned by name: the form's constant. -/
def laid_unicode_utf8_first : DataW Unit := Go.Pinned.utf8First

/-- 'amendlaw.Loads': WHATEVER THE INPUT: true; the input reads as it did. -/
def loadsSpec : ChangeSpec := { name := "loads", fn := fun _ => fun
  | [d1, d2] => { results := [.lit (.bool true)], args := [d1, d2] }
  | _ => none }
def loadsRow : OpenClaim := { program := "ytdpomdelmdofmaagreatdoor", sum := "a10ef89aa0146b898df96f9eab2e92a8698949384dd6a100402ee8284137ced2", func := "amend/amendlaw.Loads", spec := "loads", inPlace := ["internal/abi.NoEscape", "internal/bytealg.IndexByteString", "internal/bytealg.IndexString", "internal/bytealg.CountString", "slices.overlaps[*amend/value.Value]"], unfollowed := true, recurses := true, named := ["amend/text.escapes", "unicode/utf8.first", "unicode/utf8.acceptRanges", "amend/text.words", "internal/strconv.uint64pow10", "math/bits.deBruijn32tab", "math/bits.deBruijn64tab", "internal/bytealg.MaxLen", "amend/pointer.escapes", "strconv.ErrSyntax", "strconv.ErrRange", "amend/patch.operations"], plainKeys := false, apart := false, laid := [("math/bits.deBruijn32tab", laid_math_bits_deBruijn32tab), ("math/bits.deBruijn64tab", laid_math_bits_deBruijn64tab), ("internal/strconv.uint64pow10", laid_internal_strconv_uint64pow10), ("unicode/utf8.acceptRanges", laid_unicode_utf8_acceptRanges), ("strconv.ErrRange", laid_strconv_ErrRange), ("strconv.ErrSyntax", laid_strconv_ErrSyntax), ("amend/pointer.escapes", laid_amend_pointer_escapes), ("amend/text.words", laid_amend_text_words), ("amend/text.escapes", laid_amend_text_escapes), ("amend/patch.operations", laid_amend_patch_operations), ("unicode/utf8.first", laid_unicode_utf8_first)] }
def LoadsSaid : Prop := loadsRow.holds Tryz.pinned (OpenSpec.ofChange loadsSpec)

/-- ITS FALSE NEIGHBOUR: 'it returns false'. Refute it at one input. -/
def loadsWrong : ChangeSpec := { name := "loads", fn := fun _ => fun
  | [d1, d2] => { results := [.lit (.bool false)], args := [d1, d2] }
  | _ => none }
def LoadsWrongFalsely : Prop := loadsRow.holds Tryz.pinned (OpenSpec.ofChange loadsWrong)

/-- 'amendkeep.Round': WHATEVER THE INPUT: true; the input reads as it did. -/
def roundSpec : ChangeSpec := { name := "round", fn := fun _ => fun
  | [d1, d2, d3] => { results := [.lit (.bool true)], args := [d1, d2, d3] }
  | _ => none }
def roundRow : OpenClaim := { program := "ytdpomdelmdofmaagreatdoor", sum := "a10ef89aa0146b898df96f9eab2e92a8698949384dd6a100402ee8284137ced2", func := "amend/amendkeep.Round", spec := "round", inPlace := ["internal/abi.NoEscape", "internal/bytealg.IndexByteString", "internal/bytealg.IndexString", "internal/bytealg.CountString", "slices.overlaps[*amend/value.Value]"], unfollowed := true, recurses := true, named := ["amend/text.escapes", "unicode/utf8.first", "unicode/utf8.acceptRanges", "amend/text.words", "internal/strconv.uint64pow10", "math/bits.deBruijn32tab", "math/bits.deBruijn64tab", "internal/bytealg.MaxLen", "amend/pointer.escapes", "strconv.ErrSyntax", "strconv.ErrRange", "amend/patch.operations"], plainKeys := false, apart := false, laid := [("math/bits.deBruijn32tab", laid_math_bits_deBruijn32tab), ("math/bits.deBruijn64tab", laid_math_bits_deBruijn64tab), ("internal/strconv.uint64pow10", laid_internal_strconv_uint64pow10), ("unicode/utf8.acceptRanges", laid_unicode_utf8_acceptRanges), ("strconv.ErrRange", laid_strconv_ErrRange), ("strconv.ErrSyntax", laid_strconv_ErrSyntax), ("amend/pointer.escapes", laid_amend_pointer_escapes), ("amend/text.words", laid_amend_text_words), ("amend/text.escapes", laid_amend_text_escapes), ("amend/patch.operations", laid_amend_patch_operations), ("unicode/utf8.first", laid_unicode_utf8_first)] }
def RoundSaid : Prop := roundRow.holds Tryz.pinned (OpenSpec.ofChange roundSpec)

/-- ITS FALSE NEIGHBOUR: 'it returns false'. Refute it at one input. -/
def roundWrong : ChangeSpec := { name := "round", fn := fun _ => fun
  | [d1, d2, d3] => { results := [.lit (.bool false)], args := [d1, d2, d3] }
  | _ => none }
def RoundWrongFalsely : Prop := roundRow.holds Tryz.pinned (OpenSpec.ofChange roundWrong)

/-- 'amendkeep.Spelled': WHATEVER THE INPUT: true; the input reads as it did. -/
def spelledSpec : ChangeSpec := { name := "spelled", fn := fun _ => fun
  | [d] => { results := [.lit (.bool true)], args := [d] }
  | _ => none }
def spelledRow : OpenClaim := { program := "ytdpomdelmdofmaagreatdoor", sum := "a10ef89aa0146b898df96f9eab2e92a8698949384dd6a100402ee8284137ced2", func := "amend/amendkeep.Spelled", spec := "spelled", inPlace := ["internal/abi.NoEscape", "internal/bytealg.IndexByteString", "internal/bytealg.IndexString", "internal/bytealg.CountString", "slices.overlaps[*amend/value.Value]"], unfollowed := true, recurses := true, named := ["amend/text.escapes", "unicode/utf8.first", "unicode/utf8.acceptRanges", "amend/text.words", "internal/strconv.uint64pow10", "math/bits.deBruijn32tab", "math/bits.deBruijn64tab", "internal/bytealg.MaxLen", "amend/pointer.escapes", "strconv.ErrSyntax", "strconv.ErrRange", "amend/patch.operations"], plainKeys := false, apart := false, laid := [("math/bits.deBruijn32tab", laid_math_bits_deBruijn32tab), ("math/bits.deBruijn64tab", laid_math_bits_deBruijn64tab), ("internal/strconv.uint64pow10", laid_internal_strconv_uint64pow10), ("unicode/utf8.acceptRanges", laid_unicode_utf8_acceptRanges), ("strconv.ErrRange", laid_strconv_ErrRange), ("strconv.ErrSyntax", laid_strconv_ErrSyntax), ("amend/pointer.escapes", laid_amend_pointer_escapes), ("amend/text.words", laid_amend_text_words), ("amend/text.escapes", laid_amend_text_escapes), ("amend/patch.operations", laid_amend_patch_operations), ("unicode/utf8.first", laid_unicode_utf8_first)] }
def SpelledSaid : Prop := spelledRow.holds Tryz.pinned (OpenSpec.ofChange spelledSpec)

/-- ITS FALSE NEIGHBOUR: 'it returns false'. Refute it at one input. -/
def spelledWrong : ChangeSpec := { name := "spelled", fn := fun _ => fun
  | [d] => { results := [.lit (.bool false)], args := [d] }
  | _ => none }
def SpelledWrongFalsely : Prop := spelledRow.holds Tryz.pinned (OpenSpec.ofChange spelledWrong)

/-- 'amendkeep.Prefix': WHATEVER THE INPUT: true; the input reads as it did. -/
def prefixSpec : ChangeSpec := { name := "prefix", fn := fun _ => fun
  | [d1, d2, d3] => { results := [.lit (.bool true)], args := [d1, d2, d3] }
  | _ => none }
def prefixRow : OpenClaim := { program := "ytdpomdelmdofmaagreatdoor", sum := "a10ef89aa0146b898df96f9eab2e92a8698949384dd6a100402ee8284137ced2", func := "amend/amendkeep.Prefix", spec := "prefix", inPlace := ["internal/abi.NoEscape", "internal/bytealg.IndexByteString", "internal/bytealg.IndexString", "internal/bytealg.CountString", "slices.overlaps[*amend/value.Value]"], unfollowed := true, recurses := true, named := ["amend/text.escapes", "unicode/utf8.first", "unicode/utf8.acceptRanges", "amend/text.words", "internal/strconv.uint64pow10", "math/bits.deBruijn32tab", "math/bits.deBruijn64tab", "internal/bytealg.MaxLen", "amend/pointer.escapes", "strconv.ErrSyntax", "strconv.ErrRange", "amend/patch.operations"], plainKeys := false, apart := false, laid := [("math/bits.deBruijn32tab", laid_math_bits_deBruijn32tab), ("math/bits.deBruijn64tab", laid_math_bits_deBruijn64tab), ("internal/strconv.uint64pow10", laid_internal_strconv_uint64pow10), ("unicode/utf8.acceptRanges", laid_unicode_utf8_acceptRanges), ("strconv.ErrRange", laid_strconv_ErrRange), ("strconv.ErrSyntax", laid_strconv_ErrSyntax), ("amend/pointer.escapes", laid_amend_pointer_escapes), ("amend/text.words", laid_amend_text_words), ("amend/text.escapes", laid_amend_text_escapes), ("amend/patch.operations", laid_amend_patch_operations), ("unicode/utf8.first", laid_unicode_utf8_first)] }
def PrefixSaid : Prop := prefixRow.holds Tryz.pinned (OpenSpec.ofChange prefixSpec)

/-- ITS FALSE NEIGHBOUR: 'it returns false'. Refute it at one input. -/
def prefixWrong : ChangeSpec := { name := "prefix", fn := fun _ => fun
  | [d1, d2, d3] => { results := [.lit (.bool false)], args := [d1, d2, d3] }
  | _ => none }
def PrefixWrongFalsely : Prop := prefixRow.holds Tryz.pinned (OpenSpec.ofChange prefixWrong)

/-- 'amendlaw.Gets': WHATEVER THE INPUT: true; the input reads as it did. -/
def getsSpec : ChangeSpec := { name := "gets", fn := fun _ => fun
  | [d1, d2] => { results := [.lit (.bool true)], args := [d1, d2] }
  | _ => none }
def getsRow : OpenClaim := { program := "ytdpomdelmdofmaagreatdoor", sum := "a10ef89aa0146b898df96f9eab2e92a8698949384dd6a100402ee8284137ced2", func := "amend/amendlaw.Gets", spec := "gets", inPlace := ["internal/abi.NoEscape", "internal/bytealg.IndexByteString", "internal/bytealg.IndexString", "internal/bytealg.CountString", "slices.overlaps[*amend/value.Value]"], unfollowed := true, recurses := true, named := ["amend/text.escapes", "unicode/utf8.first", "unicode/utf8.acceptRanges", "amend/text.words", "internal/strconv.uint64pow10", "math/bits.deBruijn32tab", "math/bits.deBruijn64tab", "internal/bytealg.MaxLen", "amend/pointer.escapes", "strconv.ErrSyntax", "strconv.ErrRange", "amend/patch.operations"], plainKeys := false, apart := false, laid := [("math/bits.deBruijn32tab", laid_math_bits_deBruijn32tab), ("math/bits.deBruijn64tab", laid_math_bits_deBruijn64tab), ("internal/strconv.uint64pow10", laid_internal_strconv_uint64pow10), ("unicode/utf8.acceptRanges", laid_unicode_utf8_acceptRanges), ("strconv.ErrRange", laid_strconv_ErrRange), ("strconv.ErrSyntax", laid_strconv_ErrSyntax), ("amend/pointer.escapes", laid_amend_pointer_escapes), ("amend/text.words", laid_amend_text_words), ("amend/text.escapes", laid_amend_text_escapes), ("amend/patch.operations", laid_amend_patch_operations), ("unicode/utf8.first", laid_unicode_utf8_first)] }
def GetsSaid : Prop := getsRow.holds Tryz.pinned (OpenSpec.ofChange getsSpec)

/-- ITS FALSE NEIGHBOUR: 'it returns false'. Refute it at one input. -/
def getsWrong : ChangeSpec := { name := "gets", fn := fun _ => fun
  | [d1, d2] => { results := [.lit (.bool false)], args := [d1, d2] }
  | _ => none }
def GetsWrongFalsely : Prop := getsRow.holds Tryz.pinned (OpenSpec.ofChange getsWrong)

/-- 'amendlaw.Patches': WHATEVER THE INPUT: true; the input reads as it did. -/
def patchesSpec : ChangeSpec := { name := "patches", fn := fun _ => fun
  | [d1, d2] => { results := [.lit (.bool true)], args := [d1, d2] }
  | _ => none }
def patchesRow : OpenClaim := { program := "ytdpomdelmdofmaagreatdoor", sum := "a10ef89aa0146b898df96f9eab2e92a8698949384dd6a100402ee8284137ced2", func := "amend/amendlaw.Patches", spec := "patches", inPlace := ["internal/abi.NoEscape", "internal/bytealg.IndexByteString", "internal/bytealg.IndexString", "internal/bytealg.CountString", "slices.overlaps[*amend/value.Value]"], unfollowed := true, recurses := true, named := ["amend/text.escapes", "unicode/utf8.first", "unicode/utf8.acceptRanges", "amend/text.words", "internal/strconv.uint64pow10", "math/bits.deBruijn32tab", "math/bits.deBruijn64tab", "internal/bytealg.MaxLen", "amend/pointer.escapes", "strconv.ErrSyntax", "strconv.ErrRange", "amend/patch.operations"], plainKeys := false, apart := false, laid := [("math/bits.deBruijn32tab", laid_math_bits_deBruijn32tab), ("math/bits.deBruijn64tab", laid_math_bits_deBruijn64tab), ("internal/strconv.uint64pow10", laid_internal_strconv_uint64pow10), ("unicode/utf8.acceptRanges", laid_unicode_utf8_acceptRanges), ("strconv.ErrRange", laid_strconv_ErrRange), ("strconv.ErrSyntax", laid_strconv_ErrSyntax), ("amend/pointer.escapes", laid_amend_pointer_escapes), ("amend/text.words", laid_amend_text_words), ("amend/text.escapes", laid_amend_text_escapes), ("amend/patch.operations", laid_amend_patch_operations), ("unicode/utf8.first", laid_unicode_utf8_first)] }
def PatchesSaid : Prop := patchesRow.holds Tryz.pinned (OpenSpec.ofChange patchesSpec)

/-- ITS FALSE NEIGHBOUR: 'it returns false'. Refute it at one input. -/
def patchesWrong : ChangeSpec := { name := "patches", fn := fun _ => fun
  | [d1, d2] => { results := [.lit (.bool false)], args := [d1, d2] }
  | _ => none }
def PatchesWrongFalsely : Prop := patchesRow.holds Tryz.pinned (OpenSpec.ofChange patchesWrong)

/-- 'amendkeep.Rolled': WHATEVER THE INPUT: true; the input reads as it did. -/
def rolledSpec : ChangeSpec := { name := "rolled", fn := fun _ => fun
  | [d1, d2, d3] => { results := [.lit (.bool true)], args := [d1, d2, d3] }
  | _ => none }
def rolledRow : OpenClaim := { program := "ytdpomdelmdofmaagreatdoor", sum := "a10ef89aa0146b898df96f9eab2e92a8698949384dd6a100402ee8284137ced2", func := "amend/amendkeep.Rolled", spec := "rolled", inPlace := ["internal/abi.NoEscape", "internal/bytealg.IndexByteString", "internal/bytealg.IndexString", "internal/bytealg.CountString", "slices.overlaps[*amend/value.Value]"], unfollowed := true, recurses := true, named := ["amend/text.escapes", "unicode/utf8.first", "unicode/utf8.acceptRanges", "amend/text.words", "internal/strconv.uint64pow10", "math/bits.deBruijn32tab", "math/bits.deBruijn64tab", "internal/bytealg.MaxLen", "amend/pointer.escapes", "strconv.ErrSyntax", "strconv.ErrRange", "amend/patch.operations"], plainKeys := false, apart := false, laid := [("math/bits.deBruijn32tab", laid_math_bits_deBruijn32tab), ("math/bits.deBruijn64tab", laid_math_bits_deBruijn64tab), ("internal/strconv.uint64pow10", laid_internal_strconv_uint64pow10), ("unicode/utf8.acceptRanges", laid_unicode_utf8_acceptRanges), ("strconv.ErrRange", laid_strconv_ErrRange), ("strconv.ErrSyntax", laid_strconv_ErrSyntax), ("amend/pointer.escapes", laid_amend_pointer_escapes), ("amend/text.words", laid_amend_text_words), ("amend/text.escapes", laid_amend_text_escapes), ("amend/patch.operations", laid_amend_patch_operations), ("unicode/utf8.first", laid_unicode_utf8_first)] }
def RolledSaid : Prop := rolledRow.holds Tryz.pinned (OpenSpec.ofChange rolledSpec)

/-- ITS FALSE NEIGHBOUR: 'it returns false'. Refute it at one input. -/
def rolledWrong : ChangeSpec := { name := "rolled", fn := fun _ => fun
  | [d1, d2, d3] => { results := [.lit (.bool false)], args := [d1, d2, d3] }
  | _ => none }
def RolledWrongFalsely : Prop := rolledRow.holds Tryz.pinned (OpenSpec.ofChange rolledWrong)

/-- 'amendlaw.Runs': WHATEVER THE INPUT: true; the input reads as it did. -/
def runsSpec : ChangeSpec := { name := "runs", fn := fun _ => fun
  | [d1, d2] => { results := [.lit (.bool true)], args := [d1, d2] }
  | _ => none }
def runsRow : OpenClaim := { program := "ytdpomdelmdofmaagreatdoor", sum := "a10ef89aa0146b898df96f9eab2e92a8698949384dd6a100402ee8284137ced2", func := "amend/amendlaw.Runs", spec := "runs", inPlace := ["internal/abi.NoEscape", "internal/bytealg.IndexByteString", "internal/bytealg.IndexString", "internal/bytealg.CountString", "slices.overlaps[*amend/value.Value]"], unfollowed := true, recurses := true, named := ["amend/text.escapes", "unicode/utf8.first", "unicode/utf8.acceptRanges", "amend/text.words", "internal/strconv.uint64pow10", "math/bits.deBruijn32tab", "math/bits.deBruijn64tab", "internal/bytealg.MaxLen", "amend/pointer.escapes", "strconv.ErrSyntax", "strconv.ErrRange", "amend/patch.operations"], plainKeys := false, apart := false, laid := [("math/bits.deBruijn32tab", laid_math_bits_deBruijn32tab), ("math/bits.deBruijn64tab", laid_math_bits_deBruijn64tab), ("internal/strconv.uint64pow10", laid_internal_strconv_uint64pow10), ("unicode/utf8.acceptRanges", laid_unicode_utf8_acceptRanges), ("strconv.ErrRange", laid_strconv_ErrRange), ("strconv.ErrSyntax", laid_strconv_ErrSyntax), ("amend/pointer.escapes", laid_amend_pointer_escapes), ("amend/text.words", laid_amend_text_words), ("amend/text.escapes", laid_amend_text_escapes), ("amend/patch.operations", laid_amend_patch_operations), ("unicode/utf8.first", laid_unicode_utf8_first)] }
def RunsSaid : Prop := runsRow.holds Tryz.pinned (OpenSpec.ofChange runsSpec)

/-- ITS FALSE NEIGHBOUR: 'it returns false'. Refute it at one input. -/
def runsWrong : ChangeSpec := { name := "runs", fn := fun _ => fun
  | [d1, d2] => { results := [.lit (.bool false)], args := [d1, d2] }
  | _ => none }
def RunsWrongFalsely : Prop := runsRow.holds Tryz.pinned (OpenSpec.ofChange runsWrong)

/-- 'amendkeep.Undone': WHATEVER THE INPUT: true; the input reads as it did. -/
def undoneSpec : ChangeSpec := { name := "undone", fn := fun _ => fun
  | [d1, d2, d3, d4, d5] => { results := [.lit (.bool true)], args := [d1, d2, d3, d4, d5] }
  | _ => none }
def undoneRow : OpenClaim := { program := "ytdpomdelmdofmaagreatdoor", sum := "a10ef89aa0146b898df96f9eab2e92a8698949384dd6a100402ee8284137ced2", func := "amend/amendkeep.Undone", spec := "undone", inPlace := ["internal/abi.NoEscape", "internal/bytealg.IndexByteString", "internal/bytealg.IndexString", "internal/bytealg.CountString", "slices.overlaps[*amend/value.Value]"], unfollowed := true, recurses := true, named := ["amend/text.escapes", "unicode/utf8.first", "unicode/utf8.acceptRanges", "amend/text.words", "internal/strconv.uint64pow10", "math/bits.deBruijn32tab", "math/bits.deBruijn64tab", "internal/bytealg.MaxLen", "amend/pointer.escapes", "strconv.ErrSyntax", "strconv.ErrRange", "amend/patch.operations"], plainKeys := false, apart := false, laid := [("math/bits.deBruijn32tab", laid_math_bits_deBruijn32tab), ("math/bits.deBruijn64tab", laid_math_bits_deBruijn64tab), ("internal/strconv.uint64pow10", laid_internal_strconv_uint64pow10), ("unicode/utf8.acceptRanges", laid_unicode_utf8_acceptRanges), ("strconv.ErrRange", laid_strconv_ErrRange), ("strconv.ErrSyntax", laid_strconv_ErrSyntax), ("amend/pointer.escapes", laid_amend_pointer_escapes), ("amend/text.words", laid_amend_text_words), ("amend/text.escapes", laid_amend_text_escapes), ("amend/patch.operations", laid_amend_patch_operations), ("unicode/utf8.first", laid_unicode_utf8_first)] }
def UndoneSaid : Prop := undoneRow.holds Tryz.pinned (OpenSpec.ofChange undoneSpec)

/-- ITS FALSE NEIGHBOUR: 'it returns false'. Refute it at one input. -/
def undoneWrong : ChangeSpec := { name := "undone", fn := fun _ => fun
  | [d1, d2, d3, d4, d5] => { results := [.lit (.bool false)], args := [d1, d2, d3, d4, d5] }
  | _ => none }
def UndoneWrongFalsely : Prop := undoneRow.holds Tryz.pinned (OpenSpec.ofChange undoneWrong)

/-- 'amendkeep.Reached': WHATEVER THE INPUT: true; the input reads as it did. -/
def reachedSpec : ChangeSpec := { name := "reached", fn := fun _ => fun
  | [d1, d2, d3, d4] => { results := [.lit (.bool true)], args := [d1, d2, d3, d4] }
  | _ => none }
def reachedRow : OpenClaim := { program := "ytdpomdelmdofmaagreatdoor", sum := "a10ef89aa0146b898df96f9eab2e92a8698949384dd6a100402ee8284137ced2", func := "amend/amendkeep.Reached", spec := "reached", inPlace := ["internal/abi.NoEscape", "internal/bytealg.IndexByteString", "internal/bytealg.IndexString", "internal/bytealg.CountString", "slices.overlaps[*amend/value.Value]"], unfollowed := true, recurses := true, named := ["amend/text.escapes", "unicode/utf8.first", "unicode/utf8.acceptRanges", "amend/text.words", "internal/strconv.uint64pow10", "math/bits.deBruijn32tab", "math/bits.deBruijn64tab", "internal/bytealg.MaxLen", "amend/pointer.escapes", "strconv.ErrSyntax", "strconv.ErrRange", "amend/patch.operations"], plainKeys := false, apart := false, laid := [("math/bits.deBruijn32tab", laid_math_bits_deBruijn32tab), ("math/bits.deBruijn64tab", laid_math_bits_deBruijn64tab), ("internal/strconv.uint64pow10", laid_internal_strconv_uint64pow10), ("unicode/utf8.acceptRanges", laid_unicode_utf8_acceptRanges), ("strconv.ErrRange", laid_strconv_ErrRange), ("strconv.ErrSyntax", laid_strconv_ErrSyntax), ("amend/pointer.escapes", laid_amend_pointer_escapes), ("amend/text.words", laid_amend_text_words), ("amend/text.escapes", laid_amend_text_escapes), ("amend/patch.operations", laid_amend_patch_operations), ("unicode/utf8.first", laid_unicode_utf8_first)] }
def ReachedSaid : Prop := reachedRow.holds Tryz.pinned (OpenSpec.ofChange reachedSpec)

/-- ITS FALSE NEIGHBOUR: 'it returns false'. Refute it at one input. -/
def reachedWrong : ChangeSpec := { name := "reached", fn := fun _ => fun
  | [d1, d2, d3, d4] => { results := [.lit (.bool false)], args := [d1, d2, d3, d4] }
  | _ => none }
def ReachedWrongFalsely : Prop := reachedRow.holds Tryz.pinned (OpenSpec.ofChange reachedWrong)

/-- 'amendkeep.Merged': WHATEVER THE INPUT: true; the input reads as it did. -/
def mergedSpec : ChangeSpec := { name := "merged", fn := fun _ => fun
  | [d1, d2, d3] => { results := [.lit (.bool true)], args := [d1, d2, d3] }
  | _ => none }
def mergedRow : OpenClaim := { program := "ytdpomdelmdofmaagreatdoor", sum := "a10ef89aa0146b898df96f9eab2e92a8698949384dd6a100402ee8284137ced2", func := "amend/amendkeep.Merged", spec := "merged", inPlace := ["internal/abi.NoEscape", "internal/bytealg.IndexByteString", "internal/bytealg.IndexString", "internal/bytealg.CountString", "slices.overlaps[*amend/value.Value]"], unfollowed := true, recurses := true, named := ["amend/text.escapes", "unicode/utf8.first", "unicode/utf8.acceptRanges", "amend/text.words", "internal/strconv.uint64pow10", "math/bits.deBruijn32tab", "math/bits.deBruijn64tab", "internal/bytealg.MaxLen", "amend/pointer.escapes", "strconv.ErrSyntax", "strconv.ErrRange", "amend/patch.operations"], plainKeys := false, apart := false, laid := [("math/bits.deBruijn32tab", laid_math_bits_deBruijn32tab), ("math/bits.deBruijn64tab", laid_math_bits_deBruijn64tab), ("internal/strconv.uint64pow10", laid_internal_strconv_uint64pow10), ("unicode/utf8.acceptRanges", laid_unicode_utf8_acceptRanges), ("strconv.ErrRange", laid_strconv_ErrRange), ("strconv.ErrSyntax", laid_strconv_ErrSyntax), ("amend/pointer.escapes", laid_amend_pointer_escapes), ("amend/text.words", laid_amend_text_words), ("amend/text.escapes", laid_amend_text_escapes), ("amend/patch.operations", laid_amend_patch_operations), ("unicode/utf8.first", laid_unicode_utf8_first)] }
def MergedSaid : Prop := mergedRow.holds Tryz.pinned (OpenSpec.ofChange mergedSpec)

/-- ITS FALSE NEIGHBOUR: 'it returns false'. Refute it at one input. -/
def mergedWrong : ChangeSpec := { name := "merged", fn := fun _ => fun
  | [d1, d2, d3] => { results := [.lit (.bool false)], args := [d1, d2, d3] }
  | _ => none }
def MergedWrongFalsely : Prop := mergedRow.holds Tryz.pinned (OpenSpec.ofChange mergedWrong)

/-- 'amendkeep.Once': WHATEVER THE INPUT: true; the input reads as it did. -/
def onceSpec : ChangeSpec := { name := "once", fn := fun _ => fun
  | [d1, d2, d3] => { results := [.lit (.bool true)], args := [d1, d2, d3] }
  | _ => none }
def onceRow : OpenClaim := { program := "ytdpomdelmdofmaagreatdoor", sum := "a10ef89aa0146b898df96f9eab2e92a8698949384dd6a100402ee8284137ced2", func := "amend/amendkeep.Once", spec := "once", inPlace := ["internal/abi.NoEscape", "internal/bytealg.IndexByteString", "internal/bytealg.IndexString", "internal/bytealg.CountString", "slices.overlaps[*amend/value.Value]"], unfollowed := true, recurses := true, named := ["amend/text.escapes", "unicode/utf8.first", "unicode/utf8.acceptRanges", "amend/text.words", "internal/strconv.uint64pow10", "math/bits.deBruijn32tab", "math/bits.deBruijn64tab", "internal/bytealg.MaxLen", "amend/pointer.escapes", "strconv.ErrSyntax", "strconv.ErrRange", "amend/patch.operations"], plainKeys := false, apart := false, laid := [("math/bits.deBruijn32tab", laid_math_bits_deBruijn32tab), ("math/bits.deBruijn64tab", laid_math_bits_deBruijn64tab), ("internal/strconv.uint64pow10", laid_internal_strconv_uint64pow10), ("unicode/utf8.acceptRanges", laid_unicode_utf8_acceptRanges), ("strconv.ErrRange", laid_strconv_ErrRange), ("strconv.ErrSyntax", laid_strconv_ErrSyntax), ("amend/pointer.escapes", laid_amend_pointer_escapes), ("amend/text.words", laid_amend_text_words), ("amend/text.escapes", laid_amend_text_escapes), ("amend/patch.operations", laid_amend_patch_operations), ("unicode/utf8.first", laid_unicode_utf8_first)] }
def OnceSaid : Prop := onceRow.holds Tryz.pinned (OpenSpec.ofChange onceSpec)

/-- ITS FALSE NEIGHBOUR: 'it returns false'. Refute it at one input. -/
def onceWrong : ChangeSpec := { name := "once", fn := fun _ => fun
  | [d1, d2, d3] => { results := [.lit (.bool false)], args := [d1, d2, d3] }
  | _ => none }
def OnceWrongFalsely : Prop := onceRow.holds Tryz.pinned (OpenSpec.ofChange onceWrong)

/- THE SECOND FORM. 'bulk': how many values and letters a reading holds, each counted each time it is reached (what is shared counts as often as it is met; a slice's spare places count too). A statement '..UptoSaid' is the law's where the arguments, and the package variables that the reading takes, are together of bulk at most 1048576: NARROWER than '..Said'. Prove '..Said' where nothing that the law and all that it calls make is longer than what came in: it says more and counts as full. Else prove '..UptoSaid'. A law counts once. -/
mutual
def uptoBulk {H : Type} : DataW H → Nat
  | .lit (.string bytes) => bytes.length + 1
  | .lit _ => 1
  | .nil => 1
  | .ptr d => uptoBulk d + 1
  | .slice elems spare => uptoBulkAll elems + uptoBulkAll spare + 1
  | .agg parts => uptoBulkAll parts + 1
  | .iface _ d => uptoBulk d + 1
  | .map entries => uptoBulkEntries entries + 1
  | .held _ => 1
def uptoBulkAll {H : Type} : List (DataW H) → Nat
  | [] => 0
  | d :: r => uptoBulk d + uptoBulkAll r
def uptoBulkEntries {H : Type} : List (Lit × DataW H) → Nat
  | [] => 0
  | x :: r => uptoBulkEntry x + uptoBulkEntries r
def uptoBulkEntry {H : Type} : Lit × DataW H → Nat
  | (.string bytes, d) => bytes.length + uptoBulk d + 1
  | (_, d) => uptoBulk d + 1
 end
def uptoSmall : (H : Type) → List (DataW H) → Bool := fun _ ds => decide (uptoBulkAll ds ≤ 1048576)
def OpenSpec.upto (s : _root_.Go.ChangeSpec) : _root_.Go.OpenSpec := { _root_.Go.OpenSpec.ofChange s with cond := some uptoSmall }

/-- 'amendlaw.Loads', WHERE WHAT IT READS IS OF BULK AT MOST 1048576: true; the input reads as it did. -/
def loadsUptoRow : OpenClaim := { program := "ytdpomdelmdofmaagreatdoor", sum := "a10ef89aa0146b898df96f9eab2e92a8698949384dd6a100402ee8284137ced2", func := "amend/amendlaw.Loads", spec := "loads", inPlace := ["internal/abi.NoEscape", "internal/bytealg.IndexByteString", "internal/bytealg.IndexString", "internal/bytealg.CountString", "slices.overlaps[*amend/value.Value]"], unfollowed := true, recurses := true, named := ["amend/text.escapes", "unicode/utf8.first", "unicode/utf8.acceptRanges", "amend/text.words", "internal/strconv.uint64pow10", "math/bits.deBruijn32tab", "math/bits.deBruijn64tab", "internal/bytealg.MaxLen", "amend/pointer.escapes", "strconv.ErrSyntax", "strconv.ErrRange", "amend/patch.operations"], plainKeys := false, apart := false, laid := [("math/bits.deBruijn32tab", laid_math_bits_deBruijn32tab), ("math/bits.deBruijn64tab", laid_math_bits_deBruijn64tab), ("internal/strconv.uint64pow10", laid_internal_strconv_uint64pow10), ("unicode/utf8.acceptRanges", laid_unicode_utf8_acceptRanges), ("strconv.ErrRange", laid_strconv_ErrRange), ("strconv.ErrSyntax", laid_strconv_ErrSyntax), ("amend/pointer.escapes", laid_amend_pointer_escapes), ("amend/text.words", laid_amend_text_words), ("amend/text.escapes", laid_amend_text_escapes), ("amend/patch.operations", laid_amend_patch_operations), ("unicode/utf8.first", laid_unicode_utf8_first)], narrowed := true }
def LoadsUptoSaid : Prop := loadsUptoRow.holds Tryz.pinned (OpenSpec.upto loadsSpec)

/-- 'amendkeep.Round', WHERE WHAT IT READS IS OF BULK AT MOST 1048576: true; the input reads as it did. -/
def roundUptoRow : OpenClaim := { program := "ytdpomdelmdofmaagreatdoor", sum := "a10ef89aa0146b898df96f9eab2e92a8698949384dd6a100402ee8284137ced2", func := "amend/amendkeep.Round", spec := "round", inPlace := ["internal/abi.NoEscape", "internal/bytealg.IndexByteString", "internal/bytealg.IndexString", "internal/bytealg.CountString", "slices.overlaps[*amend/value.Value]"], unfollowed := true, recurses := true, named := ["amend/text.escapes", "unicode/utf8.first", "unicode/utf8.acceptRanges", "amend/text.words", "internal/strconv.uint64pow10", "math/bits.deBruijn32tab", "math/bits.deBruijn64tab", "internal/bytealg.MaxLen", "amend/pointer.escapes", "strconv.ErrSyntax", "strconv.ErrRange", "amend/patch.operations"], plainKeys := false, apart := false, laid := [("math/bits.deBruijn32tab", laid_math_bits_deBruijn32tab), ("math/bits.deBruijn64tab", laid_math_bits_deBruijn64tab), ("internal/strconv.uint64pow10", laid_internal_strconv_uint64pow10), ("unicode/utf8.acceptRanges", laid_unicode_utf8_acceptRanges), ("strconv.ErrRange", laid_strconv_ErrRange), ("strconv.ErrSyntax", laid_strconv_ErrSyntax), ("amend/pointer.escapes", laid_amend_pointer_escapes), ("amend/text.words", laid_amend_text_words), ("amend/text.escapes", laid_amend_text_escapes), ("amend/patch.operations", laid_amend_patch_operations), ("unicode/utf8.first", laid_unicode_utf8_first)], narrowed := true }
def RoundUptoSaid : Prop := roundUptoRow.holds Tryz.pinned (OpenSpec.upto roundSpec)

/-- 'amendkeep.Spelled', WHERE WHAT IT READS IS OF BULK AT MOST 1048576: true; the input reads as it did. -/
def spelledUptoRow : OpenClaim := { program := "ytdpomdelmdofmaagreatdoor", sum := "a10ef89aa0146b898df96f9eab2e92a8698949384dd6a100402ee8284137ced2", func := "amend/amendkeep.Spelled", spec := "spelled", inPlace := ["internal/abi.NoEscape", "internal/bytealg.IndexByteString", "internal/bytealg.IndexString", "internal/bytealg.CountString", "slices.overlaps[*amend/value.Value]"], unfollowed := true, recurses := true, named := ["amend/text.escapes", "unicode/utf8.first", "unicode/utf8.acceptRanges", "amend/text.words", "internal/strconv.uint64pow10", "math/bits.deBruijn32tab", "math/bits.deBruijn64tab", "internal/bytealg.MaxLen", "amend/pointer.escapes", "strconv.ErrSyntax", "strconv.ErrRange", "amend/patch.operations"], plainKeys := false, apart := false, laid := [("math/bits.deBruijn32tab", laid_math_bits_deBruijn32tab), ("math/bits.deBruijn64tab", laid_math_bits_deBruijn64tab), ("internal/strconv.uint64pow10", laid_internal_strconv_uint64pow10), ("unicode/utf8.acceptRanges", laid_unicode_utf8_acceptRanges), ("strconv.ErrRange", laid_strconv_ErrRange), ("strconv.ErrSyntax", laid_strconv_ErrSyntax), ("amend/pointer.escapes", laid_amend_pointer_escapes), ("amend/text.words", laid_amend_text_words), ("amend/text.escapes", laid_amend_text_escapes), ("amend/patch.operations", laid_amend_patch_operations), ("unicode/utf8.first", laid_unicode_utf8_first)], narrowed := true }
def SpelledUptoSaid : Prop := spelledUptoRow.holds Tryz.pinned (OpenSpec.upto spelledSpec)

/-- 'amendkeep.Prefix', WHERE WHAT IT READS IS OF BULK AT MOST 1048576: true; the input reads as it did. -/
def prefixUptoRow : OpenClaim := { program := "ytdpomdelmdofmaagreatdoor", sum := "a10ef89aa0146b898df96f9eab2e92a8698949384dd6a100402ee8284137ced2", func := "amend/amendkeep.Prefix", spec := "prefix", inPlace := ["internal/abi.NoEscape", "internal/bytealg.IndexByteString", "internal/bytealg.IndexString", "internal/bytealg.CountString", "slices.overlaps[*amend/value.Value]"], unfollowed := true, recurses := true, named := ["amend/text.escapes", "unicode/utf8.first", "unicode/utf8.acceptRanges", "amend/text.words", "internal/strconv.uint64pow10", "math/bits.deBruijn32tab", "math/bits.deBruijn64tab", "internal/bytealg.MaxLen", "amend/pointer.escapes", "strconv.ErrSyntax", "strconv.ErrRange", "amend/patch.operations"], plainKeys := false, apart := false, laid := [("math/bits.deBruijn32tab", laid_math_bits_deBruijn32tab), ("math/bits.deBruijn64tab", laid_math_bits_deBruijn64tab), ("internal/strconv.uint64pow10", laid_internal_strconv_uint64pow10), ("unicode/utf8.acceptRanges", laid_unicode_utf8_acceptRanges), ("strconv.ErrRange", laid_strconv_ErrRange), ("strconv.ErrSyntax", laid_strconv_ErrSyntax), ("amend/pointer.escapes", laid_amend_pointer_escapes), ("amend/text.words", laid_amend_text_words), ("amend/text.escapes", laid_amend_text_escapes), ("amend/patch.operations", laid_amend_patch_operations), ("unicode/utf8.first", laid_unicode_utf8_first)], narrowed := true }
def PrefixUptoSaid : Prop := prefixUptoRow.holds Tryz.pinned (OpenSpec.upto prefixSpec)

/-- 'amendlaw.Gets', WHERE WHAT IT READS IS OF BULK AT MOST 1048576: true; the input reads as it did. -/
def getsUptoRow : OpenClaim := { program := "ytdpomdelmdofmaagreatdoor", sum := "a10ef89aa0146b898df96f9eab2e92a8698949384dd6a100402ee8284137ced2", func := "amend/amendlaw.Gets", spec := "gets", inPlace := ["internal/abi.NoEscape", "internal/bytealg.IndexByteString", "internal/bytealg.IndexString", "internal/bytealg.CountString", "slices.overlaps[*amend/value.Value]"], unfollowed := true, recurses := true, named := ["amend/text.escapes", "unicode/utf8.first", "unicode/utf8.acceptRanges", "amend/text.words", "internal/strconv.uint64pow10", "math/bits.deBruijn32tab", "math/bits.deBruijn64tab", "internal/bytealg.MaxLen", "amend/pointer.escapes", "strconv.ErrSyntax", "strconv.ErrRange", "amend/patch.operations"], plainKeys := false, apart := false, laid := [("math/bits.deBruijn32tab", laid_math_bits_deBruijn32tab), ("math/bits.deBruijn64tab", laid_math_bits_deBruijn64tab), ("internal/strconv.uint64pow10", laid_internal_strconv_uint64pow10), ("unicode/utf8.acceptRanges", laid_unicode_utf8_acceptRanges), ("strconv.ErrRange", laid_strconv_ErrRange), ("strconv.ErrSyntax", laid_strconv_ErrSyntax), ("amend/pointer.escapes", laid_amend_pointer_escapes), ("amend/text.words", laid_amend_text_words), ("amend/text.escapes", laid_amend_text_escapes), ("amend/patch.operations", laid_amend_patch_operations), ("unicode/utf8.first", laid_unicode_utf8_first)], narrowed := true }
def GetsUptoSaid : Prop := getsUptoRow.holds Tryz.pinned (OpenSpec.upto getsSpec)

/-- 'amendlaw.Patches', WHERE WHAT IT READS IS OF BULK AT MOST 1048576: true; the input reads as it did. -/
def patchesUptoRow : OpenClaim := { program := "ytdpomdelmdofmaagreatdoor", sum := "a10ef89aa0146b898df96f9eab2e92a8698949384dd6a100402ee8284137ced2", func := "amend/amendlaw.Patches", spec := "patches", inPlace := ["internal/abi.NoEscape", "internal/bytealg.IndexByteString", "internal/bytealg.IndexString", "internal/bytealg.CountString", "slices.overlaps[*amend/value.Value]"], unfollowed := true, recurses := true, named := ["amend/text.escapes", "unicode/utf8.first", "unicode/utf8.acceptRanges", "amend/text.words", "internal/strconv.uint64pow10", "math/bits.deBruijn32tab", "math/bits.deBruijn64tab", "internal/bytealg.MaxLen", "amend/pointer.escapes", "strconv.ErrSyntax", "strconv.ErrRange", "amend/patch.operations"], plainKeys := false, apart := false, laid := [("math/bits.deBruijn32tab", laid_math_bits_deBruijn32tab), ("math/bits.deBruijn64tab", laid_math_bits_deBruijn64tab), ("internal/strconv.uint64pow10", laid_internal_strconv_uint64pow10), ("unicode/utf8.acceptRanges", laid_unicode_utf8_acceptRanges), ("strconv.ErrRange", laid_strconv_ErrRange), ("strconv.ErrSyntax", laid_strconv_ErrSyntax), ("amend/pointer.escapes", laid_amend_pointer_escapes), ("amend/text.words", laid_amend_text_words), ("amend/text.escapes", laid_amend_text_escapes), ("amend/patch.operations", laid_amend_patch_operations), ("unicode/utf8.first", laid_unicode_utf8_first)], narrowed := true }
def PatchesUptoSaid : Prop := patchesUptoRow.holds Tryz.pinned (OpenSpec.upto patchesSpec)

/-- 'amendkeep.Rolled', WHERE WHAT IT READS IS OF BULK AT MOST 1048576: true; the input reads as it did. -/
def rolledUptoRow : OpenClaim := { program := "ytdpomdelmdofmaagreatdoor", sum := "a10ef89aa0146b898df96f9eab2e92a8698949384dd6a100402ee8284137ced2", func := "amend/amendkeep.Rolled", spec := "rolled", inPlace := ["internal/abi.NoEscape", "internal/bytealg.IndexByteString", "internal/bytealg.IndexString", "internal/bytealg.CountString", "slices.overlaps[*amend/value.Value]"], unfollowed := true, recurses := true, named := ["amend/text.escapes", "unicode/utf8.first", "unicode/utf8.acceptRanges", "amend/text.words", "internal/strconv.uint64pow10", "math/bits.deBruijn32tab", "math/bits.deBruijn64tab", "internal/bytealg.MaxLen", "amend/pointer.escapes", "strconv.ErrSyntax", "strconv.ErrRange", "amend/patch.operations"], plainKeys := false, apart := false, laid := [("math/bits.deBruijn32tab", laid_math_bits_deBruijn32tab), ("math/bits.deBruijn64tab", laid_math_bits_deBruijn64tab), ("internal/strconv.uint64pow10", laid_internal_strconv_uint64pow10), ("unicode/utf8.acceptRanges", laid_unicode_utf8_acceptRanges), ("strconv.ErrRange", laid_strconv_ErrRange), ("strconv.ErrSyntax", laid_strconv_ErrSyntax), ("amend/pointer.escapes", laid_amend_pointer_escapes), ("amend/text.words", laid_amend_text_words), ("amend/text.escapes", laid_amend_text_escapes), ("amend/patch.operations", laid_amend_patch_operations), ("unicode/utf8.first", laid_unicode_utf8_first)], narrowed := true }
def RolledUptoSaid : Prop := rolledUptoRow.holds Tryz.pinned (OpenSpec.upto rolledSpec)

/-- 'amendlaw.Runs', WHERE WHAT IT READS IS OF BULK AT MOST 1048576: true; the input reads as it did. -/
def runsUptoRow : OpenClaim := { program := "ytdpomdelmdofmaagreatdoor", sum := "a10ef89aa0146b898df96f9eab2e92a8698949384dd6a100402ee8284137ced2", func := "amend/amendlaw.Runs", spec := "runs", inPlace := ["internal/abi.NoEscape", "internal/bytealg.IndexByteString", "internal/bytealg.IndexString", "internal/bytealg.CountString", "slices.overlaps[*amend/value.Value]"], unfollowed := true, recurses := true, named := ["amend/text.escapes", "unicode/utf8.first", "unicode/utf8.acceptRanges", "amend/text.words", "internal/strconv.uint64pow10", "math/bits.deBruijn32tab", "math/bits.deBruijn64tab", "internal/bytealg.MaxLen", "amend/pointer.escapes", "strconv.ErrSyntax", "strconv.ErrRange", "amend/patch.operations"], plainKeys := false, apart := false, laid := [("math/bits.deBruijn32tab", laid_math_bits_deBruijn32tab), ("math/bits.deBruijn64tab", laid_math_bits_deBruijn64tab), ("internal/strconv.uint64pow10", laid_internal_strconv_uint64pow10), ("unicode/utf8.acceptRanges", laid_unicode_utf8_acceptRanges), ("strconv.ErrRange", laid_strconv_ErrRange), ("strconv.ErrSyntax", laid_strconv_ErrSyntax), ("amend/pointer.escapes", laid_amend_pointer_escapes), ("amend/text.words", laid_amend_text_words), ("amend/text.escapes", laid_amend_text_escapes), ("amend/patch.operations", laid_amend_patch_operations), ("unicode/utf8.first", laid_unicode_utf8_first)], narrowed := true }
def RunsUptoSaid : Prop := runsUptoRow.holds Tryz.pinned (OpenSpec.upto runsSpec)

/-- 'amendkeep.Undone', WHERE WHAT IT READS IS OF BULK AT MOST 1048576: true; the input reads as it did. -/
def undoneUptoRow : OpenClaim := { program := "ytdpomdelmdofmaagreatdoor", sum := "a10ef89aa0146b898df96f9eab2e92a8698949384dd6a100402ee8284137ced2", func := "amend/amendkeep.Undone", spec := "undone", inPlace := ["internal/abi.NoEscape", "internal/bytealg.IndexByteString", "internal/bytealg.IndexString", "internal/bytealg.CountString", "slices.overlaps[*amend/value.Value]"], unfollowed := true, recurses := true, named := ["amend/text.escapes", "unicode/utf8.first", "unicode/utf8.acceptRanges", "amend/text.words", "internal/strconv.uint64pow10", "math/bits.deBruijn32tab", "math/bits.deBruijn64tab", "internal/bytealg.MaxLen", "amend/pointer.escapes", "strconv.ErrSyntax", "strconv.ErrRange", "amend/patch.operations"], plainKeys := false, apart := false, laid := [("math/bits.deBruijn32tab", laid_math_bits_deBruijn32tab), ("math/bits.deBruijn64tab", laid_math_bits_deBruijn64tab), ("internal/strconv.uint64pow10", laid_internal_strconv_uint64pow10), ("unicode/utf8.acceptRanges", laid_unicode_utf8_acceptRanges), ("strconv.ErrRange", laid_strconv_ErrRange), ("strconv.ErrSyntax", laid_strconv_ErrSyntax), ("amend/pointer.escapes", laid_amend_pointer_escapes), ("amend/text.words", laid_amend_text_words), ("amend/text.escapes", laid_amend_text_escapes), ("amend/patch.operations", laid_amend_patch_operations), ("unicode/utf8.first", laid_unicode_utf8_first)], narrowed := true }
def UndoneUptoSaid : Prop := undoneUptoRow.holds Tryz.pinned (OpenSpec.upto undoneSpec)

/-- 'amendkeep.Reached', WHERE WHAT IT READS IS OF BULK AT MOST 1048576: true; the input reads as it did. -/
def reachedUptoRow : OpenClaim := { program := "ytdpomdelmdofmaagreatdoor", sum := "a10ef89aa0146b898df96f9eab2e92a8698949384dd6a100402ee8284137ced2", func := "amend/amendkeep.Reached", spec := "reached", inPlace := ["internal/abi.NoEscape", "internal/bytealg.IndexByteString", "internal/bytealg.IndexString", "internal/bytealg.CountString", "slices.overlaps[*amend/value.Value]"], unfollowed := true, recurses := true, named := ["amend/text.escapes", "unicode/utf8.first", "unicode/utf8.acceptRanges", "amend/text.words", "internal/strconv.uint64pow10", "math/bits.deBruijn32tab", "math/bits.deBruijn64tab", "internal/bytealg.MaxLen", "amend/pointer.escapes", "strconv.ErrSyntax", "strconv.ErrRange", "amend/patch.operations"], plainKeys := false, apart := false, laid := [("math/bits.deBruijn32tab", laid_math_bits_deBruijn32tab), ("math/bits.deBruijn64tab", laid_math_bits_deBruijn64tab), ("internal/strconv.uint64pow10", laid_internal_strconv_uint64pow10), ("unicode/utf8.acceptRanges", laid_unicode_utf8_acceptRanges), ("strconv.ErrRange", laid_strconv_ErrRange), ("strconv.ErrSyntax", laid_strconv_ErrSyntax), ("amend/pointer.escapes", laid_amend_pointer_escapes), ("amend/text.words", laid_amend_text_words), ("amend/text.escapes", laid_amend_text_escapes), ("amend/patch.operations", laid_amend_patch_operations), ("unicode/utf8.first", laid_unicode_utf8_first)], narrowed := true }
def ReachedUptoSaid : Prop := reachedUptoRow.holds Tryz.pinned (OpenSpec.upto reachedSpec)

/-- 'amendkeep.Merged', WHERE WHAT IT READS IS OF BULK AT MOST 1048576: true; the input reads as it did. -/
def mergedUptoRow : OpenClaim := { program := "ytdpomdelmdofmaagreatdoor", sum := "a10ef89aa0146b898df96f9eab2e92a8698949384dd6a100402ee8284137ced2", func := "amend/amendkeep.Merged", spec := "merged", inPlace := ["internal/abi.NoEscape", "internal/bytealg.IndexByteString", "internal/bytealg.IndexString", "internal/bytealg.CountString", "slices.overlaps[*amend/value.Value]"], unfollowed := true, recurses := true, named := ["amend/text.escapes", "unicode/utf8.first", "unicode/utf8.acceptRanges", "amend/text.words", "internal/strconv.uint64pow10", "math/bits.deBruijn32tab", "math/bits.deBruijn64tab", "internal/bytealg.MaxLen", "amend/pointer.escapes", "strconv.ErrSyntax", "strconv.ErrRange", "amend/patch.operations"], plainKeys := false, apart := false, laid := [("math/bits.deBruijn32tab", laid_math_bits_deBruijn32tab), ("math/bits.deBruijn64tab", laid_math_bits_deBruijn64tab), ("internal/strconv.uint64pow10", laid_internal_strconv_uint64pow10), ("unicode/utf8.acceptRanges", laid_unicode_utf8_acceptRanges), ("strconv.ErrRange", laid_strconv_ErrRange), ("strconv.ErrSyntax", laid_strconv_ErrSyntax), ("amend/pointer.escapes", laid_amend_pointer_escapes), ("amend/text.words", laid_amend_text_words), ("amend/text.escapes", laid_amend_text_escapes), ("amend/patch.operations", laid_amend_patch_operations), ("unicode/utf8.first", laid_unicode_utf8_first)], narrowed := true }
def MergedUptoSaid : Prop := mergedUptoRow.holds Tryz.pinned (OpenSpec.upto mergedSpec)

/-- 'amendkeep.Once', WHERE WHAT IT READS IS OF BULK AT MOST 1048576: true; the input reads as it did. -/
def onceUptoRow : OpenClaim := { program := "ytdpomdelmdofmaagreatdoor", sum := "a10ef89aa0146b898df96f9eab2e92a8698949384dd6a100402ee8284137ced2", func := "amend/amendkeep.Once", spec := "once", inPlace := ["internal/abi.NoEscape", "internal/bytealg.IndexByteString", "internal/bytealg.IndexString", "internal/bytealg.CountString", "slices.overlaps[*amend/value.Value]"], unfollowed := true, recurses := true, named := ["amend/text.escapes", "unicode/utf8.first", "unicode/utf8.acceptRanges", "amend/text.words", "internal/strconv.uint64pow10", "math/bits.deBruijn32tab", "math/bits.deBruijn64tab", "internal/bytealg.MaxLen", "amend/pointer.escapes", "strconv.ErrSyntax", "strconv.ErrRange", "amend/patch.operations"], plainKeys := false, apart := false, laid := [("math/bits.deBruijn32tab", laid_math_bits_deBruijn32tab), ("math/bits.deBruijn64tab", laid_math_bits_deBruijn64tab), ("internal/strconv.uint64pow10", laid_internal_strconv_uint64pow10), ("unicode/utf8.acceptRanges", laid_unicode_utf8_acceptRanges), ("strconv.ErrRange", laid_strconv_ErrRange), ("strconv.ErrSyntax", laid_strconv_ErrSyntax), ("amend/pointer.escapes", laid_amend_pointer_escapes), ("amend/text.words", laid_amend_text_words), ("amend/text.escapes", laid_amend_text_escapes), ("amend/patch.operations", laid_amend_patch_operations), ("unicode/utf8.first", laid_unicode_utf8_first)], narrowed := true }
def OnceUptoSaid : Prop := onceUptoRow.holds Tryz.pinned (OpenSpec.upto onceSpec)

end Rows
end Go.Proofs.YtdpomdelmdofmaaGreatDoor
