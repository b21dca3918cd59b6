/-
  NARROWER THAN 'FOR EVERY INPUT', by the rows' own cells (each row's printed sentence says how): FnQuant: laid · FnExactSizeText: laid · FnExactSizeRead: laid · FnExactCpuText: laid · FnExactCpuRead: laid.
  DERIVED. THE GIVEN ROWS OF THIS SEAT. 5 by the template 'for every input the law returns true; each argument reads behind the call as it read before'; 0 by the template 'total and deterministic' (their statements: YtbeocggeakhnnaaDoorTotals.lean).
  GIVEN WITH THE SEED: the statements are not yours to turn. If you find one false, say at which input.
  Laid BY PROGRAM, IN A SANDBOX (cutbox-rows.mjs): the forced cells as the released guide's own fill.sh prints them over the translation 5776618a5d2b634b… (all of the seat's roots in one cut). By AI agents, Wed Nov 11 2026. No macro, syntax, notation, axiom, sorry.
-/
import Derived.Test.YtbeocggeakhnnaaDoorChecked
import GoSem.Claim
import GoSem.ClaimJoined
import GoSem.ClaimMapViews
import Derived.JoinedTies
import Derived.KernelRfl
namespace Go.Proofs.YtbeocggeakhnnaaDoor
/- THE CELL 'sum', in the pinned program and in every row, IS THE sha256 OF THE DUMP (.gsa) THAT YtbeocggeakhnnaaDoorProg.lean LOADS. Nothing in Lean hashes anything: it is a label: what it is worth is what the hold of that sum in a sandbox is worth. -/
noncomputable def Tryd.pinned : Pinned := { name := "ytbeocggeakhnnaadoor", sum := "5776618a5d2b634b893ca6dcb7047871a3a5d147625446c936f8284a7deb4050", checked := Tryd.checked }
namespace Rows
def none {H : Type} : Left H := { results := [], args := [] }

/- WHAT THE LISTED PACKAGE-LEVEL VARIABLES READ AS WHEN THE CALL BEGINS. Each datum BY PROGRAM (the guide's laid-datum.mjs) off the statement by which the dump's own 'gosem.cut.vars' lays the variable. In a bare row this is a premise. The card (YtbeocggeakhnnaaDoorCards.lean) ties it to the program's text. -/
def laid_math_bits_deBruijn32tab {H : Type} : DataW H := .agg [.lit (.int .u8 0), .lit (.int .u8 1), .lit (.int .u8 28), .lit (.int .u8 2), .lit (.int .u8 29), .lit (.int .u8 14), .lit (.int .u8 24), .lit (.int .u8 3), .lit (.int .u8 30), .lit (.int .u8 22), .lit (.int .u8 20), .lit (.int .u8 15), .lit (.int .u8 25), .lit (.int .u8 17), .lit (.int .u8 4), .lit (.int .u8 8), .lit (.int .u8 31), .lit (.int .u8 27), .lit (.int .u8 13), .lit (.int .u8 23), .lit (.int .u8 21), .lit (.int .u8 19), .lit (.int .u8 16), .lit (.int .u8 7), .lit (.int .u8 26), .lit (.int .u8 12), .lit (.int .u8 18), .lit (.int .u8 6), .lit (.int .u8 11), .lit (.int .u8 5), .lit (.int .u8 10), .lit (.int .u8 9)]
def laid_math_bits_deBruijn64tab {H : Type} : DataW H := .agg [.lit (.int .u8 0), .lit (.int .u8 1), .lit (.int .u8 56), .lit (.int .u8 2), .lit (.int .u8 57), .lit (.int .u8 49), .lit (.int .u8 28), .lit (.int .u8 3), .lit (.int .u8 61), .lit (.int .u8 58), .lit (.int .u8 42), .lit (.int .u8 50), .lit (.int .u8 38), .lit (.int .u8 29), .lit (.int .u8 17), .lit (.int .u8 4), .lit (.int .u8 62), .lit (.int .u8 47), .lit (.int .u8 59), .lit (.int .u8 36), .lit (.int .u8 45), .lit (.int .u8 43), .lit (.int .u8 51), .lit (.int .u8 22), .lit (.int .u8 53), .lit (.int .u8 39), .lit (.int .u8 33), .lit (.int .u8 30), .lit (.int .u8 24), .lit (.int .u8 18), .lit (.int .u8 12), .lit (.int .u8 5), .lit (.int .u8 63), .lit (.int .u8 55), .lit (.int .u8 48), .lit (.int .u8 27), .lit (.int .u8 60), .lit (.int .u8 41), .lit (.int .u8 37), .lit (.int .u8 16), .lit (.int .u8 46), .lit (.int .u8 35), .lit (.int .u8 44), .lit (.int .u8 21), .lit (.int .u8 52), .lit (.int .u8 32), .lit (.int .u8 23), .lit (.int .u8 11), .lit (.int .u8 54), .lit (.int .u8 26), .lit (.int .u8 40), .lit (.int .u8 15), .lit (.int .u8 34), .lit (.int .u8 20), .lit (.int .u8 31), .lit (.int .u8 10), .lit (.int .u8 25), .lit (.int .u8 14), .lit (.int .u8 19), .lit (.int .u8 9), .lit (.int .u8 13), .lit (.int .u8 8), .lit (.int .u8 7), .lit (.int .u8 6)]
def laid_internal_strconv_uint64pow10 {H : Type} : DataW H := .agg [.lit (.int .u64 1), .lit (.int .u64 10), .lit (.int .u64 100), .lit (.int .u64 1000), .lit (.int .u64 10000), .lit (.int .u64 100000), .lit (.int .u64 1000000), .lit (.int .u64 10000000), .lit (.int .u64 100000000), .lit (.int .u64 1000000000), .lit (.int .u64 10000000000), .lit (.int .u64 100000000000), .lit (.int .u64 1000000000000), .lit (.int .u64 10000000000000), .lit (.int .u64 100000000000000), .lit (.int .u64 1000000000000000), .lit (.int .u64 10000000000000000), .lit (.int .u64 100000000000000000), .lit (.int .u64 1000000000000000000), .lit (.int .u64 10000000000000000000)]

/-- 'laws.FnQuant': WHATEVER THE INPUT: true; the input reads as it did. -/
def fnQuantSpec : ChangeSpec := { name := "fnQuant", fn := fun _ => fun
  | [d1, d2] => { results := [.lit (.bool true)], args := [d1, d2] }
  | _ => none }
def fnQuantRow : OpenClaim := { program := "ytbeocggeakhnnaadoor", sum := "5776618a5d2b634b893ca6dcb7047871a3a5d147625446c936f8284a7deb4050", func := "loop.example/g00571/laws.FnQuant", spec := "fnQuant", named := ["internal/strconv.uint64pow10", "math/bits.deBruijn32tab", "math/bits.deBruijn64tab"], apart := false, laid := [("math/bits.deBruijn32tab", laid_math_bits_deBruijn32tab), ("math/bits.deBruijn64tab", laid_math_bits_deBruijn64tab), ("internal/strconv.uint64pow10", laid_internal_strconv_uint64pow10)] }
def FnQuantSaid : Prop := fnQuantRow.holds Tryd.pinned (OpenSpec.ofChange fnQuantSpec)

/-- ITS FALSE NEIGHBOUR: 'it returns false'. Refute it at one input. -/
def fnQuantWrong : ChangeSpec := { name := "fnQuant", fn := fun _ => fun
  | [d1, d2] => { results := [.lit (.bool false)], args := [d1, d2] }
  | _ => none }
def FnQuantWrongFalsely : Prop := fnQuantRow.holds Tryd.pinned (OpenSpec.ofChange fnQuantWrong)

/-- 'laws.FnExactSizeText': WHATEVER THE INPUT: true; the input reads as it did. -/
def fnExactSizeTextSpec : ChangeSpec := { name := "fnExactSizeText", fn := fun _ => fun
  | [d] => { results := [.lit (.bool true)], args := [d] }
  | _ => none }
def fnExactSizeTextRow : OpenClaim := { program := "ytbeocggeakhnnaadoor", sum := "5776618a5d2b634b893ca6dcb7047871a3a5d147625446c936f8284a7deb4050", func := "loop.example/g00571/laws.FnExactSizeText", spec := "fnExactSizeText", named := ["internal/strconv.uint64pow10", "math/bits.deBruijn32tab", "math/bits.deBruijn64tab"], apart := false, laid := [("math/bits.deBruijn32tab", laid_math_bits_deBruijn32tab), ("math/bits.deBruijn64tab", laid_math_bits_deBruijn64tab), ("internal/strconv.uint64pow10", laid_internal_strconv_uint64pow10)] }
def FnExactSizeTextSaid : Prop := fnExactSizeTextRow.holds Tryd.pinned (OpenSpec.ofChange fnExactSizeTextSpec)

/-- ITS FALSE NEIGHBOUR: 'it returns false'. Refute it at one input. -/
def fnExactSizeTextWrong : ChangeSpec := { name := "fnExactSizeText", fn := fun _ => fun
  | [d] => { results := [.lit (.bool false)], args := [d] }
  | _ => none }
def FnExactSizeTextWrongFalsely : Prop := fnExactSizeTextRow.holds Tryd.pinned (OpenSpec.ofChange fnExactSizeTextWrong)

/-- 'laws.FnExactSizeRead': WHATEVER THE INPUT: true; the input reads as it did. -/
def fnExactSizeReadSpec : ChangeSpec := { name := "fnExactSizeRead", fn := fun _ => fun
  | [d] => { results := [.lit (.bool true)], args := [d] }
  | _ => none }
def fnExactSizeReadRow : OpenClaim := { program := "ytbeocggeakhnnaadoor", sum := "5776618a5d2b634b893ca6dcb7047871a3a5d147625446c936f8284a7deb4050", func := "loop.example/g00571/laws.FnExactSizeRead", spec := "fnExactSizeRead", named := ["internal/strconv.uint64pow10", "math/bits.deBruijn32tab", "math/bits.deBruijn64tab"], apart := false, laid := [("math/bits.deBruijn32tab", laid_math_bits_deBruijn32tab), ("math/bits.deBruijn64tab", laid_math_bits_deBruijn64tab), ("internal/strconv.uint64pow10", laid_internal_strconv_uint64pow10)] }
def FnExactSizeReadSaid : Prop := fnExactSizeReadRow.holds Tryd.pinned (OpenSpec.ofChange fnExactSizeReadSpec)

/-- ITS FALSE NEIGHBOUR: 'it returns false'. Refute it at one input. -/
def fnExactSizeReadWrong : ChangeSpec := { name := "fnExactSizeRead", fn := fun _ => fun
  | [d] => { results := [.lit (.bool false)], args := [d] }
  | _ => none }
def FnExactSizeReadWrongFalsely : Prop := fnExactSizeReadRow.holds Tryd.pinned (OpenSpec.ofChange fnExactSizeReadWrong)

/-- 'laws.FnExactCpuText': WHATEVER THE INPUT: true; the input reads as it did. -/
def fnExactCpuTextSpec : ChangeSpec := { name := "fnExactCpuText", fn := fun _ => fun
  | [d] => { results := [.lit (.bool true)], args := [d] }
  | _ => none }
def fnExactCpuTextRow : OpenClaim := { program := "ytbeocggeakhnnaadoor", sum := "5776618a5d2b634b893ca6dcb7047871a3a5d147625446c936f8284a7deb4050", func := "loop.example/g00571/laws.FnExactCpuText", spec := "fnExactCpuText", named := ["internal/strconv.uint64pow10", "math/bits.deBruijn32tab", "math/bits.deBruijn64tab"], apart := false, laid := [("math/bits.deBruijn32tab", laid_math_bits_deBruijn32tab), ("math/bits.deBruijn64tab", laid_math_bits_deBruijn64tab), ("internal/strconv.uint64pow10", laid_internal_strconv_uint64pow10)] }
def FnExactCpuTextSaid : Prop := fnExactCpuTextRow.holds Tryd.pinned (OpenSpec.ofChange fnExactCpuTextSpec)

/-- ITS FALSE NEIGHBOUR: 'it returns false'. Refute it at one input. -/
def fnExactCpuTextWrong : ChangeSpec := { name := "fnExactCpuText", fn := fun _ => fun
  | [d] => { results := [.lit (.bool false)], args := [d] }
  | _ => none }
def FnExactCpuTextWrongFalsely : Prop := fnExactCpuTextRow.holds Tryd.pinned (OpenSpec.ofChange fnExactCpuTextWrong)

/-- 'laws.FnExactCpuRead': WHATEVER THE INPUT: true; the input reads as it did. -/
def fnExactCpuReadSpec : ChangeSpec := { name := "fnExactCpuRead", fn := fun _ => fun
  | [d] => { results := [.lit (.bool true)], args := [d] }
  | _ => none }
def fnExactCpuReadRow : OpenClaim := { program := "ytbeocggeakhnnaadoor", sum := "5776618a5d2b634b893ca6dcb7047871a3a5d147625446c936f8284a7deb4050", func := "loop.example/g00571/laws.FnExactCpuRead", spec := "fnExactCpuRead", named := ["internal/strconv.uint64pow10", "math/bits.deBruijn32tab", "math/bits.deBruijn64tab"], apart := false, laid := [("math/bits.deBruijn32tab", laid_math_bits_deBruijn32tab), ("math/bits.deBruijn64tab", laid_math_bits_deBruijn64tab), ("internal/strconv.uint64pow10", laid_internal_strconv_uint64pow10)] }
def FnExactCpuReadSaid : Prop := fnExactCpuReadRow.holds Tryd.pinned (OpenSpec.ofChange fnExactCpuReadSpec)

/-- ITS FALSE NEIGHBOUR: 'it returns false'. Refute it at one input. -/
def fnExactCpuReadWrong : ChangeSpec := { name := "fnExactCpuRead", fn := fun _ => fun
  | [d] => { results := [.lit (.bool false)], args := [d] }
  | _ => none }
def FnExactCpuReadWrongFalsely : Prop := fnExactCpuReadRow.holds Tryd.pinned (OpenSpec.ofChange fnExactCpuReadWrong)

/- THE SECOND FORM. 'bulk': how many values and letters a reading holds, each counted each time it is reached (what is shared counts as often as it is met; a slice's spare places count too). A statement '..UptoSaid' is the law's where the arguments, and the package variables that the reading takes, are together of bulk at most 1048576: NARROWER than '..Said'. Prove '..Said' where nothing that the law and all that it calls make is longer than what came in: it says more and counts as full. Else prove '..UptoSaid'. A law counts once. -/
mutual
def uptoBulk {H : Type} : DataW H → Nat
  | .lit (.string bytes) => bytes.length + 1
  | .lit _ => 1
  | .nil => 1
  | .ptr d => uptoBulk d + 1
  | .slice elems spare => uptoBulkAll elems + uptoBulkAll spare + 1
  | .agg parts => uptoBulkAll parts + 1
  | .iface _ d => uptoBulk d + 1
  | .map entries => uptoBulkEntries entries + 1
  | .held _ => 1
def uptoBulkAll {H : Type} : List (DataW H) → Nat
  | [] => 0
  | d :: r => uptoBulk d + uptoBulkAll r
def uptoBulkEntries {H : Type} : List (Lit × DataW H) → Nat
  | [] => 0
  | x :: r => uptoBulkEntry x + uptoBulkEntries r
def uptoBulkEntry {H : Type} : Lit × DataW H → Nat
  | (.string bytes, d) => bytes.length + uptoBulk d + 1
  | (_, d) => uptoBulk d + 1
 end
def uptoSmall : (H : Type) → List (DataW H) → Bool := fun _ ds => decide (uptoBulkAll ds ≤ 1048576)
def OpenSpec.upto (s : _root_.Go.ChangeSpec) : _root_.Go.OpenSpec := { _root_.Go.OpenSpec.ofChange s with cond := some uptoSmall }

/-- 'laws.FnQuant', WHERE WHAT IT READS IS OF BULK AT MOST 1048576: true; the input reads as it did. -/
def fnQuantUptoRow : OpenClaim := { program := "ytbeocggeakhnnaadoor", sum := "5776618a5d2b634b893ca6dcb7047871a3a5d147625446c936f8284a7deb4050", func := "loop.example/g00571/laws.FnQuant", spec := "fnQuant", named := ["internal/strconv.uint64pow10", "math/bits.deBruijn32tab", "math/bits.deBruijn64tab"], apart := false, laid := [("math/bits.deBruijn32tab", laid_math_bits_deBruijn32tab), ("math/bits.deBruijn64tab", laid_math_bits_deBruijn64tab), ("internal/strconv.uint64pow10", laid_internal_strconv_uint64pow10)], narrowed := true }
def FnQuantUptoSaid : Prop := fnQuantUptoRow.holds Tryd.pinned (OpenSpec.upto fnQuantSpec)

/-- 'laws.FnExactSizeText', WHERE WHAT IT READS IS OF BULK AT MOST 1048576: true; the input reads as it did. -/
def fnExactSizeTextUptoRow : OpenClaim := { program := "ytbeocggeakhnnaadoor", sum := "5776618a5d2b634b893ca6dcb7047871a3a5d147625446c936f8284a7deb4050", func := "loop.example/g00571/laws.FnExactSizeText", spec := "fnExactSizeText", named := ["internal/strconv.uint64pow10", "math/bits.deBruijn32tab", "math/bits.deBruijn64tab"], apart := false, laid := [("math/bits.deBruijn32tab", laid_math_bits_deBruijn32tab), ("math/bits.deBruijn64tab", laid_math_bits_deBruijn64tab), ("internal/strconv.uint64pow10", laid_internal_strconv_uint64pow10)], narrowed := true }
def FnExactSizeTextUptoSaid : Prop := fnExactSizeTextUptoRow.holds Tryd.pinned (OpenSpec.upto fnExactSizeTextSpec)

/-- 'laws.FnExactSizeRead', WHERE WHAT IT READS IS OF BULK AT MOST 1048576: true; the input reads as it did. -/
def fnExactSizeReadUptoRow : OpenClaim := { program := "ytbeocggeakhnnaadoor", sum := "5776618a5d2b634b893ca6dcb7047871a3a5d147625446c936f8284a7deb4050", func := "loop.example/g00571/laws.FnExactSizeRead", spec := "fnExactSizeRead", named := ["internal/strconv.uint64pow10", "math/bits.deBruijn32tab", "math/bits.deBruijn64tab"], apart := false, laid := [("math/bits.deBruijn32tab", laid_math_bits_deBruijn32tab), ("math/bits.deBruijn64tab", laid_math_bits_deBruijn64tab), ("internal/strconv.uint64pow10", laid_internal_strconv_uint64pow10)], narrowed := true }
def FnExactSizeReadUptoSaid : Prop := fnExactSizeReadUptoRow.holds Tryd.pinned (OpenSpec.upto fnExactSizeReadSpec)

/-- 'laws.FnExactCpuText', WHERE WHAT IT READS IS OF BULK AT MOST 1048576: true; the input reads as it did. -/
def fnExactCpuTextUptoRow : OpenClaim := { program := "ytbeocggeakhnnaadoor", sum := "5776618a5d2b634b893ca6dcb7047871a3a5d147625446c936f8284a7deb4050", func := "loop.example/g00571/laws.FnExactCpuText", spec := "fnExactCpuText", named := ["internal/strconv.uint64pow10", "math/bits.deBruijn32tab", "math/bits.deBruijn64tab"], apart := false, laid := [("math/bits.deBruijn32tab", laid_math_bits_deBruijn32tab), ("math/bits.deBruijn64tab", laid_math_bits_deBruijn64tab), ("internal/strconv.uint64pow10", laid_internal_strconv_uint64pow10)], narrowed := true }
def FnExactCpuTextUptoSaid : Prop := fnExactCpuTextUptoRow.holds Tryd.pinned (OpenSpec.upto fnExactCpuTextSpec)

/-- 'laws.FnExactCpuRead', WHERE WHAT IT READS IS OF BULK AT MOST 1048576: true; the input reads as it did. -/
def fnExactCpuReadUptoRow : OpenClaim := { program := "ytbeocggeakhnnaadoor", sum := "5776618a5d2b634b893ca6dcb7047871a3a5d147625446c936f8284a7deb4050", func := "loop.example/g00571/laws.FnExactCpuRead", spec := "fnExactCpuRead", named := ["internal/strconv.uint64pow10", "math/bits.deBruijn32tab", "math/bits.deBruijn64tab"], apart := false, laid := [("math/bits.deBruijn32tab", laid_math_bits_deBruijn32tab), ("math/bits.deBruijn64tab", laid_math_bits_deBruijn64tab), ("internal/strconv.uint64pow10", laid_internal_strconv_uint64pow10)], narrowed := true }
def FnExactCpuReadUptoSaid : Prop := fnExactCpuReadUptoRow.holds Tryd.pinned (OpenSpec.upto fnExactCpuReadSpec)

end Rows
end Go.Proofs.YtbeocggeakhnnaaDoor
