/-
  NARROWER THAN 'FOR EVERY INPUT', by the rows' own cells (each row's printed sentence says how): FiningPut: laid · FiningPuts: laid · FiningNeeded: laid · FiningFewest: laid · FiningMore: laid · FiningNumbered: laid · FiningNeeds: laid · FiningHopes: laid · FiningBoths: laid.
  DERIVED. THE GIVEN ROWS OF THIS SEAT. 9 by the template 'for every input the law returns true; each argument reads behind the call as it read before'; 0 by the template 'total and deterministic' (their statements: YtcidaiiknhfkiaaGreatDoorTotals.lean).
  GIVEN WITH THE SEED: the statements are not yours to turn. If you find one false, say at which input.
  Laid BY PROGRAM, IN A SANDBOX (cutbox-rows.mjs): the forced cells as the released guide's own fill.sh prints them over the translation 677edadd67767673… (all of the seat's roots in one cut). By AI agents, Wed Nov 11 2026. No macro, syntax, notation, axiom, sorry.
-/
import Derived.Test.YtcidaiiknhfkiaaGreatDoorChecked
import GoSem.Claim
import GoSem.ClaimJoined
import GoSem.ClaimMapViews
import Derived.JoinedTies
import Derived.KernelRfl
namespace Go.Proofs.YtcidaiiknhfkiaaGreatDoor
/- THE CELL 'sum', in the pinned program and in every row, IS THE sha256 OF THE DUMP (.gsa) THAT YtcidaiiknhfkiaaGreatDoorProg.lean LOADS. Nothing in Lean hashes anything: it is a label: what it is worth is what the hold of that sum in a sandbox is worth. -/
noncomputable def Tryz.pinned : Pinned := { name := "ytcidaiiknhfkiaagreatdoor", sum := "677edadd67767673804a188c3ea0a5d0a1eaadc4266aacce07095d1eb34e431d", checked := Tryz.checked }
namespace Rows
def none {H : Type} : Left H := { results := [], args := [] }

/- WHAT THE LISTED PACKAGE-LEVEL VARIABLES READ AS WHEN THE CALL BEGINS. Each datum BY PROGRAM (the guide's laid-datum.mjs) off the statement by which the dump's own 'gosem.cut.vars' lays the variable. In a bare row this is a premise. The card (YtcidaiiknhfkiaaGreatDoorCards.lean) ties it to the program's text. -/
def laid_math_bits_deBruijn64tab {H : Type} : DataW H := .agg [.lit (.int .u8 0), .lit (.int .u8 1), .lit (.int .u8 56), .lit (.int .u8 2), .lit (.int .u8 57), .lit (.int .u8 49), .lit (.int .u8 28), .lit (.int .u8 3), .lit (.int .u8 61), .lit (.int .u8 58), .lit (.int .u8 42), .lit (.int .u8 50), .lit (.int .u8 38), .lit (.int .u8 29), .lit (.int .u8 17), .lit (.int .u8 4), .lit (.int .u8 62), .lit (.int .u8 47), .lit (.int .u8 59), .lit (.int .u8 36), .lit (.int .u8 45), .lit (.int .u8 43), .lit (.int .u8 51), .lit (.int .u8 22), .lit (.int .u8 53), .lit (.int .u8 39), .lit (.int .u8 33), .lit (.int .u8 30), .lit (.int .u8 24), .lit (.int .u8 18), .lit (.int .u8 12), .lit (.int .u8 5), .lit (.int .u8 63), .lit (.int .u8 55), .lit (.int .u8 48), .lit (.int .u8 27), .lit (.int .u8 60), .lit (.int .u8 41), .lit (.int .u8 37), .lit (.int .u8 16), .lit (.int .u8 46), .lit (.int .u8 35), .lit (.int .u8 44), .lit (.int .u8 21), .lit (.int .u8 52), .lit (.int .u8 32), .lit (.int .u8 23), .lit (.int .u8 11), .lit (.int .u8 54), .lit (.int .u8 26), .lit (.int .u8 40), .lit (.int .u8 15), .lit (.int .u8 34), .lit (.int .u8 20), .lit (.int .u8 31), .lit (.int .u8 10), .lit (.int .u8 25), .lit (.int .u8 14), .lit (.int .u8 19), .lit (.int .u8 9), .lit (.int .u8 13), .lit (.int .u8 8), .lit (.int .u8 7), .lit (.int .u8 6)]
def laid_errors_errorType {H : Type} : DataW H := .iface "internal/reflectlite.rtype" (.agg [.ptr (.lit (.string [101, 114, 114, 111, 114]))])

/-- 'muscovadolaw09.FiningPut': WHATEVER THE INPUT: true; the input reads as it did. -/
def finingPutSpec : ChangeSpec := { name := "finingPut", fn := fun _ => fun
  | [d] => { results := [.lit (.bool true)], args := [d] }
  | _ => none }
def finingPutRow : OpenClaim := { program := "ytcidaiiknhfkiaagreatdoor", sum := "677edadd67767673804a188c3ea0a5d0a1eaadc4266aacce07095d1eb34e431d", func := "muscovado/muscovadolaw09.FiningPut", spec := "finingPut", inPlace := ["internal/reflectlite.ValueOf", "(internal/reflectlite.Value).Type", "(internal/reflectlite.Value).IsNil", "internal/reflectlite.TypeOf", "(internal/reflectlite.Value).Elem", "(internal/reflectlite.Value).Set"], unfollowed := true, recurses := true, named := ["errors.errorType", "math/bits.deBruijn64tab"], plainKeys := false, apart := false, laid := [("math/bits.deBruijn64tab", laid_math_bits_deBruijn64tab), ("errors.errorType", laid_errors_errorType)] }
def FiningPutSaid : Prop := finingPutRow.holds Tryz.pinned (OpenSpec.ofChange finingPutSpec)

/-- ITS FALSE NEIGHBOUR: 'it returns false'. Refute it at one input. -/
def finingPutWrong : ChangeSpec := { name := "finingPut", fn := fun _ => fun
  | [d] => { results := [.lit (.bool false)], args := [d] }
  | _ => none }
def FiningPutWrongFalsely : Prop := finingPutRow.holds Tryz.pinned (OpenSpec.ofChange finingPutWrong)

/-- 'muscovadolaw09.FiningPuts': WHATEVER THE INPUT: true; the input reads as it did. -/
def finingPutsSpec : ChangeSpec := { name := "finingPuts", fn := fun _ => fun
  | [d1, d2, d3, d4, d5] => { results := [.lit (.bool true)], args := [d1, d2, d3, d4, d5] }
  | _ => none }
def finingPutsRow : OpenClaim := { program := "ytcidaiiknhfkiaagreatdoor", sum := "677edadd67767673804a188c3ea0a5d0a1eaadc4266aacce07095d1eb34e431d", func := "muscovado/muscovadolaw09.FiningPuts", spec := "finingPuts", inPlace := ["internal/reflectlite.ValueOf", "(internal/reflectlite.Value).Type", "(internal/reflectlite.Value).IsNil", "internal/reflectlite.TypeOf", "(internal/reflectlite.Value).Elem", "(internal/reflectlite.Value).Set"], unfollowed := true, recurses := true, named := ["errors.errorType", "math/bits.deBruijn64tab"], plainKeys := false, apart := false, laid := [("math/bits.deBruijn64tab", laid_math_bits_deBruijn64tab), ("errors.errorType", laid_errors_errorType)] }
def FiningPutsSaid : Prop := finingPutsRow.holds Tryz.pinned (OpenSpec.ofChange finingPutsSpec)

/-- ITS FALSE NEIGHBOUR: 'it returns false'. Refute it at one input. -/
def finingPutsWrong : ChangeSpec := { name := "finingPuts", fn := fun _ => fun
  | [d1, d2, d3, d4, d5] => { results := [.lit (.bool false)], args := [d1, d2, d3, d4, d5] }
  | _ => none }
def FiningPutsWrongFalsely : Prop := finingPutsRow.holds Tryz.pinned (OpenSpec.ofChange finingPutsWrong)

/-- 'muscovadolaw09.FiningNeeded': WHATEVER THE INPUT: true; the input reads as it did. -/
def finingNeededSpec : ChangeSpec := { name := "finingNeeded", fn := fun _ => fun
  | [d] => { results := [.lit (.bool true)], args := [d] }
  | _ => none }
def finingNeededRow : OpenClaim := { program := "ytcidaiiknhfkiaagreatdoor", sum := "677edadd67767673804a188c3ea0a5d0a1eaadc4266aacce07095d1eb34e431d", func := "muscovado/muscovadolaw09.FiningNeeded", spec := "finingNeeded", inPlace := ["internal/reflectlite.ValueOf", "(internal/reflectlite.Value).Type", "(internal/reflectlite.Value).IsNil", "internal/reflectlite.TypeOf", "(internal/reflectlite.Value).Elem", "(internal/reflectlite.Value).Set"], unfollowed := true, recurses := true, named := ["errors.errorType", "math/bits.deBruijn64tab"], plainKeys := false, apart := false, laid := [("math/bits.deBruijn64tab", laid_math_bits_deBruijn64tab), ("errors.errorType", laid_errors_errorType)] }
def FiningNeededSaid : Prop := finingNeededRow.holds Tryz.pinned (OpenSpec.ofChange finingNeededSpec)

/-- ITS FALSE NEIGHBOUR: 'it returns false'. Refute it at one input. -/
def finingNeededWrong : ChangeSpec := { name := "finingNeeded", fn := fun _ => fun
  | [d] => { results := [.lit (.bool false)], args := [d] }
  | _ => none }
def FiningNeededWrongFalsely : Prop := finingNeededRow.holds Tryz.pinned (OpenSpec.ofChange finingNeededWrong)

/-- 'muscovadolaw09.FiningFewest': WHATEVER THE INPUT: true; the input reads as it did. -/
def finingFewestSpec : ChangeSpec := { name := "finingFewest", fn := fun _ => fun
  | [d] => { results := [.lit (.bool true)], args := [d] }
  | _ => none }
def finingFewestRow : OpenClaim := { program := "ytcidaiiknhfkiaagreatdoor", sum := "677edadd67767673804a188c3ea0a5d0a1eaadc4266aacce07095d1eb34e431d", func := "muscovado/muscovadolaw09.FiningFewest", spec := "finingFewest", inPlace := ["internal/reflectlite.ValueOf", "(internal/reflectlite.Value).Type", "(internal/reflectlite.Value).IsNil", "internal/reflectlite.TypeOf", "(internal/reflectlite.Value).Elem", "(internal/reflectlite.Value).Set"], unfollowed := true, recurses := true, named := ["math/bits.deBruijn64tab", "errors.errorType"], plainKeys := false, apart := false, laid := [("math/bits.deBruijn64tab", laid_math_bits_deBruijn64tab), ("errors.errorType", laid_errors_errorType)] }
def FiningFewestSaid : Prop := finingFewestRow.holds Tryz.pinned (OpenSpec.ofChange finingFewestSpec)

/-- ITS FALSE NEIGHBOUR: 'it returns false'. Refute it at one input. -/
def finingFewestWrong : ChangeSpec := { name := "finingFewest", fn := fun _ => fun
  | [d] => { results := [.lit (.bool false)], args := [d] }
  | _ => none }
def FiningFewestWrongFalsely : Prop := finingFewestRow.holds Tryz.pinned (OpenSpec.ofChange finingFewestWrong)

/-- 'muscovadolaw09.FiningMore': WHATEVER THE INPUT: true; the input reads as it did. -/
def finingMoreSpec : ChangeSpec := { name := "finingMore", fn := fun _ => fun
  | [d] => { results := [.lit (.bool true)], args := [d] }
  | _ => none }
def finingMoreRow : OpenClaim := { program := "ytcidaiiknhfkiaagreatdoor", sum := "677edadd67767673804a188c3ea0a5d0a1eaadc4266aacce07095d1eb34e431d", func := "muscovado/muscovadolaw09.FiningMore", spec := "finingMore", inPlace := ["internal/reflectlite.ValueOf", "(internal/reflectlite.Value).Type", "(internal/reflectlite.Value).IsNil", "internal/reflectlite.TypeOf", "(internal/reflectlite.Value).Elem", "(internal/reflectlite.Value).Set"], unfollowed := true, recurses := true, named := ["math/bits.deBruijn64tab", "errors.errorType"], plainKeys := false, apart := false, laid := [("math/bits.deBruijn64tab", laid_math_bits_deBruijn64tab), ("errors.errorType", laid_errors_errorType)] }
def FiningMoreSaid : Prop := finingMoreRow.holds Tryz.pinned (OpenSpec.ofChange finingMoreSpec)

/-- ITS FALSE NEIGHBOUR: 'it returns false'. Refute it at one input. -/
def finingMoreWrong : ChangeSpec := { name := "finingMore", fn := fun _ => fun
  | [d] => { results := [.lit (.bool false)], args := [d] }
  | _ => none }
def FiningMoreWrongFalsely : Prop := finingMoreRow.holds Tryz.pinned (OpenSpec.ofChange finingMoreWrong)

/-- 'muscovadolaw09.FiningNumbered': WHATEVER THE INPUT: true; the input reads as it did. -/
def finingNumberedSpec : ChangeSpec := { name := "finingNumbered", fn := fun _ => fun
  | [d] => { results := [.lit (.bool true)], args := [d] }
  | _ => none }
def finingNumberedRow : OpenClaim := { program := "ytcidaiiknhfkiaagreatdoor", sum := "677edadd67767673804a188c3ea0a5d0a1eaadc4266aacce07095d1eb34e431d", func := "muscovado/muscovadolaw09.FiningNumbered", spec := "finingNumbered", inPlace := ["internal/reflectlite.ValueOf", "(internal/reflectlite.Value).Type", "(internal/reflectlite.Value).IsNil", "internal/reflectlite.TypeOf", "(internal/reflectlite.Value).Elem", "(internal/reflectlite.Value).Set"], unfollowed := true, recurses := true, named := ["math/bits.deBruijn64tab", "errors.errorType"], plainKeys := false, apart := false, laid := [("math/bits.deBruijn64tab", laid_math_bits_deBruijn64tab), ("errors.errorType", laid_errors_errorType)] }
def FiningNumberedSaid : Prop := finingNumberedRow.holds Tryz.pinned (OpenSpec.ofChange finingNumberedSpec)

/-- ITS FALSE NEIGHBOUR: 'it returns false'. Refute it at one input. -/
def finingNumberedWrong : ChangeSpec := { name := "finingNumbered", fn := fun _ => fun
  | [d] => { results := [.lit (.bool false)], args := [d] }
  | _ => none }
def FiningNumberedWrongFalsely : Prop := finingNumberedRow.holds Tryz.pinned (OpenSpec.ofChange finingNumberedWrong)

/-- 'muscovadolaw09.FiningNeeds': WHATEVER THE INPUT: true; the input reads as it did. -/
def finingNeedsSpec : ChangeSpec := { name := "finingNeeds", fn := fun _ => fun
  | [d1, d2, d3, d4, d5] => { results := [.lit (.bool true)], args := [d1, d2, d3, d4, d5] }
  | _ => none }
def finingNeedsRow : OpenClaim := { program := "ytcidaiiknhfkiaagreatdoor", sum := "677edadd67767673804a188c3ea0a5d0a1eaadc4266aacce07095d1eb34e431d", func := "muscovado/muscovadolaw09.FiningNeeds", spec := "finingNeeds", inPlace := ["internal/reflectlite.ValueOf", "(internal/reflectlite.Value).Type", "(internal/reflectlite.Value).IsNil", "internal/reflectlite.TypeOf", "(internal/reflectlite.Value).Elem", "(internal/reflectlite.Value).Set"], unfollowed := true, recurses := true, named := ["errors.errorType", "math/bits.deBruijn64tab"], plainKeys := false, apart := false, laid := [("math/bits.deBruijn64tab", laid_math_bits_deBruijn64tab), ("errors.errorType", laid_errors_errorType)] }
def FiningNeedsSaid : Prop := finingNeedsRow.holds Tryz.pinned (OpenSpec.ofChange finingNeedsSpec)

/-- ITS FALSE NEIGHBOUR: 'it returns false'. Refute it at one input. -/
def finingNeedsWrong : ChangeSpec := { name := "finingNeeds", fn := fun _ => fun
  | [d1, d2, d3, d4, d5] => { results := [.lit (.bool false)], args := [d1, d2, d3, d4, d5] }
  | _ => none }
def FiningNeedsWrongFalsely : Prop := finingNeedsRow.holds Tryz.pinned (OpenSpec.ofChange finingNeedsWrong)

/-- 'muscovadolaw09.FiningHopes': WHATEVER THE INPUT: true; the input reads as it did. -/
def finingHopesSpec : ChangeSpec := { name := "finingHopes", fn := fun _ => fun
  | [d1, d2, d3, d4] => { results := [.lit (.bool true)], args := [d1, d2, d3, d4] }
  | _ => none }
def finingHopesRow : OpenClaim := { program := "ytcidaiiknhfkiaagreatdoor", sum := "677edadd67767673804a188c3ea0a5d0a1eaadc4266aacce07095d1eb34e431d", func := "muscovado/muscovadolaw09.FiningHopes", spec := "finingHopes", inPlace := ["internal/reflectlite.ValueOf", "(internal/reflectlite.Value).Type", "(internal/reflectlite.Value).IsNil", "internal/reflectlite.TypeOf", "(internal/reflectlite.Value).Elem", "(internal/reflectlite.Value).Set"], unfollowed := true, recurses := true, named := ["errors.errorType", "math/bits.deBruijn64tab"], plainKeys := false, apart := false, laid := [("math/bits.deBruijn64tab", laid_math_bits_deBruijn64tab), ("errors.errorType", laid_errors_errorType)] }
def FiningHopesSaid : Prop := finingHopesRow.holds Tryz.pinned (OpenSpec.ofChange finingHopesSpec)

/-- ITS FALSE NEIGHBOUR: 'it returns false'. Refute it at one input. -/
def finingHopesWrong : ChangeSpec := { name := "finingHopes", fn := fun _ => fun
  | [d1, d2, d3, d4] => { results := [.lit (.bool false)], args := [d1, d2, d3, d4] }
  | _ => none }
def FiningHopesWrongFalsely : Prop := finingHopesRow.holds Tryz.pinned (OpenSpec.ofChange finingHopesWrong)

/-- 'muscovadolaw09.FiningBoths': WHATEVER THE INPUT: true; the input reads as it did. -/
def finingBothsSpec : ChangeSpec := { name := "finingBoths", fn := fun _ => fun
  | [d1, d2, d3, d4, d5, d6, d7] => { results := [.lit (.bool true)], args := [d1, d2, d3, d4, d5, d6, d7] }
  | _ => none }
def finingBothsRow : OpenClaim := { program := "ytcidaiiknhfkiaagreatdoor", sum := "677edadd67767673804a188c3ea0a5d0a1eaadc4266aacce07095d1eb34e431d", func := "muscovado/muscovadolaw09.FiningBoths", spec := "finingBoths", inPlace := ["internal/reflectlite.ValueOf", "(internal/reflectlite.Value).Type", "(internal/reflectlite.Value).IsNil", "internal/reflectlite.TypeOf", "(internal/reflectlite.Value).Elem", "(internal/reflectlite.Value).Set"], unfollowed := true, recurses := true, named := ["errors.errorType", "math/bits.deBruijn64tab"], plainKeys := false, apart := false, laid := [("math/bits.deBruijn64tab", laid_math_bits_deBruijn64tab), ("errors.errorType", laid_errors_errorType)] }
def FiningBothsSaid : Prop := finingBothsRow.holds Tryz.pinned (OpenSpec.ofChange finingBothsSpec)

/-- ITS FALSE NEIGHBOUR: 'it returns false'. Refute it at one input. -/
def finingBothsWrong : ChangeSpec := { name := "finingBoths", fn := fun _ => fun
  | [d1, d2, d3, d4, d5, d6, d7] => { results := [.lit (.bool false)], args := [d1, d2, d3, d4, d5, d6, d7] }
  | _ => none }
def FiningBothsWrongFalsely : Prop := finingBothsRow.holds Tryz.pinned (OpenSpec.ofChange finingBothsWrong)

/- THE SECOND FORM. 'bulk': how many values and letters a reading holds, each counted each time it is reached (what is shared counts as often as it is met; a slice's spare places count too). A statement '..UptoSaid' is the law's where the arguments, and the package variables that the reading takes, are together of bulk at most 1048576: NARROWER than '..Said'. Prove '..Said' where nothing that the law and all that it calls make is longer than what came in: it says more and counts as full. Else prove '..UptoSaid'. A law counts once. -/
mutual
def uptoBulk {H : Type} : DataW H → Nat
  | .lit (.string bytes) => bytes.length + 1
  | .lit _ => 1
  | .nil => 1
  | .ptr d => uptoBulk d + 1
  | .slice elems spare => uptoBulkAll elems + uptoBulkAll spare + 1
  | .agg parts => uptoBulkAll parts + 1
  | .iface _ d => uptoBulk d + 1
  | .map entries => uptoBulkEntries entries + 1
  | .held _ => 1
def uptoBulkAll {H : Type} : List (DataW H) → Nat
  | [] => 0
  | d :: r => uptoBulk d + uptoBulkAll r
def uptoBulkEntries {H : Type} : List (Lit × DataW H) → Nat
  | [] => 0
  | x :: r => uptoBulkEntry x + uptoBulkEntries r
def uptoBulkEntry {H : Type} : Lit × DataW H → Nat
  | (.string bytes, d) => bytes.length + uptoBulk d + 1
  | (_, d) => uptoBulk d + 1
 end
def uptoSmall : (H : Type) → List (DataW H) → Bool := fun _ ds => decide (uptoBulkAll ds ≤ 1048576)
def OpenSpec.upto (s : _root_.Go.ChangeSpec) : _root_.Go.OpenSpec := { _root_.Go.OpenSpec.ofChange s with cond := some uptoSmall }

/-- 'muscovadolaw09.FiningPut', WHERE WHAT IT READS IS OF BULK AT MOST 1048576: true; the input reads as it did. -/
def finingPutUptoRow : OpenClaim := { program := "ytcidaiiknhfkiaagreatdoor", sum := "677edadd67767673804a188c3ea0a5d0a1eaadc4266aacce07095d1eb34e431d", func := "muscovado/muscovadolaw09.FiningPut", spec := "finingPut", inPlace := ["internal/reflectlite.ValueOf", "(internal/reflectlite.Value).Type", "(internal/reflectlite.Value).IsNil", "internal/reflectlite.TypeOf", "(internal/reflectlite.Value).Elem", "(internal/reflectlite.Value).Set"], unfollowed := true, recurses := true, named := ["errors.errorType", "math/bits.deBruijn64tab"], plainKeys := false, apart := false, laid := [("math/bits.deBruijn64tab", laid_math_bits_deBruijn64tab), ("errors.errorType", laid_errors_errorType)], narrowed := true }
def FiningPutUptoSaid : Prop := finingPutUptoRow.holds Tryz.pinned (OpenSpec.upto finingPutSpec)

/-- 'muscovadolaw09.FiningPuts', WHERE WHAT IT READS IS OF BULK AT MOST 1048576: true; the input reads as it did. -/
def finingPutsUptoRow : OpenClaim := { program := "ytcidaiiknhfkiaagreatdoor", sum := "677edadd67767673804a188c3ea0a5d0a1eaadc4266aacce07095d1eb34e431d", func := "muscovado/muscovadolaw09.FiningPuts", spec := "finingPuts", inPlace := ["internal/reflectlite.ValueOf", "(internal/reflectlite.Value).Type", "(internal/reflectlite.Value).IsNil", "internal/reflectlite.TypeOf", "(internal/reflectlite.Value).Elem", "(internal/reflectlite.Value).Set"], unfollowed := true, recurses := true, named := ["errors.errorType", "math/bits.deBruijn64tab"], plainKeys := false, apart := false, laid := [("math/bits.deBruijn64tab", laid_math_bits_deBruijn64tab), ("errors.errorType", laid_errors_errorType)], narrowed := true }
def FiningPutsUptoSaid : Prop := finingPutsUptoRow.holds Tryz.pinned (OpenSpec.upto finingPutsSpec)

/-- 'muscovadolaw09.FiningNeeded', WHERE WHAT IT READS IS OF BULK AT MOST 1048576: true; the input reads as it did. -/
def finingNeededUptoRow : OpenClaim := { program := "ytcidaiiknhfkiaagreatdoor", sum := "677edadd67767673804a188c3ea0a5d0a1eaadc4266aacce07095d1eb34e431d", func := "muscovado/muscovadolaw09.FiningNeeded", spec := "finingNeeded", inPlace := ["internal/reflectlite.ValueOf", "(internal/reflectlite.Value).Type", "(internal/reflectlite.Value).IsNil", "internal/reflectlite.TypeOf", "(internal/reflectlite.Value).Elem", "(internal/reflectlite.Value).Set"], unfollowed := true, recurses := true, named := ["errors.errorType", "math/bits.deBruijn64tab"], plainKeys := false, apart := false, laid := [("math/bits.deBruijn64tab", laid_math_bits_deBruijn64tab), ("errors.errorType", laid_errors_errorType)], narrowed := true }
def FiningNeededUptoSaid : Prop := finingNeededUptoRow.holds Tryz.pinned (OpenSpec.upto finingNeededSpec)

/-- 'muscovadolaw09.FiningFewest', WHERE WHAT IT READS IS OF BULK AT MOST 1048576: true; the input reads as it did. -/
def finingFewestUptoRow : OpenClaim := { program := "ytcidaiiknhfkiaagreatdoor", sum := "677edadd67767673804a188c3ea0a5d0a1eaadc4266aacce07095d1eb34e431d", func := "muscovado/muscovadolaw09.FiningFewest", spec := "finingFewest", inPlace := ["internal/reflectlite.ValueOf", "(internal/reflectlite.Value).Type", "(internal/reflectlite.Value).IsNil", "internal/reflectlite.TypeOf", "(internal/reflectlite.Value).Elem", "(internal/reflectlite.Value).Set"], unfollowed := true, recurses := true, named := ["math/bits.deBruijn64tab", "errors.errorType"], plainKeys := false, apart := false, laid := [("math/bits.deBruijn64tab", laid_math_bits_deBruijn64tab), ("errors.errorType", laid_errors_errorType)], narrowed := true }
def FiningFewestUptoSaid : Prop := finingFewestUptoRow.holds Tryz.pinned (OpenSpec.upto finingFewestSpec)

/-- 'muscovadolaw09.FiningMore', WHERE WHAT IT READS IS OF BULK AT MOST 1048576: true; the input reads as it did. -/
def finingMoreUptoRow : OpenClaim := { program := "ytcidaiiknhfkiaagreatdoor", sum := "677edadd67767673804a188c3ea0a5d0a1eaadc4266aacce07095d1eb34e431d", func := "muscovado/muscovadolaw09.FiningMore", spec := "finingMore", inPlace := ["internal/reflectlite.ValueOf", "(internal/reflectlite.Value).Type", "(internal/reflectlite.Value).IsNil", "internal/reflectlite.TypeOf", "(internal/reflectlite.Value).Elem", "(internal/reflectlite.Value).Set"], unfollowed := true, recurses := true, named := ["math/bits.deBruijn64tab", "errors.errorType"], plainKeys := false, apart := false, laid := [("math/bits.deBruijn64tab", laid_math_bits_deBruijn64tab), ("errors.errorType", laid_errors_errorType)], narrowed := true }
def FiningMoreUptoSaid : Prop := finingMoreUptoRow.holds Tryz.pinned (OpenSpec.upto finingMoreSpec)

/-- 'muscovadolaw09.FiningNumbered', WHERE WHAT IT READS IS OF BULK AT MOST 1048576: true; the input reads as it did. -/
def finingNumberedUptoRow : OpenClaim := { program := "ytcidaiiknhfkiaagreatdoor", sum := "677edadd67767673804a188c3ea0a5d0a1eaadc4266aacce07095d1eb34e431d", func := "muscovado/muscovadolaw09.FiningNumbered", spec := "finingNumbered", inPlace := ["internal/reflectlite.ValueOf", "(internal/reflectlite.Value).Type", "(internal/reflectlite.Value).IsNil", "internal/reflectlite.TypeOf", "(internal/reflectlite.Value).Elem", "(internal/reflectlite.Value).Set"], unfollowed := true, recurses := true, named := ["math/bits.deBruijn64tab", "errors.errorType"], plainKeys := false, apart := false, laid := [("math/bits.deBruijn64tab", laid_math_bits_deBruijn64tab), ("errors.errorType", laid_errors_errorType)], narrowed := true }
def FiningNumberedUptoSaid : Prop := finingNumberedUptoRow.holds Tryz.pinned (OpenSpec.upto finingNumberedSpec)

/-- 'muscovadolaw09.FiningNeeds', WHERE WHAT IT READS IS OF BULK AT MOST 1048576: true; the input reads as it did. -/
def finingNeedsUptoRow : OpenClaim := { program := "ytcidaiiknhfkiaagreatdoor", sum := "677edadd67767673804a188c3ea0a5d0a1eaadc4266aacce07095d1eb34e431d", func := "muscovado/muscovadolaw09.FiningNeeds", spec := "finingNeeds", inPlace := ["internal/reflectlite.ValueOf", "(internal/reflectlite.Value).Type", "(internal/reflectlite.Value).IsNil", "internal/reflectlite.TypeOf", "(internal/reflectlite.Value).Elem", "(internal/reflectlite.Value).Set"], unfollowed := true, recurses := true, named := ["errors.errorType", "math/bits.deBruijn64tab"], plainKeys := false, apart := false, laid := [("math/bits.deBruijn64tab", laid_math_bits_deBruijn64tab), ("errors.errorType", laid_errors_errorType)], narrowed := true }
def FiningNeedsUptoSaid : Prop := finingNeedsUptoRow.holds Tryz.pinned (OpenSpec.upto finingNeedsSpec)

/-- 'muscovadolaw09.FiningHopes', WHERE WHAT IT READS IS OF BULK AT MOST 1048576: true; the input reads as it did. -/
def finingHopesUptoRow : OpenClaim := { program := "ytcidaiiknhfkiaagreatdoor", sum := "677edadd67767673804a188c3ea0a5d0a1eaadc4266aacce07095d1eb34e431d", func := "muscovado/muscovadolaw09.FiningHopes", spec := "finingHopes", inPlace := ["internal/reflectlite.ValueOf", "(internal/reflectlite.Value).Type", "(internal/reflectlite.Value).IsNil", "internal/reflectlite.TypeOf", "(internal/reflectlite.Value).Elem", "(internal/reflectlite.Value).Set"], unfollowed := true, recurses := true, named := ["errors.errorType", "math/bits.deBruijn64tab"], plainKeys := false, apart := false, laid := [("math/bits.deBruijn64tab", laid_math_bits_deBruijn64tab), ("errors.errorType", laid_errors_errorType)], narrowed := true }
def FiningHopesUptoSaid : Prop := finingHopesUptoRow.holds Tryz.pinned (OpenSpec.upto finingHopesSpec)

/-- 'muscovadolaw09.FiningBoths', WHERE WHAT IT READS IS OF BULK AT MOST 1048576: true; the input reads as it did. -/
def finingBothsUptoRow : OpenClaim := { program := "ytcidaiiknhfkiaagreatdoor", sum := "677edadd67767673804a188c3ea0a5d0a1eaadc4266aacce07095d1eb34e431d", func := "muscovado/muscovadolaw09.FiningBoths", spec := "finingBoths", inPlace := ["internal/reflectlite.ValueOf", "(internal/reflectlite.Value).Type", "(internal/reflectlite.Value).IsNil", "internal/reflectlite.TypeOf", "(internal/reflectlite.Value).Elem", "(internal/reflectlite.Value).Set"], unfollowed := true, recurses := true, named := ["errors.errorType", "math/bits.deBruijn64tab"], plainKeys := false, apart := false, laid := [("math/bits.deBruijn64tab", laid_math_bits_deBruijn64tab), ("errors.errorType", laid_errors_errorType)], narrowed := true }
def FiningBothsUptoSaid : Prop := finingBothsUptoRow.holds Tryz.pinned (OpenSpec.upto finingBothsSpec)

end Rows
end Go.Proofs.YtcidaiiknhfkiaaGreatDoor
