/- A logic over the machine and a run of a program on unknown values, in the kernel. No statement of the project is proved in this text. -/
import Derived.Test.YtcidaiiknhfkiaaGreatDoorm4
set_option linter.unusedVariables false
set_option linter.unusedSimpArgs false
set_option linter.unusedVariables false
open Go Mv Mw Go.Proofs
namespace Ft
def hkG (P : Program) : Hk_ := hOr (hApp P) (hOr (hHStore P) (hOr (hMap P) (hOr (hExt (xTA P)) (hOr (hInv P) (hOr (hExt (xClear P)) (hOr (hExt (xApp P)) (hOr (hPop P) (hExt (xTail P)))))))))
def Xg (P : Program) : Cf := ⟨hkG P, Γ0, 100000⟩
def slc (n p q : Nat) : SC := .slice p (.lit (.ofNat 0)) (.lit (.ofNat n)) (nm_ q 0)
def grn (n s p : Nat) : SC := .slice p (.lit (.ofNat 0)) (.lit (.ofNat n)) (.add (.lit (.ofNat n)) (.room p s))
def agO (n : Nat) : COut := { id := n, n := 3, v := grn n 5 21, rw := [(17, oHat 20), (21, .lrow .i64 86 35 21)], fs := [.le (.lit (.ofNat (5 * n))) (.len 86), leN (.len 86) (5 * n)], post := fun ρ => nv ρ 19 0 ≤ nv ρ 20 0 ∧ nv ρ 20 0 ≤ nv ρ 19 0 + 200 ∧ (li ρ 22).length = 5 * n ∧ ∀ i, i < n → agV (nv ρ 18 1).toNat (li ρ 22) i }
def cAgL : Con := { cAgents with id := 104, outs := [{ n := 1, v := nil_, rw := [(17, oHat 20)], post := fun ρ => nv ρ 19 0 ≤ nv ρ 20 0 ∧ nv ρ 20 0 ≤ nv ρ 19 0 + 200 }, agO 1, agO 2, agO 3, agO 4] }
def atO (n : Nat) : COut := { n := 2, v := .tup [grn n 6 21, e0], rw := [(21, oB 22 21)], fs := [.le (.lit (.ofNat (6 * n))) (.len 86), leN (.len 86) (6 * n)], post := fun ρ => li ρ 22 = benchL (li ρ 17) n ∧ (li ρ 22).length = 6 * n }
def cAtL (n : Nat) : Con := { cAt1 with id := 105 + n, pre := fun ρ => (pA ρ ∧ nv ρ 20 0 = 0) ∧ nv ρ 18 0 = n, outs := [atO n] }
def cAtL1 : Con := cAtL 1
def cAtL2 : Con := cAtL 2
def cAtL3 : Con := cAtL 3
def cAtL4 : Con := cAtL 4
def cChkF : Con := { id := 110, f := 60, m := 2, args := [.slice 16 (.lit (.ofNat 0)) (.lit (.ofNat 1)) (.lit (.ofNat 1))], ro := [(16, .cells [iv 17 0] 3)], fs := fM 17 0, pre := fun ρ => mel ρ 17 0, outs := [{ n := 0, v := e0, rw := [], fs := [], post := fun ρ => True }] }
def ndChkF (P : Program) : List NdS := []
def consChkF : List Con := []
def cFew (n : Nat) : Con := { id := 111 + n, f := 37, m := 4, args := [slc n 16 18, iv 19 0], ro := [(16, oA 17 16)], fs := fM 19 0, pre := fun ρ => agsV (li ρ 17) n ∧ mel ρ 19 0, outs := [
  { n := 0, v := .tup [nil_, e0], rw := [], fs := [], post := fun ρ => GotL (li ρ 17) n (nv ρ 19 0) [] },
  { id := 1, n := 2, v := .tup [gro 1 20 21, e0], rw := [(20, oI 21 20)], fs := [.le (.lit (.ofNat 1)) (.len 85), leN (.len 85) 4], post := fun ρ => GotL (li ρ 17) n (nv ρ 19 0) (li ρ 21) ∧ 1 ≤ (li ρ 21).length ∧ (li ρ 21).length ≤ 4 }] }
def cFew1 : Con := cFew 1
def ndFew1 (P : Program) : List NdS := []
def consFew1 : List Con := [cChkF, cAtL1, cTollsQ, cTollsQN]
def cFew2 : Con := cFew 2
def ndFew2 (P : Program) : List NdS := []
def consFew2 : List Con := [cChkF, cAtL2, cTollsQ, cTollsQN]
def cFew3 : Con := cFew 3
def ndFew3 (P : Program) : List NdS := []
def consFew3 : List Con := [cChkF, cAtL3, cTollsQ, cTollsQN]
def cFew4 : Con := cFew 4
def ndFew4 (P : Program) : List NdS := []
def consFew4 : List Con := [cChkF, cAtL4, cTollsQ, cTollsQN]
def cFewN : Con := { id := 116, f := 37, m := 1, args := [nil_, iv 16 0], fs := fM 16 0, pre := fun ρ => mel ρ 16 0, outs := [{ n := 0, v := .tup [nil_, e0], rw := [], fs := [], post := fun ρ => True }] }
def ndFewN (P : Program) : List NdS := []
def consFewN : List Con := [cChkF, cTollsQN]
def pEq (ρ : Env) : Prop := 0 ≤ nv ρ 18 0 ∧ nv ρ 18 0 ≤ 64 ∧ nv ρ 18 0 ≤ ((li ρ 17).length : Nat) ∧ 0 ≤ nv ρ 21 0 ∧ nv ρ 21 0 ≤ 64 ∧ nv ρ 21 0 ≤ ((li ρ 20).length : Nat)
def fEq : List BE := [ge0 (nm_ 18 0), leN (nm_ 18 0) 64, ge0 (nm_ 21 0), leN (nm_ 21 0) 64]
def cEq : Con := { id := 18, f := 21, m := 6, args := [sli 16 18, sli 19 21], ro := [(16, oI 17 16), (19, oI 20 19)], fs := fEq, pre := pEq, outs := [{ n := 0, v := .bool (.lit false), rw := [], fs := [], post := fun ρ => ∃ j : Nat, (j : Int) < nv ρ 18 0 ∧ (j : Int) < nv ρ 21 0 ∧ (li ρ 17).getD j 0 ≠ (li ρ 20).getD j 0 }, { id := 1, n := 0, v := .bool (.eq (nm_ 18 0) (nm_ 21 0)), rw := [], fs := [], post := fun ρ => ∀ j : Nat, (j : Int) < nv ρ 18 0 → (j : Int) < nv ρ 21 0 → (li ρ 17).getD j 0 = (li ρ 20).getD j 0 }] }
def ndEq (P : Program) : List NdS := [{ key := 0, n := 1, items := itemsAt P 21 0, sl := [(0, sli 16 18), (1, sli 19 21), (5, iv 22 0)], ro := [(16, oI 17 16), (19, oI 20 19)], fs := fEq ++ [ge0 (nm_ 22 0), leN (nm_ 22 0) 64], inv := fun ρ => pEq ρ ∧ 0 ≤ nv ρ 22 0 ∧ nv ρ 22 0 ≤ nv ρ 18 0 ∧ nv ρ 22 0 ≤ nv ρ 21 0 ∧ ∀ j : Nat, (j : Int) < nv ρ 22 0 → (li ρ 17).getD j 0 = (li ρ 20).getD j 0, mu := fun ρ => (65 - nv ρ 22 0).toNat }]
def consEq : List Con := []
def cEqL : Con := { cEq with id := 117, pre := fun ρ => pEq ρ ∧ nv ρ 18 0 = ((li ρ 17).length : Nat) ∧ nv ρ 21 0 = ((li ρ 20).length : Nat), outs := [{ n := 0, v := no_, rw := [], fs := [], post := fun ρ => ¬ li ρ 17 = li ρ 20 }, { id := 1, n := 0, v := yes_, rw := [], fs := [], post := fun ρ => li ρ 17 = li ρ 20 }] }
def cEqX : Con := { id := 118, f := 21, m := 3, args := [nil_, sli 16 18], ro := [(16, oI 17 16)], fs := [], pre := fun _ => False, outs := [] }
def roM : List (Nat × SO) := roN ++ roG
def cRow : Con := { id := 119, f := 6, m := 1, args := [sNums], ro := roM, fs := [], pre := rowP, outs := [{ n := 0, v := yes_, rw := [], fs := [], post := fun _ => True }] }
def ndRow (P : Program) : List NdS := []
def consRow : List Con := [cTo, cAgL, cPass, cFew1, cFew2, cFew3, cFew4, cFewN, cHop, cHopN, cEqX, cEqL, cFined]
end Ft
set_option linter.unusedVariables false
namespace Mw
open Go Mv
def newsV : Nat → VT → VT
 | 0, t => t
 | n + 1, t => .new (newsV n t)
theorem vc_news {c : Con} {nds : List NdS} {lim : Option Nat} : ∀ (a : Nat) {ρ : Env} {t : VT}, (∀ ρ', Ext ρ ρ' → ρ'.k.length = ρ.k.length + a → VC c nds lim ρ' t) → VC c nds lim ρ (newsV a t)
 | 0, ρ, t, h => h ρ (Ext.refl ρ) rfl
 | a + 1, ρ, t, h => fun b r => vc_news a fun ρ' x l => h ρ' ((Ext.grow ρ b r).trans x) (by rw [l, len_grow]; omega)
theorem list_at {ρ ρ' : Env} (he : Ext ρ ρ') {l : Nat} (h : l < ρ.k.length + 64) (h' : 64 ≤ l) : ρ'.list l = ρ.list l := by
 have := list_same he (p := l - 64) (by omega)
 rwa [show 64 + (l - 64) = l by omega] at this
end Mw
set_option linter.unusedVariables false
open Go Mv Mw
namespace Ft
structure StepD where
 a : Nat
 k : Nat
 q : Nat
 m : Nat
 J : List Nat
def five (la : Nat) : List Nat → List IE
 | [] => []
 | j :: l => hN la (5 * j) :: hN la (5 * j + 1) :: hN la (5 * j + 2) :: hN la (5 * j + 3) :: hN la (5 * j + 4) :: five la l
def lenB (k s n : Nat) : Bd := .ints [oN n, .add (oN n) (.room k s)]
def lstB (l k : Nat) : Bd := .ints [.len l, .add (.len l) (.room k 1)]
def tabB : Bd := .ints (tab64'.map IE.lit)
def hopT (c : Con) (β : List Bd) (q : Nat) (X Y : VT) : VT := .obl (oblC c β) (.both (.asm (asmC (outAt c.outs 0) β) X) (newsV 2 (.asm (asmC (outAt c.outs 1) (β ++ [.keep q, .keep (q + 1)])) Y)))
def hopN (lp : Nat) : List Bd := [.ints [h0 lp], tabB]
def hopB (la lp k : Nat) (J : List Nat) : List Bd := [.keep k, .ints (five la J), lenB k 5 J.length, .ints [h0 lp], tabB]
def hopS (la lp : Nat) (d : StepD) (X Y : VT) : VT := match d.J with
 | [] => hopT cHopN (hopN lp) d.q X Y
 | j :: J => hopT cHop (hopB la lp d.k (j :: J)) d.q X Y
def eqT (β : List Bd) (X Y : VT) : VT := .obl (oblC cEqL β) (.both (.asm (asmC (outAt cEqL.outs 0) β) X) (.asm (asmC (outAt cEqL.outs 1) β) Y))
def finT : VT := .obl (oblC cFined []) (.asm (asmC (outAt cFined.outs 0) []) (.ret 0 [.keep 16]))
def setB (m : Nat) (J : List Nat) : List Bd := [.keep m, .ints (J.map oN), lenB m 1 J.length]
def lisB (k l : Nat) : List Bd := [.keep k, .lst l, lstB l k]
def eqP (f : Bool) (gk lg m : Nat) : List Nat → VT
 | [] => bif f then .bad 1 else finT
 | j :: J => bif f then eqT (lisB gk lg ++ setB m (j :: J)) (.bad 1) finT else .obl (oblC cEqX (setB m (j :: J))) .ok
def chain (f h : Bool) (la lp gk lg ak ls : Nat) : List StepD → VT
 | [] => .bad 1
 | d :: l => newsV d.a (hopS la lp d
  (bif h then .obl (oblC cEqX (lisB ak ls)) .ok else eqP f gk lg d.m d.J)
  (bif h then eqT (lisB d.q (65 + d.q) ++ lisB ak ls) (chain f h la lp gk lg ak ls l) (eqP f gk lg d.m d.J) else chain f h la lp gk lg ak ls l))
end Ft
set_option linter.unusedVariables false
set_option maxRecDepth 20000
open Go Mv Mw
namespace Ft
def s000_ : VT := chain false false 84 84 0 84 0 84 [⟨1, 0, 22, 0, []⟩]
def s001_ : VT := chain false true 84 84 0 84 21 86 [⟨1, 0, 24, 0, []⟩]
def t0_ : VT := (.new (.asm (asmC (outAt cAgL.outs 0) [.keep 16, .keep 17, .ints [(oN 4), (oN 3)], .ints [(oN 0), (oN 11400714819323198485)], .keep 18]) (.obl (oblC cPass [.keep 16, .keep 17, .ints [(oN 3)], .ints [(h0 82), (hN 82 1)]]) (.new (.new (.asm (asmC (outAt cPass.outs 0) [.keep 16, .keep 17, .ints [(oN 3)], .ints [(h0 82), (hN 82 1)], .keep 19, .keep 20]) (.obl (oblC cFewN [.ints [(h0 84)]]) (.asm (asmC (outAt cFewN.outs 0) [.ints [(h0 84)]]) (.obl (oblC cHopN [.ints [(h0 84)], tabB]) (.both (.asm (asmC (outAt cHopN.outs 0) [.ints [(h0 84)], tabB]) s000_) (.new (.new (.asm (asmC (outAt cHopN.outs 1) [.ints [(h0 84)], tabB, .keep 21, .keep 22]) s001_)))))))))))))
def s100_ : VT := chain false false 84 86 0 84 0 84 [⟨1, 0, 24, 0, []⟩, ⟨8, 33, 34, 29, [0]⟩]
def s101_ : VT := chain false true 84 86 0 84 23 88 [⟨1, 0, 26, 0, []⟩, ⟨8, 35, 36, 31, [0]⟩]
def s110_ : VT := chain true false 84 86 23 88 0 84 [⟨1, 0, 26, 0, []⟩, ⟨8, 35, 36, 31, [0]⟩]
def s111_ : VT := chain true true 84 86 23 88 25 90 [⟨1, 0, 28, 0, []⟩, ⟨8, 37, 38, 33, [0]⟩]
def t1_ : VT := (.new (.new (.new (.asm (asmC (outAt cAgL.outs 1) [.keep 16, .keep 17, .ints [(oN 4), (oN 3)], .ints [(oN 0), (oN 11400714819323198485)], .keep 18, .keep 19, .keep 20]) (.obl (oblC cPass [.keep 16, .keep 17, .ints [(oN 3)], .ints [(h0 82), (hN 82 1)]]) (.new (.new (.asm (asmC (outAt cPass.outs 0) [.keep 16, .keep 17, .ints [(oN 3)], .ints [(h0 82), (hN 82 1)], .keep 21, .keep 22]) (.obl (oblC cFew1 [.keep 19, .lst 84, .ints [(.add (oN 1) (.room 19 5))], .ints [(h0 86)]]) (.both (.asm (asmC (outAt cFew1.outs 0) [.keep 19, .lst 84, .ints [(.add (oN 1) (.room 19 5))], .ints [(h0 86)]]) (.obl (oblC cHop [.keep 19, .lst 84, .ints [(oN 1), (.add (oN 1) (.room 19 5))], .ints [(h0 86)], tabB]) (.both (.asm (asmC (outAt cHop.outs 0) [.keep 19, .lst 84, .ints [(oN 1), (.add (oN 1) (.room 19 5))], .ints [(h0 86)], tabB]) s100_) (.new (.new (.asm (asmC (outAt cHop.outs 1) [.keep 19, .lst 84, .ints [(oN 1), (.add (oN 1) (.room 19 5))], .ints [(h0 86)], tabB, .keep 23, .keep 24]) s101_)))))) (.new (.new (.asm (asmC (outAt cFew1.outs 1) [.keep 19, .lst 84, .ints [(.add (oN 1) (.room 19 5))], .ints [(h0 86)], .keep 23, .keep 24]) (.obl (oblC cHop [.keep 19, .lst 84, .ints [(oN 1), (.add (oN 1) (.room 19 5))], .ints [(h0 86)], tabB]) (.both (.asm (asmC (outAt cHop.outs 0) [.keep 19, .lst 84, .ints [(oN 1), (.add (oN 1) (.room 19 5))], .ints [(h0 86)], tabB]) s110_) (.new (.new (.asm (asmC (outAt cHop.outs 1) [.keep 19, .lst 84, .ints [(oN 1), (.add (oN 1) (.room 19 5))], .ints [(h0 86)], tabB, .keep 25, .keep 26]) s111_))))))))))))))))))
def s200_ : VT := chain false false 84 86 0 84 0 84 [⟨1, 0, 24, 0, []⟩, ⟨13, 38, 39, 29, [0]⟩, ⟨2, 42, 43, 34, [1]⟩, ⟨16, 60, 61, 54, [0, 1]⟩]
def s201_ : VT := chain false true 84 86 0 84 23 88 [⟨1, 0, 26, 0, []⟩, ⟨13, 40, 41, 31, [0]⟩, ⟨2, 44, 45, 36, [1]⟩, ⟨16, 62, 63, 56, [0, 1]⟩]
def s210_ : VT := chain true false 84 86 23 88 0 84 [⟨1, 0, 26, 0, []⟩, ⟨13, 40, 41, 31, [0]⟩, ⟨2, 44, 45, 36, [1]⟩, ⟨16, 62, 63, 56, [0, 1]⟩]
def s211_ : VT := chain true true 84 86 23 88 25 90 [⟨1, 0, 28, 0, []⟩, ⟨13, 42, 43, 33, [0]⟩, ⟨2, 46, 47, 38, [1]⟩, ⟨16, 64, 65, 58, [0, 1]⟩]
def t2_ : VT := (.new (.new (.new (.asm (asmC (outAt cAgL.outs 2) [.keep 16, .keep 17, .ints [(oN 4), (oN 3)], .ints [(oN 0), (oN 11400714819323198485)], .keep 18, .keep 19, .keep 20]) (.obl (oblC cPass [.keep 16, .keep 17, .ints [(oN 3)], .ints [(h0 82), (hN 82 1)]]) (.new (.new (.asm (asmC (outAt cPass.outs 0) [.keep 16, .keep 17, .ints [(oN 3)], .ints [(h0 82), (hN 82 1)], .keep 21, .keep 22]) (.obl (oblC cFew2 [.keep 19, .lst 84, .ints [(.add (oN 2) (.room 19 5))], .ints [(h0 86)]]) (.both (.asm (asmC (outAt cFew2.outs 0) [.keep 19, .lst 84, .ints [(.add (oN 2) (.room 19 5))], .ints [(h0 86)]]) (.obl (oblC cHop [.keep 19, .lst 84, .ints [(oN 2), (.add (oN 2) (.room 19 5))], .ints [(h0 86)], tabB]) (.both (.asm (asmC (outAt cHop.outs 0) [.keep 19, .lst 84, .ints [(oN 2), (.add (oN 2) (.room 19 5))], .ints [(h0 86)], tabB]) s200_) (.new (.new (.asm (asmC (outAt cHop.outs 1) [.keep 19, .lst 84, .ints [(oN 2), (.add (oN 2) (.room 19 5))], .ints [(h0 86)], tabB, .keep 23, .keep 24]) s201_)))))) (.new (.new (.asm (asmC (outAt cFew2.outs 1) [.keep 19, .lst 84, .ints [(.add (oN 2) (.room 19 5))], .ints [(h0 86)], .keep 23, .keep 24]) (.obl (oblC cHop [.keep 19, .lst 84, .ints [(oN 2), (.add (oN 2) (.room 19 5))], .ints [(h0 86)], tabB]) (.both (.asm (asmC (outAt cHop.outs 0) [.keep 19, .lst 84, .ints [(oN 2), (.add (oN 2) (.room 19 5))], .ints [(h0 86)], tabB]) s210_) (.new (.new (.asm (asmC (outAt cHop.outs 1) [.keep 19, .lst 84, .ints [(oN 2), (.add (oN 2) (.room 19 5))], .ints [(h0 86)], tabB, .keep 25, .keep 26]) s211_))))))))))))))))))
def s300_ : VT := chain false false 84 86 0 84 0 84 [⟨1, 0, 24, 0, []⟩, ⟨18, 43, 44, 29, [0]⟩, ⟨2, 47, 48, 34, [1]⟩, ⟨2, 51, 52, 39, [2]⟩, ⟨33, 86, 87, 68, [0, 1]⟩, ⟨4, 92, 93, 74, [0, 2]⟩, ⟨4, 98, 99, 80, [1, 2]⟩, ⟨24, 124, 125, 116, [0, 1, 2]⟩]
def s301_ : VT := chain false true 84 86 0 84 23 88 [⟨1, 0, 26, 0, []⟩, ⟨18, 45, 46, 31, [0]⟩, ⟨2, 49, 50, 36, [1]⟩, ⟨2, 53, 54, 41, [2]⟩, ⟨33, 88, 89, 70, [0, 1]⟩, ⟨4, 94, 95, 76, [0, 2]⟩, ⟨4, 100, 101, 82, [1, 2]⟩, ⟨24, 126, 127, 118, [0, 1, 2]⟩]
def s310_ : VT := chain true false 84 86 23 88 0 84 [⟨1, 0, 26, 0, []⟩, ⟨18, 45, 46, 31, [0]⟩, ⟨2, 49, 50, 36, [1]⟩, ⟨2, 53, 54, 41, [2]⟩, ⟨33, 88, 89, 70, [0, 1]⟩, ⟨4, 94, 95, 76, [0, 2]⟩, ⟨4, 100, 101, 82, [1, 2]⟩, ⟨24, 126, 127, 118, [0, 1, 2]⟩]
def s311_ : VT := chain true true 84 86 23 88 25 90 [⟨1, 0, 28, 0, []⟩, ⟨18, 47, 48, 33, [0]⟩, ⟨2, 51, 52, 38, [1]⟩, ⟨2, 55, 56, 43, [2]⟩, ⟨33, 90, 91, 72, [0, 1]⟩, ⟨4, 96, 97, 78, [0, 2]⟩, ⟨4, 102, 103, 84, [1, 2]⟩, ⟨24, 128, 129, 120, [0, 1, 2]⟩]
def t3_ : VT := (.new (.new (.new (.asm (asmC (outAt cAgL.outs 3) [.keep 16, .keep 17, .ints [(oN 4), (oN 3)], .ints [(oN 0), (oN 11400714819323198485)], .keep 18, .keep 19, .keep 20]) (.obl (oblC cPass [.keep 16, .keep 17, .ints [(oN 3)], .ints [(h0 82), (hN 82 1)]]) (.new (.new (.asm (asmC (outAt cPass.outs 0) [.keep 16, .keep 17, .ints [(oN 3)], .ints [(h0 82), (hN 82 1)], .keep 21, .keep 22]) (.obl (oblC cFew3 [.keep 19, .lst 84, .ints [(.add (oN 3) (.room 19 5))], .ints [(h0 86)]]) (.both (.asm (asmC (outAt cFew3.outs 0) [.keep 19, .lst 84, .ints [(.add (oN 3) (.room 19 5))], .ints [(h0 86)]]) (.obl (oblC cHop [.keep 19, .lst 84, .ints [(oN 3), (.add (oN 3) (.room 19 5))], .ints [(h0 86)], tabB]) (.both (.asm (asmC (outAt cHop.outs 0) [.keep 19, .lst 84, .ints [(oN 3), (.add (oN 3) (.room 19 5))], .ints [(h0 86)], tabB]) s300_) (.new (.new (.asm (asmC (outAt cHop.outs 1) [.keep 19, .lst 84, .ints [(oN 3), (.add (oN 3) (.room 19 5))], .ints [(h0 86)], tabB, .keep 23, .keep 24]) s301_)))))) (.new (.new (.asm (asmC (outAt cFew3.outs 1) [.keep 19, .lst 84, .ints [(.add (oN 3) (.room 19 5))], .ints [(h0 86)], .keep 23, .keep 24]) (.obl (oblC cHop [.keep 19, .lst 84, .ints [(oN 3), (.add (oN 3) (.room 19 5))], .ints [(h0 86)], tabB]) (.both (.asm (asmC (outAt cHop.outs 0) [.keep 19, .lst 84, .ints [(oN 3), (.add (oN 3) (.room 19 5))], .ints [(h0 86)], tabB]) s310_) (.new (.new (.asm (asmC (outAt cHop.outs 1) [.keep 19, .lst 84, .ints [(oN 3), (.add (oN 3) (.room 19 5))], .ints [(h0 86)], tabB, .keep 25, .keep 26]) s311_))))))))))))))))))
def s400_ : VT := chain false false 84 86 0 84 0 84 [⟨1, 0, 24, 0, []⟩, ⟨23, 48, 49, 29, [0]⟩, ⟨2, 52, 53, 34, [1]⟩, ⟨2, 56, 57, 39, [2]⟩, ⟨2, 60, 61, 44, [3]⟩, ⟨56, 118, 119, 82, [0, 1]⟩, ⟨4, 124, 125, 88, [0, 2]⟩, ⟨4, 130, 131, 94, [0, 3]⟩, ⟨4, 136, 137, 100, [1, 2]⟩, ⟨4, 142, 143, 106, [1, 3]⟩, ⟨4, 148, 149, 112, [2, 3]⟩, ⟨59, 209, 210, 183, [0, 1, 2]⟩, ⟨6, 217, 218, 189, [0, 1, 3]⟩, ⟨6, 225, 226, 195, [0, 2, 3]⟩, ⟨6, 233, 234, 201, [1, 2, 3]⟩, ⟨32, 267, 268, 257, [0, 1, 2, 3]⟩]
def s401_ : VT := chain false true 84 86 0 84 23 88 [⟨1, 0, 26, 0, []⟩, ⟨23, 50, 51, 31, [0]⟩, ⟨2, 54, 55, 36, [1]⟩, ⟨2, 58, 59, 41, [2]⟩, ⟨2, 62, 63, 46, [3]⟩, ⟨56, 120, 121, 84, [0, 1]⟩, ⟨4, 126, 127, 90, [0, 2]⟩, ⟨4, 132, 133, 96, [0, 3]⟩, ⟨4, 138, 139, 102, [1, 2]⟩, ⟨4, 144, 145, 108, [1, 3]⟩, ⟨4, 150, 151, 114, [2, 3]⟩, ⟨59, 211, 212, 185, [0, 1, 2]⟩, ⟨6, 219, 220, 191, [0, 1, 3]⟩, ⟨6, 227, 228, 197, [0, 2, 3]⟩, ⟨6, 235, 236, 203, [1, 2, 3]⟩, ⟨32, 269, 270, 259, [0, 1, 2, 3]⟩]
def s410_ : VT := chain true false 84 86 23 88 0 84 [⟨1, 0, 26, 0, []⟩, ⟨23, 50, 51, 31, [0]⟩, ⟨2, 54, 55, 36, [1]⟩, ⟨2, 58, 59, 41, [2]⟩, ⟨2, 62, 63, 46, [3]⟩, ⟨56, 120, 121, 84, [0, 1]⟩, ⟨4, 126, 127, 90, [0, 2]⟩, ⟨4, 132, 133, 96, [0, 3]⟩, ⟨4, 138, 139, 102, [1, 2]⟩, ⟨4, 144, 145, 108, [1, 3]⟩, ⟨4, 150, 151, 114, [2, 3]⟩, ⟨59, 211, 212, 185, [0, 1, 2]⟩, ⟨6, 219, 220, 191, [0, 1, 3]⟩, ⟨6, 227, 228, 197, [0, 2, 3]⟩, ⟨6, 235, 236, 203, [1, 2, 3]⟩, ⟨32, 269, 270, 259, [0, 1, 2, 3]⟩]
def s411_ : VT := chain true true 84 86 23 88 25 90 [⟨1, 0, 28, 0, []⟩, ⟨23, 52, 53, 33, [0]⟩, ⟨2, 56, 57, 38, [1]⟩, ⟨2, 60, 61, 43, [2]⟩, ⟨2, 64, 65, 48, [3]⟩, ⟨56, 122, 123, 86, [0, 1]⟩, ⟨4, 128, 129, 92, [0, 2]⟩, ⟨4, 134, 135, 98, [0, 3]⟩, ⟨4, 140, 141, 104, [1, 2]⟩, ⟨4, 146, 147, 110, [1, 3]⟩, ⟨4, 152, 153, 116, [2, 3]⟩, ⟨59, 213, 214, 187, [0, 1, 2]⟩, ⟨6, 221, 222, 193, [0, 1, 3]⟩, ⟨6, 229, 230, 199, [0, 2, 3]⟩, ⟨6, 237, 238, 205, [1, 2, 3]⟩, ⟨32, 271, 272, 261, [0, 1, 2, 3]⟩]
def t4_ : VT := (.new (.new (.new (.asm (asmC (outAt cAgL.outs 4) [.keep 16, .keep 17, .ints [(oN 4), (oN 3)], .ints [(oN 0), (oN 11400714819323198485)], .keep 18, .keep 19, .keep 20]) (.obl (oblC cPass [.keep 16, .keep 17, .ints [(oN 3)], .ints [(h0 82), (hN 82 1)]]) (.new (.new (.asm (asmC (outAt cPass.outs 0) [.keep 16, .keep 17, .ints [(oN 3)], .ints [(h0 82), (hN 82 1)], .keep 21, .keep 22]) (.obl (oblC cFew4 [.keep 19, .lst 84, .ints [(.add (oN 4) (.room 19 5))], .ints [(h0 86)]]) (.both (.asm (asmC (outAt cFew4.outs 0) [.keep 19, .lst 84, .ints [(.add (oN 4) (.room 19 5))], .ints [(h0 86)]]) (.obl (oblC cHop [.keep 19, .lst 84, .ints [(oN 4), (.add (oN 4) (.room 19 5))], .ints [(h0 86)], tabB]) (.both (.asm (asmC (outAt cHop.outs 0) [.keep 19, .lst 84, .ints [(oN 4), (.add (oN 4) (.room 19 5))], .ints [(h0 86)], tabB]) s400_) (.new (.new (.asm (asmC (outAt cHop.outs 1) [.keep 19, .lst 84, .ints [(oN 4), (.add (oN 4) (.room 19 5))], .ints [(h0 86)], tabB, .keep 23, .keep 24]) s401_)))))) (.new (.new (.asm (asmC (outAt cFew4.outs 1) [.keep 19, .lst 84, .ints [(.add (oN 4) (.room 19 5))], .ints [(h0 86)], .keep 23, .keep 24]) (.obl (oblC cHop [.keep 19, .lst 84, .ints [(oN 4), (.add (oN 4) (.room 19 5))], .ints [(h0 86)], tabB]) (.both (.asm (asmC (outAt cHop.outs 0) [.keep 19, .lst 84, .ints [(oN 4), (.add (oN 4) (.room 19 5))], .ints [(h0 86)], tabB]) s410_) (.new (.new (.asm (asmC (outAt cHop.outs 1) [.keep 19, .lst 84, .ints [(oN 4), (.add (oN 4) (.room 19 5))], .ints [(h0 86)], tabB, .keep 25, .keep 26]) s411_))))))))))))))))))
def e_Row (P : Program) : VT := (.new (.obl (oblC cAgL [.keep 16, .keep 17, .ints [(oN 4), (oN 3)], .ints [(oN 0), (oN 11400714819323198485)]]) (.both t0_ (.both t1_ (.both t2_ (.both t3_ t4_))))))
end Ft
set_option linter.unusedVariables false
set_option maxRecDepth 20000
open Go Mv Mw
namespace Ft
def e_ChkF (P : Program) : VT := (.branch (.not (.eq (.bits .andNot .i64 (h0 81) (oN 63)) (oN 0)))
(.bad 1)
 (.ret 0 [.keep 16, .keep 17]))
def e_FewN (P : Program) : VT := (.new (.obl (oblC cChkF [.keep 17, .ints [(h0 80)]]) (.asm (asmC (outAt cChkF.outs 0) [.keep 17, .ints [(h0 80)]]) (.new (.new (.new (.new (.new (.obl (oblC cTollsQN [.ints [(h0 80)]]) (.new (.new (.new (.asm (asmC (outAt cTollsQN.outs 0) [.ints [(h0 80)], .keep 23, .keep 24, .keep 25]) (.new (.new (.new (.new (.new (.new (.new (.obl (oblC cTollsQN [.ints [(h0 80)]]) (.new (.new (.new (.asm (asmC (outAt cTollsQN.outs 0) [.ints [(h0 80)], .keep 33, .keep 34, .keep 35]) (.branch (.eq (h0 99) (h0 89))
(.ret 0 [.keep 16])
(.ret 0 [.keep 16])))))))))))))))))))))))))))
def e_Few1 (P : Program) : VT := (.new (.obl (oblC cChkF [.keep 20, .ints [(h0 83)]]) (.asm (asmC (outAt cChkF.outs 0) [.keep 20, .ints [(h0 83)]]) (.new (.obl (oblC cAtL1 [.keep 16, .lst 81, .ints [(oN 1), (h0 82)], .keep 21, .ints [(oN 0)]]) (.new (.new (.asm (asmC (outAt cAtL1.outs 0) [.keep 16, .lst 81, .ints [(oN 1), (h0 82)], .keep 21, .ints [(oN 0)], .keep 22, .keep 23]) (.new (.new (.new (.obl (oblC cTollsQ [.keep 22, .lst 87, .ints [(oN 1), (.add (oN 1) (.room 22 6))], .ints [(h0 83)]]) (.new (.new (.new (.asm (asmC (outAt cTollsQ.outs 0) [.keep 22, .lst 87, .ints [(oN 1), (.add (oN 1) (.room 22 6))], .ints [(h0 83)], .keep 27, .keep 28, .keep 29]) (.new (.new (.new (.new (.new (.new (.new (.obl (oblC cTollsQN [.ints [(h0 83)]]) (.new (.new (.new (.asm (asmC (outAt cTollsQN.outs 0) [.ints [(h0 83)], .keep 37, .keep 38, .keep 39]) (.branch (.eq (h0 103) (h0 93))
(.ret 0 [.keep 16, .keep 17, .keep 18, .keep 19])
(.new (.new (.new (.new (.new (.obl (oblC cTollsQ [.keep 43, .ints [(h0 87), (hN 87 1), (hN 87 2), (hN 87 3), (hN 87 4), (hN 87 5)], .ints [(oN 1), (.add (oN 1) (.room 43 6))], .ints [(h0 83)]]) (.new (.new (.new (.asm (asmC (outAt cTollsQ.outs 0) [.keep 43, .ints [(h0 87), (hN 87 1), (hN 87 2), (hN 87 3), (hN 87 4), (hN 87 5)], .ints [(oN 1), (.add (oN 1) (.room 43 6))], .ints [(h0 83)], .keep 45, .keep 46, .keep 47]) (.branch (.eq (h0 111) (h0 93))
(.new (.new (.new (.new (.ret 1 [.keep 16, .keep 17, .keep 18, .keep 19, .keep 51, .ints [(hN 87 5)]])))))
(.new (.new (.new (.new (.ret 1 [.keep 16, .keep 17, .keep 18, .keep 19, .keep 51, .ints [(hN 87 5)]])))))))))))))))))))))))))))))))))))))))))))))
def e_Few2 (P : Program) : VT := (.new (.obl (oblC cChkF [.keep 20, .ints [(h0 83)]]) (.asm (asmC (outAt cChkF.outs 0) [.keep 20, .ints [(h0 83)]]) (.new (.obl (oblC cAtL2 [.keep 16, .lst 81, .ints [(oN 2), (h0 82)], .keep 21, .ints [(oN 0)]]) (.new (.new (.asm (asmC (outAt cAtL2.outs 0) [.keep 16, .lst 81, .ints [(oN 2), (h0 82)], .keep 21, .ints [(oN 0)], .keep 22, .keep 23]) (.new (.new (.new (.obl (oblC cTollsQ [.keep 22, .lst 87, .ints [(oN 2), (.add (oN 2) (.room 22 6))], .ints [(h0 83)]]) (.new (.new (.new (.asm (asmC (outAt cTollsQ.outs 0) [.keep 22, .lst 87, .ints [(oN 2), (.add (oN 2) (.room 22 6))], .ints [(h0 83)], .keep 27, .keep 28, .keep 29]) (.new (.new (.new (.new (.new (.new (.new (.obl (oblC cTollsQN [.ints [(h0 83)]]) (.new (.new (.new (.asm (asmC (outAt cTollsQN.outs 0) [.ints [(h0 83)], .keep 37, .keep 38, .keep 39]) (.branch (.eq (h0 103) (h0 93))
(.ret 0 [.keep 16, .keep 17, .keep 18, .keep 19])
(.new (.new (.new (.new (.new (.obl (oblC cTollsQ [.keep 43, .ints [(h0 87), (hN 87 1), (hN 87 2), (hN 87 3), (hN 87 4), (hN 87 5)], .ints [(oN 1), (.add (oN 1) (.room 43 6))], .ints [(h0 83)]]) (.new (.new (.new (.asm (asmC (outAt cTollsQ.outs 0) [.keep 43, .ints [(h0 87), (hN 87 1), (hN 87 2), (hN 87 3), (hN 87 4), (hN 87 5)], .ints [(oN 1), (.add (oN 1) (.room 43 6))], .ints [(h0 83)], .keep 45, .keep 46, .keep 47]) (.branch (.eq (h0 111) (h0 93))
(.new (.new (.new (.new (.ret 1 [.keep 16, .keep 17, .keep 18, .keep 19, .keep 51, .ints [(hN 87 5)]])))))
(.new (.new (.new (.new (.new (.obl (oblC cTollsQ [.keep 51, .ints [(hN 87 6), (hN 87 7), (hN 87 8), (hN 87 9), (hN 87 10), (hN 87 11)], .ints [(oN 1), (.add (oN 1) (.room 51 6))], .ints [(h0 83)]]) (.new (.new (.new (.asm (asmC (outAt cTollsQ.outs 0) [.keep 51, .ints [(hN 87 6), (hN 87 7), (hN 87 8), (hN 87 9), (hN 87 10), (hN 87 11)], .ints [(oN 1), (.add (oN 1) (.room 51 6))], .ints [(h0 83)], .keep 53, .keep 54, .keep 55]) (.branch (.eq (h0 119) (h0 93))
(.new (.new (.new (.new (.ret 1 [.keep 16, .keep 17, .keep 18, .keep 19, .keep 59, .ints [(hN 87 11)]])))))
(.new (.new (.new (.new (.new (.new (.new (.new (.new (.obl (oblC cTollsQ [.keep 63, .ints [(h0 87), (hN 87 1), (hN 87 2), (hN 87 3), (hN 87 4), (hN 87 5), (hN 87 6), (hN 87 7), (hN 87 8), (hN 87 9), (hN 87 10), (hN 87 11)], .ints [(oN 2), (.add (oN 2) (.room 63 6))], .ints [(h0 83)]]) (.new (.new (.new (.asm (asmC (outAt cTollsQ.outs 0) [.keep 63, .ints [(h0 87), (hN 87 1), (hN 87 2), (hN 87 3), (hN 87 4), (hN 87 5), (hN 87 6), (hN 87 7), (hN 87 8), (hN 87 9), (hN 87 10), (hN 87 11)], .ints [(oN 2), (.add (oN 2) (.room 63 6))], .ints [(h0 83)], .keep 65, .keep 66, .keep 67]) (.branch (.eq (h0 131) (h0 93))
(.new (.new (.new (.new (.new (.new (.new (.new (.ret 1 [.keep 16, .keep 17, .keep 18, .keep 19, .keep 75, .ints [(hN 87 5), (hN 87 11)]])))))))))
(.new (.new (.new (.new (.new (.new (.new (.new (.new (.new (.new (.new (.ret 1 [.keep 16, .keep 17, .keep 18, .keep 19, .keep 79, .ints [(hN 87 5), (hN 87 11)]])))))))))))))))))))))))))))))))))))))))))))))))))))))))))))))))))))))))))))))))
def e_Few3 (P : Program) : VT := (.new (.obl (oblC cChkF [.keep 20, .ints [(h0 83)]]) (.asm (asmC (outAt cChkF.outs 0) [.keep 20, .ints [(h0 83)]]) (.new (.obl (oblC cAtL3 [.keep 16, .lst 81, .ints [(oN 3), (h0 82)], .keep 21, .ints [(oN 0)]]) (.new (.new (.asm (asmC (outAt cAtL3.outs 0) [.keep 16, .lst 81, .ints [(oN 3), (h0 82)], .keep 21, .ints [(oN 0)], .keep 22, .keep 23]) (.new (.new (.new (.obl (oblC cTollsQ [.keep 22, .lst 87, .ints [(oN 3), (.add (oN 3) (.room 22 6))], .ints [(h0 83)]]) (.new (.new (.new (.asm (asmC (outAt cTollsQ.outs 0) [.keep 22, .lst 87, .ints [(oN 3), (.add (oN 3) (.room 22 6))], .ints [(h0 83)], .keep 27, .keep 28, .keep 29]) (.new (.new (.new (.new (.new (.new (.new (.obl (oblC cTollsQN [.ints [(h0 83)]]) (.new (.new (.new (.asm (asmC (outAt cTollsQN.outs 0) [.ints [(h0 83)], .keep 37, .keep 38, .keep 39]) (.branch (.eq (h0 103) (h0 93))
(.ret 0 [.keep 16, .keep 17, .keep 18, .keep 19])
(.new (.new (.new (.new (.new (.obl (oblC cTollsQ [.keep 43, .ints [(h0 87), (hN 87 1), (hN 87 2), (hN 87 3), (hN 87 4), (hN 87 5)], .ints [(oN 1), (.add (oN 1) (.room 43 6))], .ints [(h0 83)]]) (.new (.new (.new (.asm (asmC (outAt cTollsQ.outs 0) [.keep 43, .ints [(h0 87), (hN 87 1), (hN 87 2), (hN 87 3), (hN 87 4), (hN 87 5)], .ints [(oN 1), (.add (oN 1) (.room 43 6))], .ints [(h0 83)], .keep 45, .keep 46, .keep 47]) (.branch (.eq (h0 111) (h0 93))
(.new (.new (.new (.new (.ret 1 [.keep 16, .keep 17, .keep 18, .keep 19, .keep 51, .ints [(hN 87 5)]])))))
(.new (.new (.new (.new (.new (.obl (oblC cTollsQ [.keep 51, .ints [(hN 87 6), (hN 87 7), (hN 87 8), (hN 87 9), (hN 87 10), (hN 87 11)], .ints [(oN 1), (.add (oN 1) (.room 51 6))], .ints [(h0 83)]]) (.new (.new (.new (.asm (asmC (outAt cTollsQ.outs 0) [.keep 51, .ints [(hN 87 6), (hN 87 7), (hN 87 8), (hN 87 9), (hN 87 10), (hN 87 11)], .ints [(oN 1), (.add (oN 1) (.room 51 6))], .ints [(h0 83)], .keep 53, .keep 54, .keep 55]) (.branch (.eq (h0 119) (h0 93))
(.new (.new (.new (.new (.ret 1 [.keep 16, .keep 17, .keep 18, .keep 19, .keep 59, .ints [(hN 87 11)]])))))
(.new (.new (.new (.new (.new (.obl (oblC cTollsQ [.keep 59, .ints [(hN 87 12), (hN 87 13), (hN 87 14), (hN 87 15), (hN 87 16), (hN 87 17)], .ints [(oN 1), (.add (oN 1) (.room 59 6))], .ints [(h0 83)]]) (.new (.new (.new (.asm (asmC (outAt cTollsQ.outs 0) [.keep 59, .ints [(hN 87 12), (hN 87 13), (hN 87 14), (hN 87 15), (hN 87 16), (hN 87 17)], .ints [(oN 1), (.add (oN 1) (.room 59 6))], .ints [(h0 83)], .keep 61, .keep 62, .keep 63]) (.branch (.eq (h0 127) (h0 93))
(.new (.new (.new (.new (.ret 1 [.keep 16, .keep 17, .keep 18, .keep 19, .keep 67, .ints [(hN 87 17)]])))))
(.new (.new (.new (.new (.new (.new (.new (.new (.new (.obl (oblC cTollsQ [.keep 71, .ints [(h0 87), (hN 87 1), (hN 87 2), (hN 87 3), (hN 87 4), (hN 87 5), (hN 87 6), (hN 87 7), (hN 87 8), (hN 87 9), (hN 87 10), (hN 87 11)], .ints [(oN 2), (.add (oN 2) (.room 71 6))], .ints [(h0 83)]]) (.new (.new (.new (.asm (asmC (outAt cTollsQ.outs 0) [.keep 71, .ints [(h0 87), (hN 87 1), (hN 87 2), (hN 87 3), (hN 87 4), (hN 87 5), (hN 87 6), (hN 87 7), (hN 87 8), (hN 87 9), (hN 87 10), (hN 87 11)], .ints [(oN 2), (.add (oN 2) (.room 71 6))], .ints [(h0 83)], .keep 73, .keep 74, .keep 75]) (.branch (.eq (h0 139) (h0 93))
(.new (.new (.new (.new (.new (.new (.new (.new (.ret 1 [.keep 16, .keep 17, .keep 18, .keep 19, .keep 83, .ints [(hN 87 5), (hN 87 11)]])))))))))
(.new (.new (.new (.new (.new (.obl (oblC cTollsQ [.keep 79, .ints [(h0 87), (hN 87 1), (hN 87 2), (hN 87 3), (hN 87 4), (hN 87 5), (hN 87 12), (hN 87 13), (hN 87 14), (hN 87 15), (hN 87 16), (hN 87 17)], .ints [(oN 2), (.add (oN 2) (.room 79 6))], .ints [(h0 83)]]) (.new (.new (.new (.asm (asmC (outAt cTollsQ.outs 0) [.keep 79, .ints [(h0 87), (hN 87 1), (hN 87 2), (hN 87 3), (hN 87 4), (hN 87 5), (hN 87 12), (hN 87 13), (hN 87 14), (hN 87 15), (hN 87 16), (hN 87 17)], .ints [(oN 2), (.add (oN 2) (.room 79 6))], .ints [(h0 83)], .keep 81, .keep 82, .keep 83]) (.branch (.eq (h0 147) (h0 93))
(.new (.new (.new (.new (.new (.new (.new (.new (.ret 1 [.keep 16, .keep 17, .keep 18, .keep 19, .keep 91, .ints [(hN 87 5), (hN 87 17)]])))))))))
(.new (.new (.new (.new (.new (.new (.new (.new (.new (.obl (oblC cTollsQ [.keep 91, .ints [(hN 87 6), (hN 87 7), (hN 87 8), (hN 87 9), (hN 87 10), (hN 87 11), (hN 87 12), (hN 87 13), (hN 87 14), (hN 87 15), (hN 87 16), (hN 87 17)], .ints [(oN 2), (.add (oN 2) (.room 91 6))], .ints [(h0 83)]]) (.new (.new (.new (.asm (asmC (outAt cTollsQ.outs 0) [.keep 91, .ints [(hN 87 6), (hN 87 7), (hN 87 8), (hN 87 9), (hN 87 10), (hN 87 11), (hN 87 12), (hN 87 13), (hN 87 14), (hN 87 15), (hN 87 16), (hN 87 17)], .ints [(oN 2), (.add (oN 2) (.room 91 6))], .ints [(h0 83)], .keep 93, .keep 94, .keep 95]) (.branch (.eq (h0 159) (h0 93))
(.new (.new (.new (.new (.new (.new (.new (.new (.ret 1 [.keep 16, .keep 17, .keep 18, .keep 19, .keep 103, .ints [(hN 87 11), (hN 87 17)]])))))))))
(.new (.new (.new (.new (.new (.new (.new (.new (.new (.new (.new (.new (.new (.new (.new (.new (.new (.obl (oblC cTollsQ [.keep 111, .ints [(h0 87), (hN 87 1), (hN 87 2), (hN 87 3), (hN 87 4), (hN 87 5), (hN 87 6), (hN 87 7), (hN 87 8), (hN 87 9), (hN 87 10), (hN 87 11), (hN 87 12), (hN 87 13), (hN 87 14), (hN 87 15), (hN 87 16), (hN 87 17)], .ints [(oN 3), (.add (oN 3) (.room 111 6))], .ints [(h0 83)]]) (.new (.new (.new (.asm (asmC (outAt cTollsQ.outs 0) [.keep 111, .ints [(h0 87), (hN 87 1), (hN 87 2), (hN 87 3), (hN 87 4), (hN 87 5), (hN 87 6), (hN 87 7), (hN 87 8), (hN 87 9), (hN 87 10), (hN 87 11), (hN 87 12), (hN 87 13), (hN 87 14), (hN 87 15), (hN 87 16), (hN 87 17)], .ints [(oN 3), (.add (oN 3) (.room 111 6))], .ints [(h0 83)], .keep 113, .keep 114, .keep 115]) (.branch (.eq (h0 179) (h0 93))
(.new (.new (.new (.new (.new (.new (.new (.new (.new (.new (.new (.new (.ret 1 [.keep 16, .keep 17, .keep 18, .keep 19, .keep 127, .ints [(hN 87 5), (hN 87 11), (hN 87 17)]])))))))))))))
(.new (.new (.new (.new (.new (.new (.new (.new (.new (.new (.new (.new (.new (.new (.new (.new (.new (.new (.new (.new (.new (.new (.new (.new (.new (.new (.new (.new (.ret 1 [.keep 16, .keep 17, .keep 18, .keep 19, .keep 143, .ints [(hN 87 5), (hN 87 11), (hN 87 17)]])))))))))))))))))))))))))))))))))))))))))))))))))))))))))))))))))))))))))))))))))))))))))))))))))))))))))))))))))))))))))))))))))))))))))))))))))))))))))))
def e_Few4 (P : Program) : VT := (.new (.obl (oblC cChkF [.keep 20, .ints [(h0 83)]]) (.asm (asmC (outAt cChkF.outs 0) [.keep 20, .ints [(h0 83)]]) (.new (.obl (oblC cAtL4 [.keep 16, .lst 81, .ints [(oN 4), (h0 82)], .keep 21, .ints [(oN 0)]]) (.new (.new (.asm (asmC (outAt cAtL4.outs 0) [.keep 16, .lst 81, .ints [(oN 4), (h0 82)], .keep 21, .ints [(oN 0)], .keep 22, .keep 23]) (.new (.new (.new (.obl (oblC cTollsQ [.keep 22, .lst 87, .ints [(oN 4), (.add (oN 4) (.room 22 6))], .ints [(h0 83)]]) (.new (.new (.new (.asm (asmC (outAt cTollsQ.outs 0) [.keep 22, .lst 87, .ints [(oN 4), (.add (oN 4) (.room 22 6))], .ints [(h0 83)], .keep 27, .keep 28, .keep 29]) (.new (.new (.new (.new (.new (.new (.new (.obl (oblC cTollsQN [.ints [(h0 83)]]) (.new (.new (.new (.asm (asmC (outAt cTollsQN.outs 0) [.ints [(h0 83)], .keep 37, .keep 38, .keep 39]) (.branch (.eq (h0 103) (h0 93))
(.ret 0 [.keep 16, .keep 17, .keep 18, .keep 19])
(.new (.new (.new (.new (.new (.obl (oblC cTollsQ [.keep 43, .ints [(h0 87), (hN 87 1), (hN 87 2), (hN 87 3), (hN 87 4), (hN 87 5)], .ints [(oN 1), (.add (oN 1) (.room 43 6))], .ints [(h0 83)]]) (.new (.new (.new (.asm (asmC (outAt cTollsQ.outs 0) [.keep 43, .ints [(h0 87), (hN 87 1), (hN 87 2), (hN 87 3), (hN 87 4), (hN 87 5)], .ints [(oN 1), (.add (oN 1) (.room 43 6))], .ints [(h0 83)], .keep 45, .keep 46, .keep 47]) (.branch (.eq (h0 111) (h0 93))
(.new (.new (.new (.new (.ret 1 [.keep 16, .keep 17, .keep 18, .keep 19, .keep 51, .ints [(hN 87 5)]])))))
(.new (.new (.new (.new (.new (.obl (oblC cTollsQ [.keep 51, .ints [(hN 87 6), (hN 87 7), (hN 87 8), (hN 87 9), (hN 87 10), (hN 87 11)], .ints [(oN 1), (.add (oN 1) (.room 51 6))], .ints [(h0 83)]]) (.new (.new (.new (.asm (asmC (outAt cTollsQ.outs 0) [.keep 51, .ints [(hN 87 6), (hN 87 7), (hN 87 8), (hN 87 9), (hN 87 10), (hN 87 11)], .ints [(oN 1), (.add (oN 1) (.room 51 6))], .ints [(h0 83)], .keep 53, .keep 54, .keep 55]) (.branch (.eq (h0 119) (h0 93))
(.new (.new (.new (.new (.ret 1 [.keep 16, .keep 17, .keep 18, .keep 19, .keep 59, .ints [(hN 87 11)]])))))
(.new (.new (.new (.new (.new (.obl (oblC cTollsQ [.keep 59, .ints [(hN 87 12), (hN 87 13), (hN 87 14), (hN 87 15), (hN 87 16), (hN 87 17)], .ints [(oN 1), (.add (oN 1) (.room 59 6))], .ints [(h0 83)]]) (.new (.new (.new (.asm (asmC (outAt cTollsQ.outs 0) [.keep 59, .ints [(hN 87 12), (hN 87 13), (hN 87 14), (hN 87 15), (hN 87 16), (hN 87 17)], .ints [(oN 1), (.add (oN 1) (.room 59 6))], .ints [(h0 83)], .keep 61, .keep 62, .keep 63]) (.branch (.eq (h0 127) (h0 93))
(.new (.new (.new (.new (.ret 1 [.keep 16, .keep 17, .keep 18, .keep 19, .keep 67, .ints [(hN 87 17)]])))))
(.new (.new (.new (.new (.new (.obl (oblC cTollsQ [.keep 67, .ints [(hN 87 18), (hN 87 19), (hN 87 20), (hN 87 21), (hN 87 22), (hN 87 23)], .ints [(oN 1), (.add (oN 1) (.room 67 6))], .ints [(h0 83)]]) (.new (.new (.new (.asm (asmC (outAt cTollsQ.outs 0) [.keep 67, .ints [(hN 87 18), (hN 87 19), (hN 87 20), (hN 87 21), (hN 87 22), (hN 87 23)], .ints [(oN 1), (.add (oN 1) (.room 67 6))], .ints [(h0 83)], .keep 69, .keep 70, .keep 71]) (.branch (.eq (h0 135) (h0 93))
(.new (.new (.new (.new (.ret 1 [.keep 16, .keep 17, .keep 18, .keep 19, .keep 75, .ints [(hN 87 23)]])))))
(.new (.new (.new (.new (.new (.new (.new (.new (.new (.obl (oblC cTollsQ [.keep 79, .ints [(h0 87), (hN 87 1), (hN 87 2), (hN 87 3), (hN 87 4), (hN 87 5), (hN 87 6), (hN 87 7), (hN 87 8), (hN 87 9), (hN 87 10), (hN 87 11)], .ints [(oN 2), (.add (oN 2) (.room 79 6))], .ints [(h0 83)]]) (.new (.new (.new (.asm (asmC (outAt cTollsQ.outs 0) [.keep 79, .ints [(h0 87), (hN 87 1), (hN 87 2), (hN 87 3), (hN 87 4), (hN 87 5), (hN 87 6), (hN 87 7), (hN 87 8), (hN 87 9), (hN 87 10), (hN 87 11)], .ints [(oN 2), (.add (oN 2) (.room 79 6))], .ints [(h0 83)], .keep 81, .keep 82, .keep 83]) (.branch (.eq (h0 147) (h0 93))
(.new (.new (.new (.new (.new (.new (.new (.new (.ret 1 [.keep 16, .keep 17, .keep 18, .keep 19, .keep 91, .ints [(hN 87 5), (hN 87 11)]])))))))))
(.new (.new (.new (.new (.new (.obl (oblC cTollsQ [.keep 87, .ints [(h0 87), (hN 87 1), (hN 87 2), (hN 87 3), (hN 87 4), (hN 87 5), (hN 87 12), (hN 87 13), (hN 87 14), (hN 87 15), (hN 87 16), (hN 87 17)], .ints [(oN 2), (.add (oN 2) (.room 87 6))], .ints [(h0 83)]]) (.new (.new (.new (.asm (asmC (outAt cTollsQ.outs 0) [.keep 87, .ints [(h0 87), (hN 87 1), (hN 87 2), (hN 87 3), (hN 87 4), (hN 87 5), (hN 87 12), (hN 87 13), (hN 87 14), (hN 87 15), (hN 87 16), (hN 87 17)], .ints [(oN 2), (.add (oN 2) (.room 87 6))], .ints [(h0 83)], .keep 89, .keep 90, .keep 91]) (.branch (.eq (h0 155) (h0 93))
(.new (.new (.new (.new (.new (.new (.new (.new (.ret 1 [.keep 16, .keep 17, .keep 18, .keep 19, .keep 99, .ints [(hN 87 5), (hN 87 17)]])))))))))
(.new (.new (.new (.new (.new (.obl (oblC cTollsQ [.keep 95, .ints [(h0 87), (hN 87 1), (hN 87 2), (hN 87 3), (hN 87 4), (hN 87 5), (hN 87 18), (hN 87 19), (hN 87 20), (hN 87 21), (hN 87 22), (hN 87 23)], .ints [(oN 2), (.add (oN 2) (.room 95 6))], .ints [(h0 83)]]) (.new (.new (.new (.asm (asmC (outAt cTollsQ.outs 0) [.keep 95, .ints [(h0 87), (hN 87 1), (hN 87 2), (hN 87 3), (hN 87 4), (hN 87 5), (hN 87 18), (hN 87 19), (hN 87 20), (hN 87 21), (hN 87 22), (hN 87 23)], .ints [(oN 2), (.add (oN 2) (.room 95 6))], .ints [(h0 83)], .keep 97, .keep 98, .keep 99]) (.branch (.eq (h0 163) (h0 93))
(.new (.new (.new (.new (.new (.new (.new (.new (.ret 1 [.keep 16, .keep 17, .keep 18, .keep 19, .keep 107, .ints [(hN 87 5), (hN 87 23)]])))))))))
(.new (.new (.new (.new (.new (.new (.new (.new (.new (.obl (oblC cTollsQ [.keep 107, .ints [(hN 87 6), (hN 87 7), (hN 87 8), (hN 87 9), (hN 87 10), (hN 87 11), (hN 87 12), (hN 87 13), (hN 87 14), (hN 87 15), (hN 87 16), (hN 87 17)], .ints [(oN 2), (.add (oN 2) (.room 107 6))], .ints [(h0 83)]]) (.new (.new (.new (.asm (asmC (outAt cTollsQ.outs 0) [.keep 107, .ints [(hN 87 6), (hN 87 7), (hN 87 8), (hN 87 9), (hN 87 10), (hN 87 11), (hN 87 12), (hN 87 13), (hN 87 14), (hN 87 15), (hN 87 16), (hN 87 17)], .ints [(oN 2), (.add (oN 2) (.room 107 6))], .ints [(h0 83)], .keep 109, .keep 110, .keep 111]) (.branch (.eq (h0 175) (h0 93))
(.new (.new (.new (.new (.new (.new (.new (.new (.ret 1 [.keep 16, .keep 17, .keep 18, .keep 19, .keep 119, .ints [(hN 87 11), (hN 87 17)]])))))))))
(.new (.new (.new (.new (.new (.obl (oblC cTollsQ [.keep 115, .ints [(hN 87 6), (hN 87 7), (hN 87 8), (hN 87 9), (hN 87 10), (hN 87 11), (hN 87 18), (hN 87 19), (hN 87 20), (hN 87 21), (hN 87 22), (hN 87 23)], .ints [(oN 2), (.add (oN 2) (.room 115 6))], .ints [(h0 83)]]) (.new (.new (.new (.asm (asmC (outAt cTollsQ.outs 0) [.keep 115, .ints [(hN 87 6), (hN 87 7), (hN 87 8), (hN 87 9), (hN 87 10), (hN 87 11), (hN 87 18), (hN 87 19), (hN 87 20), (hN 87 21), (hN 87 22), (hN 87 23)], .ints [(oN 2), (.add (oN 2) (.room 115 6))], .ints [(h0 83)], .keep 117, .keep 118, .keep 119]) (.branch (.eq (h0 183) (h0 93))
(.new (.new (.new (.new (.new (.new (.new (.new (.ret 1 [.keep 16, .keep 17, .keep 18, .keep 19, .keep 127, .ints [(hN 87 11), (hN 87 23)]])))))))))
(.new (.new (.new (.new (.new (.new (.new (.new (.new (.obl (oblC cTollsQ [.keep 127, .ints [(hN 87 12), (hN 87 13), (hN 87 14), (hN 87 15), (hN 87 16), (hN 87 17), (hN 87 18), (hN 87 19), (hN 87 20), (hN 87 21), (hN 87 22), (hN 87 23)], .ints [(oN 2), (.add (oN 2) (.room 127 6))], .ints [(h0 83)]]) (.new (.new (.new (.asm (asmC (outAt cTollsQ.outs 0) [.keep 127, .ints [(hN 87 12), (hN 87 13), (hN 87 14), (hN 87 15), (hN 87 16), (hN 87 17), (hN 87 18), (hN 87 19), (hN 87 20), (hN 87 21), (hN 87 22), (hN 87 23)], .ints [(oN 2), (.add (oN 2) (.room 127 6))], .ints [(h0 83)], .keep 129, .keep 130, .keep 131]) (.branch (.eq (h0 195) (h0 93))
(.new (.new (.new (.new (.new (.new (.new (.new (.ret 1 [.keep 16, .keep 17, .keep 18, .keep 19, .keep 139, .ints [(hN 87 17), (hN 87 23)]])))))))))
(.new (.new (.new (.new (.new (.new (.new (.new (.new (.new (.new (.new (.new (.new (.new (.new (.new (.obl (oblC cTollsQ [.keep 147, .ints [(h0 87), (hN 87 1), (hN 87 2), (hN 87 3), (hN 87 4), (hN 87 5), (hN 87 6), (hN 87 7), (hN 87 8), (hN 87 9), (hN 87 10), (hN 87 11), (hN 87 12), (hN 87 13), (hN 87 14), (hN 87 15), (hN 87 16), (hN 87 17)], .ints [(oN 3), (.add (oN 3) (.room 147 6))], .ints [(h0 83)]]) (.new (.new (.new (.asm (asmC (outAt cTollsQ.outs 0) [.keep 147, .ints [(h0 87), (hN 87 1), (hN 87 2), (hN 87 3), (hN 87 4), (hN 87 5), (hN 87 6), (hN 87 7), (hN 87 8), (hN 87 9), (hN 87 10), (hN 87 11), (hN 87 12), (hN 87 13), (hN 87 14), (hN 87 15), (hN 87 16), (hN 87 17)], .ints [(oN 3), (.add (oN 3) (.room 147 6))], .ints [(h0 83)], .keep 149, .keep 150, .keep 151]) (.branch (.eq (h0 215) (h0 93))
(.new (.new (.new (.new (.new (.new (.new (.new (.new (.new (.new (.new (.ret 1 [.keep 16, .keep 17, .keep 18, .keep 19, .keep 163, .ints [(hN 87 5), (hN 87 11), (hN 87 17)]])))))))))))))
(.new (.new (.new (.new (.new (.obl (oblC cTollsQ [.keep 155, .ints [(h0 87), (hN 87 1), (hN 87 2), (hN 87 3), (hN 87 4), (hN 87 5), (hN 87 6), (hN 87 7), (hN 87 8), (hN 87 9), (hN 87 10), (hN 87 11), (hN 87 18), (hN 87 19), (hN 87 20), (hN 87 21), (hN 87 22), (hN 87 23)], .ints [(oN 3), (.add (oN 3) (.room 155 6))], .ints [(h0 83)]]) (.new (.new (.new (.asm (asmC (outAt cTollsQ.outs 0) [.keep 155, .ints [(h0 87), (hN 87 1), (hN 87 2), (hN 87 3), (hN 87 4), (hN 87 5), (hN 87 6), (hN 87 7), (hN 87 8), (hN 87 9), (hN 87 10), (hN 87 11), (hN 87 18), (hN 87 19), (hN 87 20), (hN 87 21), (hN 87 22), (hN 87 23)], .ints [(oN 3), (.add (oN 3) (.room 155 6))], .ints [(h0 83)], .keep 157, .keep 158, .keep 159]) (.branch (.eq (h0 223) (h0 93))
(.new (.new (.new (.new (.new (.new (.new (.new (.new (.new (.new (.new (.ret 1 [.keep 16, .keep 17, .keep 18, .keep 19, .keep 171, .ints [(hN 87 5), (hN 87 11), (hN 87 23)]])))))))))))))
(.new (.new (.new (.new (.new (.new (.new (.new (.new (.obl (oblC cTollsQ [.keep 167, .ints [(h0 87), (hN 87 1), (hN 87 2), (hN 87 3), (hN 87 4), (hN 87 5), (hN 87 12), (hN 87 13), (hN 87 14), (hN 87 15), (hN 87 16), (hN 87 17), (hN 87 18), (hN 87 19), (hN 87 20), (hN 87 21), (hN 87 22), (hN 87 23)], .ints [(oN 3), (.add (oN 3) (.room 167 6))], .ints [(h0 83)]]) (.new (.new (.new (.asm (asmC (outAt cTollsQ.outs 0) [.keep 167, .ints [(h0 87), (hN 87 1), (hN 87 2), (hN 87 3), (hN 87 4), (hN 87 5), (hN 87 12), (hN 87 13), (hN 87 14), (hN 87 15), (hN 87 16), (hN 87 17), (hN 87 18), (hN 87 19), (hN 87 20), (hN 87 21), (hN 87 22), (hN 87 23)], .ints [(oN 3), (.add (oN 3) (.room 167 6))], .ints [(h0 83)], .keep 169, .keep 170, .keep 171]) (.branch (.eq (h0 235) (h0 93))
(.new (.new (.new (.new (.new (.new (.new (.new (.new (.new (.new (.new (.ret 1 [.keep 16, .keep 17, .keep 18, .keep 19, .keep 183, .ints [(hN 87 5), (hN 87 17), (hN 87 23)]])))))))))))))
(.new (.new (.new (.new (.new (.new (.new (.new (.new (.new (.new (.new (.new (.new (.new (.new (.new (.obl (oblC cTollsQ [.keep 187, .ints [(hN 87 6), (hN 87 7), (hN 87 8), (hN 87 9), (hN 87 10), (hN 87 11), (hN 87 12), (hN 87 13), (hN 87 14), (hN 87 15), (hN 87 16), (hN 87 17), (hN 87 18), (hN 87 19), (hN 87 20), (hN 87 21), (hN 87 22), (hN 87 23)], .ints [(oN 3), (.add (oN 3) (.room 187 6))], .ints [(h0 83)]]) (.new (.new (.new (.asm (asmC (outAt cTollsQ.outs 0) [.keep 187, .ints [(hN 87 6), (hN 87 7), (hN 87 8), (hN 87 9), (hN 87 10), (hN 87 11), (hN 87 12), (hN 87 13), (hN 87 14), (hN 87 15), (hN 87 16), (hN 87 17), (hN 87 18), (hN 87 19), (hN 87 20), (hN 87 21), (hN 87 22), (hN 87 23)], .ints [(oN 3), (.add (oN 3) (.room 187 6))], .ints [(h0 83)], .keep 189, .keep 190, .keep 191]) (.branch (.eq (h0 255) (h0 93))
(.new (.new (.new (.new (.new (.new (.new (.new (.new (.new (.new (.new (.ret 1 [.keep 16, .keep 17, .keep 18, .keep 19, .keep 203, .ints [(hN 87 11), (hN 87 17), (hN 87 23)]])))))))))))))
(.new (.new (.new (.new (.new (.new (.new (.new (.new (.new (.new (.new (.new (.new (.new (.new (.new (.new (.new (.new (.new (.new (.new (.new (.new (.new (.new (.new (.new (.new (.new (.new (.new (.obl (oblC cTollsQ [.keep 223, .ints [(h0 87), (hN 87 1), (hN 87 2), (hN 87 3), (hN 87 4), (hN 87 5), (hN 87 6), (hN 87 7), (hN 87 8), (hN 87 9), (hN 87 10), (hN 87 11), (hN 87 12), (hN 87 13), (hN 87 14), (hN 87 15), (hN 87 16), (hN 87 17), (hN 87 18), (hN 87 19), (hN 87 20), (hN 87 21), (hN 87 22), (hN 87 23)], .ints [(oN 4), (.add (oN 4) (.room 223 6))], .ints [(h0 83)]]) (.new (.new (.new (.asm (asmC (outAt cTollsQ.outs 0) [.keep 223, .ints [(h0 87), (hN 87 1), (hN 87 2), (hN 87 3), (hN 87 4), (hN 87 5), (hN 87 6), (hN 87 7), (hN 87 8), (hN 87 9), (hN 87 10), (hN 87 11), (hN 87 12), (hN 87 13), (hN 87 14), (hN 87 15), (hN 87 16), (hN 87 17), (hN 87 18), (hN 87 19), (hN 87 20), (hN 87 21), (hN 87 22), (hN 87 23)], .ints [(oN 4), (.add (oN 4) (.room 223 6))], .ints [(h0 83)], .keep 225, .keep 226, .keep 227]) (.branch (.eq (h0 291) (h0 93))
(.new (.new (.new (.new (.new (.new (.new (.new (.new (.new (.new (.new (.new (.new (.new (.new (.ret 1 [.keep 16, .keep 17, .keep 18, .keep 19, .keep 243, .ints [(hN 87 5), (hN 87 11), (hN 87 17), (hN 87 23)]])))))))))))))))))
(.new (.new (.new (.new (.new (.new (.new (.new (.new (.new (.new (.new (.new (.new (.new (.new (.new (.new (.new (.new (.new (.new (.new (.new (.new (.new (.new (.new (.new (.new (.new (.new (.new (.new (.new (.new (.new (.new (.new (.new (.new (.new (.new (.new (.new (.new (.new (.new (.new (.new (.new (.new (.new (.new (.new (.new (.new (.new (.new (.new (.ret 1 [.keep 16, .keep 17, .keep 18, .keep 19, .keep 287, .ints [(hN 87 5), (hN 87 11), (hN 87 17), (hN 87 23)]])))))))))))))))))))))))))))))))))))))))))))))))))))))))))))))))))))))))))))))))))))))))))))))))))))))))))))))))))))))))))))))))))))))))))))))))))))))))))))))))))))))))))))))))))))))))))))))))))))))))))))))))))))))))))))))))))))))))))))))))))))))))))))))))))))))))))))))))))))))))))))))))))))))))))))))))))))))))))))))))))))
def e_Eq (P : Program) : VT := (.jump 0 [.keep 16, .keep 17, .keep 18, .keep 19, .keep 20, .keep 21, .ints [(oN 0)]] (ndAt (ndEq P) 0).items)
def n_Eq_0 (P : Program) : VT := (.branch (.lt (h0 86) (h0 82))
(.branch (.lt (h0 86) (h0 85))
(.need [(.lt (h0 86) (.len 81))] (.need [(.lt (h0 86) (.len 84))] (.branch (.not (.eq (.nth 81 (h0 86)) (.nth 84 (h0 86))))
(.ret 0 [.keep 16, .keep 17, .keep 18, .keep 19, .keep 20, .keep 21])
(.jump 0 [.keep 16, .keep 17, .keep 18, .keep 19, .keep 20, .keep 21, .ints [(.add (h0 86) (oN 1))]] (ndAt (ndEq P) 0).items))))
(.ret 1 [.keep 16, .keep 17, .keep 18, .keep 19, .keep 20, .keep 21]))
(.ret 1 [.keep 16, .keep 17, .keep 18, .keep 19, .keep 20, .keep 21]))
end Ft
set_option linter.unusedVariables false
open Go Mv Mw
namespace Ft
def e_CmpQ (P : Program) : VT := (.new (.new (.obl (oblC cCmp1 [.ints [(hN 80 1), (hN 81 1)]]) (.both (.asm (asmC (outAt cCmp1.outs 0) [.ints [(hN 80 1), (hN 81 1)]]) (.ret 0 [.keep 16, .keep 17])) (.both (.asm (asmC (outAt cCmp1.outs 1) [.ints [(hN 80 1), (hN 81 1)]]) (.ret 1 [.keep 16, .keep 17])) (.asm (asmC (outAt cCmp1.outs 2) [.ints [(hN 80 1), (hN 81 1)]]) (.ret 2 [.keep 16, .keep 17])))))))
def e_ThrQ (P : Program) : VT := (.new (.new (.obl (oblC cMay [.ints [(h0 80), (hN 80 1), (hN 80 2), (hN 80 3), (hN 80 4), (hN 80 5)], .ints [(h0 86)]]) (.both (.asm (asmC (outAt cMay.outs 0) [.ints [(h0 80), (hN 80 1), (hN 80 2), (hN 80 3), (hN 80 4), (hN 80 5)], .ints [(h0 86)]]) (.obl (oblC cPutA [.ints [(h0 80), (hN 80 1), (hN 80 2), (hN 80 3), (hN 80 4), (hN 80 5)], .ints [(h0 86)]]) (.new (.asm (asmC (outAt cPutA.outs 0) [.ints [(h0 80), (hN 80 1), (hN 80 2), (hN 80 3), (hN 80 4), (hN 80 5)], .ints [(h0 86)], .keep 25]) (.obl (oblC cHas [.ints [(h0 83)], .ints [(h0 89)]]) (.both (.asm (asmC (outAt cHas.outs 0) [.ints [(h0 83)], .ints [(h0 89)]]) (.obl (oblC cPutA [.ints [(h0 80), (hN 80 1), (hN 80 2), (hN 80 3), (hN 80 4), (hN 80 5)], .ints [(h0 86)]]) (.new (.asm (asmC (outAt cPutA.outs 0) [.ints [(h0 80), (hN 80 1), (hN 80 2), (hN 80 3), (hN 80 4), (hN 80 5)], .ints [(h0 86)], .keep 26]) (.new (.ret 1 [.keep 16, .keep 17, .keep 18, .keep 19, .keep 20, .keep 21, .keep 22, .ints [(.wrap .i64 (.add (.nth 82 (.mul (h0 90) (oN 8))) (hN 80 4))), (.wrap .i64 (.add (.nth 82 (.add (.mul (h0 90) (oN 8)) (oN 1))) (oN 1)))]])))))) (.asm (asmC (outAt cHas.outs 1) [.ints [(h0 83)], .ints [(h0 89)]]) (.ret 0 [.keep 16, .keep 17, .keep 18, .keep 19, .keep 20, .keep 21, .keep 22])))))))) (.asm (asmC (outAt cMay.outs 1) [.ints [(h0 80), (hN 80 1), (hN 80 2), (hN 80 3), (hN 80 4), (hN 80 5)], .ints [(h0 86)]]) (.ret 0 [.keep 16, .keep 17, .keep 18, .keep 19, .keep 20, .keep 21, .keep 22]))))))
def e_ImpQ (P : Program) : VT := (.jump 0 [.keep 16, .keep 17, .keep 18, .keep 19, .keep 20, .keep 21, .keep 22, .ints [(oN 0)]] (ndAt (ndImpQ P) 0).items)
def n_ImpQ_0 (P : Program) : VT := (.branch (.lt (h0 87) (h0 85))
(.need [(.le (.add (.mul (h0 87) (oN 6)) (oN 6)) (.len 80))] (.new (.obl (oblC cThrQ [.ints [(.nth 80 (.mul (h0 87) (oN 6))), (.nth 80 (.add (.mul (h0 87) (oN 6)) (oN 1))), (.nth 80 (.add (.mul (h0 87) (oN 6)) (oN 2))), (.nth 80 (.add (.mul (h0 87) (oN 6)) (oN 3))), (.nth 80 (.add (.mul (h0 87) (oN 6)) (oN 4))), (.nth 80 (.add (.mul (h0 87) (oN 6)) (oN 5)))], .keep 17, .lst 82, .ints [(h0 83)], .keep 20, .ints [(h0 85), (hN 85 1)], .ints [(h0 86)]]) (.both (.asm (asmC (outAt cThrQ.outs 0) [.ints [(.nth 80 (.mul (h0 87) (oN 6))), (.nth 80 (.add (.mul (h0 87) (oN 6)) (oN 1))), (.nth 80 (.add (.mul (h0 87) (oN 6)) (oN 2))), (.nth 80 (.add (.mul (h0 87) (oN 6)) (oN 3))), (.nth 80 (.add (.mul (h0 87) (oN 6)) (oN 4))), (.nth 80 (.add (.mul (h0 87) (oN 6)) (oN 5)))], .keep 17, .lst 82, .ints [(h0 83)], .keep 20, .ints [(h0 85), (hN 85 1)], .ints [(h0 86)]]) (.new (.jump 0 [.keep 16, .keep 17, .keep 18, .keep 19, .keep 20, .keep 21, .keep 22, .ints [(.add (h0 87) (oN 1))]] (ndAt (ndImpQ P) 0).items))) (.new (.asm (asmC (outAt cThrQ.outs 1) [.ints [(.nth 80 (.mul (h0 87) (oN 6))), (.nth 80 (.add (.mul (h0 87) (oN 6)) (oN 1))), (.nth 80 (.add (.mul (h0 87) (oN 6)) (oN 2))), (.nth 80 (.add (.mul (h0 87) (oN 6)) (oN 3))), (.nth 80 (.add (.mul (h0 87) (oN 6)) (oN 4))), (.nth 80 (.add (.mul (h0 87) (oN 6)) (oN 5)))], .keep 17, .lst 82, .ints [(h0 83)], .keep 20, .ints [(h0 85), (hN 85 1)], .ints [(h0 86)], .keep 25]) (.new (.obl (oblC cHas [.ints [(h0 83)], .ints [(h0 86)]]) (.both (.asm (asmC (outAt cHas.outs 0) [.ints [(h0 83)], .ints [(h0 86)]]) (.obl (oblC cCmpQ [.ints [(h0 89), (hN 89 1), (.nth 80 (.mul (h0 87) (oN 6))), (.nth 80 (.add (.mul (h0 87) (oN 6)) (oN 1))), (.nth 80 (.add (.mul (h0 87) (oN 6)) (oN 2))), (.nth 80 (.add (.mul (h0 87) (oN 6)) (oN 3))), (.nth 80 (.add (.mul (h0 87) (oN 6)) (oN 4))), (.nth 80 (.add (.mul (h0 87) (oN 6)) (oN 5)))], .ints [(.nth 82 (.mul (h0 86) (oN 8))), (.nth 82 (.add (.mul (h0 86) (oN 8)) (oN 1))), (.nth 82 (.add (.mul (h0 86) (oN 8)) (oN 2))), (.nth 82 (.add (.mul (h0 86) (oN 8)) (oN 3))), (.nth 82 (.add (.mul (h0 86) (oN 8)) (oN 4))), (.nth 82 (.add (.mul (h0 86) (oN 8)) (oN 5))), (.nth 82 (.add (.mul (h0 86) (oN 8)) (oN 6))), (.nth 82 (.add (.mul (h0 86) (oN 8)) (oN 7)))]]) (.both (.asm (asmC (outAt cCmpQ.outs 0) [.ints [(h0 89), (hN 89 1), (.nth 80 (.mul (h0 87) (oN 6))), (.nth 80 (.add (.mul (h0 87) (oN 6)) (oN 1))), (.nth 80 (.add (.mul (h0 87) (oN 6)) (oN 2))), (.nth 80 (.add (.mul (h0 87) (oN 6)) (oN 3))), (.nth 80 (.add (.mul (h0 87) (oN 6)) (oN 4))), (.nth 80 (.add (.mul (h0 87) (oN 6)) (oN 5)))], .ints [(.nth 82 (.mul (h0 86) (oN 8))), (.nth 82 (.add (.mul (h0 86) (oN 8)) (oN 1))), (.nth 82 (.add (.mul (h0 86) (oN 8)) (oN 2))), (.nth 82 (.add (.mul (h0 86) (oN 8)) (oN 3))), (.nth 82 (.add (.mul (h0 86) (oN 8)) (oN 4))), (.nth 82 (.add (.mul (h0 86) (oN 8)) (oN 5))), (.nth 82 (.add (.mul (h0 86) (oN 8)) (oN 6))), (.nth 82 (.add (.mul (h0 86) (oN 8)) (oN 7)))]]) (.new (.asm (putAsm 27 82 (.mul (h0 86) (oN 8)) [(h0 89), (hN 89 1), (.nth 80 (.mul (h0 87) (oN 6))), (.nth 80 (.add (.mul (h0 87) (oN 6)) (oN 1))), (.nth 80 (.add (.mul (h0 87) (oN 6)) (oN 2))), (.nth 80 (.add (.mul (h0 87) (oN 6)) (oN 3))), (.nth 80 (.add (.mul (h0 87) (oN 6)) (oN 4))), (.nth 80 (.add (.mul (h0 87) (oN 6)) (oN 5)))]) (.jump 1 [.keep 16, .keep 17, .keep 18, .keep 19, .keep 20, .keep 21, .keep 22, .lst 91, .ints [(.bits .or .u64 (h0 83) (.wrap .u64 (.shl .u64 (oN 1) (h0 86))))], .ints [(.add (h0 87) (oN 1))]] (ndAt (ndImpQ P) 1).items)))) (.both (.asm (asmC (outAt cCmpQ.outs 1) [.ints [(h0 89), (hN 89 1), (.nth 80 (.mul (h0 87) (oN 6))), (.nth 80 (.add (.mul (h0 87) (oN 6)) (oN 1))), (.nth 80 (.add (.mul (h0 87) (oN 6)) (oN 2))), (.nth 80 (.add (.mul (h0 87) (oN 6)) (oN 3))), (.nth 80 (.add (.mul (h0 87) (oN 6)) (oN 4))), (.nth 80 (.add (.mul (h0 87) (oN 6)) (oN 5)))], .ints [(.nth 82 (.mul (h0 86) (oN 8))), (.nth 82 (.add (.mul (h0 86) (oN 8)) (oN 1))), (.nth 82 (.add (.mul (h0 86) (oN 8)) (oN 2))), (.nth 82 (.add (.mul (h0 86) (oN 8)) (oN 3))), (.nth 82 (.add (.mul (h0 86) (oN 8)) (oN 4))), (.nth 82 (.add (.mul (h0 86) (oN 8)) (oN 5))), (.nth 82 (.add (.mul (h0 86) (oN 8)) (oN 6))), (.nth 82 (.add (.mul (h0 86) (oN 8)) (oN 7)))]]) (.jump 0 [.keep 16, .keep 17, .keep 18, .keep 19, .keep 20, .keep 21, .keep 22, .ints [(.add (h0 87) (oN 1))]] (ndAt (ndImpQ P) 0).items)) (.asm (asmC (outAt cCmpQ.outs 2) [.ints [(h0 89), (hN 89 1), (.nth 80 (.mul (h0 87) (oN 6))), (.nth 80 (.add (.mul (h0 87) (oN 6)) (oN 1))), (.nth 80 (.add (.mul (h0 87) (oN 6)) (oN 2))), (.nth 80 (.add (.mul (h0 87) (oN 6)) (oN 3))), (.nth 80 (.add (.mul (h0 87) (oN 6)) (oN 4))), (.nth 80 (.add (.mul (h0 87) (oN 6)) (oN 5)))], .ints [(.nth 82 (.mul (h0 86) (oN 8))), (.nth 82 (.add (.mul (h0 86) (oN 8)) (oN 1))), (.nth 82 (.add (.mul (h0 86) (oN 8)) (oN 2))), (.nth 82 (.add (.mul (h0 86) (oN 8)) (oN 3))), (.nth 82 (.add (.mul (h0 86) (oN 8)) (oN 4))), (.nth 82 (.add (.mul (h0 86) (oN 8)) (oN 5))), (.nth 82 (.add (.mul (h0 86) (oN 8)) (oN 6))), (.nth 82 (.add (.mul (h0 86) (oN 8)) (oN 7)))]]) (.jump 0 [.keep 16, .keep 17, .keep 18, .keep 19, .keep 20, .keep 21, .keep 22, .ints [(.add (h0 87) (oN 1))]] (ndAt (ndImpQ P) 0).items)))))) (.asm (asmC (outAt cHas.outs 1) [.ints [(h0 83)], .ints [(h0 86)]]) (.new (.asm (putAsm 27 82 (.mul (h0 86) (oN 8)) [(h0 89), (hN 89 1), (.nth 80 (.mul (h0 87) (oN 6))), (.nth 80 (.add (.mul (h0 87) (oN 6)) (oN 1))), (.nth 80 (.add (.mul (h0 87) (oN 6)) (oN 2))), (.nth 80 (.add (.mul (h0 87) (oN 6)) (oN 3))), (.nth 80 (.add (.mul (h0 87) (oN 6)) (oN 4))), (.nth 80 (.add (.mul (h0 87) (oN 6)) (oN 5)))]) (.jump 1 [.keep 16, .keep 17, .keep 18, .keep 19, .keep 20, .keep 21, .keep 22, .lst 91, .ints [(.bits .or .u64 (h0 83) (.wrap .u64 (.shl .u64 (oN 1) (h0 86))))], .ints [(.add (h0 87) (oN 1))]] (ndAt (ndImpQ P) 1).items)))))))))))))
(.ret 0 [.keep 16, .keep 17, .keep 18, .keep 19, .keep 20, .keep 21, .keep 22]))
def n_ImpQ_1 (P : Program) : VT := (.branch (.lt (h0 89) (h0 85))
(.need [(.le (.add (.mul (h0 89) (oN 6)) (oN 6)) (.len 80))] (.new (.obl (oblC cThrQ [.ints [(.nth 80 (.mul (h0 89) (oN 6))), (.nth 80 (.add (.mul (h0 89) (oN 6)) (oN 1))), (.nth 80 (.add (.mul (h0 89) (oN 6)) (oN 2))), (.nth 80 (.add (.mul (h0 89) (oN 6)) (oN 3))), (.nth 80 (.add (.mul (h0 89) (oN 6)) (oN 4))), (.nth 80 (.add (.mul (h0 89) (oN 6)) (oN 5)))], .keep 17, .lst 87, .ints [(h0 88)], .keep 20, .ints [(h0 85), (hN 85 1)], .ints [(h0 86)]]) (.both (.asm (asmC (outAt cThrQ.outs 0) [.ints [(.nth 80 (.mul (h0 89) (oN 6))), (.nth 80 (.add (.mul (h0 89) (oN 6)) (oN 1))), (.nth 80 (.add (.mul (h0 89) (oN 6)) (oN 2))), (.nth 80 (.add (.mul (h0 89) (oN 6)) (oN 3))), (.nth 80 (.add (.mul (h0 89) (oN 6)) (oN 4))), (.nth 80 (.add (.mul (h0 89) (oN 6)) (oN 5)))], .keep 17, .lst 87, .ints [(h0 88)], .keep 20, .ints [(h0 85), (hN 85 1)], .ints [(h0 86)]]) (.new (.jump 1 [.keep 16, .keep 17, .keep 18, .keep 19, .keep 20, .keep 21, .keep 22, .lst 87, .ints [(h0 88)], .ints [(.add (h0 89) (oN 1))]] (ndAt (ndImpQ P) 1).items))) (.new (.asm (asmC (outAt cThrQ.outs 1) [.ints [(.nth 80 (.mul (h0 89) (oN 6))), (.nth 80 (.add (.mul (h0 89) (oN 6)) (oN 1))), (.nth 80 (.add (.mul (h0 89) (oN 6)) (oN 2))), (.nth 80 (.add (.mul (h0 89) (oN 6)) (oN 3))), (.nth 80 (.add (.mul (h0 89) (oN 6)) (oN 4))), (.nth 80 (.add (.mul (h0 89) (oN 6)) (oN 5)))], .keep 17, .lst 87, .ints [(h0 88)], .keep 20, .ints [(h0 85), (hN 85 1)], .ints [(h0 86)], .keep 27]) (.new (.obl (oblC cHas [.ints [(h0 88)], .ints [(h0 86)]]) (.both (.asm (asmC (outAt cHas.outs 0) [.ints [(h0 88)], .ints [(h0 86)]]) (.obl (oblC cCmpQ [.ints [(h0 91), (hN 91 1), (.nth 80 (.mul (h0 89) (oN 6))), (.nth 80 (.add (.mul (h0 89) (oN 6)) (oN 1))), (.nth 80 (.add (.mul (h0 89) (oN 6)) (oN 2))), (.nth 80 (.add (.mul (h0 89) (oN 6)) (oN 3))), (.nth 80 (.add (.mul (h0 89) (oN 6)) (oN 4))), (.nth 80 (.add (.mul (h0 89) (oN 6)) (oN 5)))], .ints [(.nth 87 (.mul (h0 86) (oN 8))), (.nth 87 (.add (.mul (h0 86) (oN 8)) (oN 1))), (.nth 87 (.add (.mul (h0 86) (oN 8)) (oN 2))), (.nth 87 (.add (.mul (h0 86) (oN 8)) (oN 3))), (.nth 87 (.add (.mul (h0 86) (oN 8)) (oN 4))), (.nth 87 (.add (.mul (h0 86) (oN 8)) (oN 5))), (.nth 87 (.add (.mul (h0 86) (oN 8)) (oN 6))), (.nth 87 (.add (.mul (h0 86) (oN 8)) (oN 7)))]]) (.both (.asm (asmC (outAt cCmpQ.outs 0) [.ints [(h0 91), (hN 91 1), (.nth 80 (.mul (h0 89) (oN 6))), (.nth 80 (.add (.mul (h0 89) (oN 6)) (oN 1))), (.nth 80 (.add (.mul (h0 89) (oN 6)) (oN 2))), (.nth 80 (.add (.mul (h0 89) (oN 6)) (oN 3))), (.nth 80 (.add (.mul (h0 89) (oN 6)) (oN 4))), (.nth 80 (.add (.mul (h0 89) (oN 6)) (oN 5)))], .ints [(.nth 87 (.mul (h0 86) (oN 8))), (.nth 87 (.add (.mul (h0 86) (oN 8)) (oN 1))), (.nth 87 (.add (.mul (h0 86) (oN 8)) (oN 2))), (.nth 87 (.add (.mul (h0 86) (oN 8)) (oN 3))), (.nth 87 (.add (.mul (h0 86) (oN 8)) (oN 4))), (.nth 87 (.add (.mul (h0 86) (oN 8)) (oN 5))), (.nth 87 (.add (.mul (h0 86) (oN 8)) (oN 6))), (.nth 87 (.add (.mul (h0 86) (oN 8)) (oN 7)))]]) (.new (.asm (putAsm 29 87 (.mul (h0 86) (oN 8)) [(h0 91), (hN 91 1), (.nth 80 (.mul (h0 89) (oN 6))), (.nth 80 (.add (.mul (h0 89) (oN 6)) (oN 1))), (.nth 80 (.add (.mul (h0 89) (oN 6)) (oN 2))), (.nth 80 (.add (.mul (h0 89) (oN 6)) (oN 3))), (.nth 80 (.add (.mul (h0 89) (oN 6)) (oN 4))), (.nth 80 (.add (.mul (h0 89) (oN 6)) (oN 5)))]) (.jump 1 [.keep 16, .keep 17, .keep 18, .keep 19, .keep 20, .keep 21, .keep 22, .lst 93, .ints [(.bits .or .u64 (h0 88) (.wrap .u64 (.shl .u64 (oN 1) (h0 86))))], .ints [(.add (h0 89) (oN 1))]] (ndAt (ndImpQ P) 1).items)))) (.both (.asm (asmC (outAt cCmpQ.outs 1) [.ints [(h0 91), (hN 91 1), (.nth 80 (.mul (h0 89) (oN 6))), (.nth 80 (.add (.mul (h0 89) (oN 6)) (oN 1))), (.nth 80 (.add (.mul (h0 89) (oN 6)) (oN 2))), (.nth 80 (.add (.mul (h0 89) (oN 6)) (oN 3))), (.nth 80 (.add (.mul (h0 89) (oN 6)) (oN 4))), (.nth 80 (.add (.mul (h0 89) (oN 6)) (oN 5)))], .ints [(.nth 87 (.mul (h0 86) (oN 8))), (.nth 87 (.add (.mul (h0 86) (oN 8)) (oN 1))), (.nth 87 (.add (.mul (h0 86) (oN 8)) (oN 2))), (.nth 87 (.add (.mul (h0 86) (oN 8)) (oN 3))), (.nth 87 (.add (.mul (h0 86) (oN 8)) (oN 4))), (.nth 87 (.add (.mul (h0 86) (oN 8)) (oN 5))), (.nth 87 (.add (.mul (h0 86) (oN 8)) (oN 6))), (.nth 87 (.add (.mul (h0 86) (oN 8)) (oN 7)))]]) (.jump 1 [.keep 16, .keep 17, .keep 18, .keep 19, .keep 20, .keep 21, .keep 22, .lst 87, .ints [(h0 88)], .ints [(.add (h0 89) (oN 1))]] (ndAt (ndImpQ P) 1).items)) (.asm (asmC (outAt cCmpQ.outs 2) [.ints [(h0 91), (hN 91 1), (.nth 80 (.mul (h0 89) (oN 6))), (.nth 80 (.add (.mul (h0 89) (oN 6)) (oN 1))), (.nth 80 (.add (.mul (h0 89) (oN 6)) (oN 2))), (.nth 80 (.add (.mul (h0 89) (oN 6)) (oN 3))), (.nth 80 (.add (.mul (h0 89) (oN 6)) (oN 4))), (.nth 80 (.add (.mul (h0 89) (oN 6)) (oN 5)))], .ints [(.nth 87 (.mul (h0 86) (oN 8))), (.nth 87 (.add (.mul (h0 86) (oN 8)) (oN 1))), (.nth 87 (.add (.mul (h0 86) (oN 8)) (oN 2))), (.nth 87 (.add (.mul (h0 86) (oN 8)) (oN 3))), (.nth 87 (.add (.mul (h0 86) (oN 8)) (oN 4))), (.nth 87 (.add (.mul (h0 86) (oN 8)) (oN 5))), (.nth 87 (.add (.mul (h0 86) (oN 8)) (oN 6))), (.nth 87 (.add (.mul (h0 86) (oN 8)) (oN 7)))]]) (.jump 1 [.keep 16, .keep 17, .keep 18, .keep 19, .keep 20, .keep 21, .keep 22, .lst 87, .ints [(h0 88)], .ints [(.add (h0 89) (oN 1))]] (ndAt (ndImpQ P) 1).items)))))) (.asm (asmC (outAt cHas.outs 1) [.ints [(h0 88)], .ints [(h0 86)]]) (.new (.asm (putAsm 29 87 (.mul (h0 86) (oN 8)) [(h0 91), (hN 91 1), (.nth 80 (.mul (h0 89) (oN 6))), (.nth 80 (.add (.mul (h0 89) (oN 6)) (oN 1))), (.nth 80 (.add (.mul (h0 89) (oN 6)) (oN 2))), (.nth 80 (.add (.mul (h0 89) (oN 6)) (oN 3))), (.nth 80 (.add (.mul (h0 89) (oN 6)) (oN 4))), (.nth 80 (.add (.mul (h0 89) (oN 6)) (oN 5)))]) (.jump 1 [.keep 16, .keep 17, .keep 18, .keep 19, .keep 20, .keep 21, .keep 22, .lst 93, .ints [(.bits .or .u64 (h0 88) (.wrap .u64 (.shl .u64 (oN 1) (h0 86))))], .ints [(.add (h0 89) (oN 1))]] (ndAt (ndImpQ P) 1).items)))))))))))))
(.ret 1 [.keep 16, .keep 17, .keep 18, .keep 19, .keep 20, .keep 21, .keep 22, .lst 87, .ints [(h0 88)]]))
def e_TollsQ (P : Program) : VT := (.new (.new (.jump 0 [.keep 16, .keep 17, .keep 18, .keep 19, .keep 21, .ints [(oN 0), (oN 0), (oN 0), (oN 0), (oN 0), (oN 0), (oN 0), (oN 0), (oN 0), (oN 0), (oN 0), (oN 0), (oN 0), (oN 0), (oN 0), (oN 0), (oN 0), (oN 0), (oN 0), (oN 0), (oN 0), (oN 0), (oN 0), (oN 0), (oN 0), (oN 0), (oN 0), (oN 0), (oN 0), (oN 0), (oN 0), (oN 0), (oN 0), (oN 0), (oN 0), (oN 0), (oN 0), (oN 0), (oN 0), (oN 0), (oN 0), (oN 0), (oN 0), (oN 0), (oN 0), (oN 0), (oN 0), (oN 0), (oN 0), (oN 0), (oN 0), (oN 0), (oN 0), (oN 0), (oN 0), (oN 0), (oN 0), (oN 0), (oN 0), (oN 0), (oN 0), (oN 0), (oN 0), (oN 0), (oN 0), (oN 0), (oN 0), (oN 0), (oN 0), (oN 0), (oN 0), (oN 0), (oN 0), (oN 0), (oN 0), (oN 0), (oN 0), (oN 0), (oN 0), (oN 0), (oN 0), (oN 0), (oN 0), (oN 0), (oN 0), (oN 0), (oN 0), (oN 0), (oN 0), (oN 0), (oN 0), (oN 0), (oN 0), (oN 0), (oN 0), (oN 0), (oN 0), (oN 0), (oN 0), (oN 0), (oN 0), (oN 0), (oN 0), (oN 0), (oN 0), (oN 0), (oN 0), (oN 0), (oN 0), (oN 0), (oN 0), (oN 0), (oN 0), (oN 0), (oN 0), (oN 0), (oN 0), (oN 0), (oN 0), (oN 0), (oN 0), (oN 0), (oN 0), (oN 0), (oN 0), (oN 0), (oN 0), (oN 0), (oN 0), (oN 0), (oN 0), (oN 0), (oN 0), (oN 0), (oN 0), (oN 0), (oN 0), (oN 0), (oN 0), (oN 0), (oN 0), (oN 0), (oN 0), (oN 0), (oN 0), (oN 0), (oN 0), (oN 0), (oN 0), (oN 0), (oN 0), (oN 0), (oN 0), (oN 0), (oN 0), (oN 0), (oN 0), (oN 0), (oN 0), (oN 0), (oN 0), (oN 0), (oN 0), (oN 0), (oN 0), (oN 0), (oN 0), (oN 0), (oN 0), (oN 0), (oN 0), (oN 0), (oN 0), (oN 0), (oN 0), (oN 0), (oN 0), (oN 0), (oN 0), (oN 0), (oN 0), (oN 0), (oN 0), (oN 0), (oN 0), (oN 0), (oN 0), (oN 0), (oN 0), (oN 0), (oN 0), (oN 0), (oN 0), (oN 0), (oN 0), (oN 0), (oN 0), (oN 0), (oN 0), (oN 0), (oN 0), (oN 0), (oN 0), (oN 0), (oN 0), (oN 0), (oN 0), (oN 0), (oN 0), (oN 0), (oN 0), (oN 0), (oN 0), (oN 0), (oN 0), (oN 0), (oN 0), (oN 0), (oN 0), (oN 0), (oN 0), (oN 0), (oN 0), (oN 0), (oN 0), (oN 0), (oN 0), (oN 0), (oN 0), (oN 0), (oN 0), (oN 0), (oN 0), (oN 0), (oN 0), (oN 0), (oN 0), (oN 0), (oN 0), (oN 0), (oN 0), (oN 0), (oN 0), (oN 0), (oN 0), (oN 0), (oN 0), (oN 0), (oN 0), (oN 0), (oN 0), (oN 0), (oN 0), (oN 0), (oN 0), (oN 0), (oN 0), (oN 0), (oN 0), (oN 0), (oN 0), (oN 0), (oN 0), (oN 0), (oN 0), (oN 0), (oN 0), (oN 0), (oN 0), (oN 0), (oN 0), (oN 0), (oN 0), (oN 0), (oN 0), (oN 0), (oN 0), (oN 0), (oN 0), (oN 0), (oN 0), (oN 0), (oN 0), (oN 0), (oN 0), (oN 0), (oN 0), (oN 0), (oN 0), (oN 0), (oN 0), (oN 0), (oN 0), (oN 0), (oN 0), (oN 0), (oN 0), (oN 0), (oN 0), (oN 0), (oN 0), (oN 0), (oN 0), (oN 0), (oN 0), (oN 0), (oN 0), (oN 0), (oN 0), (oN 0), (oN 0), (oN 0), (oN 0), (oN 0), (oN 0), (oN 0), (oN 0), (oN 0), (oN 0), (oN 0), (oN 0), (oN 0), (oN 0), (oN 0), (oN 0), (oN 0), (oN 0), (oN 0), (oN 0), (oN 0), (oN 0), (oN 0), (oN 0), (oN 0), (oN 0), (oN 0), (oN 0), (oN 0), (oN 0), (oN 0), (oN 0), (oN 0), (oN 0), (oN 0), (oN 0), (oN 0), (oN 0), (oN 0), (oN 0), (oN 0), (oN 0), (oN 0), (oN 0), (oN 0), (oN 0), (oN 0), (oN 0), (oN 0), (oN 0), (oN 0), (oN 0), (oN 0), (oN 0), (oN 0), (oN 0), (oN 0), (oN 0), (oN 0), (oN 0), (oN 0), (oN 0), (oN 0), (oN 0), (oN 0), (oN 0), (oN 0), (oN 0), (oN 0), (oN 0), (oN 0), (oN 0), (oN 0), (oN 0), (oN 0), (oN 0), (oN 0), (oN 0), (oN 0), (oN 0), (oN 0), (oN 0), (oN 0), (oN 0), (oN 0), (oN 0), (oN 0), (oN 0), (oN 0), (oN 0), (oN 0), (oN 0), (oN 0), (oN 0), (oN 0), (oN 0), (oN 0), (oN 0), (oN 0), (oN 0), (oN 0), (oN 0), (oN 0), (oN 0), (oN 0), (oN 0), (oN 0), (oN 0), (oN 0), (oN 0), (oN 0), (oN 0), (oN 0), (oN 0), (oN 0), (oN 0), (oN 0), (oN 0), (oN 0), (oN 0), (oN 0), (oN 0), (oN 0), (oN 0), (oN 0), (oN 0), (oN 0), (oN 0), (oN 0), (oN 0), (oN 0), (oN 0), (oN 0), (oN 0), (oN 0), (oN 0), (oN 0), (oN 0), (oN 0), (oN 0), (oN 0), (oN 0), (oN 0), (oN 0), (oN 0), (oN 0), (oN 0), (oN 0), (oN 0), (oN 0), (oN 0), (oN 0), (oN 0), (oN 0), (oN 0), (oN 0), (oN 0), (oN 0), (oN 0), (oN 0), (oN 0), (oN 0), (oN 0), (oN 0), (oN 0), (oN 0), (oN 0), (oN 0), (oN 0), (oN 0), (oN 0), (oN 0), (oN 0), (oN 0), (oN 0), (oN 0), (oN 0), (oN 0), (oN 0), (oN 0), (oN 0), (oN 0), (oN 0), (oN 0), (oN 0), (oN 0), (oN 0), (oN 0), (oN 0), (oN 0), (oN 0), (oN 0), (oN 0), (oN 0), (oN 0), (oN 0), (oN 0), (oN 0), (oN 0), (oN 0), (oN 0), (oN 0), (oN 0)], .ints [(oN 0)], .ints [(oN 0)]] (ndAt (ndTollsQ P) 0).items)))
def n_TollsQ_0 (P : Program) : VT := (.branch (.lt (h0 87) (oN 64))
(.branch (.eq (.bits .and .i64 (h0 83) (h0 87)) (h0 87))
(.jump 0 [.keep 16, .keep 17, .keep 18, .keep 19, .keep 20, .lst 85, .ints [(.bits .or .u64 (h0 86) (.wrap .u64 (.shl .u64 (oN 1) (h0 87))))], .ints [(.add (h0 87) (oN 1))]] (ndAt (ndTollsQ P) 0).items)
(.jump 0 [.keep 16, .keep 17, .keep 18, .keep 19, .keep 20, .lst 85, .ints [(h0 86)], .ints [(.add (h0 87) (oN 1))]] (ndAt (ndTollsQ P) 0).items))
(.jump 1 [.keep 16, .keep 17, .keep 18, .keep 19, .keep 20, .lst 85, .ints [(h0 86)], .ints [(oN 0)]] (ndAt (ndTollsQ P) 1).items))
def n_TollsQ_1 (P : Program) : VT := (.branch (.lt (h0 87) (oN 64))
(.obl (oblC cImpQ [.lst 81, .keep 20, .lst 85, .ints [(h0 86)], .keep 16, .ints [(h0 82), (hN 82 1)], .ints [(h0 87)]]) (.both (.asm (asmC (outAt cImpQ.outs 0) [.lst 81, .keep 20, .lst 85, .ints [(h0 86)], .keep 16, .ints [(h0 82), (hN 82 1)], .ints [(h0 87)]]) (.jump 1 [.keep 16, .keep 17, .keep 18, .keep 19, .keep 20, .lst 85, .ints [(h0 86)], .ints [(.add (h0 87) (oN 1))]] (ndAt (ndTollsQ P) 1).items)) (.new (.new (.asm (asmC (outAt cImpQ.outs 1) [.lst 81, .keep 20, .lst 85, .ints [(h0 86)], .keep 16, .ints [(h0 82), (hN 82 1)], .ints [(h0 87)], .keep 24, .keep 25]) (.jump 2 [.keep 16, .keep 17, .keep 18, .keep 19, .keep 20, .lst 88, .ints [(h0 89)], .ints [(.add (h0 87) (oN 1))]] (ndAt (ndTollsQ P) 2).items))))))
(.ret 0 [.keep 16, .keep 17, .keep 18, .keep 19, .keep 20, .lst 85, .ints [(h0 86)]]))
def n_TollsQ_2 (P : Program) : VT := (.branch (.lt (h0 87) (oN 64))
(.obl (oblC cImpQ [.lst 81, .keep 20, .lst 85, .ints [(h0 86)], .keep 16, .ints [(h0 82), (hN 82 1)], .ints [(h0 87)]]) (.both (.asm (asmC (outAt cImpQ.outs 0) [.lst 81, .keep 20, .lst 85, .ints [(h0 86)], .keep 16, .ints [(h0 82), (hN 82 1)], .ints [(h0 87)]]) (.jump 2 [.keep 16, .keep 17, .keep 18, .keep 19, .keep 20, .lst 85, .ints [(h0 86)], .ints [(.add (h0 87) (oN 1))]] (ndAt (ndTollsQ P) 2).items)) (.new (.new (.asm (asmC (outAt cImpQ.outs 1) [.lst 81, .keep 20, .lst 85, .ints [(h0 86)], .keep 16, .ints [(h0 82), (hN 82 1)], .ints [(h0 87)], .keep 24, .keep 25]) (.jump 2 [.keep 16, .keep 17, .keep 18, .keep 19, .keep 20, .lst 88, .ints [(h0 89)], .ints [(.add (h0 87) (oN 1))]] (ndAt (ndTollsQ P) 2).items))))))
(.jump 1 [.keep 16, .keep 17, .keep 18, .keep 19, .keep 20, .lst 85, .ints [(h0 86)], .ints [(oN 0)]] (ndAt (ndTollsQ P) 1).items))
def e_TollsQN (P : Program) : VT := (.new (.new (.jump 0 [.keep 16, .keep 18, .ints [(oN 0), (oN 0), (oN 0), (oN 0), (oN 0), (oN 0), (oN 0), (oN 0), (oN 0), (oN 0), (oN 0), (oN 0), (oN 0), (oN 0), (oN 0), (oN 0), (oN 0), (oN 0), (oN 0), (oN 0), (oN 0), (oN 0), (oN 0), (oN 0), (oN 0), (oN 0), (oN 0), (oN 0), (oN 0), (oN 0), (oN 0), (oN 0), (oN 0), (oN 0), (oN 0), (oN 0), (oN 0), (oN 0), (oN 0), (oN 0), (oN 0), (oN 0), (oN 0), (oN 0), (oN 0), (oN 0), (oN 0), (oN 0), (oN 0), (oN 0), (oN 0), (oN 0), (oN 0), (oN 0), (oN 0), (oN 0), (oN 0), (oN 0), (oN 0), (oN 0), (oN 0), (oN 0), (oN 0), (oN 0), (oN 0), (oN 0), (oN 0), (oN 0), (oN 0), (oN 0), (oN 0), (oN 0), (oN 0), (oN 0), (oN 0), (oN 0), (oN 0), (oN 0), (oN 0), (oN 0), (oN 0), (oN 0), (oN 0), (oN 0), (oN 0), (oN 0), (oN 0), (oN 0), (oN 0), (oN 0), (oN 0), (oN 0), (oN 0), (oN 0), (oN 0), (oN 0), (oN 0), (oN 0), (oN 0), (oN 0), (oN 0), (oN 0), (oN 0), (oN 0), (oN 0), (oN 0), (oN 0), (oN 0), (oN 0), (oN 0), (oN 0), (oN 0), (oN 0), (oN 0), (oN 0), (oN 0), (oN 0), (oN 0), (oN 0), (oN 0), (oN 0), (oN 0), (oN 0), (oN 0), (oN 0), (oN 0), (oN 0), (oN 0), (oN 0), (oN 0), (oN 0), (oN 0), (oN 0), (oN 0), (oN 0), (oN 0), (oN 0), (oN 0), (oN 0), (oN 0), (oN 0), (oN 0), (oN 0), (oN 0), (oN 0), (oN 0), (oN 0), (oN 0), (oN 0), (oN 0), (oN 0), (oN 0), (oN 0), (oN 0), (oN 0), (oN 0), (oN 0), (oN 0), (oN 0), (oN 0), (oN 0), (oN 0), (oN 0), (oN 0), (oN 0), (oN 0), (oN 0), (oN 0), (oN 0), (oN 0), (oN 0), (oN 0), (oN 0), (oN 0), (oN 0), (oN 0), (oN 0), (oN 0), (oN 0), (oN 0), (oN 0), (oN 0), (oN 0), (oN 0), (oN 0), (oN 0), (oN 0), (oN 0), (oN 0), (oN 0), (oN 0), (oN 0), (oN 0), (oN 0), (oN 0), (oN 0), (oN 0), (oN 0), (oN 0), (oN 0), (oN 0), (oN 0), (oN 0), (oN 0), (oN 0), (oN 0), (oN 0), (oN 0), (oN 0), (oN 0), (oN 0), (oN 0), (oN 0), (oN 0), (oN 0), (oN 0), (oN 0), (oN 0), (oN 0), (oN 0), (oN 0), (oN 0), (oN 0), (oN 0), (oN 0), (oN 0), (oN 0), (oN 0), (oN 0), (oN 0), (oN 0), (oN 0), (oN 0), (oN 0), (oN 0), (oN 0), (oN 0), (oN 0), (oN 0), (oN 0), (oN 0), (oN 0), (oN 0), (oN 0), (oN 0), (oN 0), (oN 0), (oN 0), (oN 0), (oN 0), (oN 0), (oN 0), (oN 0), (oN 0), (oN 0), (oN 0), (oN 0), (oN 0), (oN 0), (oN 0), (oN 0), (oN 0), (oN 0), (oN 0), (oN 0), (oN 0), (oN 0), (oN 0), (oN 0), (oN 0), (oN 0), (oN 0), (oN 0), (oN 0), (oN 0), (oN 0), (oN 0), (oN 0), (oN 0), (oN 0), (oN 0), (oN 0), (oN 0), (oN 0), (oN 0), (oN 0), (oN 0), (oN 0), (oN 0), (oN 0), (oN 0), (oN 0), (oN 0), (oN 0), (oN 0), (oN 0), (oN 0), (oN 0), (oN 0), (oN 0), (oN 0), (oN 0), (oN 0), (oN 0), (oN 0), (oN 0), (oN 0), (oN 0), (oN 0), (oN 0), (oN 0), (oN 0), (oN 0), (oN 0), (oN 0), (oN 0), (oN 0), (oN 0), (oN 0), (oN 0), (oN 0), (oN 0), (oN 0), (oN 0), (oN 0), (oN 0), (oN 0), (oN 0), (oN 0), (oN 0), (oN 0), (oN 0), (oN 0), (oN 0), (oN 0), (oN 0), (oN 0), (oN 0), (oN 0), (oN 0), (oN 0), (oN 0), (oN 0), (oN 0), (oN 0), (oN 0), (oN 0), (oN 0), (oN 0), (oN 0), (oN 0), (oN 0), (oN 0), (oN 0), (oN 0), (oN 0), (oN 0), (oN 0), (oN 0), (oN 0), (oN 0), (oN 0), (oN 0), (oN 0), (oN 0), (oN 0), (oN 0), (oN 0), (oN 0), (oN 0), (oN 0), (oN 0), (oN 0), (oN 0), (oN 0), (oN 0), (oN 0), (oN 0), (oN 0), (oN 0), (oN 0), (oN 0), (oN 0), (oN 0), (oN 0), (oN 0), (oN 0), (oN 0), (oN 0), (oN 0), (oN 0), (oN 0), (oN 0), (oN 0), (oN 0), (oN 0), (oN 0), (oN 0), (oN 0), (oN 0), (oN 0), (oN 0), (oN 0), (oN 0), (oN 0), (oN 0), (oN 0), (oN 0), (oN 0), (oN 0), (oN 0), (oN 0), (oN 0), (oN 0), (oN 0), (oN 0), (oN 0), (oN 0), (oN 0), (oN 0), (oN 0), (oN 0), (oN 0), (oN 0), (oN 0), (oN 0), (oN 0), (oN 0), (oN 0), (oN 0), (oN 0), (oN 0), (oN 0), (oN 0), (oN 0), (oN 0), (oN 0), (oN 0), (oN 0), (oN 0), (oN 0), (oN 0), (oN 0), (oN 0), (oN 0), (oN 0), (oN 0), (oN 0), (oN 0), (oN 0), (oN 0), (oN 0), (oN 0), (oN 0), (oN 0), (oN 0), (oN 0), (oN 0), (oN 0), (oN 0), (oN 0), (oN 0), (oN 0), (oN 0), (oN 0), (oN 0), (oN 0), (oN 0), (oN 0), (oN 0), (oN 0), (oN 0), (oN 0), (oN 0), (oN 0), (oN 0), (oN 0), (oN 0), (oN 0), (oN 0), (oN 0), (oN 0), (oN 0), (oN 0), (oN 0), (oN 0), (oN 0), (oN 0), (oN 0), (oN 0), (oN 0), (oN 0), (oN 0), (oN 0), (oN 0), (oN 0), (oN 0), (oN 0), (oN 0), (oN 0), (oN 0), (oN 0), (oN 0), (oN 0), (oN 0), (oN 0), (oN 0), (oN 0), (oN 0), (oN 0), (oN 0), (oN 0)], .ints [(oN 0)], .ints [(oN 0)]] (ndAt (ndTollsQN P) 0).items)))
def n_TollsQN_0 (P : Program) : VT := (.branch (.lt (h0 84) (oN 64))
(.branch (.eq (.bits .and .i64 (h0 80) (h0 84)) (h0 84))
(.jump 0 [.keep 16, .keep 17, .lst 82, .ints [(.bits .or .u64 (h0 83) (.wrap .u64 (.shl .u64 (oN 1) (h0 84))))], .ints [(.add (h0 84) (oN 1))]] (ndAt (ndTollsQN P) 0).items)
(.jump 0 [.keep 16, .keep 17, .lst 82, .ints [(h0 83)], .ints [(.add (h0 84) (oN 1))]] (ndAt (ndTollsQN P) 0).items))
(.jump 1 [.keep 16, .keep 17, .lst 82, .ints [(h0 83)], .ints [(oN 0)]] (ndAt (ndTollsQN P) 1).items))
def n_TollsQN_1 (P : Program) : VT := (.branch (.lt (h0 84) (oN 64))
(.jump 1 [.keep 16, .keep 17, .lst 82, .ints [(h0 83)], .ints [(.add (h0 84) (oN 1))]] (ndAt (ndTollsQN P) 1).items)
(.ret 0 [.keep 16, .keep 17, .lst 82, .ints [(h0 83)]]))
def e_Tz (P : Program) : VT := (.branch (.eq (h0 80) (oN 0))
(.ret 0 [.keep 16, .keep 17, .ints [(oN 64)]])
(.need [(.le (oN 0) (.shr .u64 (.wrap .u64 (.mul (.bits .and .u64 (h0 80) (.wrap .u64 (.sub (oN 0) (h0 80)))) (oN 285870213051353865))) (oN 58))), (.lt (.shr .u64 (.wrap .u64 (.mul (.bits .and .u64 (h0 80) (.wrap .u64 (.sub (oN 0) (h0 80)))) (oN 285870213051353865))) (oN 58)) (oN 64))] (.need [(.le (oN 0) (.shr .u64 (.wrap .u64 (.mul (.bits .and .u64 (h0 80) (.wrap .u64 (.sub (oN 0) (h0 80)))) (oN 285870213051353865))) (oN 58))), (.lt (.shr .u64 (.wrap .u64 (.mul (.bits .and .u64 (h0 80) (.wrap .u64 (.sub (oN 0) (h0 80)))) (oN 285870213051353865))) (oN 58)) (.len 81))] (.ret 0 [.keep 16, .keep 17, .ints [(.wrap .i64 (.nth 81 (.shr .u64 (.wrap .u64 (.mul (.bits .and .u64 (h0 80) (.wrap .u64 (.sub (oN 0) (h0 80)))) (oN 285870213051353865))) (oN 58))))]]))))
def e_Each (P : Program) : VT := (.jump 0 [.keep 16, .keep 17, .keep 18, .keep 19, .keep 20, .ints [(h0 80)]] (ndAt (ndEach P) 0).items)
def n_Each_0 (P : Program) : VT := (.branch (.not (.eq (h0 85) (oN 0)))
(.obl (oblC cTz [.ints [(h0 85)], .lst 84]) (.new (.asm (asmC (outAt cTz.outs 0) [.ints [(h0 85)], .lst 84, .keep 22]) (.new (.new (.jump 1 [.keep 16, .keep 17, .keep 18, .keep 19, .keep 20, .ints [(.bits .and .u64 (h0 85) (.wrap .u64 (.sub (h0 85) (oN 1))))], .keep 24, .ints [(h0 86)]] (ndAt (ndEach P) 1).items))))))
(.ret 0 [.keep 16, .keep 17, .keep 18, .keep 19, .keep 20]))
def n_Each_1 (P : Program) : VT := (.branch (.not (.eq (h0 85) (oN 0)))
(.obl (oblC cTz [.ints [(h0 85)], .lst 84]) (.new (.asm (asmC (outAt cTz.outs 0) [.ints [(h0 85)], .lst 84, .keep 24]) (.new (.new (.asm (appAsm 26 (.whole 87) (.lits [(h0 88)])) (.new (.jump 1 [.keep 16, .keep 17, .keep 18, .keep 19, .keep 20, .ints [(.bits .and .u64 (h0 85) (.wrap .u64 (.sub (h0 85) (oN 1))))], .keep 27, .lst 90] (ndAt (ndEach P) 1).items))))))))
(.ret 1 [.keep 16, .keep 17, .keep 18, .keep 19, .keep 20, .keep 22, .lst 87]))
def e_List (P : Program) : VT := (.new (.new (.new (.obl (oblC cEach [.ints [(h0 80)], .keep 20, .keep 18, .keep 19, .lst 81]) (.both (.asm (asmC (outAt cEach.outs 0) [.ints [(h0 80)], .keep 20, .keep 18, .keep 19, .lst 81]) (.ret 0 [.keep 16, .keep 17])) (.new (.new (.asm (asmC (outAt cEach.outs 1) [.ints [(h0 80)], .keep 20, .keep 18, .keep 19, .lst 81, .keep 21, .keep 22]) (.ret 1 [.keep 16, .keep 17, .keep 21, .lst 86])))))))))
def e_Hop (P : Program) : VT := (.new (.branch (.not (.eq (.bits .andNot .i64 (h0 83) (oN 63)) (oN 0)))
(.new (.obl (oblC cAt1 [.keep 16, .lst 81, .ints [(h0 82), (hN 82 1)], .keep 22, .ints [(oN 1)]]) (.new (.new (.asm (asmC (outAt cAt1.outs 0) [.keep 16, .lst 81, .ints [(h0 82), (hN 82 1)], .keep 22, .ints [(oN 1)], .keep 23, .keep 24]) (.new (.obl (oblC cTollsQ [.keep 23, .lst 88, .ints [(.quo (.len 88) (oN 6)), (.add (.quo (.len 88) (oN 6)) (.room 23 6))], .ints [(h0 83)]]) (.new (.new (.new (.asm (asmC (outAt cTollsQ.outs 0) [.keep 23, .lst 88, .ints [(.quo (.len 88) (oN 6)), (.add (.quo (.len 88) (oN 6)) (.room 23 6))], .ints [(h0 83)], .keep 26, .keep 27, .keep 28]) (.obl (oblC cList [.ints [(.bits .xor .u64 (oN 18446744073709551615) (h0 92))], .lst 84]) (.both (.asm (asmC (outAt cList.outs 0) [.ints [(.bits .xor .u64 (oN 18446744073709551615) (h0 92))], .lst 84]) (.ret 0 [.keep 16, .keep 17, .keep 18, .keep 19, .keep 20])) (.new (.new (.asm (asmC (outAt cList.outs 1) [.ints [(.bits .xor .u64 (oN 18446744073709551615) (h0 92))], .lst 84, .keep 29, .keep 30]) (.ret 1 [.keep 16, .keep 17, .keep 18, .keep 19, .keep 20, .keep 29, .lst 94])))))))))))))))))
(.new (.obl (oblC cAt1 [.keep 16, .lst 81, .ints [(h0 82), (hN 82 1)], .keep 22, .ints [(oN 0)]]) (.new (.new (.asm (asmC (outAt cAt1.outs 0) [.keep 16, .lst 81, .ints [(h0 82), (hN 82 1)], .keep 22, .ints [(oN 0)], .keep 23, .keep 24]) (.new (.obl (oblC cTollsQ [.keep 23, .lst 88, .ints [(.quo (.len 88) (oN 6)), (.add (.quo (.len 88) (oN 6)) (.room 23 6))], .ints [(h0 83)]]) (.new (.new (.new (.asm (asmC (outAt cTollsQ.outs 0) [.keep 23, .lst 88, .ints [(.quo (.len 88) (oN 6)), (.add (.quo (.len 88) (oN 6)) (.room 23 6))], .ints [(h0 83)], .keep 26, .keep 27, .keep 28]) (.obl (oblC cList [.ints [(.bits .xor .u64 (oN 18446744073709551615) (h0 92))], .lst 84]) (.both (.asm (asmC (outAt cList.outs 0) [.ints [(.bits .xor .u64 (oN 18446744073709551615) (h0 92))], .lst 84]) (.ret 0 [.keep 16, .keep 17, .keep 18, .keep 19, .keep 20])) (.new (.new (.asm (asmC (outAt cList.outs 1) [.ints [(.bits .xor .u64 (oN 18446744073709551615) (h0 92))], .lst 84, .keep 29, .keep 30]) (.ret 1 [.keep 16, .keep 17, .keep 18, .keep 19, .keep 20, .keep 29, .lst 94])))))))))))))))))))
def e_HopN (P : Program) : VT := (.new (.branch (.not (.eq (.bits .andNot .i64 (h0 80) (oN 63)) (oN 0)))
 (.new (.new
(.bad 1)))
 (.new (.new (.new (.obl (oblC cTollsQN [.ints [(h0 80)]]) (.new (.new (.new (.asm (asmC (outAt cTollsQN.outs 0) [.ints [(h0 80)], .keep 22, .keep 23, .keep 24]) (.obl (oblC cList [.ints [(.bits .xor .u64 (oN 18446744073709551615) (h0 88))], .lst 81]) (.both (.asm (asmC (outAt cList.outs 0) [.ints [(.bits .xor .u64 (oN 18446744073709551615) (h0 88))], .lst 81]) (.ret 0 [.keep 16, .keep 17])) (.new (.new (.asm (asmC (outAt cList.outs 1) [.ints [(.bits .xor .u64 (oN 18446744073709551615) (h0 88))], .lst 81, .keep 25, .keep 26]) (.ret 1 [.keep 16, .keep 17, .keep 25, .lst 90]))))))))))))))))
end Ft
set_option linter.unusedVariables false
set_option linter.unusedSimpArgs false
open Go Mv Mw
namespace Ft
theorem bits_le (C : Int) : (bitsL C).length ≤ 64 := by
 unfold bitsL
 rw [List.length_map]
 exact Nat.le_trans (List.length_filter_le _ _) (by simp)
theorem tz_ok {x : Int} (h0 : 0 < x) (h1 : x < 2 ^ 64) : (0 ≤ tzIx (bitsOf .and .u64 x (IntKind.u64.wrap (0 - x))) ∧ tzIx (bitsOf .and .u64 x (IntKind.u64.wrap (0 - x))) < 64) ∧ LowB x (tab64'.getD (tzIx (bitsOf .and .u64 x (IntKind.u64.wrap (0 - x)))).toNat 0) := by
 obtain ⟨k, hk, e, h2, h3, ⟨h4, h5⟩, h6⟩ := low_all h0 h1
 rw [e]
 obtain ⟨a, b, c⟩ := tz_tab ⟨k, hk⟩
 simp only at a b c
 rw [c]
 exact ⟨⟨a, b⟩, ⟨Int.natCast_nonneg _, by omega⟩, ⟨h4, by omega⟩, h5, bits_low h2 hk h3 h6⟩
theorem u64_xor {x y : Nat} (hx : x < 2 ^ 64) (hy : y < 2 ^ 64) : bitsOf .xor .u64 (x : Int) (y : Int) = ((x ^^^ y : Nat) : Int) := by
 have h : x ^^^ y < 2 ^ 64 := Nat.xor_lt_two_pow hx hy
 show IntKind.u64.wrap (((BitVec.ofInt 64 (x : Int)) ^^^ (BitVec.ofInt 64 (y : Int))).toNat : Int) = _
 rw [ofInt_nat, ofInt_nat, BitVec.toNat_xor, BitVec.toNat_ofNat, BitVec.toNat_ofNat, Nat.mod_eq_of_lt hx, Nat.mod_eq_of_lt hy]
 exact wrapu64_fit (by omega) (by omega)
theorem inv_ok {C : Int} (h : 0 ≤ C ∧ C < 2 ^ 64) : (0 ≤ bitsOf .xor .u64 18446744073709551615 C ∧ bitsOf .xor .u64 18446744073709551615 C < 2 ^ 64) ∧ bitsL (bitsOf .xor .u64 18446744073709551615 C) = hopL C := by
 obtain ⟨c, rfl⟩ := nat_of h.1
 have hc : c < 2 ^ 64 := by omega
 have e : bitsOf .xor .u64 18446744073709551615 (c : Int) = ((18446744073709551615 ^^^ c : Nat) : Int) := u64_xor (x := 18446744073709551615) (by decide) hc
 have hx : 18446744073709551615 ^^^ c < 2 ^ 64 := Nat.xor_lt_two_pow (by decide) hc
 rw [e]
 refine ⟨⟨Int.natCast_nonneg _, by omega⟩, bits_inv fun i hi => ?_⟩
 rw [hasU_nat hx hi, hasU_nat hc hi, Nat.testBit_xor, show (18446744073709551615 : Nat) = 2 ^ 64 - 1 from rfl, Nat.testBit_two_pow_sub_one]
 simp [hi]
theorem v_Tz (P : Program) (ρ : Env) (hv : vals ρ) (hΓ : Γ0.On ρ) (hl : ρ.k.length = 18) (hp : cTz.pre ρ) : VC cTz (ndTz P) none ρ (e_Tz P) := by
 simp only [VC, oblC, asmC, appAsm, outAt, ndAt, allTrue, ve, BE.den, LX.den, nv, li, rowP, tT, e_Tz, cTz] at hp ⊢
 simp only [vb, bdList, hl, IE.den, forall_eq', implies_true, reduceIte, reduceCtorEq, Nat.reduceAdd, Nat.reduceSub, Nat.reduceLeDiff, Nat.reduceLT, Nat.reduceEqDiff] at hp ⊢
 obtain ⟨p1, p2, p3⟩ := hp
 generalize (ρ.list 80).getD 0 0 = x at *
 rw [p3]
 obtain ⟨⟨a, b⟩, c⟩ := tz_ok p1 p2
 have e : ∀ y, (IntKind.u64.wrap (y * 285870213051353865)).fdiv (2 ^ (Int.toNat 58).min 64) = tzIx y := fun y => rfl
 have hlen : ((tab64'.length : Nat) : Int) = 64 := rfl
 rw [e, hlen, wrap64_fit (by have := c.1; omega) (by have := c.1; omega)]
 exact ⟨fun h => by omega, fun _ => ⟨⟨a, b⟩, ⟨a, b⟩, c⟩⟩
theorem v_Each (P : Program) (ρ : Env) (hv : vals ρ) (hΓ : Γ0.On ρ) (hl : ρ.k.length = 21) (hp : cEach.pre ρ) : VC cEach (ndEach P) none ρ (e_Each P) := by
 simp only [VC, oblC, asmC, appAsm, outAt, ndAt, allTrue, ve, BE.den, LX.den, nv, li, rowP, tT, e_Each, ndEach, cEach, cEachP, u64R] at hp ⊢
 simp only [vb, bdList, hl, IE.den, forall_eq', implies_true, reduceIte, reduceCtorEq, Nat.reduceAdd, Nat.reduceSub, Nat.reduceLeDiff, Nat.reduceLT, Nat.reduceEqDiff] at hp ⊢
 exact ⟨hp.2, hp.1⟩
theorem v_Each_0 (P : Program) (ρ : Env) (hv : vals ρ) (hΓ : Γ0.On ρ) (hl : ρ.k.length = 22) (hp : (ndAt (ndEach P) 0).inv ρ) : VC cEach (ndEach P) (some ((ndAt (ndEach P) 0).mu ρ)) ρ (n_Each_0 P) := by
 simp only [VC, oblC, asmC, appAsm, outAt, ndAt, allTrue, ve, BE.den, LX.den, nv, li, rowP, tT, n_Each_0, ndEach, cEach, cEachP, cTz, u64R, LowB] at hp ⊢
 simp only [vb, bdList, hl, IE.den, forall_eq', implies_true, reduceIte, reduceCtorEq, Nat.reduceAdd, Nat.reduceSub, Nat.reduceLeDiff, Nat.reduceLT, Nat.reduceEqDiff] at hp ⊢
 obtain ⟨p1, p2, p3⟩ := hp
 refine ⟨fun h => ⟨⟨by omega, p2.2, p1⟩, ?_⟩, fun h => by rw [← p3, h]; exact bits_zero⟩
 rintro _ r ⟨q1, q2, q3, q4⟩ _ _ _ _
 exact ⟨⟨p1, q2, by rw [← p3, q4]; rfl, by simp⟩, by omega⟩
theorem v_Each_1 (P : Program) (ρ : Env) (hv : vals ρ) (hΓ : Γ0.On ρ) (hl : ρ.k.length = 24) (hp : (ndAt (ndEach P) 1).inv ρ) : VC cEach (ndEach P) (some ((ndAt (ndEach P) 1).mu ρ)) ρ (n_Each_1 P) := by
 simp only [VC, oblC, asmC, appAsm, outAt, ndAt, allTrue, ve, BE.den, LX.den, nv, li, rowP, tT, n_Each_1, ndEach, cEach, cEachP, cTz, u64R, LowB] at hp ⊢
 simp only [vb, bdList, hl, IE.den, forall_eq', implies_true, reduceIte, reduceCtorEq, Nat.reduceAdd, Nat.reduceSub, Nat.reduceLeDiff, Nat.reduceLT, Nat.reduceEqDiff] at hp ⊢
 obtain ⟨p1, p2, p3, p4⟩ := hp
 refine ⟨fun h => ⟨⟨by omega, p2.2, p1⟩, ?_⟩, fun h => ?_⟩
 ·rintro _ r ⟨q1, q2, q3, q4⟩ _ _ _ r2 h2 _ _
  refine ⟨⟨p1, q2, ?_, by rw [h2]; simp⟩, by omega⟩
  rw [h2, ← p3, q4, List.append_assoc]; rfl
 ·rw [h, bits_zero, List.append_nil] at p3
  have := bits_le ((ρ.list 80).getD 0 0)
  rw [← p3] at this
  exact ⟨p3, p4, this⟩
theorem v_List (P : Program) (ρ : Env) (hv : vals ρ) (hΓ : Γ0.On ρ) (hl : ρ.k.length = 18) (hp : cList.pre ρ) : VC cList (ndList P) none ρ (e_List P) := by
 simp only [VC, oblC, asmC, appAsm, outAt, ndAt, allTrue, ve, BE.den, LX.den, nv, li, rowP, tT, e_List, cList, cEach, cEachP, u64R] at hp ⊢
 simp only [vb, bdList, hl, IE.den, forall_eq', implies_true, reduceIte, reduceCtorEq, Nat.reduceAdd, Nat.reduceSub, Nat.reduceLeDiff, Nat.reduceLT, Nat.reduceEqDiff] at hp ⊢
 exact fun _ _ _ _ _ _ => ⟨hp, fun h => h, fun _ _ _ _ h => h⟩
theorem v_Hop (P : Program) (ρ : Env) (hv : vals ρ) (hΓ : Γ0.On ρ) (hl : ρ.k.length = 21) (hp : cHop.pre ρ) : VC cHop (ndHop P) none ρ (e_Hop P) := by
 simp only [VC, oblC, asmC, appAsm, outAt, ndAt, allTrue, ve, BE.den, LX.den, nv, li, rowP, tT, e_Hop, cHop, mel, cAt1, cTollsQ, cList, pA, pTlQ, nT, nL, u64R] at hp ⊢
 simp only [vb, bdList, hl, IE.den, forall_eq', implies_true, reduceIte, reduceCtorEq, Nat.reduceAdd, Nat.reduceSub, Nat.reduceLeDiff, Nat.reduceLT, Nat.reduceEqDiff] at hp ⊢
 obtain ⟨⟨n0, hag⟩, p0, ht⟩ := hp
 have h1 := andNot63 p0.1 (show (ρ.list 83).getD 0 0 < 2 ^ 6 by omega)
 generalize (ρ.list 83).getD 0 0 = pass at *
 generalize ρ.list 81 = L at *
 generalize (ρ.list 82).getD 0 0 = N at *
 obtain ⟨n, rfl⟩ : ∃ k : Nat, N = k := nat_of (by omega)
 simp only [Int.toNat_natCast] at *
 have hB := (bench_ok hag).w
 refine fun _ _ => ⟨fun h => absurd h1 h, fun _ _ _ => ⟨⟨n0, hag⟩, ?_⟩⟩
 rintro _ _ _ r ⟨-, q1, q2⟩ _ _
 have hd := len_tdiv6 (L := List.map intOf r) (c := (n : Int)) (by omega) q2
 rw [hd, q1, Int.toNat_natCast]
 refine ⟨⟨n0, hB, p0⟩, ?_⟩
 intro _ _ _ r3 _ r4 hdn
 generalize (List.map intOf r4).getD 0 0 = C at *
 have hcl := hdn.cl hB
 obtain ⟨i1, i2⟩ := inv_ok hcl.1
 rw [i2]
 exact ⟨⟨i1, ht⟩, fun h => ⟨C, hcl, h.symm⟩, fun _ _ _ r h => ⟨⟨C, hcl, h.1⟩, h.2⟩⟩
theorem v_HopN (P : Program) (ρ : Env) (hv : vals ρ) (hΓ : Γ0.On ρ) (hl : ρ.k.length = 18) (hp : cHopN.pre ρ) : VC cHopN (ndHopN P) none ρ (e_HopN P) := by
 simp only [VC, oblC, asmC, appAsm, outAt, ndAt, allTrue, ve, BE.den, LX.den, nv, li, rowP, tT, e_HopN, cHopN, mel, cTollsQN, cList, noT, u64R] at hp ⊢
 simp only [vb, bdList, hl, IE.den, forall_eq', implies_true, reduceIte, reduceCtorEq, Nat.reduceAdd, Nat.reduceSub, Nat.reduceLeDiff, Nat.reduceLT, Nat.reduceEqDiff] at hp ⊢
 obtain ⟨p0, ht⟩ := hp
 have h1 := andNot63 p0.1 (show (ρ.list 80).getD 0 0 < 2 ^ 6 by omega)
 generalize (ρ.list 80).getD 0 0 = pass at *
 refine fun _ _ => ⟨fun h => absurd h1 h, fun _ _ _ _ _ _ _ => ⟨p0, ?_⟩⟩
 rintro _ r _ _ _ r1 ⟨z, c, hh⟩
 generalize (List.map intOf r1).getD 0 0 = C at *
 obtain ⟨i1, i2⟩ := inv_ok c
 have hn := hop_none c hh
 rw [i2]
 exact ⟨⟨i1, ht⟩, fun h => by rw [← h]; exact hn, fun _ _ _ r h => ⟨by rw [h.1]; exact hn, h.2⟩⟩
end Ft
set_option linter.unusedVariables false
set_option linter.unusedSimpArgs false
set_option maxRecDepth 8000
open Go Mv Mw
namespace Ft
theorem full_same {L : List Int} {n : Nat} {p : Int} {js : List Nat} (hj : inN n js = true) (hl : js.length = n) (hi : ∀ i, i < n → js.getD i 0 = i) : SameJ L n p js := fun m hm => by
 have e : ∀ i, i < n → ∀ k, k < 5 → fld (benchL (sub5 L js) js.length) i k = fld (benchL L n) i k := fun i h k hk => by
  have := fld_sub5 (L := L) (js := js) (n := n) (i := i) (k := k) (by omega) (by rw [hi i h]; exact h) hk
  rw [hi i h] at this
  exact this
 unfold WyJ
 constructor
 ·rintro ⟨c, h⟩
  exact ⟨c, h.more (by omega) (fun i h => ⟨(e i (by omega) 0 (by omega)).symm, (e i (by omega) 1 (by omega)).symm, (e i (by omega) 2 (by omega)).symm, (e i (by omega) 3 (by omega)).symm, (e i (by omega) 4 (by omega)).symm⟩) fun _ _ h => h⟩
 ·rintro ⟨c, h⟩
  exact ⟨c, h.more (by omega) (fun i h => ⟨e i h 0 (by omega), e i h 1 (by omega), e i h 2 (by omega), e i h 3 (by omega), e i h 4 (by omega)⟩) fun _ _ h => h⟩
theorem num_at {L : List Int} {n : Nat} (h : agsV L n) (j : Nat) (hj : j < n) : (benchL L n).getD (6 * j + 5) 0 = j := ((bench_ok h).rng j hj).2.2.2.2.2
theorem NoneTo.zero {L : List Int} {n : Nat} {p : Int} : NoneTo L n p 0 := fun s hs => absurd hs (Nat.not_lt_zero _)
theorem v_ChkF (P : Program) (ρ : Env) (hv : vals ρ) (hΓ : Γ0.On ρ) (hl : ρ.k.length = 18) (hp : cChkF.pre ρ) : VC cChkF (ndChkF P) none ρ (e_ChkF P) := by
 simp only [VC, oblC, asmC, appAsm, outAt, ndAt, allTrue, ve, BE.den, LX.den, nv, li, rowP, tT, e_ChkF, cChkF, mel] at hp ⊢
 simp only [vb, bdList, hl, IE.den, forall_eq', implies_true, reduceIte, reduceCtorEq, Nat.reduceAdd, Nat.reduceSub, Nat.reduceLeDiff, Nat.reduceLT, Nat.reduceEqDiff] at hp ⊢
 exact fun h => absurd (andNot63 hp.1 (show (ρ.list 81).getD 0 0 < 2 ^ 6 by omega)) h
theorem v_FewN (P : Program) (ρ : Env) (hv : vals ρ) (hΓ : Γ0.On ρ) (hl : ρ.k.length = 17) (hp : cFewN.pre ρ) : VC cFewN (ndFewN P) none ρ (e_FewN P) := by
 simp only [VC, oblC, asmC, appAsm, outAt, ndAt, allTrue, ve, BE.den, LX.den, nv, li, rowP, tT, e_FewN, cFewN, mel, cChkF, cTollsQN, noT] at hp ⊢
 simp only [vb, bdList, hl, IE.den, forall_eq', implies_true, reduceIte, reduceCtorEq, Nat.reduceAdd, Nat.reduceSub, Nat.reduceLeDiff, Nat.reduceLT, Nat.reduceEqDiff] at hp ⊢
 intros
 refine ⟨hp, fun _ => ?_⟩
 intros
 refine ⟨hp, ?_⟩
 intros
 exact hp
theorem v_Few1 (P : Program) (ρ : Env) (hv : vals ρ) (hΓ : Γ0.On ρ) (hl : ρ.k.length = 20) (hp : cFew1.pre ρ) : VC cFew1 (ndFew1 P) none ρ (e_Few1 P) := by
 simp only [VC, oblC, asmC, appAsm, outAt, ndAt, allTrue, ve, BE.den, LX.den, nv, li, rowP, tT, e_Few1, cFew1, cFew, mel, cChkF, cAtL1, cAtL, cAt1, atO, pA, cTollsQ, cTollsQN, noT, pTlQ, nT] at hp ⊢
 simp only [vb, bdList, hl, IE.den, forall_eq', implies_true, reduceIte, reduceCtorEq, Nat.reduceAdd, Nat.reduceSub, Nat.reduceLeDiff, Nat.reduceLT, Nat.reduceEqDiff] at hp ⊢
 obtain ⟨hag, p0⟩ := hp
 generalize (ρ.list 83).getD 0 0 = p at *
 generalize ρ.list 81 = L at *
 intros
 refine ⟨p0, fun _ => ?_⟩
 intros
 refine ⟨⟨by decide, hag⟩, ?_⟩
 rintro _ _ _ r ⟨hB, -⟩
 rw [hB]
 have hBw := (bench_ok hag).w
 have f := num_at hag
 have f0 : (benchL L 1).getD 5 0 = 0 := f 0 (by decide)
 intros
 refine ⟨⟨by decide, hBw, p0⟩, ?_⟩
 rintro _ _ _ rT _ rC hD
 have hC := hD.cl hBw
 generalize (List.map intOf rC).getD 0 0 = C at *
 intros
 refine ⟨p0, ?_⟩
 rintro _ _ _ rT0 _ rC0 ⟨-, h0, hh⟩
 have e0 := none_eq hC h0 hh
 refine ⟨fun h => ⟨0, by decide, .zero, e0.1 h, rfl⟩, fun h => ?_⟩
 have N1 := NoneTo.zero.succ (t := 0) (fun hs => h (e0.2 hs))
 intros
 refine ⟨⟨by decide, bench_sub (js := [0]) hag (by decide), p0⟩, ?_⟩
 rintro _ _ _ rT1 _ rC1 hD1
 have e1 := set_eq (js := [0]) hag (by decide) hC hD1
 refine ⟨fun h => ?_, fun h => ?_⟩
 ·intros
  exact ⟨⟨1, by decide, N1, e1.1 h, by simp only [f0]; rfl⟩, by simp, by simp⟩
 ·intros
  exact (h (e1.2 (full_same (by decide) rfl (by decide)))).elim
theorem v_Few2 (P : Program) (ρ : Env) (hv : vals ρ) (hΓ : Γ0.On ρ) (hl : ρ.k.length = 20) (hp : cFew2.pre ρ) : VC cFew2 (ndFew2 P) none ρ (e_Few2 P) := by
 simp only [VC, oblC, asmC, appAsm, outAt, ndAt, allTrue, ve, BE.den, LX.den, nv, li, rowP, tT, e_Few2, cFew2, cFew, mel, cChkF, cAtL2, cAtL, cAt1, atO, pA, cTollsQ, cTollsQN, noT, pTlQ, nT] at hp ⊢
 simp only [vb, bdList, hl, IE.den, forall_eq', implies_true, reduceIte, reduceCtorEq, Nat.reduceAdd, Nat.reduceSub, Nat.reduceLeDiff, Nat.reduceLT, Nat.reduceEqDiff] at hp ⊢
 obtain ⟨hag, p0⟩ := hp
 generalize (ρ.list 83).getD 0 0 = p at *
 generalize ρ.list 81 = L at *
 intros
 refine ⟨p0, fun _ => ?_⟩
 intros
 refine ⟨⟨by decide, hag⟩, ?_⟩
 rintro _ _ _ r ⟨hB, -⟩
 rw [hB]
 have hBw := (bench_ok hag).w
 have f := num_at hag
 have f0 : (benchL L 2).getD 5 0 = 0 := f 0 (by decide)
 have f1 : (benchL L 2).getD 11 0 = 1 := f 1 (by decide)
 intros
 refine ⟨⟨by decide, hBw, p0⟩, ?_⟩
 rintro _ _ _ rT _ rC hD
 have hC := hD.cl hBw
 generalize (List.map intOf rC).getD 0 0 = C at *
 intros
 refine ⟨p0, ?_⟩
 rintro _ _ _ rT0 _ rC0 ⟨-, h0, hh⟩
 have e0 := none_eq hC h0 hh
 refine ⟨fun h => ⟨0, by decide, .zero, e0.1 h, rfl⟩, fun h => ?_⟩
 have N1 := NoneTo.zero.succ (t := 0) (fun hs => h (e0.2 hs))
 intros
 refine ⟨⟨by decide, bench_sub (js := [0]) hag (by decide), p0⟩, ?_⟩
 rintro _ _ _ rT1 _ rC1 hD1
 have e1 := set_eq (js := [0]) hag (by decide) hC hD1
 refine ⟨fun h => ?_, fun h => ?_⟩
 ·intros
  exact ⟨⟨1, by decide, N1, e1.1 h, by simp only [f0]; rfl⟩, by simp, by simp⟩
 have N2 := N1.succ (t := 1) (fun hs => h (e1.2 hs))
 intros
 refine ⟨⟨by decide, bench_sub (js := [1]) hag (by decide), p0⟩, ?_⟩
 rintro _ _ _ rT2 _ rC2 hD2
 have e2 := set_eq (js := [1]) hag (by decide) hC hD2
 refine ⟨fun h => ?_, fun h => ?_⟩
 ·intros
  exact ⟨⟨2, by decide, N2, e2.1 h, by simp only [f1]; rfl⟩, by simp, by simp⟩
 have N3 := N2.succ (t := 2) (fun hs => h (e2.2 hs))
 intros
 refine ⟨⟨by decide, bench_sub (js := [0, 1]) hag (by decide), p0⟩, ?_⟩
 rintro _ _ _ rT3 _ rC3 hD3
 have e3 := set_eq (js := [0, 1]) hag (by decide) hC hD3
 refine ⟨fun h => ?_, fun h => ?_⟩
 ·intros
  exact ⟨⟨3, by decide, N3, e3.1 h, by simp only [f0, f1]; rfl⟩, by simp, by simp⟩
 ·intros
  exact (h (e3.2 (full_same (by decide) rfl (by decide)))).elim
end Ft
set_option linter.unusedVariables false
set_option linter.unusedSimpArgs false
set_option maxRecDepth 20000
open Go Mv Mw
namespace Ft
structure FewF (L : List Int) (n : Nat) (p C : Int) (ρ : Env) : Prop where
 b : ρ.list 87 = benchL L n
 a : ρ.list 81 = L
 p : (ρ.list 83).getD 0 0 = p
 c : (ρ.list 93).getD 0 0 = C
 l : 30 ≤ ρ.k.length
theorem FewF.ext {L : List Int} {n : Nat} {p C : Int} {ρ ρ' : Env} (h : FewF L n p C ρ) (x : Ext ρ ρ') : FewF L n p C ρ' := by
 have := h.l
 have := x.len
 exact ⟨(list_at x (by omega) (by omega)).trans h.b, (list_at x (by omega) (by omega)).trans h.a, by rw [list_at x (by omega) (by omega)]; exact h.p, by rw [list_at x (by omega) (by omega)]; exact h.c, by omega⟩
theorem v_Few3 (P : Program) (ρ : Env) (hv : vals ρ) (hΓ : Γ0.On ρ) (hl : ρ.k.length = 20) (hp : cFew3.pre ρ) : VC cFew3 (ndFew3 P) none ρ (e_Few3 P) := by
 unfold e_Few3
 have hp' : agsV (ρ.list 81) 3 ∧ 0 ≤ (ρ.list 83).getD 0 0 ∧ (ρ.list 83).getD 0 0 ≤ 63 := hp
 obtain ⟨hag, p0⟩ := hp'
 generalize hpp : (ρ.list 83).getD 0 0 = p at *
 generalize hL : ρ.list 81 = L at *
 refine vc_news 1 fun ρ1 x l => ?_
 replace hl : ρ1.k.length = 21 := by rw [l, hl]
 have g81 : ρ1.list 81 = L := (list_at x (by omega) (by omega)).trans hL
 have g83 : (ρ1.list 83).getD 0 0 = p := by rw [list_at x (by omega) (by omega)]; exact hpp
 refine ⟨by simp only [oblC, cChkF, mel, nv, hl, envB_list_if, bdList, vn, IE.den, reduceIte, Nat.reduceAdd, Nat.reduceSub, Nat.reduceLeDiff, Nat.reduceLT, Nat.reduceEqDiff]; rw [g83]; exact p0, fun _ => ?_⟩
 refine vc_news 1 fun ρ2 x l => ?_
 replace hl : ρ2.k.length = 22 := by rw [l, hl]
 replace g81 : ρ2.list 81 = L := (list_at x (by omega) (by omega)).trans g81
 replace g83 : (ρ2.list 83).getD 0 0 = p := by rw [list_at x (by omega) (by omega)]; exact g83
 refine ⟨by simp only [oblC, cAtL3, cAtL, cAt1, pA, nv, li, hl, envB_list_if, bdList, vn, IE.den, reduceIte, Nat.reduceAdd, Nat.reduceSub, Nat.reduceLeDiff, Nat.reduceLT, Nat.reduceEqDiff, g81]; exact ⟨⟨⟨by decide, hag⟩, trivial⟩, trivial⟩, ?_⟩
 refine vc_news 2 fun ρ3 x l => ?_
 replace hl : ρ3.k.length = 24 := by rw [l, hl]
 replace g83 : (ρ3.list 83).getD 0 0 = p := by rw [list_at x (by omega) (by omega)]; exact g83
 replace g81 : ρ3.list 81 = L := (list_at x (by omega) (by omega)).trans g81
 intro hA
 simp only [asmC, outAt, cAtL3, cAtL, atO, li, hl, envB_list_if, bdList, vn, IE.den, reduceIte, Nat.reduceAdd, Nat.reduceSub, Nat.reduceLeDiff, Nat.reduceLT, Nat.reduceEqDiff, g81] at hA
 have g87 := hA.1
 refine vc_news 3 fun ρ4 x l => ?_
 replace hl : ρ4.k.length = 27 := by rw [l, hl]
 replace g83 : (ρ4.list 83).getD 0 0 = p := by rw [list_at x (by omega) (by omega)]; exact g83
 replace g87 := (list_at x (by omega) (by omega)).trans g87
 replace g81 : ρ4.list 81 = L := (list_at x (by omega) (by omega)).trans g81
 have hBw := (bench_ok hag).w
 refine ⟨by simp only [oblC, cTollsQ, pTlQ, nT, mel, nv, li, hl, envB_list_if, bdList, vn, IE.den, reduceIte, Nat.reduceAdd, Nat.reduceSub, Nat.reduceLeDiff, Nat.reduceLT, Nat.reduceEqDiff, g83, g87]; exact ⟨by decide, hBw, p0⟩, ?_⟩
 refine vc_news 3 fun ρ5 x l => ?_
 replace hl : ρ5.k.length = 30 := by rw [l, hl]
 replace g83 : (ρ5.list 83).getD 0 0 = p := by rw [list_at x (by omega) (by omega)]; exact g83
 replace g87 := (list_at x (by omega) (by omega)).trans g87
 replace g81 : ρ5.list 81 = L := (list_at x (by omega) (by omega)).trans g81
 intro hD
 simp only [asmC, outAt, cTollsQ, nT, nv, li, hl, envB_list_if, bdList, vn, IE.den, reduceIte, Nat.reduceAdd, Nat.reduceSub, Nat.reduceLeDiff, Nat.reduceLT, Nat.reduceEqDiff, g83, g87] at hD
 have hC := hD.cl hBw
 obtain ⟨C, hCC⟩ : ∃ C, C = (ρ5.list 93).getD 0 0 := ⟨_, rfl⟩
 rw [← hCC] at hC
 have F : FewF L 3 p C ρ5 := ⟨g87, g81, g83, hCC.symm, by omega⟩
 have f := num_at hag
 have f0 : (benchL L 3).getD 5 0 = 0 := f 0 (by decide)
 have f1 : (benchL L 3).getD 11 0 = 1 := f 1 (by decide)
 have f2 : (benchL L 3).getD 17 0 = 2 := f 2 (by decide)
 refine vc_news 7 fun ρ6 x l => ?_
 replace hl : ρ6.k.length = 37 := by rw [l, hl]
 replace F := F.ext x
 refine ⟨by simp only [oblC, cTollsQN, mel, nv, li, hl, envB_list_if, bdList, vn, IE.den, reduceIte, Nat.reduceAdd, Nat.reduceSub, Nat.reduceLeDiff, Nat.reduceLT, Nat.reduceEqDiff, F.p]; exact p0, ?_⟩
 refine vc_news 3 fun ρ7 x l => ?_
 replace hl : ρ7.k.length = 40 := by rw [l, hl]
 replace F := F.ext x
 intro hD
 simp only [asmC, outAt, cTollsQN, noT, nv, li, hl, envB_list_if, bdList, vn, IE.den, reduceIte, Nat.reduceAdd, Nat.reduceSub, Nat.reduceLeDiff, Nat.reduceLT, Nat.reduceEqDiff, F.p] at hD
 have e := none_eq hC hD.2.1 hD.2.2
 refine ⟨fun h => ?_, fun h => ?_⟩
 ·replace h := of_decide_eq_true h
  simp only [h0_den] at h
  rw [F.c] at h
  show GotL _ _ _ _
  simp only [nv, li, hl, envB_list_if, bdList, vn, IE.den, reduceIte, Nat.reduceAdd, Nat.reduceSub, Nat.reduceLeDiff, Nat.reduceLT, Nat.reduceEqDiff, F.p, F.a]
  skip
  exact ⟨0, by decide, .zero, e.1 h, rfl⟩
 replace h := of_decide_eq_false h
 simp only [h0_den] at h
 rw [F.c] at h
 have N := NoneTo.zero.succ (t := 0) (fun hs => h (e.2 hs))
 refine vc_news 5 fun ρ8 x l => ?_
 replace hl : ρ8.k.length = 45 := by rw [l, hl]
 replace F := F.ext x
 refine ⟨by simp only [oblC, cTollsQ, pTlQ, nT, mel, nv, li, hl, envB_list_if, bdList, vn, IE.den, reduceIte, Nat.reduceAdd, Nat.reduceSub, Nat.reduceLeDiff, Nat.reduceLT, Nat.reduceEqDiff, F.p, F.b]; exact ⟨by decide, bench_sub (js := [0]) hag (by decide), p0⟩, ?_⟩
 refine vc_news 3 fun ρ9 x l => ?_
 replace hl : ρ9.k.length = 48 := by rw [l, hl]
 replace F := F.ext x
 intro hD
 simp only [asmC, outAt, cTollsQ, nT, nv, li, hl, envB_list_if, bdList, vn, IE.den, reduceIte, Nat.reduceAdd, Nat.reduceSub, Nat.reduceLeDiff, Nat.reduceLT, Nat.reduceEqDiff, F.p, F.b] at hD
 have e := set_eq (js := [0]) hag (by decide) hC hD
 refine ⟨fun h => ?_, fun h => ?_⟩
 ·replace h := of_decide_eq_true h
  simp only [h0_den] at h
  rw [F.c] at h
  refine vc_news 4 fun ρq x l => ?_
  have hl : ρq.k.length = 52 := by rw [l, hl]
  have F := F.ext x
  show GotL _ _ _ _ ∧ _ ∧ _
  simp only [nv, li, hl, envB_list_if, bdList, vn, IE.den, reduceIte, Nat.reduceAdd, Nat.reduceSub, Nat.reduceLeDiff, Nat.reduceLT, Nat.reduceEqDiff, F.p, F.a, F.b]
  skip
  exact ⟨⟨1, by decide, N, e.1 h, by simp only [f0]; rfl⟩, by simp, by simp⟩
 replace h := of_decide_eq_false h
 simp only [h0_den] at h
 rw [F.c] at h
 replace N := N.succ (t := 1) (fun hs => h (e.2 hs))
 refine vc_news 5 fun ρ10 x l => ?_
 replace hl : ρ10.k.length = 53 := by rw [l, hl]
 replace F := F.ext x
 refine ⟨by simp only [oblC, cTollsQ, pTlQ, nT, mel, nv, li, hl, envB_list_if, bdList, vn, IE.den, reduceIte, Nat.reduceAdd, Nat.reduceSub, Nat.reduceLeDiff, Nat.reduceLT, Nat.reduceEqDiff, F.p, F.b]; exact ⟨by decide, bench_sub (js := [1]) hag (by decide), p0⟩, ?_⟩
 refine vc_news 3 fun ρ11 x l => ?_
 replace hl : ρ11.k.length = 56 := by rw [l, hl]
 replace F := F.ext x
 intro hD
 simp only [asmC, outAt, cTollsQ, nT, nv, li, hl, envB_list_if, bdList, vn, IE.den, reduceIte, Nat.reduceAdd, Nat.reduceSub, Nat.reduceLeDiff, Nat.reduceLT, Nat.reduceEqDiff, F.p, F.b] at hD
 have e := set_eq (js := [1]) hag (by decide) hC hD
 refine ⟨fun h => ?_, fun h => ?_⟩
 ·replace h := of_decide_eq_true h
  simp only [h0_den] at h
  rw [F.c] at h
  refine vc_news 4 fun ρq x l => ?_
  have hl : ρq.k.length = 60 := by rw [l, hl]
  have F := F.ext x
  show GotL _ _ _ _ ∧ _ ∧ _
  simp only [nv, li, hl, envB_list_if, bdList, vn, IE.den, reduceIte, Nat.reduceAdd, Nat.reduceSub, Nat.reduceLeDiff, Nat.reduceLT, Nat.reduceEqDiff, F.p, F.a, F.b]
  skip
  exact ⟨⟨2, by decide, N, e.1 h, by simp only [f1]; rfl⟩, by simp, by simp⟩
 replace h := of_decide_eq_false h
 simp only [h0_den] at h
 rw [F.c] at h
 replace N := N.succ (t := 2) (fun hs => h (e.2 hs))
 refine vc_news 5 fun ρ12 x l => ?_
 replace hl : ρ12.k.length = 61 := by rw [l, hl]
 replace F := F.ext x
 refine ⟨by simp only [oblC, cTollsQ, pTlQ, nT, mel, nv, li, hl, envB_list_if, bdList, vn, IE.den, reduceIte, Nat.reduceAdd, Nat.reduceSub, Nat.reduceLeDiff, Nat.reduceLT, Nat.reduceEqDiff, F.p, F.b]; exact ⟨by decide, bench_sub (js := [2]) hag (by decide), p0⟩, ?_⟩
 refine vc_news 3 fun ρ13 x l => ?_
 replace hl : ρ13.k.length = 64 := by rw [l, hl]
 replace F := F.ext x
 intro hD
 simp only [asmC, outAt, cTollsQ, nT, nv, li, hl, envB_list_if, bdList, vn, IE.den, reduceIte, Nat.reduceAdd, Nat.reduceSub, Nat.reduceLeDiff, Nat.reduceLT, Nat.reduceEqDiff, F.p, F.b] at hD
 have e := set_eq (js := [2]) hag (by decide) hC hD
 refine ⟨fun h => ?_, fun h => ?_⟩
 ·replace h := of_decide_eq_true h
  simp only [h0_den] at h
  rw [F.c] at h
  refine vc_news 4 fun ρq x l => ?_
  have hl : ρq.k.length = 68 := by rw [l, hl]
  have F := F.ext x
  show GotL _ _ _ _ ∧ _ ∧ _
  simp only [nv, li, hl, envB_list_if, bdList, vn, IE.den, reduceIte, Nat.reduceAdd, Nat.reduceSub, Nat.reduceLeDiff, Nat.reduceLT, Nat.reduceEqDiff, F.p, F.a, F.b]
  skip
  exact ⟨⟨3, by decide, N, e.1 h, by simp only [f2]; rfl⟩, by simp, by simp⟩
 replace h := of_decide_eq_false h
 simp only [h0_den] at h
 rw [F.c] at h
 replace N := N.succ (t := 3) (fun hs => h (e.2 hs))
 refine vc_news 9 fun ρ14 x l => ?_
 replace hl : ρ14.k.length = 73 := by rw [l, hl]
 replace F := F.ext x
 refine ⟨by simp only [oblC, cTollsQ, pTlQ, nT, mel, nv, li, hl, envB_list_if, bdList, vn, IE.den, reduceIte, Nat.reduceAdd, Nat.reduceSub, Nat.reduceLeDiff, Nat.reduceLT, Nat.reduceEqDiff, F.p, F.b]; exact ⟨by decide, bench_sub (js := [0, 1]) hag (by decide), p0⟩, ?_⟩
 refine vc_news 3 fun ρ15 x l => ?_
 replace hl : ρ15.k.length = 76 := by rw [l, hl]
 replace F := F.ext x
 intro hD
 simp only [asmC, outAt, cTollsQ, nT, nv, li, hl, envB_list_if, bdList, vn, IE.den, reduceIte, Nat.reduceAdd, Nat.reduceSub, Nat.reduceLeDiff, Nat.reduceLT, Nat.reduceEqDiff, F.p, F.b] at hD
 have e := set_eq (js := [0, 1]) hag (by decide) hC hD
 refine ⟨fun h => ?_, fun h => ?_⟩
 ·replace h := of_decide_eq_true h
  simp only [h0_den] at h
  rw [F.c] at h
  refine vc_news 8 fun ρq x l => ?_
  have hl : ρq.k.length = 84 := by rw [l, hl]
  have F := F.ext x
  show GotL _ _ _ _ ∧ _ ∧ _
  simp only [nv, li, hl, envB_list_if, bdList, vn, IE.den, reduceIte, Nat.reduceAdd, Nat.reduceSub, Nat.reduceLeDiff, Nat.reduceLT, Nat.reduceEqDiff, F.p, F.a, F.b]
  skip
  exact ⟨⟨4, by decide, N, e.1 h, by simp only [f0, f1]; rfl⟩, by simp, by simp⟩
 replace h := of_decide_eq_false h
 simp only [h0_den] at h
 rw [F.c] at h
 replace N := N.succ (t := 4) (fun hs => h (e.2 hs))
 refine vc_news 5 fun ρ16 x l => ?_
 replace hl : ρ16.k.length = 81 := by rw [l, hl]
 replace F := F.ext x
 refine ⟨by simp only [oblC, cTollsQ, pTlQ, nT, mel, nv, li, hl, envB_list_if, bdList, vn, IE.den, reduceIte, Nat.reduceAdd, Nat.reduceSub, Nat.reduceLeDiff, Nat.reduceLT, Nat.reduceEqDiff, F.p, F.b]; exact ⟨by decide, bench_sub (js := [0, 2]) hag (by decide), p0⟩, ?_⟩
 refine vc_news 3 fun ρ17 x l => ?_
 replace hl : ρ17.k.length = 84 := by rw [l, hl]
 replace F := F.ext x
 intro hD
 simp only [asmC, outAt, cTollsQ, nT, nv, li, hl, envB_list_if, bdList, vn, IE.den, reduceIte, Nat.reduceAdd, Nat.reduceSub, Nat.reduceLeDiff, Nat.reduceLT, Nat.reduceEqDiff, F.p, F.b] at hD
 have e := set_eq (js := [0, 2]) hag (by decide) hC hD
 refine ⟨fun h => ?_, fun h => ?_⟩
 ·replace h := of_decide_eq_true h
  simp only [h0_den] at h
  rw [F.c] at h
  refine vc_news 8 fun ρq x l => ?_
  have hl : ρq.k.length = 92 := by rw [l, hl]
  have F := F.ext x
  show GotL _ _ _ _ ∧ _ ∧ _
  simp only [nv, li, hl, envB_list_if, bdList, vn, IE.den, reduceIte, Nat.reduceAdd, Nat.reduceSub, Nat.reduceLeDiff, Nat.reduceLT, Nat.reduceEqDiff, F.p, F.a, F.b]
  skip
  exact ⟨⟨5, by decide, N, e.1 h, by simp only [f0, f2]; rfl⟩, by simp, by simp⟩
 replace h := of_decide_eq_false h
 simp only [h0_den] at h
 rw [F.c] at h
 replace N := N.succ (t := 5) (fun hs => h (e.2 hs))
 refine vc_news 9 fun ρ18 x l => ?_
 replace hl : ρ18.k.length = 93 := by rw [l, hl]
 replace F := F.ext x
 refine ⟨by simp only [oblC, cTollsQ, pTlQ, nT, mel, nv, li, hl, envB_list_if, bdList, vn, IE.den, reduceIte, Nat.reduceAdd, Nat.reduceSub, Nat.reduceLeDiff, Nat.reduceLT, Nat.reduceEqDiff, F.p, F.b]; exact ⟨by decide, bench_sub (js := [1, 2]) hag (by decide), p0⟩, ?_⟩
 refine vc_news 3 fun ρ19 x l => ?_
 replace hl : ρ19.k.length = 96 := by rw [l, hl]
 replace F := F.ext x
 intro hD
 simp only [asmC, outAt, cTollsQ, nT, nv, li, hl, envB_list_if, bdList, vn, IE.den, reduceIte, Nat.reduceAdd, Nat.reduceSub, Nat.reduceLeDiff, Nat.reduceLT, Nat.reduceEqDiff, F.p, F.b] at hD
 have e := set_eq (js := [1, 2]) hag (by decide) hC hD
 refine ⟨fun h => ?_, fun h => ?_⟩
 ·replace h := of_decide_eq_true h
  simp only [h0_den] at h
  rw [F.c] at h
  refine vc_news 8 fun ρq x l => ?_
  have hl : ρq.k.length = 104 := by rw [l, hl]
  have F := F.ext x
  show GotL _ _ _ _ ∧ _ ∧ _
  simp only [nv, li, hl, envB_list_if, bdList, vn, IE.den, reduceIte, Nat.reduceAdd, Nat.reduceSub, Nat.reduceLeDiff, Nat.reduceLT, Nat.reduceEqDiff, F.p, F.a, F.b]
  skip
  exact ⟨⟨6, by decide, N, e.1 h, by simp only [f1, f2]; rfl⟩, by simp, by simp⟩
 replace h := of_decide_eq_false h
 simp only [h0_den] at h
 rw [F.c] at h
 replace N := N.succ (t := 6) (fun hs => h (e.2 hs))
 refine vc_news 17 fun ρ20 x l => ?_
 replace hl : ρ20.k.length = 113 := by rw [l, hl]
 replace F := F.ext x
 refine ⟨by simp only [oblC, cTollsQ, pTlQ, nT, mel, nv, li, hl, envB_list_if, bdList, vn, IE.den, reduceIte, Nat.reduceAdd, Nat.reduceSub, Nat.reduceLeDiff, Nat.reduceLT, Nat.reduceEqDiff, F.p, F.b]; exact ⟨by decide, bench_sub (js := [0, 1, 2]) hag (by decide), p0⟩, ?_⟩
 refine vc_news 3 fun ρ21 x l => ?_
 replace hl : ρ21.k.length = 116 := by rw [l, hl]
 replace F := F.ext x
 intro hD
 simp only [asmC, outAt, cTollsQ, nT, nv, li, hl, envB_list_if, bdList, vn, IE.den, reduceIte, Nat.reduceAdd, Nat.reduceSub, Nat.reduceLeDiff, Nat.reduceLT, Nat.reduceEqDiff, F.p, F.b] at hD
 have e := set_eq (js := [0, 1, 2]) hag (by decide) hC hD
 refine ⟨fun h => ?_, fun h => ?_⟩
 ·replace h := of_decide_eq_true h
  simp only [h0_den] at h
  rw [F.c] at h
  refine vc_news 12 fun ρq x l => ?_
  have hl : ρq.k.length = 128 := by rw [l, hl]
  have F := F.ext x
  show GotL _ _ _ _ ∧ _ ∧ _
  simp only [nv, li, hl, envB_list_if, bdList, vn, IE.den, reduceIte, Nat.reduceAdd, Nat.reduceSub, Nat.reduceLeDiff, Nat.reduceLT, Nat.reduceEqDiff, F.p, F.a, F.b]
  skip
  exact ⟨⟨7, by decide, N, e.1 h, by simp only [f0, f1, f2]; rfl⟩, by simp, by simp⟩
 replace h := of_decide_eq_false h
 simp only [h0_den] at h
 rw [F.c] at h
 exact (h (e.2 (full_same (by decide) rfl (by decide)))).elim
theorem v_Few4 (P : Program) (ρ : Env) (hv : vals ρ) (hΓ : Γ0.On ρ) (hl : ρ.k.length = 20) (hp : cFew4.pre ρ) : VC cFew4 (ndFew4 P) none ρ (e_Few4 P) := by
 unfold e_Few4
 have hp' : agsV (ρ.list 81) 4 ∧ 0 ≤ (ρ.list 83).getD 0 0 ∧ (ρ.list 83).getD 0 0 ≤ 63 := hp
 obtain ⟨hag, p0⟩ := hp'
 generalize hpp : (ρ.list 83).getD 0 0 = p at *
 generalize hL : ρ.list 81 = L at *
 refine vc_news 1 fun ρ1 x l => ?_
 replace hl : ρ1.k.length = 21 := by rw [l, hl]
 have g81 : ρ1.list 81 = L := (list_at x (by omega) (by omega)).trans hL
 have g83 : (ρ1.list 83).getD 0 0 = p := by rw [list_at x (by omega) (by omega)]; exact hpp
 refine ⟨by simp only [oblC, cChkF, mel, nv, hl, envB_list_if, bdList, vn, IE.den, reduceIte, Nat.reduceAdd, Nat.reduceSub, Nat.reduceLeDiff, Nat.reduceLT, Nat.reduceEqDiff]; rw [g83]; exact p0, fun _ => ?_⟩
 refine vc_news 1 fun ρ2 x l => ?_
 replace hl : ρ2.k.length = 22 := by rw [l, hl]
 replace g81 : ρ2.list 81 = L := (list_at x (by omega) (by omega)).trans g81
 replace g83 : (ρ2.list 83).getD 0 0 = p := by rw [list_at x (by omega) (by omega)]; exact g83
 refine ⟨by simp only [oblC, cAtL4, cAtL, cAt1, pA, nv, li, hl, envB_list_if, bdList, vn, IE.den, reduceIte, Nat.reduceAdd, Nat.reduceSub, Nat.reduceLeDiff, Nat.reduceLT, Nat.reduceEqDiff, g81]; exact ⟨⟨⟨by decide, hag⟩, trivial⟩, trivial⟩, ?_⟩
 refine vc_news 2 fun ρ3 x l => ?_
 replace hl : ρ3.k.length = 24 := by rw [l, hl]
 replace g83 : (ρ3.list 83).getD 0 0 = p := by rw [list_at x (by omega) (by omega)]; exact g83
 replace g81 : ρ3.list 81 = L := (list_at x (by omega) (by omega)).trans g81
 intro hA
 simp only [asmC, outAt, cAtL4, cAtL, atO, li, hl, envB_list_if, bdList, vn, IE.den, reduceIte, Nat.reduceAdd, Nat.reduceSub, Nat.reduceLeDiff, Nat.reduceLT, Nat.reduceEqDiff, g81] at hA
 have g87 := hA.1
 refine vc_news 3 fun ρ4 x l => ?_
 replace hl : ρ4.k.length = 27 := by rw [l, hl]
 replace g83 : (ρ4.list 83).getD 0 0 = p := by rw [list_at x (by omega) (by omega)]; exact g83
 replace g87 := (list_at x (by omega) (by omega)).trans g87
 replace g81 : ρ4.list 81 = L := (list_at x (by omega) (by omega)).trans g81
 have hBw := (bench_ok hag).w
 refine ⟨by simp only [oblC, cTollsQ, pTlQ, nT, mel, nv, li, hl, envB_list_if, bdList, vn, IE.den, reduceIte, Nat.reduceAdd, Nat.reduceSub, Nat.reduceLeDiff, Nat.reduceLT, Nat.reduceEqDiff, g83, g87]; exact ⟨by decide, hBw, p0⟩, ?_⟩
 refine vc_news 3 fun ρ5 x l => ?_
 replace hl : ρ5.k.length = 30 := by rw [l, hl]
 replace g83 : (ρ5.list 83).getD 0 0 = p := by rw [list_at x (by omega) (by omega)]; exact g83
 replace g87 := (list_at x (by omega) (by omega)).trans g87
 replace g81 : ρ5.list 81 = L := (list_at x (by omega) (by omega)).trans g81
 intro hD
 simp only [asmC, outAt, cTollsQ, nT, nv, li, hl, envB_list_if, bdList, vn, IE.den, reduceIte, Nat.reduceAdd, Nat.reduceSub, Nat.reduceLeDiff, Nat.reduceLT, Nat.reduceEqDiff, g83, g87] at hD
 have hC := hD.cl hBw
 obtain ⟨C, hCC⟩ : ∃ C, C = (ρ5.list 93).getD 0 0 := ⟨_, rfl⟩
 rw [← hCC] at hC
 have F : FewF L 4 p C ρ5 := ⟨g87, g81, g83, hCC.symm, by omega⟩
 have f := num_at hag
 have f0 : (benchL L 4).getD 5 0 = 0 := f 0 (by decide)
 have f1 : (benchL L 4).getD 11 0 = 1 := f 1 (by decide)
 have f2 : (benchL L 4).getD 17 0 = 2 := f 2 (by decide)
 have f3 : (benchL L 4).getD 23 0 = 3 := f 3 (by decide)
 refine vc_news 7 fun ρ6 x l => ?_
 replace hl : ρ6.k.length = 37 := by rw [l, hl]
 replace F := F.ext x
 refine ⟨by simp only [oblC, cTollsQN, mel, nv, li, hl, envB_list_if, bdList, vn, IE.den, reduceIte, Nat.reduceAdd, Nat.reduceSub, Nat.reduceLeDiff, Nat.reduceLT, Nat.reduceEqDiff, F.p]; exact p0, ?_⟩
 refine vc_news 3 fun ρ7 x l => ?_
 replace hl : ρ7.k.length = 40 := by rw [l, hl]
 replace F := F.ext x
 intro hD
 simp only [asmC, outAt, cTollsQN, noT, nv, li, hl, envB_list_if, bdList, vn, IE.den, reduceIte, Nat.reduceAdd, Nat.reduceSub, Nat.reduceLeDiff, Nat.reduceLT, Nat.reduceEqDiff, F.p] at hD
 have e := none_eq hC hD.2.1 hD.2.2
 refine ⟨fun h => ?_, fun h => ?_⟩
 ·replace h := of_decide_eq_true h
  simp only [h0_den] at h
  rw [F.c] at h
  show GotL _ _ _ _
  simp only [nv, li, hl, envB_list_if, bdList, vn, IE.den, reduceIte, Nat.reduceAdd, Nat.reduceSub, Nat.reduceLeDiff, Nat.reduceLT, Nat.reduceEqDiff, F.p, F.a]
  skip
  exact ⟨0, by decide, .zero, e.1 h, rfl⟩
 replace h := of_decide_eq_false h
 simp only [h0_den] at h
 rw [F.c] at h
 have N := NoneTo.zero.succ (t := 0) (fun hs => h (e.2 hs))
 refine vc_news 5 fun ρ8 x l => ?_
 replace hl : ρ8.k.length = 45 := by rw [l, hl]
 replace F := F.ext x
 refine ⟨by simp only [oblC, cTollsQ, pTlQ, nT, mel, nv, li, hl, envB_list_if, bdList, vn, IE.den, reduceIte, Nat.reduceAdd, Nat.reduceSub, Nat.reduceLeDiff, Nat.reduceLT, Nat.reduceEqDiff, F.p, F.b]; exact ⟨by decide, bench_sub (js := [0]) hag (by decide), p0⟩, ?_⟩
 refine vc_news 3 fun ρ9 x l => ?_
 replace hl : ρ9.k.length = 48 := by rw [l, hl]
 replace F := F.ext x
 intro hD
 simp only [asmC, outAt, cTollsQ, nT, nv, li, hl, envB_list_if, bdList, vn, IE.den, reduceIte, Nat.reduceAdd, Nat.reduceSub, Nat.reduceLeDiff, Nat.reduceLT, Nat.reduceEqDiff, F.p, F.b] at hD
 have e := set_eq (js := [0]) hag (by decide) hC hD
 refine ⟨fun h => ?_, fun h => ?_⟩
 ·replace h := of_decide_eq_true h
  simp only [h0_den] at h
  rw [F.c] at h
  refine vc_news 4 fun ρq x l => ?_
  have hl : ρq.k.length = 52 := by rw [l, hl]
  have F := F.ext x
  show GotL _ _ _ _ ∧ _ ∧ _
  simp only [nv, li, hl, envB_list_if, bdList, vn, IE.den, reduceIte, Nat.reduceAdd, Nat.reduceSub, Nat.reduceLeDiff, Nat.reduceLT, Nat.reduceEqDiff, F.p, F.a, F.b]
  skip
  exact ⟨⟨1, by decide, N, e.1 h, by simp only [f0]; rfl⟩, by simp, by simp⟩
 replace h := of_decide_eq_false h
 simp only [h0_den] at h
 rw [F.c] at h
 replace N := N.succ (t := 1) (fun hs => h (e.2 hs))
 refine vc_news 5 fun ρ10 x l => ?_
 replace hl : ρ10.k.length = 53 := by rw [l, hl]
 replace F := F.ext x
 refine ⟨by simp only [oblC, cTollsQ, pTlQ, nT, mel, nv, li, hl, envB_list_if, bdList, vn, IE.den, reduceIte, Nat.reduceAdd, Nat.reduceSub, Nat.reduceLeDiff, Nat.reduceLT, Nat.reduceEqDiff, F.p, F.b]; exact ⟨by decide, bench_sub (js := [1]) hag (by decide), p0⟩, ?_⟩
 refine vc_news 3 fun ρ11 x l => ?_
 replace hl : ρ11.k.length = 56 := by rw [l, hl]
 replace F := F.ext x
 intro hD
 simp only [asmC, outAt, cTollsQ, nT, nv, li, hl, envB_list_if, bdList, vn, IE.den, reduceIte, Nat.reduceAdd, Nat.reduceSub, Nat.reduceLeDiff, Nat.reduceLT, Nat.reduceEqDiff, F.p, F.b] at hD
 have e := set_eq (js := [1]) hag (by decide) hC hD
 refine ⟨fun h => ?_, fun h => ?_⟩
 ·replace h := of_decide_eq_true h
  simp only [h0_den] at h
  rw [F.c] at h
  refine vc_news 4 fun ρq x l => ?_
  have hl : ρq.k.length = 60 := by rw [l, hl]
  have F := F.ext x
  show GotL _ _ _ _ ∧ _ ∧ _
  simp only [nv, li, hl, envB_list_if, bdList, vn, IE.den, reduceIte, Nat.reduceAdd, Nat.reduceSub, Nat.reduceLeDiff, Nat.reduceLT, Nat.reduceEqDiff, F.p, F.a, F.b]
  skip
  exact ⟨⟨2, by decide, N, e.1 h, by simp only [f1]; rfl⟩, by simp, by simp⟩
 replace h := of_decide_eq_false h
 simp only [h0_den] at h
 rw [F.c] at h
 replace N := N.succ (t := 2) (fun hs => h (e.2 hs))
 refine vc_news 5 fun ρ12 x l => ?_
 replace hl : ρ12.k.length = 61 := by rw [l, hl]
 replace F := F.ext x
 refine ⟨by simp only [oblC, cTollsQ, pTlQ, nT, mel, nv, li, hl, envB_list_if, bdList, vn, IE.den, reduceIte, Nat.reduceAdd, Nat.reduceSub, Nat.reduceLeDiff, Nat.reduceLT, Nat.reduceEqDiff, F.p, F.b]; exact ⟨by decide, bench_sub (js := [2]) hag (by decide), p0⟩, ?_⟩
 refine vc_news 3 fun ρ13 x l => ?_
 replace hl : ρ13.k.length = 64 := by rw [l, hl]
 replace F := F.ext x
 intro hD
 simp only [asmC, outAt, cTollsQ, nT, nv, li, hl, envB_list_if, bdList, vn, IE.den, reduceIte, Nat.reduceAdd, Nat.reduceSub, Nat.reduceLeDiff, Nat.reduceLT, Nat.reduceEqDiff, F.p, F.b] at hD
 have e := set_eq (js := [2]) hag (by decide) hC hD
 refine ⟨fun h => ?_, fun h => ?_⟩
 ·replace h := of_decide_eq_true h
  simp only [h0_den] at h
  rw [F.c] at h
  refine vc_news 4 fun ρq x l => ?_
  have hl : ρq.k.length = 68 := by rw [l, hl]
  have F := F.ext x
  show GotL _ _ _ _ ∧ _ ∧ _
  simp only [nv, li, hl, envB_list_if, bdList, vn, IE.den, reduceIte, Nat.reduceAdd, Nat.reduceSub, Nat.reduceLeDiff, Nat.reduceLT, Nat.reduceEqDiff, F.p, F.a, F.b]
  skip
  exact ⟨⟨3, by decide, N, e.1 h, by simp only [f2]; rfl⟩, by simp, by simp⟩
 replace h := of_decide_eq_false h
 simp only [h0_den] at h
 rw [F.c] at h
 replace N := N.succ (t := 3) (fun hs => h (e.2 hs))
 refine vc_news 5 fun ρ14 x l => ?_
 replace hl : ρ14.k.length = 69 := by rw [l, hl]
 replace F := F.ext x
 refine ⟨by simp only [oblC, cTollsQ, pTlQ, nT, mel, nv, li, hl, envB_list_if, bdList, vn, IE.den, reduceIte, Nat.reduceAdd, Nat.reduceSub, Nat.reduceLeDiff, Nat.reduceLT, Nat.reduceEqDiff, F.p, F.b]; exact ⟨by decide, bench_sub (js := [3]) hag (by decide), p0⟩, ?_⟩
 refine vc_news 3 fun ρ15 x l => ?_
 replace hl : ρ15.k.length = 72 := by rw [l, hl]
 replace F := F.ext x
 intro hD
 simp only [asmC, outAt, cTollsQ, nT, nv, li, hl, envB_list_if, bdList, vn, IE.den, reduceIte, Nat.reduceAdd, Nat.reduceSub, Nat.reduceLeDiff, Nat.reduceLT, Nat.reduceEqDiff, F.p, F.b] at hD
 have e := set_eq (js := [3]) hag (by decide) hC hD
 refine ⟨fun h => ?_, fun h => ?_⟩
 ·replace h := of_decide_eq_true h
  simp only [h0_den] at h
  rw [F.c] at h
  refine vc_news 4 fun ρq x l => ?_
  have hl : ρq.k.length = 76 := by rw [l, hl]
  have F := F.ext x
  show GotL _ _ _ _ ∧ _ ∧ _
  simp only [nv, li, hl, envB_list_if, bdList, vn, IE.den, reduceIte, Nat.reduceAdd, Nat.reduceSub, Nat.reduceLeDiff, Nat.reduceLT, Nat.reduceEqDiff, F.p, F.a, F.b]
  skip
  exact ⟨⟨4, by decide, N, e.1 h, by simp only [f3]; rfl⟩, by simp, by simp⟩
 replace h := of_decide_eq_false h
 simp only [h0_den] at h
 rw [F.c] at h
 replace N := N.succ (t := 4) (fun hs => h (e.2 hs))
 refine vc_news 9 fun ρ16 x l => ?_
 replace hl : ρ16.k.length = 81 := by rw [l, hl]
 replace F := F.ext x
 refine ⟨by simp only [oblC, cTollsQ, pTlQ, nT, mel, nv, li, hl, envB_list_if, bdList, vn, IE.den, reduceIte, Nat.reduceAdd, Nat.reduceSub, Nat.reduceLeDiff, Nat.reduceLT, Nat.reduceEqDiff, F.p, F.b]; exact ⟨by decide, bench_sub (js := [0, 1]) hag (by decide), p0⟩, ?_⟩
 refine vc_news 3 fun ρ17 x l => ?_
 replace hl : ρ17.k.length = 84 := by rw [l, hl]
 replace F := F.ext x
 intro hD
 simp only [asmC, outAt, cTollsQ, nT, nv, li, hl, envB_list_if, bdList, vn, IE.den, reduceIte, Nat.reduceAdd, Nat.reduceSub, Nat.reduceLeDiff, Nat.reduceLT, Nat.reduceEqDiff, F.p, F.b] at hD
 have e := set_eq (js := [0, 1]) hag (by decide) hC hD
 refine ⟨fun h => ?_, fun h => ?_⟩
 ·replace h := of_decide_eq_true h
  simp only [h0_den] at h
  rw [F.c] at h
  refine vc_news 8 fun ρq x l => ?_
  have hl : ρq.k.length = 92 := by rw [l, hl]
  have F := F.ext x
  show GotL _ _ _ _ ∧ _ ∧ _
  simp only [nv, li, hl, envB_list_if, bdList, vn, IE.den, reduceIte, Nat.reduceAdd, Nat.reduceSub, Nat.reduceLeDiff, Nat.reduceLT, Nat.reduceEqDiff, F.p, F.a, F.b]
  skip
  exact ⟨⟨5, by decide, N, e.1 h, by simp only [f0, f1]; rfl⟩, by simp, by simp⟩
 replace h := of_decide_eq_false h
 simp only [h0_den] at h
 rw [F.c] at h
 replace N := N.succ (t := 5) (fun hs => h (e.2 hs))
 refine vc_news 5 fun ρ18 x l => ?_
 replace hl : ρ18.k.length = 89 := by rw [l, hl]
 replace F := F.ext x
 refine ⟨by simp only [oblC, cTollsQ, pTlQ, nT, mel, nv, li, hl, envB_list_if, bdList, vn, IE.den, reduceIte, Nat.reduceAdd, Nat.reduceSub, Nat.reduceLeDiff, Nat.reduceLT, Nat.reduceEqDiff, F.p, F.b]; exact ⟨by decide, bench_sub (js := [0, 2]) hag (by decide), p0⟩, ?_⟩
 refine vc_news 3 fun ρ19 x l => ?_
 replace hl : ρ19.k.length = 92 := by rw [l, hl]
 replace F := F.ext x
 intro hD
 simp only [asmC, outAt, cTollsQ, nT, nv, li, hl, envB_list_if, bdList, vn, IE.den, reduceIte, Nat.reduceAdd, Nat.reduceSub, Nat.reduceLeDiff, Nat.reduceLT, Nat.reduceEqDiff, F.p, F.b] at hD
 have e := set_eq (js := [0, 2]) hag (by decide) hC hD
 refine ⟨fun h => ?_, fun h => ?_⟩
 ·replace h := of_decide_eq_true h
  simp only [h0_den] at h
  rw [F.c] at h
  refine vc_news 8 fun ρq x l => ?_
  have hl : ρq.k.length = 100 := by rw [l, hl]
  have F := F.ext x
  show GotL _ _ _ _ ∧ _ ∧ _
  simp only [nv, li, hl, envB_list_if, bdList, vn, IE.den, reduceIte, Nat.reduceAdd, Nat.reduceSub, Nat.reduceLeDiff, Nat.reduceLT, Nat.reduceEqDiff, F.p, F.a, F.b]
  skip
  exact ⟨⟨6, by decide, N, e.1 h, by simp only [f0, f2]; rfl⟩, by simp, by simp⟩
 replace h := of_decide_eq_false h
 simp only [h0_den] at h
 rw [F.c] at h
 replace N := N.succ (t := 6) (fun hs => h (e.2 hs))
 refine vc_news 5 fun ρ20 x l => ?_
 replace hl : ρ20.k.length = 97 := by rw [l, hl]
 replace F := F.ext x
 refine ⟨by simp only [oblC, cTollsQ, pTlQ, nT, mel, nv, li, hl, envB_list_if, bdList, vn, IE.den, reduceIte, Nat.reduceAdd, Nat.reduceSub, Nat.reduceLeDiff, Nat.reduceLT, Nat.reduceEqDiff, F.p, F.b]; exact ⟨by decide, bench_sub (js := [0, 3]) hag (by decide), p0⟩, ?_⟩
 refine vc_news 3 fun ρ21 x l => ?_
 replace hl : ρ21.k.length = 100 := by rw [l, hl]
 replace F := F.ext x
 intro hD
 simp only [asmC, outAt, cTollsQ, nT, nv, li, hl, envB_list_if, bdList, vn, IE.den, reduceIte, Nat.reduceAdd, Nat.reduceSub, Nat.reduceLeDiff, Nat.reduceLT, Nat.reduceEqDiff, F.p, F.b] at hD
 have e := set_eq (js := [0, 3]) hag (by decide) hC hD
 refine ⟨fun h => ?_, fun h => ?_⟩
 ·replace h := of_decide_eq_true h
  simp only [h0_den] at h
  rw [F.c] at h
  refine vc_news 8 fun ρq x l => ?_
  have hl : ρq.k.length = 108 := by rw [l, hl]
  have F := F.ext x
  show GotL _ _ _ _ ∧ _ ∧ _
  simp only [nv, li, hl, envB_list_if, bdList, vn, IE.den, reduceIte, Nat.reduceAdd, Nat.reduceSub, Nat.reduceLeDiff, Nat.reduceLT, Nat.reduceEqDiff, F.p, F.a, F.b]
  skip
  exact ⟨⟨7, by decide, N, e.1 h, by simp only [f0, f3]; rfl⟩, by simp, by simp⟩
 replace h := of_decide_eq_false h
 simp only [h0_den] at h
 rw [F.c] at h
 replace N := N.succ (t := 7) (fun hs => h (e.2 hs))
 refine vc_news 9 fun ρ22 x l => ?_
 replace hl : ρ22.k.length = 109 := by rw [l, hl]
 replace F := F.ext x
 refine ⟨by simp only [oblC, cTollsQ, pTlQ, nT, mel, nv, li, hl, envB_list_if, bdList, vn, IE.den, reduceIte, Nat.reduceAdd, Nat.reduceSub, Nat.reduceLeDiff, Nat.reduceLT, Nat.reduceEqDiff, F.p, F.b]; exact ⟨by decide, bench_sub (js := [1, 2]) hag (by decide), p0⟩, ?_⟩
 refine vc_news 3 fun ρ23 x l => ?_
 replace hl : ρ23.k.length = 112 := by rw [l, hl]
 replace F := F.ext x
 intro hD
 simp only [asmC, outAt, cTollsQ, nT, nv, li, hl, envB_list_if, bdList, vn, IE.den, reduceIte, Nat.reduceAdd, Nat.reduceSub, Nat.reduceLeDiff, Nat.reduceLT, Nat.reduceEqDiff, F.p, F.b] at hD
 have e := set_eq (js := [1, 2]) hag (by decide) hC hD
 refine ⟨fun h => ?_, fun h => ?_⟩
 ·replace h := of_decide_eq_true h
  simp only [h0_den] at h
  rw [F.c] at h
  refine vc_news 8 fun ρq x l => ?_
  have hl : ρq.k.length = 120 := by rw [l, hl]
  have F := F.ext x
  show GotL _ _ _ _ ∧ _ ∧ _
  simp only [nv, li, hl, envB_list_if, bdList, vn, IE.den, reduceIte, Nat.reduceAdd, Nat.reduceSub, Nat.reduceLeDiff, Nat.reduceLT, Nat.reduceEqDiff, F.p, F.a, F.b]
  skip
  exact ⟨⟨8, by decide, N, e.1 h, by simp only [f1, f2]; rfl⟩, by simp, by simp⟩
 replace h := of_decide_eq_false h
 simp only [h0_den] at h
 rw [F.c] at h
 replace N := N.succ (t := 8) (fun hs => h (e.2 hs))
 refine vc_news 5 fun ρ24 x l => ?_
 replace hl : ρ24.k.length = 117 := by rw [l, hl]
 replace F := F.ext x
 refine ⟨by simp only [oblC, cTollsQ, pTlQ, nT, mel, nv, li, hl, envB_list_if, bdList, vn, IE.den, reduceIte, Nat.reduceAdd, Nat.reduceSub, Nat.reduceLeDiff, Nat.reduceLT, Nat.reduceEqDiff, F.p, F.b]; exact ⟨by decide, bench_sub (js := [1, 3]) hag (by decide), p0⟩, ?_⟩
 refine vc_news 3 fun ρ25 x l => ?_
 replace hl : ρ25.k.length = 120 := by rw [l, hl]
 replace F := F.ext x
 intro hD
 simp only [asmC, outAt, cTollsQ, nT, nv, li, hl, envB_list_if, bdList, vn, IE.den, reduceIte, Nat.reduceAdd, Nat.reduceSub, Nat.reduceLeDiff, Nat.reduceLT, Nat.reduceEqDiff, F.p, F.b] at hD
 have e := set_eq (js := [1, 3]) hag (by decide) hC hD
 refine ⟨fun h => ?_, fun h => ?_⟩
 ·replace h := of_decide_eq_true h
  simp only [h0_den] at h
  rw [F.c] at h
  refine vc_news 8 fun ρq x l => ?_
  have hl : ρq.k.length = 128 := by rw [l, hl]
  have F := F.ext x
  show GotL _ _ _ _ ∧ _ ∧ _
  simp only [nv, li, hl, envB_list_if, bdList, vn, IE.den, reduceIte, Nat.reduceAdd, Nat.reduceSub, Nat.reduceLeDiff, Nat.reduceLT, Nat.reduceEqDiff, F.p, F.a, F.b]
  skip
  exact ⟨⟨9, by decide, N, e.1 h, by simp only [f1, f3]; rfl⟩, by simp, by simp⟩
 replace h := of_decide_eq_false h
 simp only [h0_den] at h
 rw [F.c] at h
 replace N := N.succ (t := 9) (fun hs => h (e.2 hs))
 refine vc_news 9 fun ρ26 x l => ?_
 replace hl : ρ26.k.length = 129 := by rw [l, hl]
 replace F := F.ext x
 refine ⟨by simp only [oblC, cTollsQ, pTlQ, nT, mel, nv, li, hl, envB_list_if, bdList, vn, IE.den, reduceIte, Nat.reduceAdd, Nat.reduceSub, Nat.reduceLeDiff, Nat.reduceLT, Nat.reduceEqDiff, F.p, F.b]; exact ⟨by decide, bench_sub (js := [2, 3]) hag (by decide), p0⟩, ?_⟩
 refine vc_news 3 fun ρ27 x l => ?_
 replace hl : ρ27.k.length = 132 := by rw [l, hl]
 replace F := F.ext x
 intro hD
 simp only [asmC, outAt, cTollsQ, nT, nv, li, hl, envB_list_if, bdList, vn, IE.den, reduceIte, Nat.reduceAdd, Nat.reduceSub, Nat.reduceLeDiff, Nat.reduceLT, Nat.reduceEqDiff, F.p, F.b] at hD
 have e := set_eq (js := [2, 3]) hag (by decide) hC hD
 refine ⟨fun h => ?_, fun h => ?_⟩
 ·replace h := of_decide_eq_true h
  simp only [h0_den] at h
  rw [F.c] at h
  refine vc_news 8 fun ρq x l => ?_
  have hl : ρq.k.length = 140 := by rw [l, hl]
  have F := F.ext x
  show GotL _ _ _ _ ∧ _ ∧ _
  simp only [nv, li, hl, envB_list_if, bdList, vn, IE.den, reduceIte, Nat.reduceAdd, Nat.reduceSub, Nat.reduceLeDiff, Nat.reduceLT, Nat.reduceEqDiff, F.p, F.a, F.b]
  skip
  exact ⟨⟨10, by decide, N, e.1 h, by simp only [f2, f3]; rfl⟩, by simp, by simp⟩
 replace h := of_decide_eq_false h
 simp only [h0_den] at h
 rw [F.c] at h
 replace N := N.succ (t := 10) (fun hs => h (e.2 hs))
 refine vc_news 17 fun ρ28 x l => ?_
 replace hl : ρ28.k.length = 149 := by rw [l, hl]
 replace F := F.ext x
 refine ⟨by simp only [oblC, cTollsQ, pTlQ, nT, mel, nv, li, hl, envB_list_if, bdList, vn, IE.den, reduceIte, Nat.reduceAdd, Nat.reduceSub, Nat.reduceLeDiff, Nat.reduceLT, Nat.reduceEqDiff, F.p, F.b]; exact ⟨by decide, bench_sub (js := [0, 1, 2]) hag (by decide), p0⟩, ?_⟩
 refine vc_news 3 fun ρ29 x l => ?_
 replace hl : ρ29.k.length = 152 := by rw [l, hl]
 replace F := F.ext x
 intro hD
 simp only [asmC, outAt, cTollsQ, nT, nv, li, hl, envB_list_if, bdList, vn, IE.den, reduceIte, Nat.reduceAdd, Nat.reduceSub, Nat.reduceLeDiff, Nat.reduceLT, Nat.reduceEqDiff, F.p, F.b] at hD
 have e := set_eq (js := [0, 1, 2]) hag (by decide) hC hD
 refine ⟨fun h => ?_, fun h => ?_⟩
 ·replace h := of_decide_eq_true h
  simp only [h0_den] at h
  rw [F.c] at h
  refine vc_news 12 fun ρq x l => ?_
  have hl : ρq.k.length = 164 := by rw [l, hl]
  have F := F.ext x
  show GotL _ _ _ _ ∧ _ ∧ _
  simp only [nv, li, hl, envB_list_if, bdList, vn, IE.den, reduceIte, Nat.reduceAdd, Nat.reduceSub, Nat.reduceLeDiff, Nat.reduceLT, Nat.reduceEqDiff, F.p, F.a, F.b]
  skip
  exact ⟨⟨11, by decide, N, e.1 h, by simp only [f0, f1, f2]; rfl⟩, by simp, by simp⟩
 replace h := of_decide_eq_false h
 simp only [h0_den] at h
 rw [F.c] at h
 replace N := N.succ (t := 11) (fun hs => h (e.2 hs))
 refine vc_news 5 fun ρ30 x l => ?_
 replace hl : ρ30.k.length = 157 := by rw [l, hl]
 replace F := F.ext x
 refine ⟨by simp only [oblC, cTollsQ, pTlQ, nT, mel, nv, li, hl, envB_list_if, bdList, vn, IE.den, reduceIte, Nat.reduceAdd, Nat.reduceSub, Nat.reduceLeDiff, Nat.reduceLT, Nat.reduceEqDiff, F.p, F.b]; exact ⟨by decide, bench_sub (js := [0, 1, 3]) hag (by decide), p0⟩, ?_⟩
 refine vc_news 3 fun ρ31 x l => ?_
 replace hl : ρ31.k.length = 160 := by rw [l, hl]
 replace F := F.ext x
 intro hD
 simp only [asmC, outAt, cTollsQ, nT, nv, li, hl, envB_list_if, bdList, vn, IE.den, reduceIte, Nat.reduceAdd, Nat.reduceSub, Nat.reduceLeDiff, Nat.reduceLT, Nat.reduceEqDiff, F.p, F.b] at hD
 have e := set_eq (js := [0, 1, 3]) hag (by decide) hC hD
 refine ⟨fun h => ?_, fun h => ?_⟩
 ·replace h := of_decide_eq_true h
  simp only [h0_den] at h
  rw [F.c] at h
  refine vc_news 12 fun ρq x l => ?_
  have hl : ρq.k.length = 172 := by rw [l, hl]
  have F := F.ext x
  show GotL _ _ _ _ ∧ _ ∧ _
  simp only [nv, li, hl, envB_list_if, bdList, vn, IE.den, reduceIte, Nat.reduceAdd, Nat.reduceSub, Nat.reduceLeDiff, Nat.reduceLT, Nat.reduceEqDiff, F.p, F.a, F.b]
  skip
  exact ⟨⟨12, by decide, N, e.1 h, by simp only [f0, f1, f3]; rfl⟩, by simp, by simp⟩
 replace h := of_decide_eq_false h
 simp only [h0_den] at h
 rw [F.c] at h
 replace N := N.succ (t := 12) (fun hs => h (e.2 hs))
 refine vc_news 9 fun ρ32 x l => ?_
 replace hl : ρ32.k.length = 169 := by rw [l, hl]
 replace F := F.ext x
 refine ⟨by simp only [oblC, cTollsQ, pTlQ, nT, mel, nv, li, hl, envB_list_if, bdList, vn, IE.den, reduceIte, Nat.reduceAdd, Nat.reduceSub, Nat.reduceLeDiff, Nat.reduceLT, Nat.reduceEqDiff, F.p, F.b]; exact ⟨by decide, bench_sub (js := [0, 2, 3]) hag (by decide), p0⟩, ?_⟩
 refine vc_news 3 fun ρ33 x l => ?_
 replace hl : ρ33.k.length = 172 := by rw [l, hl]
 replace F := F.ext x
 intro hD
 simp only [asmC, outAt, cTollsQ, nT, nv, li, hl, envB_list_if, bdList, vn, IE.den, reduceIte, Nat.reduceAdd, Nat.reduceSub, Nat.reduceLeDiff, Nat.reduceLT, Nat.reduceEqDiff, F.p, F.b] at hD
 have e := set_eq (js := [0, 2, 3]) hag (by decide) hC hD
 refine ⟨fun h => ?_, fun h => ?_⟩
 ·replace h := of_decide_eq_true h
  simp only [h0_den] at h
  rw [F.c] at h
  refine vc_news 12 fun ρq x l => ?_
  have hl : ρq.k.length = 184 := by rw [l, hl]
  have F := F.ext x
  show GotL _ _ _ _ ∧ _ ∧ _
  simp only [nv, li, hl, envB_list_if, bdList, vn, IE.den, reduceIte, Nat.reduceAdd, Nat.reduceSub, Nat.reduceLeDiff, Nat.reduceLT, Nat.reduceEqDiff, F.p, F.a, F.b]
  skip
  exact ⟨⟨13, by decide, N, e.1 h, by simp only [f0, f2, f3]; rfl⟩, by simp, by simp⟩
 replace h := of_decide_eq_false h
 simp only [h0_den] at h
 rw [F.c] at h
 replace N := N.succ (t := 13) (fun hs => h (e.2 hs))
 refine vc_news 17 fun ρ34 x l => ?_
 replace hl : ρ34.k.length = 189 := by rw [l, hl]
 replace F := F.ext x
 refine ⟨by simp only [oblC, cTollsQ, pTlQ, nT, mel, nv, li, hl, envB_list_if, bdList, vn, IE.den, reduceIte, Nat.reduceAdd, Nat.reduceSub, Nat.reduceLeDiff, Nat.reduceLT, Nat.reduceEqDiff, F.p, F.b]; exact ⟨by decide, bench_sub (js := [1, 2, 3]) hag (by decide), p0⟩, ?_⟩
 refine vc_news 3 fun ρ35 x l => ?_
 replace hl : ρ35.k.length = 192 := by rw [l, hl]
 replace F := F.ext x
 intro hD
 simp only [asmC, outAt, cTollsQ, nT, nv, li, hl, envB_list_if, bdList, vn, IE.den, reduceIte, Nat.reduceAdd, Nat.reduceSub, Nat.reduceLeDiff, Nat.reduceLT, Nat.reduceEqDiff, F.p, F.b] at hD
 have e := set_eq (js := [1, 2, 3]) hag (by decide) hC hD
 refine ⟨fun h => ?_, fun h => ?_⟩
 ·replace h := of_decide_eq_true h
  simp only [h0_den] at h
  rw [F.c] at h
  refine vc_news 12 fun ρq x l => ?_
  have hl : ρq.k.length = 204 := by rw [l, hl]
  have F := F.ext x
  show GotL _ _ _ _ ∧ _ ∧ _
  simp only [nv, li, hl, envB_list_if, bdList, vn, IE.den, reduceIte, Nat.reduceAdd, Nat.reduceSub, Nat.reduceLeDiff, Nat.reduceLT, Nat.reduceEqDiff, F.p, F.a, F.b]
  skip
  exact ⟨⟨14, by decide, N, e.1 h, by simp only [f1, f2, f3]; rfl⟩, by simp, by simp⟩
 replace h := of_decide_eq_false h
 simp only [h0_den] at h
 rw [F.c] at h
 replace N := N.succ (t := 14) (fun hs => h (e.2 hs))
 refine vc_news 33 fun ρ36 x l => ?_
 replace hl : ρ36.k.length = 225 := by rw [l, hl]
 replace F := F.ext x
 refine ⟨by simp only [oblC, cTollsQ, pTlQ, nT, mel, nv, li, hl, envB_list_if, bdList, vn, IE.den, reduceIte, Nat.reduceAdd, Nat.reduceSub, Nat.reduceLeDiff, Nat.reduceLT, Nat.reduceEqDiff, F.p, F.b]; exact ⟨by decide, bench_sub (js := [0, 1, 2, 3]) hag (by decide), p0⟩, ?_⟩
 refine vc_news 3 fun ρ37 x l => ?_
 replace hl : ρ37.k.length = 228 := by rw [l, hl]
 replace F := F.ext x
 intro hD
 simp only [asmC, outAt, cTollsQ, nT, nv, li, hl, envB_list_if, bdList, vn, IE.den, reduceIte, Nat.reduceAdd, Nat.reduceSub, Nat.reduceLeDiff, Nat.reduceLT, Nat.reduceEqDiff, F.p, F.b] at hD
 have e := set_eq (js := [0, 1, 2, 3]) hag (by decide) hC hD
 refine ⟨fun h => ?_, fun h => ?_⟩
 ·replace h := of_decide_eq_true h
  simp only [h0_den] at h
  rw [F.c] at h
  refine vc_news 16 fun ρq x l => ?_
  have hl : ρq.k.length = 244 := by rw [l, hl]
  have F := F.ext x
  show GotL _ _ _ _ ∧ _ ∧ _
  simp only [nv, li, hl, envB_list_if, bdList, vn, IE.den, reduceIte, Nat.reduceAdd, Nat.reduceSub, Nat.reduceLeDiff, Nat.reduceLT, Nat.reduceEqDiff, F.p, F.a, F.b]
  skip
  exact ⟨⟨15, by decide, N, e.1 h, by simp only [f0, f1, f2, f3]; rfl⟩, by simp, by simp⟩
 replace h := of_decide_eq_false h
 simp only [h0_den] at h
 rw [F.c] at h
 exact (h (e.2 (full_same (by decide) rfl (by decide)))).elim
end Ft
set_option linter.unusedVariables false
set_option linter.unusedSimpArgs false
open Go Mv Mw
namespace Ft
structure RowF (la lp lg ls : Nat) (L : List Int) (p : Int) (G A : List Int) (ρ : Env) : Prop where
 a : ρ.list la = L
 p : (ρ.list lp).getD 0 0 = p
 g : ρ.list lg = G
 s : ρ.list ls = A
 l : 64 ≤ la ∧ 64 ≤ lp ∧ 64 ≤ lg ∧ 64 ≤ ls ∧ la < ρ.k.length + 64 ∧ lp < ρ.k.length + 64 ∧ lg < ρ.k.length + 64 ∧ ls < ρ.k.length + 64
theorem RowF.ext {la lp lg ls : Nat} {L : List Int} {p : Int} {G A : List Int} {ρ ρ' : Env} (h : RowF la lp lg ls L p G A ρ) (x : Ext ρ ρ') : RowF la lp lg ls L p G A ρ' := by
 have := h.l
 have := x.len
 exact ⟨(list_at x (by omega) (by omega)).trans h.a, by rw [list_at x (by omega) (by omega)]; exact h.p, (list_at x (by omega) (by omega)).trans h.g, (list_at x (by omega) (by omega)).trans h.s, by omega⟩
theorem wy_sub {L : List Int} {n : Nat} {js : List Nat} (hj : inN n js = true) {g : Nat → Bool} {m : Nat} {c : Int} (h : Wy (benchL (sub5 L js) js.length) js.length g m c) : Wy (benchL L n) n g m c := by
 induction h with
 | done hm hg => exact .done hm hg
 | @step m j c hm hjl hmay _ ih =>
  have hn := inN_get hj hjl
  have e := fun k hk => fld_sub5 (L := L) hjl hn (k := k) hk
  have e1 : mayJ (benchL L n) m (js.getD j 0) = mayJ (benchL (sub5 L js) js.length) m j := by unfold mayJ; rw [e 0 (by omega), e 1 (by omega)]
  have e2 : aftJ (benchL L n) m (js.getD j 0) = aftJ (benchL (sub5 L js) js.length) m j := by unfold aftJ; rw [e 2 (by omega), e 3 (by omega)]
  rw [e 4 (by omega)]
  exact .step hm hn (by rw [e1]; exact hmay) (by rw [e2]; exact ih)
theorem sub_nil {L : List Int} {n : Nat} {p : Int} {js : List Nat} {A : List Int} (hag : agsV L n) (hj : inN n js = true) (hs : HopL (sub5 L js) js.length p []) (ha : HopL L n p A) (h1 : 1 ≤ A.length) : False := by
 have := (hs.less ha fun m c h => wy_sub hj h).1
 rw [List.length_nil] at this
 omega
theorem five_den (ρ : Env) (la : Nat) : ∀ J, (five la J).map (IE.den ρ) = sub5 (ρ.list la) J
 | [] => rfl
 | j :: J => by simp only [five, sub5, List.map_cons, hN_den, five_den ρ la J]
theorem ints_den (ρ : Env) (J : List Nat) : (J.map oN).map (IE.den ρ) = J.map Int.ofNat := by rw [List.map_map]; rfl
theorem tab_den (ρ : Env) : (tab64'.map IE.lit).map (IE.den ρ) = tab64' := by
 rw [List.map_map]
 exact List.map_id _
theorem v_hopN {c : Con} {nds : List NdS} {ρ : Env} {lp q : Nat} {p : Int} {X Y : VT} (h16 : 16 ≤ ρ.k.length) (lpk : 64 ≤ lp ∧ lp < ρ.k.length + 64) (hp : (ρ.list lp).getD 0 0 = p) (p0 : 0 ≤ p ∧ p ≤ 63) (hX : HopL [] 0 p [] → VC c nds none ρ X)
  (hY : ∀ ρ', Ext ρ ρ' → HopL [] 0 p (ρ'.list (65 + q)) ∧ 1 ≤ (ρ'.list (65 + q)).length ∧ (ρ'.list (65 + q)).length ≤ 64 → VC c nds none ρ' Y) : VC c nds none ρ (hopT cHopN (hopN lp) q X Y) := by
 refine ⟨?_, ?_, vc_news 2 fun ρ' x l => ?_⟩
 ·simp only [oblC, cHopN, hopN, tabB, mel, nv, li, envB_list_if h16, bdList, vn, IE.den, reduceIte, Nat.reduceAdd, Nat.reduceSub, Nat.reduceLeDiff, Nat.reduceLT, Nat.reduceEqDiff, hp, tab_den]
  exact ⟨p0, trivial⟩
 ·intro h
  simp only [asmC, outAt, cHopN, hopN, tabB, nv, li, envB_list_if h16, bdList, vn, IE.den, reduceIte, Nat.reduceAdd, Nat.reduceSub, Nat.reduceLeDiff, Nat.reduceLT, Nat.reduceEqDiff, hp] at h
  exact hX h
 ·intro h
  have h16' : 16 ≤ ρ'.k.length := by omega
  rw [← list_at x lpk.2 lpk.1] at hp
  simp only [asmC, outAt, cHopN, hopN, tabB, nv, li, envB_list_if h16', List.cons_append, List.nil_append, bdList, vn, IE.den, reduceIte, Nat.reduceAdd, Nat.reduceSub, Nat.reduceLeDiff, Nat.reduceLT, Nat.reduceEqDiff, hp, show 64 + (q + 1) = 65 + q by omega] at h
  exact hY ρ' x h
theorem v_hopB {c : Con} {nds : List NdS} {ρ : Env} {la lp k q n : Nat} {L : List Int} {p : Int} {J : List Nat} {X Y : VT} (h16 : 16 ≤ ρ.k.length) (lak : 64 ≤ la ∧ la < ρ.k.length + 64) (lpk : 64 ≤ lp ∧ lp < ρ.k.length + 64) (ha : ρ.list la = L) (hp : (ρ.list lp).getD 0 0 = p) (p0 : 0 ≤ p ∧ p ≤ 63) (hag : agsV L n) (hj : inN n J = true) (hj0 : 1 ≤ J.length) (hX : HopL (sub5 L J) J.length p [] → VC c nds none ρ X)
  (hY : ∀ ρ', Ext ρ ρ' → HopL (sub5 L J) J.length p (ρ'.list (65 + q)) ∧ 1 ≤ (ρ'.list (65 + q)).length ∧ (ρ'.list (65 + q)).length ≤ 64 → VC c nds none ρ' Y) : VC c nds none ρ (hopT cHop (hopB la lp k J) q X Y) := by
 refine ⟨?_, ?_, vc_news 2 fun ρ' x l => ?_⟩
 ·simp only [oblC, cHop, hopB, lenB, tabB, pA, mel, nv, li, envB_list_if h16, bdList, vn, IE.den, reduceIte, Nat.reduceAdd, Nat.reduceSub, Nat.reduceLeDiff, Nat.reduceLT, Nat.reduceEqDiff, ha, hp, five_den, tab_den, Int.toNat_natCast]
  exact ⟨⟨by omega, ags_sub hag hj⟩, p0, trivial⟩
 ·intro h
  simp only [asmC, outAt, cHop, hopB, lenB, tabB, nL, nv, li, envB_list_if h16, bdList, vn, IE.den, reduceIte, Nat.reduceAdd, Nat.reduceSub, Nat.reduceLeDiff, Nat.reduceLT, Nat.reduceEqDiff, ha, hp, five_den, Int.toNat_natCast] at h
  exact hX h
 ·intro h
  have h16' : 16 ≤ ρ'.k.length := by omega
  rw [← list_at x lpk.2 lpk.1] at hp
  rw [← list_at x lak.2 lak.1] at ha
  simp only [asmC, outAt, cHop, hopB, lenB, tabB, nL, nv, li, envB_list_if h16', List.cons_append, List.nil_append, bdList, vn, IE.den, reduceIte, Nat.reduceAdd, Nat.reduceSub, Nat.reduceLeDiff, Nat.reduceLT, Nat.reduceEqDiff, ha, hp, five_den, Int.toNat_natCast, show 64 + (q + 1) = 65 + q by omega] at h
  exact hY ρ' x h
theorem bd_ints (ρ : Env) (es : List IE) : bdList ρ (.ints es) = es.map (IE.den ρ) := rfl
theorem v_eqT {c : Con} {nds : List NdS} {ρ : Env} {k m : Nat} {b b' : Bd} {A B : List Int} {i j : IE} {X Y : VT} (h16 : 16 ≤ ρ.k.length) (hb : bdList ρ b = A) (hb' : bdList ρ b' = B) (hA : A.length ≤ 64) (hB : B.length ≤ 64) {e e' : IE} (he : e.den ρ = (A.length : Nat)) (he' : e'.den ρ = (B.length : Nat))
  (hX : ¬ A = B → VC c nds none ρ X) (hY : A = B → VC c nds none ρ Y) : VC c nds none ρ (eqT [.keep k, b, .ints [e, i], .keep m, b', .ints [e', j]] X Y) := by
 refine ⟨?_, fun h => ?_, fun h => ?_⟩
 ·simp only [oblC, cEqL, cEq, pEq, nv, li, envB_list_if h16, bd_ints, vn, IE.den, reduceIte, Nat.reduceAdd, Nat.reduceSub, Nat.reduceLeDiff, Nat.reduceLT, Nat.reduceEqDiff, hb, hb', he, he', true_and]
  exact ⟨by omega, trivial⟩
 ·simp only [asmC, outAt, cEqL, nv, li, envB_list_if h16, bd_ints, vn, IE.den, reduceIte, Nat.reduceAdd, Nat.reduceSub, Nat.reduceLeDiff, Nat.reduceLT, Nat.reduceEqDiff, hb, hb'] at h
  exact hX h
 ·simp only [asmC, outAt, cEqL, nv, li, envB_list_if h16, bd_ints, vn, IE.den, reduceIte, Nat.reduceAdd, Nat.reduceSub, Nat.reduceLeDiff, Nat.reduceLT, Nat.reduceEqDiff, hb, hb'] at h
  exact hY h
theorem v_fin {c : Con} {nds : List NdS} {ρ : Env} (h : (outAt c.outs 0).post = fun _ => True) : VC c nds none ρ finT := by
 refine ⟨trivial, fun _ => ?_⟩
 show (outAt c.outs 0).post _
 rw [h]
 trivial
theorem sets_in (n : Nat) (h : n ≤ 4) : ∀ J ∈ setsN n, inN n J = true ∧ (J = [] ∨ 1 ≤ J.length) := by
 match n, h with
 | 0, _ => decide
 | 1, _ => decide
 | 2, _ => decide
 | 3, _ => decide
 | 4, _ => decide
theorem v_chain (P : Program) {f h : Bool} {n la lp gk lg ak ls : Nat} {L L' G A : List Int} {p : Int} (hL : 0 < n → L' = L) (hag : agsV L n) (p0 : 0 ≤ p ∧ p ≤ 63) (hG : GotL L n p (bif f then G else [])) (hG1 : f = true → 1 ≤ G.length ∧ G.length ≤ 4) (hA : HopL L n p (bif h then A else [])) (hA1 : h = true → 1 ≤ A.length ∧ A.length ≤ 64) :
  ∀ (l : List StepD) (t : Nat) (ρ : Env), l.map StepD.J = (setsN n).drop t → 16 ≤ ρ.k.length → RowF la lp lg ls L' p G A ρ → NoneTo L n p t → VC cRow (ndRow P) none ρ (chain f h la lp gk lg ak ls l)
 | [], t, ρ, hl, h16, F, N => (hG.some N (by
   have := congrArg List.length hl
   rw [List.length_drop] at this
   simp only [List.map_nil, List.length_nil] at this
   omega)).elim
 | d :: l, t, ρ, hl, h16, F, N => by
  have hlt : t < (setsN n).length := by
   have := congrArg List.length hl
   rw [List.length_drop] at this
   simp only [List.map_cons, List.length_cons] at this
   omega
  have hJ : setAt n t = d.J := by
   have := congrArg (fun l => l.getD 0 []) hl
   simp only [List.map_cons, List.getD_cons_zero] at this
   rw [this, setAt, List.getD_eq_getElem?_getD, List.getD_eq_getElem?_getD, List.getElem?_drop, Nat.add_zero]
  have hl' : l.map StepD.J = (setsN n).drop (t + 1) := by
   have := congrArg List.tail hl
   rwa [List.tail_drop] at this
  have hmem : d.J ∈ setsN n := by
   rw [← hJ, setAt, List.getD_eq_getElem?_getD, List.getElem?_eq_getElem hlt]
   exact List.getElem_mem _
  obtain ⟨hj, hj0⟩ := sets_in n hag.2.1 d.J hmem
  refine vc_news d.a fun ρ1 x e => ?_
  replace h16 : 16 ≤ ρ1.k.length := by omega
  replace F := F.ext x
  have next : ∀ ρ', Ext ρ1 ρ' → ¬ SameJ L n p d.J → VC cRow (ndRow P) none ρ' (chain f h la lp gk lg ak ls l) := fun ρ' x hn =>
   v_chain P hL hag p0 hG hG1 hA hA1 l (t + 1) ρ' hl' (by have := x.len; omega) (F.ext x) (N.succ (by rw [hJ]; exact hn))
  have same : ∀ ρ', Ext ρ1 ρ' → SameJ L n p d.J → VC cRow (ndRow P) none ρ' (eqP f gk lg d.m d.J) := fun ρ' x hs => by
   have F := F.ext x
   have hs' : SameJ L n p (setAt n t) := by rw [hJ]; exact hs
   have hg := hG.at_ N hs'
   rw [hJ] at hg
   cases f with
   | false => cases hd : d.J with
    | nil => exact v_fin rfl
    | cons j J => rw [hd] at hg; cases hg
   | true => cases hd : d.J with
    | nil =>
     rw [hd] at hg
     have := (hG1 rfl).1
     rw [show G = [] from hg] at this
     exact absurd this (by decide)
    | cons j J =>
     rw [hd] at hg hj
     have := inN_len hj
     refine v_eqT (by have := x.len; omega) (show bdList ρ' (.lst lg) = G from F.g) (show bdList ρ' (.ints ((j :: J).map oN)) = _ from ints_den ρ' (j :: J)) (by have := (hG1 rfl).2; omega) (by rw [List.length_map]; omega) ?_ ?_ (fun hne => (hne hg).elim) fun _ => v_fin rfl
     ·show (((ρ'.list lg).length : Nat) : Int) = _
      rw [F.g]
     ·show (((j :: J).length : Nat) : Int) = _
      rw [List.length_map]
  have key : ∀ {S : List Int} {k : Nat} (B : Nat → VT → VT → VT), (∀ X Y, (HopL S k p [] → VC cRow (ndRow P) none ρ1 X) → (∀ ρ', Ext ρ1 ρ' → HopL S k p (ρ'.list (65 + d.q)) ∧ 1 ≤ (ρ'.list (65 + d.q)).length ∧ (ρ'.list (65 + d.q)).length ≤ 64 → VC cRow (ndRow P) none ρ' Y) → VC cRow (ndRow P) none ρ1 (B d.q X Y)) → S = sub5 L d.J → k = d.J.length →
    VC cRow (ndRow P) none ρ1 (B d.q (bif h then .obl (oblC cEqX (lisB ak ls)) .ok else eqP f gk lg d.m d.J) (bif h then eqT (lisB d.q (65 + d.q) ++ lisB ak ls) (chain f h la lp gk lg ak ls l) (eqP f gk lg d.m d.J) else chain f h la lp gk lg ak ls l)) := by
   rintro S k B hB rfl rfl
   refine hB _ _ (fun hS => ?_) fun ρ' x ⟨hS, hS1⟩ => ?_
   ·cases h with
    | false => exact same ρ1 (Ext.refl _) ((hop_eq hS hA).1 rfl)
    | true => exact (sub_nil hag hj hS hA (hA1 rfl).1).elim
   ·cases h with
    | false =>
     exact next ρ' x fun hs => by
      have := (hop_eq hS hA).2 hs
      rw [show ρ'.list (65 + d.q) = [] from this] at hS1
      exact absurd hS1.1 (by decide)
    | true =>
     have F := F.ext x
     refine v_eqT (by have := x.len; omega) (A := ρ'.list (65 + d.q)) rfl (show bdList ρ' (.lst ls) = A from F.s) hS1.2 (hA1 rfl).2 rfl ?_ (fun hne => next ρ' x fun hs => hne ((hop_eq hS hA).2 hs)) fun he => same ρ' x ((hop_eq hS hA).1 he)
     show (((ρ'.list ls).length : Nat) : Int) = _
     rw [F.s]
  have Fl := F.l
  unfold hopS
  cases hd : d.J with
  | nil =>
   have := key (S := []) (k := 0) (fun q X Y => hopT cHopN (hopN lp) q X Y) (fun X Y hX hY => v_hopN h16 (by omega) F.p p0 hX hY) (by rw [hd]; rfl) (by rw [hd]; rfl)
   rw [hd] at this
   exact this
  | cons j J =>
   rw [hd] at hj
   have := key (S := sub5 L (j :: J)) (k := (j :: J).length) (fun q X Y => hopT cHop (hopB la lp d.k (j :: J)) q X Y) (fun X Y hX hY => v_hopB h16 (by omega) (by omega) (F.a.trans (hL (by have := inN_get hj (i := 0) (by simp only [List.length_cons]; omega); omega))) F.p p0 hag hj (by simp only [List.length_cons]; omega) hX hY) (by rw [hd]) (by rw [hd])
   rw [hd] at this
   exact this
end Ft
set_option linter.unusedVariables false
set_option linter.unusedSimpArgs false
set_option maxRecDepth 20000
open Go Mv Mw
namespace Ft
theorem agV_up {L : List Int} {i : Nat} (h : agV 3 L i) : agV 6 L i := by
 unfold agV at h ⊢
 omega
theorem rowP_ext {ρ ρ' : Env} (x : Ext ρ ρ') (h : rowP ρ) : rowP ρ' := by
 obtain ⟨t, rfl⟩ := x
 exact h
theorem v_s000 (P : Program) {ρ : Env} {L M G A : List Int} {p : Int} (hL : 0 < 0 → M = L) (hl : ρ.k.length = 21) (F : RowF 84 84 84 84 M p G A ρ) (hag : agsV L 0) (p0 : 0 ≤ p ∧ p ≤ 63) (hG : GotL L 0 p []) (hA : HopL L 0 p []) : VC cRow (ndRow P) none ρ s000_ :=
 v_chain (f := false) (h := false) (G := G) (A := A) P hL hag p0 hG (fun h => nomatch h) hA (fun h => nomatch h) _ 0 ρ rfl (by omega) F .zero
theorem v_s001 (P : Program) {ρ : Env} {L M G A : List Int} {p : Int} (hL : 0 < 0 → M = L) (hl : ρ.k.length = 23) (F : RowF 84 84 84 86 M p G A ρ) (hag : agsV L 0) (p0 : 0 ≤ p ∧ p ≤ 63) (hG : GotL L 0 p []) (hA : HopL L 0 p A) (hA1 : 1 ≤ A.length ∧ A.length ≤ 64) : VC cRow (ndRow P) none ρ s001_ :=
 v_chain (f := false) (h := true) (G := G) (A := A) P hL hag p0 hG (fun h => nomatch h) hA (fun _ => hA1) _ 0 ρ rfl (by omega) F .zero
theorem v_t0 (P : Program) {ρ : Env} (hl : ρ.k.length = 18) (hp : rowP ρ) : VC cRow (ndRow P) none ρ t0_ := by
 unfold t0_
 refine vc_news 1 fun ρ1 x l => ?_
 replace hl : ρ1.k.length = 19 := by rw [l, hl]
 replace hp := rowP_ext x hp
 intro hS
 simp only [asmC, outAt, cAgL, cAgents, nv, li, hl, envB_list_if, bdList, vn, IE.den, reduceIte, Nat.reduceAdd, Nat.reduceSub, Nat.reduceLeDiff, Nat.reduceLT, Nat.reduceEqDiff] at hS
 obtain ⟨a1, a2⟩ := hS
 have hag : agsV [] 0 := ⟨rfl, by decide, fun i hi => absurd hi (by omega)⟩
 refine ⟨by simp only [oblC, cPass, rowP, int_envB, nv, li, hl, T60, T62, T59, envB_list_if, bdList, vn, IE.den, reduceIte, Nat.reduceAdd, Nat.reduceSub, Nat.reduceLeDiff, Nat.reduceLT, Nat.reduceEqDiff]; exact ⟨hp, by omega, by omega, by decide, by decide⟩, ?_⟩
 refine vc_news 2 fun ρ2 x l => ?_
 replace hl : ρ2.k.length = 21 := by rw [l, hl]
 intro hS
 simp only [asmC, outAt, cPass, mel, nv, li, hl, envB_list_if, bdList, vn, IE.den, reduceIte, Nat.reduceAdd, Nat.reduceSub, Nat.reduceLeDiff, Nat.reduceLT, Nat.reduceEqDiff] at hS
 obtain ⟨-, -, p0⟩ := hS
 have F : RowF 84 84 84 84 (ρ2.list 84) ((ρ2.list 84).getD 0 0) (ρ2.list 84) (ρ2.list 84) ρ2 := ⟨rfl, rfl, rfl, rfl, by omega⟩
 generalize (ρ2.list 84).getD 0 0 = p at F p0
 generalize ρ2.list 84 = L at F
 refine ⟨by simp only [oblC, cFewN, mel, nv, li, hl, envB_list_if, bdList, vn, IE.den, reduceIte, Nat.reduceAdd, Nat.reduceSub, Nat.reduceLeDiff, Nat.reduceLT, Nat.reduceEqDiff, F.p]; exact p0, ?_⟩
 intro _
 have hG : GotL [] 0 p [] := ⟨0, by decide, .zero, fun m hm => Iff.rfl, rfl⟩
 refine ⟨by simp only [oblC, cHopN, mel, nv, li, hl, envB_list_if, bdList, vn, IE.den, reduceIte, Nat.reduceAdd, Nat.reduceSub, Nat.reduceLeDiff, Nat.reduceLT, Nat.reduceEqDiff, F.p]; exact ⟨p0, rfl⟩, ?_, ?_⟩
 ·intro hA
  simp only [asmC, outAt, cHopN, nL, nv, li, hl, envB_list_if, bdList, vn, IE.den, reduceIte, Nat.reduceAdd, Nat.reduceSub, Nat.reduceLeDiff, Nat.reduceLT, Nat.reduceEqDiff, F.p] at hA
  exact v_s000 P (fun h => absurd h (by decide)) hl F hag p0 hG hA
 refine vc_news 2 fun ρ4 x l => ?_
 replace hl : ρ4.k.length = 23 := by rw [l, hl]
 replace F := F.ext x
 intro hA
 simp only [asmC, outAt, cHopN, nL, nv, li, hl, envB_list_if, bdList, vn, IE.den, reduceIte, Nat.reduceAdd, Nat.reduceSub, Nat.reduceLeDiff, Nat.reduceLT, Nat.reduceEqDiff, F.p] at hA
 exact v_s001 P (fun h => absurd h (by decide)) hl ⟨F.a, F.p, F.g, rfl, by omega⟩ hag p0 hG hA.1 hA.2
theorem v_s100 (P : Program) {ρ : Env} {L M G A : List Int} {p : Int} (hL : 0 < 1 → M = L) (hl : ρ.k.length = 23) (F : RowF 84 86 84 84 M p G A ρ) (hag : agsV L 1) (p0 : 0 ≤ p ∧ p ≤ 63) (hG : GotL L 1 p []) (hA : HopL L 1 p []) : VC cRow (ndRow P) none ρ s100_ :=
 v_chain (f := false) (h := false) (G := G) (A := A) P hL hag p0 hG (fun h => nomatch h) hA (fun h => nomatch h) _ 0 ρ rfl (by omega) F .zero
theorem v_s101 (P : Program) {ρ : Env} {L M G A : List Int} {p : Int} (hL : 0 < 1 → M = L) (hl : ρ.k.length = 25) (F : RowF 84 86 84 88 M p G A ρ) (hag : agsV L 1) (p0 : 0 ≤ p ∧ p ≤ 63) (hG : GotL L 1 p []) (hA : HopL L 1 p A) (hA1 : 1 ≤ A.length ∧ A.length ≤ 64) : VC cRow (ndRow P) none ρ s101_ :=
 v_chain (f := false) (h := true) (G := G) (A := A) P hL hag p0 hG (fun h => nomatch h) hA (fun _ => hA1) _ 0 ρ rfl (by omega) F .zero
theorem v_s110 (P : Program) {ρ : Env} {L M G A : List Int} {p : Int} (hL : 0 < 1 → M = L) (hl : ρ.k.length = 25) (F : RowF 84 86 88 84 M p G A ρ) (hag : agsV L 1) (p0 : 0 ≤ p ∧ p ≤ 63) (hG : GotL L 1 p G) (hG1 : 1 ≤ G.length ∧ G.length ≤ 4) (hA : HopL L 1 p []) : VC cRow (ndRow P) none ρ s110_ :=
 v_chain (f := true) (h := false) (G := G) (A := A) P hL hag p0 hG (fun _ => hG1) hA (fun h => nomatch h) _ 0 ρ rfl (by omega) F .zero
theorem v_s111 (P : Program) {ρ : Env} {L M G A : List Int} {p : Int} (hL : 0 < 1 → M = L) (hl : ρ.k.length = 27) (F : RowF 84 86 88 90 M p G A ρ) (hag : agsV L 1) (p0 : 0 ≤ p ∧ p ≤ 63) (hG : GotL L 1 p G) (hG1 : 1 ≤ G.length ∧ G.length ≤ 4) (hA : HopL L 1 p A) (hA1 : 1 ≤ A.length ∧ A.length ≤ 64) : VC cRow (ndRow P) none ρ s111_ :=
 v_chain (f := true) (h := true) (G := G) (A := A) P hL hag p0 hG (fun _ => hG1) hA (fun _ => hA1) _ 0 ρ rfl (by omega) F .zero
theorem v_t1 (P : Program) {ρ : Env} (hl : ρ.k.length = 18) (hp : rowP ρ) : VC cRow (ndRow P) none ρ t1_ := by
 unfold t1_
 refine vc_news 3 fun ρ1 x l => ?_
 replace hl : ρ1.k.length = 21 := by rw [l, hl]
 replace hp := rowP_ext x hp
 intro hS
 simp only [asmC, outAt, cAgL, cAgents, agO, nv, li, hl, envB_list_if, bdList, vn, IE.den, reduceIte, Nat.reduceAdd, Nat.reduceSub, Nat.reduceLeDiff, Nat.reduceLT, Nat.reduceEqDiff] at hS
 obtain ⟨a1, a2, a3, a4⟩ := hS
 have hag : agsV (ρ1.list 84) 1 := ⟨a3, by decide, fun i hi => agV_up (a4 i hi)⟩
 refine ⟨by simp only [oblC, cPass, rowP, int_envB, nv, li, hl, T60, T62, T59, envB_list_if, bdList, vn, IE.den, reduceIte, Nat.reduceAdd, Nat.reduceSub, Nat.reduceLeDiff, Nat.reduceLT, Nat.reduceEqDiff]; exact ⟨hp, by omega, by omega, by decide, by decide⟩, ?_⟩
 refine vc_news 2 fun ρ2 x l => ?_
 replace hl : ρ2.k.length = 23 := by rw [l, hl]
 intro hS
 simp only [asmC, outAt, cPass, mel, nv, li, hl, envB_list_if, bdList, vn, IE.den, reduceIte, Nat.reduceAdd, Nat.reduceSub, Nat.reduceLeDiff, Nat.reduceLT, Nat.reduceEqDiff] at hS
 obtain ⟨-, -, p0⟩ := hS
 rw [← list_at x (l := 84) (by omega) (by omega)] at hag
 have F : RowF 84 86 84 84 (ρ2.list 84) ((ρ2.list 86).getD 0 0) (ρ2.list 84) (ρ2.list 84) ρ2 := ⟨rfl, rfl, rfl, rfl, by omega⟩
 generalize (ρ2.list 86).getD 0 0 = p at F p0
 generalize ρ2.list 84 = L at F hag
 refine ⟨by simp only [oblC, cFew1, cFew, mel, nv, li, hl, envB_list_if, bdList, vn, IE.den, reduceIte, Nat.reduceAdd, Nat.reduceSub, Nat.reduceLeDiff, Nat.reduceLT, Nat.reduceEqDiff, F.a, F.p]; exact ⟨hag, p0⟩, ?_, ?_⟩
 ·intro hG
  simp only [asmC, outAt, cFew1, cFew, nv, li, hl, envB_list_if, bdList, vn, IE.den, reduceIte, Nat.reduceAdd, Nat.reduceSub, Nat.reduceLeDiff, Nat.reduceLT, Nat.reduceEqDiff, F.a, F.p] at hG
  refine ⟨by simp only [oblC, cHop, pA, mel, nv, li, hl, envB_list_if, bdList, vn, IE.den, reduceIte, Nat.reduceAdd, Nat.reduceSub, Nat.reduceLeDiff, Nat.reduceLT, Nat.reduceEqDiff, F.p, F.a]; exact ⟨⟨by decide, hag⟩, p0, rfl⟩, ?_, ?_⟩
  ·intro hA
   simp only [asmC, outAt, cHop, nL, nv, li, hl, envB_list_if, bdList, vn, IE.den, reduceIte, Nat.reduceAdd, Nat.reduceSub, Nat.reduceLeDiff, Nat.reduceLT, Nat.reduceEqDiff, F.p, F.a] at hA
   exact v_s100 P (fun _ => rfl) hl F hag p0 hG hA
  refine vc_news 2 fun ρ4 x l => ?_
  replace hl : ρ4.k.length = 25 := by rw [l, hl]
  replace F := F.ext x
  intro hA
  simp only [asmC, outAt, cHop, nL, nv, li, hl, envB_list_if, bdList, vn, IE.den, reduceIte, Nat.reduceAdd, Nat.reduceSub, Nat.reduceLeDiff, Nat.reduceLT, Nat.reduceEqDiff, F.p, F.a] at hA
  exact v_s101 P (fun _ => rfl) hl ⟨F.a, F.p, F.g, rfl, by omega⟩ hag p0 hG hA.1 hA.2
 refine vc_news 2 fun ρ3 x l => ?_
 replace hl : ρ3.k.length = 25 := by rw [l, hl]
 replace F := F.ext x
 intro hG
 simp only [asmC, outAt, cFew1, cFew, nv, li, hl, envB_list_if, bdList, vn, IE.den, reduceIte, Nat.reduceAdd, Nat.reduceSub, Nat.reduceLeDiff, Nat.reduceLT, Nat.reduceEqDiff, F.a, F.p] at hG
 have F : RowF 84 86 88 84 L p (ρ3.list 88) L ρ3 := ⟨F.a, F.p, rfl, F.a, by omega⟩
 generalize ρ3.list 88 = G at F hG
 obtain ⟨hG, hG1⟩ := hG
 refine ⟨by simp only [oblC, cHop, pA, mel, nv, li, hl, envB_list_if, bdList, vn, IE.den, reduceIte, Nat.reduceAdd, Nat.reduceSub, Nat.reduceLeDiff, Nat.reduceLT, Nat.reduceEqDiff, F.p, F.a]; exact ⟨⟨by decide, hag⟩, p0, rfl⟩, ?_, ?_⟩
 ·intro hA
  simp only [asmC, outAt, cHop, nL, nv, li, hl, envB_list_if, bdList, vn, IE.den, reduceIte, Nat.reduceAdd, Nat.reduceSub, Nat.reduceLeDiff, Nat.reduceLT, Nat.reduceEqDiff, F.p, F.a] at hA
  exact v_s110 P (fun _ => rfl) hl F hag p0 hG hG1 hA
 refine vc_news 2 fun ρ4 x l => ?_
 replace hl : ρ4.k.length = 27 := by rw [l, hl]
 replace F := F.ext x
 intro hA
 simp only [asmC, outAt, cHop, nL, nv, li, hl, envB_list_if, bdList, vn, IE.den, reduceIte, Nat.reduceAdd, Nat.reduceSub, Nat.reduceLeDiff, Nat.reduceLT, Nat.reduceEqDiff, F.p, F.a] at hA
 exact v_s111 P (fun _ => rfl) hl ⟨F.a, F.p, F.g, rfl, by omega⟩ hag p0 hG hG1 hA.1 hA.2
theorem v_s200 (P : Program) {ρ : Env} {L M G A : List Int} {p : Int} (hL : 0 < 2 → M = L) (hl : ρ.k.length = 23) (F : RowF 84 86 84 84 M p G A ρ) (hag : agsV L 2) (p0 : 0 ≤ p ∧ p ≤ 63) (hG : GotL L 2 p []) (hA : HopL L 2 p []) : VC cRow (ndRow P) none ρ s200_ :=
 v_chain (f := false) (h := false) (G := G) (A := A) P hL hag p0 hG (fun h => nomatch h) hA (fun h => nomatch h) _ 0 ρ rfl (by omega) F .zero
theorem v_s201 (P : Program) {ρ : Env} {L M G A : List Int} {p : Int} (hL : 0 < 2 → M = L) (hl : ρ.k.length = 25) (F : RowF 84 86 84 88 M p G A ρ) (hag : agsV L 2) (p0 : 0 ≤ p ∧ p ≤ 63) (hG : GotL L 2 p []) (hA : HopL L 2 p A) (hA1 : 1 ≤ A.length ∧ A.length ≤ 64) : VC cRow (ndRow P) none ρ s201_ :=
 v_chain (f := false) (h := true) (G := G) (A := A) P hL hag p0 hG (fun h => nomatch h) hA (fun _ => hA1) _ 0 ρ rfl (by omega) F .zero
theorem v_s210 (P : Program) {ρ : Env} {L M G A : List Int} {p : Int} (hL : 0 < 2 → M = L) (hl : ρ.k.length = 25) (F : RowF 84 86 88 84 M p G A ρ) (hag : agsV L 2) (p0 : 0 ≤ p ∧ p ≤ 63) (hG : GotL L 2 p G) (hG1 : 1 ≤ G.length ∧ G.length ≤ 4) (hA : HopL L 2 p []) : VC cRow (ndRow P) none ρ s210_ :=
 v_chain (f := true) (h := false) (G := G) (A := A) P hL hag p0 hG (fun _ => hG1) hA (fun h => nomatch h) _ 0 ρ rfl (by omega) F .zero
theorem v_s211 (P : Program) {ρ : Env} {L M G A : List Int} {p : Int} (hL : 0 < 2 → M = L) (hl : ρ.k.length = 27) (F : RowF 84 86 88 90 M p G A ρ) (hag : agsV L 2) (p0 : 0 ≤ p ∧ p ≤ 63) (hG : GotL L 2 p G) (hG1 : 1 ≤ G.length ∧ G.length ≤ 4) (hA : HopL L 2 p A) (hA1 : 1 ≤ A.length ∧ A.length ≤ 64) : VC cRow (ndRow P) none ρ s211_ :=
 v_chain (f := true) (h := true) (G := G) (A := A) P hL hag p0 hG (fun _ => hG1) hA (fun _ => hA1) _ 0 ρ rfl (by omega) F .zero
theorem v_t2 (P : Program) {ρ : Env} (hl : ρ.k.length = 18) (hp : rowP ρ) : VC cRow (ndRow P) none ρ t2_ := by
 unfold t2_
 refine vc_news 3 fun ρ1 x l => ?_
 replace hl : ρ1.k.length = 21 := by rw [l, hl]
 replace hp := rowP_ext x hp
 intro hS
 simp only [asmC, outAt, cAgL, cAgents, agO, nv, li, hl, envB_list_if, bdList, vn, IE.den, reduceIte, Nat.reduceAdd, Nat.reduceSub, Nat.reduceLeDiff, Nat.reduceLT, Nat.reduceEqDiff] at hS
 obtain ⟨a1, a2, a3, a4⟩ := hS
 have hag : agsV (ρ1.list 84) 2 := ⟨a3, by decide, fun i hi => agV_up (a4 i hi)⟩
 refine ⟨by simp only [oblC, cPass, rowP, int_envB, nv, li, hl, T60, T62, T59, envB_list_if, bdList, vn, IE.den, reduceIte, Nat.reduceAdd, Nat.reduceSub, Nat.reduceLeDiff, Nat.reduceLT, Nat.reduceEqDiff]; exact ⟨hp, by omega, by omega, by decide, by decide⟩, ?_⟩
 refine vc_news 2 fun ρ2 x l => ?_
 replace hl : ρ2.k.length = 23 := by rw [l, hl]
 intro hS
 simp only [asmC, outAt, cPass, mel, nv, li, hl, envB_list_if, bdList, vn, IE.den, reduceIte, Nat.reduceAdd, Nat.reduceSub, Nat.reduceLeDiff, Nat.reduceLT, Nat.reduceEqDiff] at hS
 obtain ⟨-, -, p0⟩ := hS
 rw [← list_at x (l := 84) (by omega) (by omega)] at hag
 have F : RowF 84 86 84 84 (ρ2.list 84) ((ρ2.list 86).getD 0 0) (ρ2.list 84) (ρ2.list 84) ρ2 := ⟨rfl, rfl, rfl, rfl, by omega⟩
 generalize (ρ2.list 86).getD 0 0 = p at F p0
 generalize ρ2.list 84 = L at F hag
 refine ⟨by simp only [oblC, cFew2, cFew, mel, nv, li, hl, envB_list_if, bdList, vn, IE.den, reduceIte, Nat.reduceAdd, Nat.reduceSub, Nat.reduceLeDiff, Nat.reduceLT, Nat.reduceEqDiff, F.a, F.p]; exact ⟨hag, p0⟩, ?_, ?_⟩
 ·intro hG
  simp only [asmC, outAt, cFew2, cFew, nv, li, hl, envB_list_if, bdList, vn, IE.den, reduceIte, Nat.reduceAdd, Nat.reduceSub, Nat.reduceLeDiff, Nat.reduceLT, Nat.reduceEqDiff, F.a, F.p] at hG
  refine ⟨by simp only [oblC, cHop, pA, mel, nv, li, hl, envB_list_if, bdList, vn, IE.den, reduceIte, Nat.reduceAdd, Nat.reduceSub, Nat.reduceLeDiff, Nat.reduceLT, Nat.reduceEqDiff, F.p, F.a]; exact ⟨⟨by decide, hag⟩, p0, rfl⟩, ?_, ?_⟩
  ·intro hA
   simp only [asmC, outAt, cHop, nL, nv, li, hl, envB_list_if, bdList, vn, IE.den, reduceIte, Nat.reduceAdd, Nat.reduceSub, Nat.reduceLeDiff, Nat.reduceLT, Nat.reduceEqDiff, F.p, F.a] at hA
   exact v_s200 P (fun _ => rfl) hl F hag p0 hG hA
  refine vc_news 2 fun ρ4 x l => ?_
  replace hl : ρ4.k.length = 25 := by rw [l, hl]
  replace F := F.ext x
  intro hA
  simp only [asmC, outAt, cHop, nL, nv, li, hl, envB_list_if, bdList, vn, IE.den, reduceIte, Nat.reduceAdd, Nat.reduceSub, Nat.reduceLeDiff, Nat.reduceLT, Nat.reduceEqDiff, F.p, F.a] at hA
  exact v_s201 P (fun _ => rfl) hl ⟨F.a, F.p, F.g, rfl, by omega⟩ hag p0 hG hA.1 hA.2
 refine vc_news 2 fun ρ3 x l => ?_
 replace hl : ρ3.k.length = 25 := by rw [l, hl]
 replace F := F.ext x
 intro hG
 simp only [asmC, outAt, cFew2, cFew, nv, li, hl, envB_list_if, bdList, vn, IE.den, reduceIte, Nat.reduceAdd, Nat.reduceSub, Nat.reduceLeDiff, Nat.reduceLT, Nat.reduceEqDiff, F.a, F.p] at hG
 have F : RowF 84 86 88 84 L p (ρ3.list 88) L ρ3 := ⟨F.a, F.p, rfl, F.a, by omega⟩
 generalize ρ3.list 88 = G at F hG
 obtain ⟨hG, hG1⟩ := hG
 refine ⟨by simp only [oblC, cHop, pA, mel, nv, li, hl, envB_list_if, bdList, vn, IE.den, reduceIte, Nat.reduceAdd, Nat.reduceSub, Nat.reduceLeDiff, Nat.reduceLT, Nat.reduceEqDiff, F.p, F.a]; exact ⟨⟨by decide, hag⟩, p0, rfl⟩, ?_, ?_⟩
 ·intro hA
  simp only [asmC, outAt, cHop, nL, nv, li, hl, envB_list_if, bdList, vn, IE.den, reduceIte, Nat.reduceAdd, Nat.reduceSub, Nat.reduceLeDiff, Nat.reduceLT, Nat.reduceEqDiff, F.p, F.a] at hA
  exact v_s210 P (fun _ => rfl) hl F hag p0 hG hG1 hA
 refine vc_news 2 fun ρ4 x l => ?_
 replace hl : ρ4.k.length = 27 := by rw [l, hl]
 replace F := F.ext x
 intro hA
 simp only [asmC, outAt, cHop, nL, nv, li, hl, envB_list_if, bdList, vn, IE.den, reduceIte, Nat.reduceAdd, Nat.reduceSub, Nat.reduceLeDiff, Nat.reduceLT, Nat.reduceEqDiff, F.p, F.a] at hA
 exact v_s211 P (fun _ => rfl) hl ⟨F.a, F.p, F.g, rfl, by omega⟩ hag p0 hG hG1 hA.1 hA.2
theorem v_s300 (P : Program) {ρ : Env} {L M G A : List Int} {p : Int} (hL : 0 < 3 → M = L) (hl : ρ.k.length = 23) (F : RowF 84 86 84 84 M p G A ρ) (hag : agsV L 3) (p0 : 0 ≤ p ∧ p ≤ 63) (hG : GotL L 3 p []) (hA : HopL L 3 p []) : VC cRow (ndRow P) none ρ s300_ :=
 v_chain (f := false) (h := false) (G := G) (A := A) P hL hag p0 hG (fun h => nomatch h) hA (fun h => nomatch h) _ 0 ρ rfl (by omega) F .zero
theorem v_s301 (P : Program) {ρ : Env} {L M G A : List Int} {p : Int} (hL : 0 < 3 → M = L) (hl : ρ.k.length = 25) (F : RowF 84 86 84 88 M p G A ρ) (hag : agsV L 3) (p0 : 0 ≤ p ∧ p ≤ 63) (hG : GotL L 3 p []) (hA : HopL L 3 p A) (hA1 : 1 ≤ A.length ∧ A.length ≤ 64) : VC cRow (ndRow P) none ρ s301_ :=
 v_chain (f := false) (h := true) (G := G) (A := A) P hL hag p0 hG (fun h => nomatch h) hA (fun _ => hA1) _ 0 ρ rfl (by omega) F .zero
theorem v_s310 (P : Program) {ρ : Env} {L M G A : List Int} {p : Int} (hL : 0 < 3 → M = L) (hl : ρ.k.length = 25) (F : RowF 84 86 88 84 M p G A ρ) (hag : agsV L 3) (p0 : 0 ≤ p ∧ p ≤ 63) (hG : GotL L 3 p G) (hG1 : 1 ≤ G.length ∧ G.length ≤ 4) (hA : HopL L 3 p []) : VC cRow (ndRow P) none ρ s310_ :=
 v_chain (f := true) (h := false) (G := G) (A := A) P hL hag p0 hG (fun _ => hG1) hA (fun h => nomatch h) _ 0 ρ rfl (by omega) F .zero
theorem v_s311 (P : Program) {ρ : Env} {L M G A : List Int} {p : Int} (hL : 0 < 3 → M = L) (hl : ρ.k.length = 27) (F : RowF 84 86 88 90 M p G A ρ) (hag : agsV L 3) (p0 : 0 ≤ p ∧ p ≤ 63) (hG : GotL L 3 p G) (hG1 : 1 ≤ G.length ∧ G.length ≤ 4) (hA : HopL L 3 p A) (hA1 : 1 ≤ A.length ∧ A.length ≤ 64) : VC cRow (ndRow P) none ρ s311_ :=
 v_chain (f := true) (h := true) (G := G) (A := A) P hL hag p0 hG (fun _ => hG1) hA (fun _ => hA1) _ 0 ρ rfl (by omega) F .zero
theorem v_t3 (P : Program) {ρ : Env} (hl : ρ.k.length = 18) (hp : rowP ρ) : VC cRow (ndRow P) none ρ t3_ := by
 unfold t3_
 refine vc_news 3 fun ρ1 x l => ?_
 replace hl : ρ1.k.length = 21 := by rw [l, hl]
 replace hp := rowP_ext x hp
 intro hS
 simp only [asmC, outAt, cAgL, cAgents, agO, nv, li, hl, envB_list_if, bdList, vn, IE.den, reduceIte, Nat.reduceAdd, Nat.reduceSub, Nat.reduceLeDiff, Nat.reduceLT, Nat.reduceEqDiff] at hS
 obtain ⟨a1, a2, a3, a4⟩ := hS
 have hag : agsV (ρ1.list 84) 3 := ⟨a3, by decide, fun i hi => agV_up (a4 i hi)⟩
 refine ⟨by simp only [oblC, cPass, rowP, int_envB, nv, li, hl, T60, T62, T59, envB_list_if, bdList, vn, IE.den, reduceIte, Nat.reduceAdd, Nat.reduceSub, Nat.reduceLeDiff, Nat.reduceLT, Nat.reduceEqDiff]; exact ⟨hp, by omega, by omega, by decide, by decide⟩, ?_⟩
 refine vc_news 2 fun ρ2 x l => ?_
 replace hl : ρ2.k.length = 23 := by rw [l, hl]
 intro hS
 simp only [asmC, outAt, cPass, mel, nv, li, hl, envB_list_if, bdList, vn, IE.den, reduceIte, Nat.reduceAdd, Nat.reduceSub, Nat.reduceLeDiff, Nat.reduceLT, Nat.reduceEqDiff] at hS
 obtain ⟨-, -, p0⟩ := hS
 rw [← list_at x (l := 84) (by omega) (by omega)] at hag
 have F : RowF 84 86 84 84 (ρ2.list 84) ((ρ2.list 86).getD 0 0) (ρ2.list 84) (ρ2.list 84) ρ2 := ⟨rfl, rfl, rfl, rfl, by omega⟩
 generalize (ρ2.list 86).getD 0 0 = p at F p0
 generalize ρ2.list 84 = L at F hag
 refine ⟨by simp only [oblC, cFew3, cFew, mel, nv, li, hl, envB_list_if, bdList, vn, IE.den, reduceIte, Nat.reduceAdd, Nat.reduceSub, Nat.reduceLeDiff, Nat.reduceLT, Nat.reduceEqDiff, F.a, F.p]; exact ⟨hag, p0⟩, ?_, ?_⟩
 ·intro hG
  simp only [asmC, outAt, cFew3, cFew, nv, li, hl, envB_list_if, bdList, vn, IE.den, reduceIte, Nat.reduceAdd, Nat.reduceSub, Nat.reduceLeDiff, Nat.reduceLT, Nat.reduceEqDiff, F.a, F.p] at hG
  refine ⟨by simp only [oblC, cHop, pA, mel, nv, li, hl, envB_list_if, bdList, vn, IE.den, reduceIte, Nat.reduceAdd, Nat.reduceSub, Nat.reduceLeDiff, Nat.reduceLT, Nat.reduceEqDiff, F.p, F.a]; exact ⟨⟨by decide, hag⟩, p0, rfl⟩, ?_, ?_⟩
  ·intro hA
   simp only [asmC, outAt, cHop, nL, nv, li, hl, envB_list_if, bdList, vn, IE.den, reduceIte, Nat.reduceAdd, Nat.reduceSub, Nat.reduceLeDiff, Nat.reduceLT, Nat.reduceEqDiff, F.p, F.a] at hA
   exact v_s300 P (fun _ => rfl) hl F hag p0 hG hA
  refine vc_news 2 fun ρ4 x l => ?_
  replace hl : ρ4.k.length = 25 := by rw [l, hl]
  replace F := F.ext x
  intro hA
  simp only [asmC, outAt, cHop, nL, nv, li, hl, envB_list_if, bdList, vn, IE.den, reduceIte, Nat.reduceAdd, Nat.reduceSub, Nat.reduceLeDiff, Nat.reduceLT, Nat.reduceEqDiff, F.p, F.a] at hA
  exact v_s301 P (fun _ => rfl) hl ⟨F.a, F.p, F.g, rfl, by omega⟩ hag p0 hG hA.1 hA.2
 refine vc_news 2 fun ρ3 x l => ?_
 replace hl : ρ3.k.length = 25 := by rw [l, hl]
 replace F := F.ext x
 intro hG
 simp only [asmC, outAt, cFew3, cFew, nv, li, hl, envB_list_if, bdList, vn, IE.den, reduceIte, Nat.reduceAdd, Nat.reduceSub, Nat.reduceLeDiff, Nat.reduceLT, Nat.reduceEqDiff, F.a, F.p] at hG
 have F : RowF 84 86 88 84 L p (ρ3.list 88) L ρ3 := ⟨F.a, F.p, rfl, F.a, by omega⟩
 generalize ρ3.list 88 = G at F hG
 obtain ⟨hG, hG1⟩ := hG
 refine ⟨by simp only [oblC, cHop, pA, mel, nv, li, hl, envB_list_if, bdList, vn, IE.den, reduceIte, Nat.reduceAdd, Nat.reduceSub, Nat.reduceLeDiff, Nat.reduceLT, Nat.reduceEqDiff, F.p, F.a]; exact ⟨⟨by decide, hag⟩, p0, rfl⟩, ?_, ?_⟩
 ·intro hA
  simp only [asmC, outAt, cHop, nL, nv, li, hl, envB_list_if, bdList, vn, IE.den, reduceIte, Nat.reduceAdd, Nat.reduceSub, Nat.reduceLeDiff, Nat.reduceLT, Nat.reduceEqDiff, F.p, F.a] at hA
  exact v_s310 P (fun _ => rfl) hl F hag p0 hG hG1 hA
 refine vc_news 2 fun ρ4 x l => ?_
 replace hl : ρ4.k.length = 27 := by rw [l, hl]
 replace F := F.ext x
 intro hA
 simp only [asmC, outAt, cHop, nL, nv, li, hl, envB_list_if, bdList, vn, IE.den, reduceIte, Nat.reduceAdd, Nat.reduceSub, Nat.reduceLeDiff, Nat.reduceLT, Nat.reduceEqDiff, F.p, F.a] at hA
 exact v_s311 P (fun _ => rfl) hl ⟨F.a, F.p, F.g, rfl, by omega⟩ hag p0 hG hG1 hA.1 hA.2
theorem v_s400 (P : Program) {ρ : Env} {L M G A : List Int} {p : Int} (hL : 0 < 4 → M = L) (hl : ρ.k.length = 23) (F : RowF 84 86 84 84 M p G A ρ) (hag : agsV L 4) (p0 : 0 ≤ p ∧ p ≤ 63) (hG : GotL L 4 p []) (hA : HopL L 4 p []) : VC cRow (ndRow P) none ρ s400_ :=
 v_chain (f := false) (h := false) (G := G) (A := A) P hL hag p0 hG (fun h => nomatch h) hA (fun h => nomatch h) _ 0 ρ rfl (by omega) F .zero
theorem v_s401 (P : Program) {ρ : Env} {L M G A : List Int} {p : Int} (hL : 0 < 4 → M = L) (hl : ρ.k.length = 25) (F : RowF 84 86 84 88 M p G A ρ) (hag : agsV L 4) (p0 : 0 ≤ p ∧ p ≤ 63) (hG : GotL L 4 p []) (hA : HopL L 4 p A) (hA1 : 1 ≤ A.length ∧ A.length ≤ 64) : VC cRow (ndRow P) none ρ s401_ :=
 v_chain (f := false) (h := true) (G := G) (A := A) P hL hag p0 hG (fun h => nomatch h) hA (fun _ => hA1) _ 0 ρ rfl (by omega) F .zero
theorem v_s410 (P : Program) {ρ : Env} {L M G A : List Int} {p : Int} (hL : 0 < 4 → M = L) (hl : ρ.k.length = 25) (F : RowF 84 86 88 84 M p G A ρ) (hag : agsV L 4) (p0 : 0 ≤ p ∧ p ≤ 63) (hG : GotL L 4 p G) (hG1 : 1 ≤ G.length ∧ G.length ≤ 4) (hA : HopL L 4 p []) : VC cRow (ndRow P) none ρ s410_ :=
 v_chain (f := true) (h := false) (G := G) (A := A) P hL hag p0 hG (fun _ => hG1) hA (fun h => nomatch h) _ 0 ρ rfl (by omega) F .zero
theorem v_s411 (P : Program) {ρ : Env} {L M G A : List Int} {p : Int} (hL : 0 < 4 → M = L) (hl : ρ.k.length = 27) (F : RowF 84 86 88 90 M p G A ρ) (hag : agsV L 4) (p0 : 0 ≤ p ∧ p ≤ 63) (hG : GotL L 4 p G) (hG1 : 1 ≤ G.length ∧ G.length ≤ 4) (hA : HopL L 4 p A) (hA1 : 1 ≤ A.length ∧ A.length ≤ 64) : VC cRow (ndRow P) none ρ s411_ :=
 v_chain (f := true) (h := true) (G := G) (A := A) P hL hag p0 hG (fun _ => hG1) hA (fun _ => hA1) _ 0 ρ rfl (by omega) F .zero
theorem v_t4 (P : Program) {ρ : Env} (hl : ρ.k.length = 18) (hp : rowP ρ) : VC cRow (ndRow P) none ρ t4_ := by
 unfold t4_
 refine vc_news 3 fun ρ1 x l => ?_
 replace hl : ρ1.k.length = 21 := by rw [l, hl]
 replace hp := rowP_ext x hp
 intro hS
 simp only [asmC, outAt, cAgL, cAgents, agO, nv, li, hl, envB_list_if, bdList, vn, IE.den, reduceIte, Nat.reduceAdd, Nat.reduceSub, Nat.reduceLeDiff, Nat.reduceLT, Nat.reduceEqDiff] at hS
 obtain ⟨a1, a2, a3, a4⟩ := hS
 have hag : agsV (ρ1.list 84) 4 := ⟨a3, by decide, fun i hi => agV_up (a4 i hi)⟩
 refine ⟨by simp only [oblC, cPass, rowP, int_envB, nv, li, hl, T60, T62, T59, envB_list_if, bdList, vn, IE.den, reduceIte, Nat.reduceAdd, Nat.reduceSub, Nat.reduceLeDiff, Nat.reduceLT, Nat.reduceEqDiff]; exact ⟨hp, by omega, by omega, by decide, by decide⟩, ?_⟩
 refine vc_news 2 fun ρ2 x l => ?_
 replace hl : ρ2.k.length = 23 := by rw [l, hl]
 intro hS
 simp only [asmC, outAt, cPass, mel, nv, li, hl, envB_list_if, bdList, vn, IE.den, reduceIte, Nat.reduceAdd, Nat.reduceSub, Nat.reduceLeDiff, Nat.reduceLT, Nat.reduceEqDiff] at hS
 obtain ⟨-, -, p0⟩ := hS
 rw [← list_at x (l := 84) (by omega) (by omega)] at hag
 have F : RowF 84 86 84 84 (ρ2.list 84) ((ρ2.list 86).getD 0 0) (ρ2.list 84) (ρ2.list 84) ρ2 := ⟨rfl, rfl, rfl, rfl, by omega⟩
 generalize (ρ2.list 86).getD 0 0 = p at F p0
 generalize ρ2.list 84 = L at F hag
 refine ⟨by simp only [oblC, cFew4, cFew, mel, nv, li, hl, envB_list_if, bdList, vn, IE.den, reduceIte, Nat.reduceAdd, Nat.reduceSub, Nat.reduceLeDiff, Nat.reduceLT, Nat.reduceEqDiff, F.a, F.p]; exact ⟨hag, p0⟩, ?_, ?_⟩
 ·intro hG
  simp only [asmC, outAt, cFew4, cFew, nv, li, hl, envB_list_if, bdList, vn, IE.den, reduceIte, Nat.reduceAdd, Nat.reduceSub, Nat.reduceLeDiff, Nat.reduceLT, Nat.reduceEqDiff, F.a, F.p] at hG
  refine ⟨by simp only [oblC, cHop, pA, mel, nv, li, hl, envB_list_if, bdList, vn, IE.den, reduceIte, Nat.reduceAdd, Nat.reduceSub, Nat.reduceLeDiff, Nat.reduceLT, Nat.reduceEqDiff, F.p, F.a]; exact ⟨⟨by decide, hag⟩, p0, rfl⟩, ?_, ?_⟩
  ·intro hA
   simp only [asmC, outAt, cHop, nL, nv, li, hl, envB_list_if, bdList, vn, IE.den, reduceIte, Nat.reduceAdd, Nat.reduceSub, Nat.reduceLeDiff, Nat.reduceLT, Nat.reduceEqDiff, F.p, F.a] at hA
   exact v_s400 P (fun _ => rfl) hl F hag p0 hG hA
  refine vc_news 2 fun ρ4 x l => ?_
  replace hl : ρ4.k.length = 25 := by rw [l, hl]
  replace F := F.ext x
  intro hA
  simp only [asmC, outAt, cHop, nL, nv, li, hl, envB_list_if, bdList, vn, IE.den, reduceIte, Nat.reduceAdd, Nat.reduceSub, Nat.reduceLeDiff, Nat.reduceLT, Nat.reduceEqDiff, F.p, F.a] at hA
  exact v_s401 P (fun _ => rfl) hl ⟨F.a, F.p, F.g, rfl, by omega⟩ hag p0 hG hA.1 hA.2
 refine vc_news 2 fun ρ3 x l => ?_
 replace hl : ρ3.k.length = 25 := by rw [l, hl]
 replace F := F.ext x
 intro hG
 simp only [asmC, outAt, cFew4, cFew, nv, li, hl, envB_list_if, bdList, vn, IE.den, reduceIte, Nat.reduceAdd, Nat.reduceSub, Nat.reduceLeDiff, Nat.reduceLT, Nat.reduceEqDiff, F.a, F.p] at hG
 have F : RowF 84 86 88 84 L p (ρ3.list 88) L ρ3 := ⟨F.a, F.p, rfl, F.a, by omega⟩
 generalize ρ3.list 88 = G at F hG
 obtain ⟨hG, hG1⟩ := hG
 refine ⟨by simp only [oblC, cHop, pA, mel, nv, li, hl, envB_list_if, bdList, vn, IE.den, reduceIte, Nat.reduceAdd, Nat.reduceSub, Nat.reduceLeDiff, Nat.reduceLT, Nat.reduceEqDiff, F.p, F.a]; exact ⟨⟨by decide, hag⟩, p0, rfl⟩, ?_, ?_⟩
 ·intro hA
  simp only [asmC, outAt, cHop, nL, nv, li, hl, envB_list_if, bdList, vn, IE.den, reduceIte, Nat.reduceAdd, Nat.reduceSub, Nat.reduceLeDiff, Nat.reduceLT, Nat.reduceEqDiff, F.p, F.a] at hA
  exact v_s410 P (fun _ => rfl) hl F hag p0 hG hG1 hA
 refine vc_news 2 fun ρ4 x l => ?_
 replace hl : ρ4.k.length = 27 := by rw [l, hl]
 replace F := F.ext x
 intro hA
 simp only [asmC, outAt, cHop, nL, nv, li, hl, envB_list_if, bdList, vn, IE.den, reduceIte, Nat.reduceAdd, Nat.reduceSub, Nat.reduceLeDiff, Nat.reduceLT, Nat.reduceEqDiff, F.p, F.a] at hA
 exact v_s411 P (fun _ => rfl) hl ⟨F.a, F.p, F.g, rfl, by omega⟩ hag p0 hG hG1 hA.1 hA.2
theorem v_Row (P : Program) (ρ : Env) (hv : vals ρ) (hΓ : Γ0.On ρ) (hl : ρ.k.length = 17) (hp : cRow.pre ρ) : VC cRow (ndRow P) none ρ (e_Row P) := by
 unfold e_Row
 refine vc_news 1 fun ρ1 x l => ?_
 replace hl : ρ1.k.length = 18 := by rw [l, hl]
 replace hp : rowP ρ1 := rowP_ext x hp
 refine ⟨by simp only [oblC, cAgL, cAgents, rowP, int_envB, nv, li, hl, T60, T62, T59, envB_list_if, bdList, vn, IE.den, reduceIte, Nat.reduceAdd, Nat.reduceSub, Nat.reduceLeDiff, Nat.reduceLT, Nat.reduceEqDiff]; exact ⟨hp, by decide, by decide, by decide, by decide, by decide, by decide⟩, v_t0 P hl hp, v_t1 P hl hp, v_t2 P hl hp, v_t3 P hl hp, v_t4 P hl hp⟩
end Ft
set_option linter.unusedVariables false
open Go Mv Mw
namespace Ft
def e_Stir (P : Program) : VT := (.branch (.var 0)
(.ret 0 [.keep 16, .keep 17, .keep 18, .ints [(.add (h0 82) (oN 1)), (.bits .xor .u64 (.wrap .u64 (.mul (.bits .xor .u64 (hN 82 1) (.add (h0 82) (oN 1))) (oN 10723151780598845931))) (.shr .u64 (.wrap .u64 (.mul (.bits .xor .u64 (hN 82 1) (.add (h0 82) (oN 1))) (oN 10723151780598845931))) (oN 31)))], .ints [(.shr .u64 (.bits .xor .u64 (.wrap .u64 (.mul (.bits .xor .u64 (.wrap .u64 (.mul (.bits .xor .u64 (hN 82 1) (.add (h0 82) (oN 1))) (oN 10723151780598845931))) (.shr .u64 (.wrap .u64 (.mul (.bits .xor .u64 (hN 82 1) (.add (h0 82) (oN 1))) (oN 10723151780598845931))) (oN 31))) (oN 15485907386658061715))) (.shr .u64 (.wrap .u64 (.mul (.bits .xor .u64 (.wrap .u64 (.mul (.bits .xor .u64 (hN 82 1) (.add (h0 82) (oN 1))) (oN 10723151780598845931))) (.shr .u64 (.wrap .u64 (.mul (.bits .xor .u64 (hN 82 1) (.add (h0 82) (oN 1))) (oN 10723151780598845931))) (oN 31))) (oN 15485907386658061715))) (oN 32))) (oN 9))]])
(.branch (.lt (h0 82) (.var 1))
(.need [(.le (oN 0) (.var 0))] (.need [(.le (oN 0) (.var 0)), (.lt (h0 82) (.len 0))] (.ret 0 [.keep 16, .keep 17, .keep 18, .ints [(.add (h0 82) (oN 1)), (.bits .xor .u64 (.wrap .u64 (.mul (.bits .xor .u64 (hN 82 1) (.bits .xor .u64 (.add (h0 82) (oN 1)) (.wrap .u64 (.mul (.wrap .u64 (.nth 0 (h0 82))) (oN 13787848793156543929))))) (oN 10723151780598845931))) (.shr .u64 (.wrap .u64 (.mul (.bits .xor .u64 (hN 82 1) (.bits .xor .u64 (.add (h0 82) (oN 1)) (.wrap .u64 (.mul (.wrap .u64 (.nth 0 (h0 82))) (oN 13787848793156543929))))) (oN 10723151780598845931))) (oN 31)))], .ints [(.shr .u64 (.bits .xor .u64 (.wrap .u64 (.mul (.bits .xor .u64 (.wrap .u64 (.mul (.bits .xor .u64 (hN 82 1) (.bits .xor .u64 (.add (h0 82) (oN 1)) (.wrap .u64 (.mul (.wrap .u64 (.nth 0 (h0 82))) (oN 13787848793156543929))))) (oN 10723151780598845931))) (.shr .u64 (.wrap .u64 (.mul (.bits .xor .u64 (hN 82 1) (.bits .xor .u64 (.add (h0 82) (oN 1)) (.wrap .u64 (.mul (.wrap .u64 (.nth 0 (h0 82))) (oN 13787848793156543929))))) (oN 10723151780598845931))) (oN 31))) (oN 15485907386658061715))) (.shr .u64 (.wrap .u64 (.mul (.bits .xor .u64 (.wrap .u64 (.mul (.bits .xor .u64 (hN 82 1) (.bits .xor .u64 (.add (h0 82) (oN 1)) (.wrap .u64 (.mul (.wrap .u64 (.nth 0 (h0 82))) (oN 13787848793156543929))))) (oN 10723151780598845931))) (.shr .u64 (.wrap .u64 (.mul (.bits .xor .u64 (hN 82 1) (.bits .xor .u64 (.add (h0 82) (oN 1)) (.wrap .u64 (.mul (.wrap .u64 (.nth 0 (h0 82))) (oN 13787848793156543929))))) (oN 10723151780598845931))) (oN 31))) (oN 15485907386658061715))) (oN 32))) (oN 9))]])))
(.ret 0 [.keep 16, .keep 17, .keep 18, .ints [(.add (h0 82) (oN 1)), (.bits .xor .u64 (.wrap .u64 (.mul (.bits .xor .u64 (hN 82 1) (.add (h0 82) (oN 1))) (oN 10723151780598845931))) (.shr .u64 (.wrap .u64 (.mul (.bits .xor .u64 (hN 82 1) (.add (h0 82) (oN 1))) (oN 10723151780598845931))) (oN 31)))], .ints [(.shr .u64 (.bits .xor .u64 (.wrap .u64 (.mul (.bits .xor .u64 (.wrap .u64 (.mul (.bits .xor .u64 (hN 82 1) (.add (h0 82) (oN 1))) (oN 10723151780598845931))) (.shr .u64 (.wrap .u64 (.mul (.bits .xor .u64 (hN 82 1) (.add (h0 82) (oN 1))) (oN 10723151780598845931))) (oN 31))) (oN 15485907386658061715))) (.shr .u64 (.wrap .u64 (.mul (.bits .xor .u64 (.wrap .u64 (.mul (.bits .xor .u64 (hN 82 1) (.add (h0 82) (oN 1))) (oN 10723151780598845931))) (.shr .u64 (.wrap .u64 (.mul (.bits .xor .u64 (hN 82 1) (.add (h0 82) (oN 1))) (oN 10723151780598845931))) (oN 31))) (oN 15485907386658061715))) (oN 32))) (oN 9))]])))
def e_To (P : Program) : VT := (.obl (oblC cStir [.keep 16, .keep 17, .ints [(h0 83), (hN 83 1)]]) (.new (.new (.asm (asmC (outAt cStir.outs 0) [.keep 16, .keep 17, .ints [(h0 83), (hN 83 1)], .keep 20, .keep 21]) (.branch (.lt (h0 82) (oN 1))
(.ret 0 [.keep 16, .keep 17, .keep 18, .keep 19, .ints [(h0 84), (hN 84 1)], .ints [(oN 0)]])
(.need [(.not (.eq (.wrap .u64 (.add (.wrap .u64 (h0 82)) (oN 1))) (oN 0)))] (.ret 0 [.keep 16, .keep 17, .keep 18, .keep 19, .ints [(h0 84), (hN 84 1)], .ints [(.wrap .i64 (.rem (h0 85) (.wrap .u64 (.add (.wrap .u64 (h0 82)) (oN 1)))))]])))))))
def e_Faults (P : Program) : VT := (.jump 0 [.keep 16, .keep 17, .keep 18, .keep 19, .ints [(oN 0), (oN 0)], .ints [(h0 83), (hN 83 1)]] (ndAt (ndFaults P) 0).items)
def n_Faults_0 (P : Program) : VT := (.branch (.lt (hN 84 1) (h0 82))
(.obl (oblC cTo [.keep 16, .keep 17, .ints [(oN 2)], .ints [(h0 85), (hN 85 1)]]) (.new (.new (.asm (asmC (outAt cTo.outs 0) [.keep 16, .keep 17, .ints [(oN 2)], .ints [(h0 85), (hN 85 1)], .keep 22, .keep 23]) (.branch (.eq (h0 87) (oN 0))
(.jump 0 [.keep 16, .keep 17, .keep 18, .keep 19, .ints [(.wrap .i64 (.add (h0 84) (.wrap .i64 (.shl .i64 (oN 1) (hN 84 1))))), (.add (hN 84 1) (oN 1))], .ints [(h0 86), (hN 86 1)]] (ndAt (ndFaults P) 0).items)
(.jump 0 [.keep 16, .keep 17, .keep 18, .keep 19, .ints [(h0 84), (.add (hN 84 1) (oN 1))], .ints [(h0 86), (hN 86 1)]] (ndAt (ndFaults P) 0).items))))))
(.ret 0 [.keep 16, .keep 17, .keep 18, .keep 19, .ints [(h0 85), (hN 85 1)], .ints [(h0 84)]]))
def e_Agent (P : Program) : VT := (.new (.obl (oblC cTo [.keep 16, .keep 17, .ints [(.sub (h0 82) (oN 1))], .ints [(h0 83), (hN 83 1)]]) (.new (.new (.asm (asmC (outAt cTo.outs 0) [.keep 16, .keep 17, .ints [(.sub (h0 82) (oN 1))], .ints [(h0 83), (hN 83 1)], .keep 21, .keep 22]) (.obl (oblC cFaults [.keep 16, .keep 17, .ints [(h0 82)], .ints [(h0 85), (hN 85 1)]]) (.new (.new (.asm (asmC (outAt cFaults.outs 0) [.keep 16, .keep 17, .ints [(h0 82)], .ints [(h0 85), (hN 85 1)], .keep 23, .keep 24]) (.obl (oblC cFaults [.keep 16, .keep 17, .ints [(h0 82)], .ints [(h0 87), (hN 87 1)]]) (.new (.new (.asm (asmC (outAt cFaults.outs 0) [.keep 16, .keep 17, .ints [(h0 82)], .ints [(h0 87), (hN 87 1)], .keep 25, .keep 26]) (.obl (oblC cTo [.keep 16, .keep 17, .ints [(oN 8)], .ints [(h0 89), (hN 89 1)]]) (.new (.new (.asm (asmC (outAt cTo.outs 0) [.keep 16, .keep 17, .ints [(oN 8)], .ints [(h0 89), (hN 89 1)], .keep 27, .keep 28]) (.new (.obl (oblC cFaults [.keep 16, .keep 17, .ints [(h0 82)], .ints [(h0 91), (hN 91 1)]]) (.new (.new (.asm (asmC (outAt cFaults.outs 0) [.keep 16, .keep 17, .ints [(h0 82)], .ints [(h0 91), (hN 91 1)], .keep 30, .keep 31]) (.obl (oblC cFaults [.keep 16, .keep 17, .ints [(h0 82)], .ints [(h0 94), (hN 94 1)]]) (.new (.new (.asm (asmC (outAt cFaults.outs 0) [.keep 16, .keep 17, .ints [(h0 82)], .ints [(h0 94), (hN 94 1)], .keep 32, .keep 33]) (.obl (oblC cTo [.keep 16, .keep 17, .ints [(oN 2)], .ints [(h0 96), (hN 96 1)]]) (.new (.new (.asm (asmC (outAt cTo.outs 0) [.keep 16, .keep 17, .ints [(oN 2)], .ints [(h0 96), (hN 96 1)], .keep 34, .keep 35]) (.branch (.not (.eq (h0 99) (oN 0)))
(.obl (oblC cTo [.keep 16, .keep 17, .ints [(.sub (h0 82) (oN 1))], .ints [(h0 98), (hN 98 1)]]) (.new (.new (.asm (asmC (outAt cTo.outs 0) [.keep 16, .keep 17, .ints [(.sub (h0 82) (oN 1))], .ints [(h0 98), (hN 98 1)], .keep 36, .keep 37]) (.obl (oblC cTo [.keep 16, .keep 17, .ints [(oN 2)], .ints [(h0 100), (hN 100 1)]]) (.new (.new (.asm (asmC (outAt cTo.outs 0) [.keep 16, .keep 17, .ints [(oN 2)], .ints [(h0 100), (hN 100 1)], .keep 38, .keep 39]) (.branch (.eq (h0 103) (oN 0))
(.obl (oblC cTo [.keep 16, .keep 17, .ints [(.sub (h0 82) (oN 1))], .ints [(h0 102), (hN 102 1)]]) (.new (.new (.asm (asmC (outAt cTo.outs 0) [.keep 16, .keep 17, .ints [(.sub (h0 82) (oN 1))], .ints [(h0 102), (hN 102 1)], .keep 40, .keep 41]) (.ret 0 [.keep 16, .keep 17, .keep 18, .keep 19, .ints [(h0 104), (hN 104 1)], .ints [(.wrap .i64 (.shl .i64 (oN 1) (h0 101))), (.bits .andNot .i64 (.wrap .i64 (.shl .i64 (oN 1) (h0 105))) (.wrap .i64 (.shl .i64 (oN 1) (h0 101)))), (.bits .or .i64 (.wrap .i64 (.shl .i64 (oN 1) (h0 86))) (.bits .and .i64 (h0 95) (h0 97))), (.bits .and .i64 (h0 88) (h0 90)), (.wrap .i64 (.add (oN 1) (h0 92)))]])))))
(.ret 0 [.keep 16, .keep 17, .keep 18, .keep 19, .ints [(h0 102), (hN 102 1)], .ints [(.wrap .i64 (.shl .i64 (oN 1) (h0 101))), (oN 0), (.bits .or .i64 (.wrap .i64 (.shl .i64 (oN 1) (h0 86))) (.bits .and .i64 (h0 95) (h0 97))), (.bits .and .i64 (h0 88) (h0 90)), (.wrap .i64 (.add (oN 1) (h0 92)))]]))))))))))
(.obl (oblC cTo [.keep 16, .keep 17, .ints [(oN 2)], .ints [(h0 98), (hN 98 1)]]) (.new (.new (.asm (asmC (outAt cTo.outs 0) [.keep 16, .keep 17, .ints [(oN 2)], .ints [(h0 98), (hN 98 1)], .keep 36, .keep 37]) (.branch (.eq (h0 101) (oN 0))
(.obl (oblC cTo [.keep 16, .keep 17, .ints [(.sub (h0 82) (oN 1))], .ints [(h0 100), (hN 100 1)]]) (.new (.new (.asm (asmC (outAt cTo.outs 0) [.keep 16, .keep 17, .ints [(.sub (h0 82) (oN 1))], .ints [(h0 100), (hN 100 1)], .keep 38, .keep 39]) (.ret 0 [.keep 16, .keep 17, .keep 18, .keep 19, .ints [(h0 102), (hN 102 1)], .ints [(oN 0), (.bits .andNot .i64 (.wrap .i64 (.shl .i64 (oN 1) (h0 103))) (oN 0)), (.bits .or .i64 (.wrap .i64 (.shl .i64 (oN 1) (h0 86))) (.bits .and .i64 (h0 95) (h0 97))), (.bits .and .i64 (h0 88) (h0 90)), (.wrap .i64 (.add (oN 1) (h0 92)))]])))))
(.ret 0 [.keep 16, .keep 17, .keep 18, .keep 19, .ints [(h0 100), (hN 100 1)], .ints [(oN 0), (oN 0), (.bits .or .i64 (.wrap .i64 (.shl .i64 (oN 1) (h0 86))) (.bits .and .i64 (h0 95) (h0 97))), (.bits .and .i64 (h0 88) (h0 90)), (.wrap .i64 (.add (oN 1) (h0 92)))]])))))))))))))))))))))))))))))))))))))
def e_Agents (P : Program) : VT := (.obl (oblC cTo [.keep 16, .keep 17, .ints [(.sub (h0 82) (oN 0))], .ints [(h0 83), (hN 83 1)]]) (.new (.new (.asm (asmC (outAt cTo.outs 0) [.keep 16, .keep 17, .ints [(.sub (h0 82) (oN 0))], .ints [(h0 83), (hN 83 1)], .keep 20, .keep 21]) (.jump 0 [.keep 16, .keep 17, .keep 18, .keep 19, .ints [(.wrap .i64 (h0 85))], .ints [(h0 84), (hN 84 1)]] (ndAt (ndAgents P) 0).items)))))
def n_Agents_0 (P : Program) : VT := (.branch (.lt (oN 0) (h0 84))
(.obl (oblC cAgent [.keep 16, .keep 17, .ints [(hN 82 1)], .ints [(h0 85), (hN 85 1)]]) (.new (.new (.asm (asmC (outAt cAgent.outs 0) [.keep 16, .keep 17, .ints [(hN 82 1)], .ints [(h0 85), (hN 85 1)], .keep 22, .keep 23]) (.new (.new (.jump 1 [.keep 16, .keep 17, .keep 18, .keep 19, .ints [(.sub (h0 84) (oN 1))], .ints [(h0 86), (hN 86 1)], .keep 25, .ints [(h0 87), (hN 87 1), (hN 87 2), (hN 87 3), (hN 87 4)]] (ndAt (ndAgents P) 1).items)))))))
(.ret 0 [.keep 16, .keep 17, .keep 18, .keep 19, .ints [(h0 85), (hN 85 1)]]))
def n_Agents_1 (P : Program) : VT := (.branch (.lt (oN 0) (h0 84))
(.obl (oblC cAgent [.keep 16, .keep 17, .ints [(hN 82 1)], .ints [(h0 85), (hN 85 1)]]) (.new (.new (.asm (asmC (outAt cAgent.outs 0) [.keep 16, .keep 17, .ints [(hN 82 1)], .ints [(h0 85), (hN 85 1)], .keep 24, .keep 25]) (.new (.need [(.eq (.mul (.quo (.len 87) (oN 5)) (oN 5)) (.len 87))] (.new (.asm (appAsm 27 (.whole 87) (.lits [(h0 89), (hN 89 1), (hN 89 2), (hN 89 3), (hN 89 4)])) (.new (.jump 1 [.keep 16, .keep 17, .keep 18, .keep 19, .ints [(.sub (h0 84) (oN 1))], .ints [(h0 88), (hN 88 1)], .keep 28, .lst 91] (ndAt (ndAgents P) 1).items))))))))))
(.ret 1 [.keep 16, .keep 17, .keep 18, .keep 19, .ints [(h0 85), (hN 85 1)], .keep 22, .lst 87]))
end Ft
set_option linter.unusedVariables false
set_option linter.unusedSimpArgs false
open Go Mv Mw
namespace Ft
theorem v_Stir (P : Program) (ρ : Env) (hv : vals ρ) (hΓ : Γ0.On ρ) (hl : ρ.k.length = 19) (hp : cStir.pre ρ) : VC cStir (ndStir P) none ρ (e_Stir P) := by
 simp only [VC, oblC, asmC, appAsm, outAt, ndAt, allTrue, ve, BE.den, LX.den, nv, li, rowP, tT, e_Stir, cStir] at hp ⊢
 simp only [envB_list_if, list_grow_if, bdList, len_grow, hl, int_envB, int_grow, bool_envB, bool_grow, List.getD_cons_zero, List.getD_cons_succ, List.map_cons, List.map_nil, Nat.reduceAdd, Nat.reduceSub, Nat.reduceLeDiff, Nat.reduceLT, Nat.reduceEqDiff, if_true, if_false, reduceIte, IE.den, oN_den, hN_den, h0_den, decide_eq_true_eq, decide_eq_false_iff_not, beq_iff_eq, beq_eq_false_iff_ne, ne_eq, Option.some.injEq, reduceCtorEq, forall_eq', true_and, false_implies, implies_true, and_true, natLit, bits64, bitsU64, Int.one_mul] at hp ⊢
 have nn2 : ∀ op x y (n : Nat), 0 ≤ (bitsOf op .u64 x y).fdiv (2 ^ n) := fun op x y n => fdiv_nn (bits_u64_nn _ _ _) (by
  have : ((2 : Int) ^ n) = ((2 ^ n : Nat) : Int) := by norm_cast
  rw [this]; exact Int.natCast_nonneg _)
 refine ⟨fun _ => nn2 _ _ _ _, fun _ => ⟨fun h => ⟨decide_eq_true hp.1.2, ⟨decide_eq_true hp.1.2, by omega⟩, nn2 _ _ _ _⟩, fun _ => nn2 _ _ _ _⟩⟩
theorem v_To (P : Program) (ρ : Env) (hv : vals ρ) (hΓ : Γ0.On ρ) (hl : ρ.k.length = 20) (hp : cTo.pre ρ) : VC cTo (ndTo P) none ρ (e_To P) := by
 simp only [VC, oblC, asmC, appAsm, outAt, ndAt, allTrue, ve, BE.den, LX.den, nv, li, rowP, tT, e_To, cTo, cStir] at hp ⊢
 simp only [envB_list_if, list_grow_if, bdList, len_grow, hl, int_envB, int_grow, bool_envB, bool_grow, List.getD_cons_zero, List.getD_cons_succ, List.map_cons, List.map_nil, Nat.reduceAdd, Nat.reduceSub, Nat.reduceLeDiff, Nat.reduceLT, Nat.reduceEqDiff, if_true, if_false, reduceIte, IE.den, oN_den, hN_den, h0_den, decide_eq_true_eq, decide_eq_false_iff_not, beq_iff_eq, beq_eq_false_iff_ne, ne_eq, Option.some.injEq, reduceCtorEq, forall_eq', true_and, false_implies, implies_true, and_true, natLit, bits64, bitsU64, Int.one_mul] at hp ⊢
 obtain ⟨p1, p2, p3, p4, p5⟩ := hp
 refine ⟨⟨p1, p2, p3⟩, fun b r b' r' ⟨q1, q2⟩ => ⟨fun h => ⟨q1, by omega, p5⟩, fun h => ?_⟩⟩
 have w1 : IntKind.u64.wrap ((ρ.list 82).getD 0 0) = (ρ.list 82).getD 0 0 := wrapu64_fit (by omega) (by omega)
 have w2 : IntKind.u64.wrap ((ρ.list 82).getD 0 0 + 1) = (ρ.list 82).getD 0 0 + 1 := wrapu64_fit (by omega) (by omega)
 rw [w1, w2]
 have hr := tmod_rng (x := (List.map intOf r').getD 0 0) (m := (ρ.list 82).getD 0 0 + 1) q2 (by omega)
 rw [wrap64_fit (by omega) (by omega)]
 refine ⟨?_, q1, hr.1, by omega⟩
 simp only [Bool.not_eq_true', beq_eq_false_iff_ne]
 omega
end Ft
set_option linter.unusedVariables false
set_option linter.unusedSimpArgs false
open Go Mv Mw
namespace Ft
theorem v_Faults (P : Program) (ρ : Env) (hv : vals ρ) (hΓ : Γ0.On ρ) (hl : ρ.k.length = 20) (hp : cFaults.pre ρ) : VC cFaults (ndFaults P) none ρ (e_Faults P) := by
 simp only [VC, oblC, asmC, appAsm, outAt, ndAt, allTrue, ve, BE.den, LX.den, nv, li, rowP, tT, e_Faults, ndFaults, cFaults] at hp ⊢
 simp only [vb, bdList, hl, IE.den, forall_eq', implies_true, reduceIte, reduceCtorEq, Nat.reduceAdd, Nat.reduceSub, Nat.reduceLeDiff, Nat.reduceLT, Nat.reduceEqDiff] at hp ⊢
 obtain ⟨p1, p2, p3, p4, p5⟩ := hp
 exact ⟨p1, by omega, by omega, by omega, p5, by decide, by omega, p2, p3⟩
theorem pow_step {i n : Int} (h0 : 0 ≤ i) (h1 : i ≤ 6) (hn : 0 ≤ n) (hn' : n < 2 ^ i.toNat) : IntKind.i64.wrap (n + IntKind.i64.wrap ((2 : Int) ^ (Nat.min i.toNat 64))) = n + 2 ^ i.toNat ∧ 0 ≤ n + 2 ^ i.toNat ∧ n + 2 ^ i.toNat < 2 ^ (i + 1).toNat ∧ n < 2 ^ (i + 1).toNat := by
 rw [(shl_one h0 (by omega)).2]
 have e : (i + 1).toNat = i.toNat + 1 := by omega
 have h := Nat.pow_le_pow_right (n := 2) (by decide) (show i.toNat ≤ 6 by omega)
 have e2 : ((2 : Int) ^ i.toNat) = ((2 ^ i.toNat : Nat) : Int) := by norm_cast
 rw [e, Int.pow_succ]
 rw [e2] at hn' ⊢
 generalize 2 ^ i.toNat = N at *
 rw [wrap64_fit (by omega) (by omega)]
 omega
theorem v_Faults_0 (P : Program) (ρ : Env) (hv : vals ρ) (hΓ : Γ0.On ρ) (hl : ρ.k.length = 22) (hp : (ndAt (ndFaults P) 0).inv ρ) : VC cFaults (ndFaults P) (some ((ndAt (ndFaults P) 0).mu ρ)) ρ (n_Faults_0 P) := by
 simp only [VC, oblC, asmC, appAsm, outAt, ndAt, allTrue, ve, BE.den, LX.den, nv, li, rowP, tT, n_Faults_0, ndFaults, cFaults, cTo] at hp ⊢
 simp only [vb, bdList, hl, IE.den, forall_eq', implies_true, reduceIte, reduceCtorEq, Nat.reduceAdd, Nat.reduceSub, Nat.reduceLeDiff, Nat.reduceLT, Nat.reduceEqDiff] at hp ⊢
 obtain ⟨p1, p2, p3, p4, p5, p6, p7, p8, p9⟩ := hp
 refine ⟨fun hlt => ⟨⟨p1, by omega, by omega, by omega, by omega⟩, fun b r b' r' ⟨q1, q2, q3⟩ => ?_⟩, fun hge => ⟨by omega, by omega, p2, ?_, p5⟩⟩
 ·obtain ⟨s1, s2, s3, s4⟩ := pow_step p3 (by omega) p2 p6
  exact ⟨fun _ => ⟨⟨p1, by exact s1 ▸ s2, by omega, by omega, p5, by exact s1 ▸ s3, by omega, p8, p9⟩, by omega⟩, fun _ => ⟨⟨p1, p2, by omega, by omega, p5, s4, by omega, p8, p9⟩, by omega⟩⟩
 ·rw [show (ρ.list 82).getD 0 0 = (ρ.list 84).getD 1 0 by omega]; exact p6
theorem v_Agent (P : Program) (ρ : Env) (hv : vals ρ) (hΓ : Γ0.On ρ) (hl : ρ.k.length = 20) (hp : cAgent.pre ρ) : VC cAgent (ndAgent P) none ρ (e_Agent P) := by
 simp only [VC, oblC, asmC, appAsm, outAt, ndAt, allTrue, ve, BE.den, LX.den, nv, li, rowP, tT, e_Agent, ndAgent, cAgent, cTo, cFaults, agV, andI] at hp ⊢
 simp only [vb, bdList, hl, IE.den, forall_eq', implies_true, reduceIte, reduceCtorEq, Nat.reduceAdd, Nat.reduceSub, Nat.reduceLeDiff, Nat.reduceLT, Nat.reduceEqDiff] at hp ⊢
 obtain ⟨p1, p2, p3, p4, p5⟩ := hp
 have S : ∀ x : Int, 0 ≤ x → x ≤ (ρ.list 82).getD 0 0 - 1 → 0 ≤ IntKind.i64.wrap ((2 : Int) ^ (Nat.min x.toNat 64)) ∧ IntKind.i64.wrap ((2 : Int) ^ (Nat.min x.toNat 64)) < 2 ^ ((ρ.list 82).getD 0 0).toNat := fun x h0 h1 => shl_rng h0 h1 (by omega)
 have hk : ((ρ.list 82).getD 0 0).toNat ≤ 61 := by omega
 have W6 : ∀ x : Int, x < 2 ^ ((ρ.list 82).getD 0 0).toNat → x < 2 ^ 61 := fun x => pow_lt61 (by omega) (by omega)
 have Z : (0 : Int) < 2 ^ ((ρ.list 82).getD 0 0).toNat := pow_pos_
 intro _ _
 refine ⟨⟨p1, by omega, by omega, by omega, by omega⟩, ?_⟩
 rintro _ r1 _ x1 ⟨a1, a2, a3⟩
 generalize (List.map intOf r1).getD 0 0 = t1 at *
 generalize (List.map intOf x1).getD 0 0 = y1 at *
 refine ⟨⟨p1, by omega, by omega, by omega, by omega⟩, ?_⟩
 rintro _ r2 _ x2 ⟨b1, b2, b3, b4, _⟩
 generalize (List.map intOf r2).getD 0 0 = t2 at *
 generalize (List.map intOf x2).getD 0 0 = y2 at *
 refine ⟨⟨p1, by omega, by omega, by omega, by omega⟩, ?_⟩
 rintro _ r3 _ x3 ⟨c1, c2, c3, c4, _⟩
 generalize (List.map intOf r3).getD 0 0 = t3 at *
 generalize (List.map intOf x3).getD 0 0 = y3 at *
 refine ⟨⟨p1, by omega, by omega, by omega, by omega⟩, ?_⟩
 rintro _ r4 _ x4 ⟨d1, d2, d3⟩
 generalize (List.map intOf r4).getD 0 0 = t4 at *
 generalize (List.map intOf x4).getD 0 0 = y4 at *
 intro _ _
 refine ⟨⟨p1, by omega, by omega, by omega, by omega⟩, ?_⟩
 rintro _ r5 _ x5 ⟨e1, e2, e3, e4, _⟩
 generalize (List.map intOf r5).getD 0 0 = t5 at *
 generalize (List.map intOf x5).getD 0 0 = y5 at *
 refine ⟨⟨p1, by omega, by omega, by omega, by omega⟩, ?_⟩
 rintro _ r6 _ x6 ⟨f1, f2, f3, f4, _⟩
 generalize (List.map intOf r6).getD 0 0 = t6 at *
 generalize (List.map intOf x6).getD 0 0 = y6 at *
 have k1 := S y1 a2 (by omega)
 have k2 := and_rng hk b3 b4 c3 c4
 have k3 := and_rng hk e3 e4 f3 f4
 have k4 := or_rng hk k1.1 k1.2 k3.1 k3.2
 have k5 : IntKind.i64.wrap (1 + y4) = 1 + y4 := wrap64_fit (by omega) (by omega)
 rw [k5]
 refine ⟨⟨p1, by omega, by omega, by omega, by omega⟩, ?_⟩
 rintro _ r7 _ x7 ⟨g1, g2, g3⟩
 generalize (List.map intOf r7).getD 0 0 = t7 at *
 generalize (List.map intOf x7).getD 0 0 = y7 at *
 refine ⟨fun _ => ⟨⟨p1, by omega, by omega, by omega, by omega⟩, ?_⟩, fun _ => ⟨⟨p1, by omega, by omega, by omega, by omega⟩, ?_⟩⟩
 ·rintro _ r8 _ x8 ⟨i1, i2, i3⟩
  generalize (List.map intOf r8).getD 0 0 = t8 at *
  generalize (List.map intOf x8).getD 0 0 = y8 at *
  have k6 := S y8 i2 (by omega)
  refine ⟨⟨p1, by omega, by omega, by omega, by omega⟩, ?_⟩
  rintro _ r9 _ x9 ⟨j1, j2, j3⟩
  generalize (List.map intOf r9).getD 0 0 = t9 at *
  generalize (List.map intOf x9).getD 0 0 = y9 at *
  refine ⟨fun _ => ⟨⟨p1, by omega, by omega, by omega, by omega⟩, ?_⟩, fun _ => ⟨by omega, by omega, k6, ⟨Int.le_refl 0, Z⟩, k4, k2, by omega, by omega, and_zero_r k6.1 (W6 _ k6.2)⟩⟩
  rintro _ ra _ xa ⟨l1, l2, l3⟩
  have k7 := S _ l2 (by omega)
  exact ⟨by omega, by omega, k6, andNot_rng hk k7.1 k7.2 k6.1 k6.2, k4, k2, by omega, by omega, and_andNot k7.1 (W6 _ k7.2) k6.1 (W6 _ k6.2)⟩
 ·rintro _ r9 _ x9 ⟨j1, j2, j3⟩
  generalize (List.map intOf r9).getD 0 0 = t9 at *
  generalize (List.map intOf x9).getD 0 0 = y9 at *
  refine ⟨fun _ => ⟨⟨p1, by omega, by omega, by omega, by omega⟩, ?_⟩, fun _ => ⟨by omega, by omega, ⟨Int.le_refl 0, Z⟩, ⟨Int.le_refl 0, Z⟩, k4, k2, by omega, by omega, and_zero_r (Int.le_refl 0) (W6 0 Z)⟩⟩
  rintro _ ra _ xa ⟨l1, l2, l3⟩
  have k7 := S _ l2 (by omega)
  have k8 := andNot_rng hk k7.1 k7.2 (Int.le_refl 0) Z
  exact ⟨by omega, by omega, ⟨Int.le_refl 0, Z⟩, k8, k4, k2, by omega, by omega, and_zero_l k8.1 (W6 _ k8.2)⟩
end Ft
set_option linter.unusedVariables false
set_option linter.unusedSimpArgs false
open Go Mv Mw
namespace Ft
theorem agV_five {f : Nat} {M : List Int} (h : agV f M 0) {L : List Int} (h0 : L.getD 0 0 = M.getD 0 0) (h1 : L.getD 1 0 = M.getD 1 0) (h2 : L.getD 2 0 = M.getD 2 0) (h3 : L.getD 3 0 = M.getD 3 0) (h4 : L.getD 4 0 = M.getD 4 0) : agV f L 0 := by
 unfold agV at h ⊢
 simpa only [Nat.mul_zero, Nat.zero_add, h0, h1, h2, h3, h4] using h
theorem agV_app {f c : Nat} {L M : List Int} (hL : L.length = 5 * c) (h : ∀ i, i < c → agV f L i) (hM : agV f M 0) : ∀ i, i < c + 1 → agV f (L ++ M) i := by
 intro i hi
 by_cases hc : i < c
 ·have h := h i hc
  unfold agV at h ⊢
  simp only [getD_app, hL, show 5 * i < 5 * c by omega, show 5 * i + 1 < 5 * c by omega, show 5 * i + 2 < 5 * c by omega, show 5 * i + 3 < 5 * c by omega, show 5 * i + 4 < 5 * c by omega, if_true]
  exact h
 ·have e : i = c := by omega
  subst e
  unfold agV at hM ⊢
  simp only [getD_app, hL, show ¬ (5 * i < 5 * i) by omega, show ¬ (5 * i + 1 < 5 * i) by omega, show ¬ (5 * i + 2 < 5 * i) by omega, show ¬ (5 * i + 3 < 5 * i) by omega, show ¬ (5 * i + 4 < 5 * i) by omega, if_false, Nat.sub_self, Nat.add_sub_cancel_left]
  simpa only [Nat.mul_zero, Nat.zero_add] using hM
theorem v_Agents (P : Program) (ρ : Env) (hv : vals ρ) (hΓ : Γ0.On ρ) (hl : ρ.k.length = 20) (hp : cAgents.pre ρ) : VC cAgents (ndAgents P) none ρ (e_Agents P) := by
 simp only [VC, oblC, asmC, appAsm, outAt, ndAt, allTrue, ve, BE.den, LX.den, nv, li, rowP, tT, e_Agents, ndAgents, cAgents, cTo] at hp ⊢
 simp only [vb, bdList, hl, IE.den, forall_eq', implies_true, reduceIte, reduceCtorEq, Nat.reduceAdd, Nat.reduceSub, Nat.reduceLeDiff, Nat.reduceLT, Nat.reduceEqDiff] at hp ⊢
 obtain ⟨p1, p2, p3, p4, p5, p6, p7⟩ := hp
 refine ⟨⟨p1, p2, by omega, by omega, by omega⟩, ?_⟩
 rintro _ r _ x ⟨a1, a2, a3⟩
 rw [wrap64_fit (by omega) (by omega)]
 exact ⟨p1, a2, by omega, p7, p4, p5, by omega, by omega, p2, p3⟩
theorem v_Agents_0 (P : Program) (ρ : Env) (hv : vals ρ) (hΓ : Γ0.On ρ) (hl : ρ.k.length = 22) (hp : (ndAt (ndAgents P) 0).inv ρ) : VC cAgents (ndAgents P) (some ((ndAt (ndAgents P) 0).mu ρ)) ρ (n_Agents_0 P) := by
 simp only [VC, oblC, asmC, appAsm, outAt, ndAt, allTrue, ve, BE.den, LX.den, nv, li, rowP, tT, n_Agents_0, ndAgents, cAgents, cAgent] at hp ⊢
 simp only [vb, bdList, hl, IE.den, forall_eq', implies_true, reduceIte, reduceCtorEq, Nat.reduceAdd, Nat.reduceSub, Nat.reduceLeDiff, Nat.reduceLT, Nat.reduceEqDiff] at hp ⊢
 obtain ⟨p1, p2, p3, p4, p5, p6, p7, p8, p9, p10⟩ := hp
 refine ⟨fun h => ⟨⟨p1, by omega, by omega, p5, p6⟩, ?_⟩, fun h => ⟨p7, by omega⟩⟩
 rintro _ r _ x ⟨a1, a2, a3⟩ _ _ _ _
 refine ⟨⟨p1, by omega, p4, p5, p6, by omega, p9, p10, 1, Nat.le_refl 1, by omega, by omega, rfl, fun i hi => ?_⟩, by omega⟩
 have e : i = 0 := by omega
 subst e
 exact agV_five a3 rfl rfl rfl rfl rfl
theorem v_Agents_1 (P : Program) (ρ : Env) (hv : vals ρ) (hΓ : Γ0.On ρ) (hl : ρ.k.length = 24) (hp : (ndAt (ndAgents P) 1).inv ρ) : VC cAgents (ndAgents P) (some ((ndAt (ndAgents P) 1).mu ρ)) ρ (n_Agents_1 P) := by
 simp only [VC, oblC, asmC, appAsm, outAt, ndAt, allTrue, ve, BE.den, LX.den, nv, li, rowP, tT, n_Agents_1, ndAgents, cAgents, cAgent] at hp ⊢
 simp only [vb, bdList, hl, IE.den, forall_eq', implies_true, reduceIte, reduceCtorEq, Nat.reduceAdd, Nat.reduceSub, Nat.reduceLeDiff, Nat.reduceLT, Nat.reduceEqDiff] at hp ⊢
 obtain ⟨p1, p2, p4, p5, p6, p7, p9, p10, c, c1, c2, c3, c4, c5⟩ := hp
 refine ⟨fun h => ⟨⟨p1, by omega, by omega, p5, p6⟩, ?_⟩, fun h => ⟨p7, by omega, c, c1, by omega, p4, c4, c5⟩⟩
 rintro _ r _ x ⟨a1, a2, a3⟩ _ _
 refine ⟨by rw [len_tdiv c4]; omega, ?_⟩
 intro _ y hy _ _
 refine ⟨⟨p1, by omega, p4, p5, p6, by omega, p9, p10, c + 1, by omega, by omega, by omega, ?_, ?_⟩, by omega⟩
 ·rw [hy, List.length_append, c4]; simp only [List.length_cons, List.length_nil]; omega
 ·rw [hy]; exact agV_app c4 c5 (agV_five a3 rfl rfl rfl rfl rfl)
end Ft
set_option linter.unusedVariables false
set_option linter.unusedSimpArgs false
open Go Mv Mw Go.Proofs
namespace Ft
theorem cf_Stir : ∀ ρ, cStir.pre ρ → ∀ b ∈ cStir.fs, b.den ρ = true := by
 simp only [cStir, allTrue, sd, implies_true, IE.den, nm_, ge0, leN, nv, li, tT, Nat.reduceAdd]
 try (repeat' first | apply And.intro | intro _) <;> omega
theorem of_Stir : ∀ o ∈ cStir.outs, ∀ ρ, o.post ρ → ∀ b ∈ o.fs, b.den ρ = true := by
 simp only [cStir, allTrue, sd, implies_true, IE.den, nm_, ge0, leN, nv, li, tT, Nat.reduceAdd]
 try (repeat' first | apply And.intro | intro _) <;> omega
theorem nf_Stir (P : Program) : ∀ nd ∈ ndStir P, ∀ ρ, nd.inv ρ → ∀ b ∈ nd.fs, b.den ρ = true := by
 simp only [ndStir, allTrue, sd, implies_true, IE.den, nm_, ge0, leN, nv, li, tT, Nat.reduceAdd]
 try (repeat' first | apply And.intro | intro _) <;> omega
theorem ok_Stir (mm : Bool) : cStir.Ok Tryz.prog mm Γ0 :=
 con_by (X := Xf Tryz.prog) (cons := consStir) (nds := ndStir Tryz.prog) (T0 := e_Stir Tryz.prog) (hk_ok _) (fun d hd => by cases hd) (by kernel_rfl) (by kernel_rfl) rfl (by kernel_rfl) cf_Stir of_Stir (nf_Stir _) (by kernel_rfl) (fun ρ hv hΓ hl hp => v_Stir Tryz.prog ρ hv hΓ hl hp) trivial
theorem cf_To : ∀ ρ, cTo.pre ρ → ∀ b ∈ cTo.fs, b.den ρ = true := by
 simp only [cTo, allTrue, sd, implies_true, IE.den, nm_, ge0, leN, nv, li, tT, Nat.reduceAdd]
 try (repeat' first | apply And.intro | intro _) <;> omega
theorem of_To : ∀ o ∈ cTo.outs, ∀ ρ, o.post ρ → ∀ b ∈ o.fs, b.den ρ = true := by
 simp only [cTo, allTrue, sd, implies_true, IE.den, nm_, ge0, leN, nv, li, tT, Nat.reduceAdd]
 try (repeat' first | apply And.intro | intro _) <;> omega
theorem nf_To (P : Program) : ∀ nd ∈ ndTo P, ∀ ρ, nd.inv ρ → ∀ b ∈ nd.fs, b.den ρ = true := by
 simp only [ndTo, allTrue, sd, implies_true, IE.den, nm_, ge0, leN, nv, li, tT, Nat.reduceAdd]
 try (repeat' first | apply And.intro | intro _) <;> omega
theorem ok_To (mm : Bool) : cTo.Ok Tryz.prog mm Γ0 :=
 con_by (X := Xf Tryz.prog) (cons := consTo) (nds := ndTo Tryz.prog) (T0 := e_To Tryz.prog) (hk_ok _) (fun d hd => by
  rcases List.mem_cons.1 hd with rfl | hd
  ·exact ok_Stir mm
  cases hd) (by kernel_rfl) (by kernel_rfl) rfl (by kernel_rfl) cf_To of_To (nf_To _) (by kernel_rfl) (fun ρ hv hΓ hl hp => v_To Tryz.prog ρ hv hΓ hl hp) trivial
theorem cf_Faults : ∀ ρ, cFaults.pre ρ → ∀ b ∈ cFaults.fs, b.den ρ = true := by
 simp only [cFaults, allTrue, sd, implies_true, IE.den, nm_, ge0, leN, nv, li, tT, Nat.reduceAdd]
 try (repeat' first | apply And.intro | intro _) <;> omega
theorem of_Faults : ∀ o ∈ cFaults.outs, ∀ ρ, o.post ρ → ∀ b ∈ o.fs, b.den ρ = true := by
 simp only [cFaults, allTrue, sd, implies_true, IE.den, nm_, ge0, leN, nv, li, tT, Nat.reduceAdd]
 try intro ρ hp; exact ⟨by omega, pow_le63 hp.2.2.2.1 hp.2.2.2.2⟩
theorem nf_Faults (P : Program) : ∀ nd ∈ ndFaults P, ∀ ρ, nd.inv ρ → ∀ b ∈ nd.fs, b.den ρ = true := by
 simp only [ndFaults, allTrue, sd, implies_true, IE.den, nm_, ge0, leN, nv, li, tT, Nat.reduceAdd]
 try intro ρ hp; exact ⟨by omega, pow_le63 hp.2.2.2.2.2.1 (by omega), by omega, by omega, by omega, by omega⟩
theorem ok_Faults (mm : Bool) : cFaults.Ok Tryz.prog mm Γ0 :=
 con_by (X := Xf Tryz.prog) (cons := consFaults) (nds := ndFaults Tryz.prog) (T0 := e_Faults Tryz.prog) (hk_ok _) (fun d hd => by
  rcases List.mem_cons.1 hd with rfl | hd
  ·exact ok_To mm
  cases hd) (by kernel_rfl) (by kernel_rfl) rfl (by kernel_rfl) cf_Faults of_Faults (nf_Faults _) (by kernel_rfl) (fun ρ hv hΓ hl hp => v_Faults Tryz.prog ρ hv hΓ hl hp) ⟨⟨n_Faults_0 Tryz.prog, by kernel_rfl, fun ρ hv hΓ hl hi => v_Faults_0 Tryz.prog ρ hv hΓ hl hi⟩, trivial⟩
theorem cf_Agent : ∀ ρ, cAgent.pre ρ → ∀ b ∈ cAgent.fs, b.den ρ = true := by
 simp only [cAgent, allTrue, sd, implies_true, IE.den, nm_, ge0, leN, nv, li, tT, Nat.reduceAdd]
 try (repeat' first | apply And.intro | intro _) <;> omega
theorem of_Agent : ∀ o ∈ cAgent.outs, ∀ ρ, o.post ρ → ∀ b ∈ o.fs, b.den ρ = true := by
 simp only [cAgent, allTrue, sd, implies_true, IE.den, nm_, ge0, leN, nv, li, tT, Nat.reduceAdd]
 try (repeat' first | apply And.intro | intro _) <;> omega
theorem nf_Agent (P : Program) : ∀ nd ∈ ndAgent P, ∀ ρ, nd.inv ρ → ∀ b ∈ nd.fs, b.den ρ = true := by
 simp only [ndAgent, allTrue, sd, implies_true, IE.den, nm_, ge0, leN, nv, li, tT, Nat.reduceAdd]
 try (repeat' first | apply And.intro | intro _) <;> omega
theorem ok_Agent (mm : Bool) : cAgent.Ok Tryz.prog mm Γ0 :=
 con_by (X := Xf Tryz.prog) (cons := consAgent) (nds := ndAgent Tryz.prog) (T0 := e_Agent Tryz.prog) (hk_ok _) (fun d hd => by
  rcases List.mem_cons.1 hd with rfl | hd
  ·exact ok_To mm
  rcases List.mem_cons.1 hd with rfl | hd
  ·exact ok_Faults mm
  cases hd) (by kernel_rfl) (by kernel_rfl) rfl (by kernel_rfl) cf_Agent of_Agent (nf_Agent _) (by kernel_rfl) (fun ρ hv hΓ hl hp => v_Agent Tryz.prog ρ hv hΓ hl hp) trivial
theorem cf_Agents : ∀ ρ, cAgents.pre ρ → ∀ b ∈ cAgents.fs, b.den ρ = true := by
 simp only [cAgents, allTrue, sd, implies_true, IE.den, nm_, ge0, leN, nv, li, tT, Nat.reduceAdd]
 try (repeat' first | apply And.intro | intro _) <;> omega
theorem of_Agents : ∀ o ∈ cAgents.outs, ∀ ρ, o.post ρ → ∀ b ∈ o.fs, b.den ρ = true := by
 simp only [cAgents, allTrue, sd, implies_true, IE.den, nm_, ge0, leN, nv, li, tT, Nat.reduceAdd]
 try rintro ρ ⟨h1, h2, c, h3, h4, h5, h6, h7⟩; exact ⟨by omega, by omega⟩
theorem nf_Agents (P : Program) : ∀ nd ∈ ndAgents P, ∀ ρ, nd.inv ρ → ∀ b ∈ nd.fs, b.den ρ = true := by
 simp only [ndAgents, allTrue, sd, implies_true, IE.den, nm_, ge0, leN, nv, li, tT, Nat.reduceAdd]
 try refine ⟨by intros; (repeat' apply And.intro) <;> omega, ?_⟩; rintro ρ ⟨h1, h2, h3, h4, h5, h6, h7, h8, c, c1, c2, c3, c4, c5⟩; (repeat' apply And.intro) <;> omega
theorem ok_Agents (mm : Bool) : cAgents.Ok Tryz.prog mm Γ0 :=
 con_by (X := Xf Tryz.prog) (cons := consAgents) (nds := ndAgents Tryz.prog) (T0 := e_Agents Tryz.prog) (hk_ok _) (fun d hd => by
  rcases List.mem_cons.1 hd with rfl | hd
  ·exact ok_To mm
  rcases List.mem_cons.1 hd with rfl | hd
  ·exact ok_Agent mm
  cases hd) (by kernel_rfl) (by kernel_rfl) rfl (by kernel_rfl) cf_Agents of_Agents (nf_Agents _) (by kernel_rfl) (fun ρ hv hΓ hl hp => v_Agents Tryz.prog ρ hv hΓ hl hp) ⟨⟨n_Agents_0 Tryz.prog, by kernel_rfl, fun ρ hv hΓ hl hi => v_Agents_0 Tryz.prog ρ hv hΓ hl hi⟩, ⟨⟨n_Agents_1 Tryz.prog, by kernel_rfl, fun ρ hv hΓ hl hi => v_Agents_1 Tryz.prog ρ hv hΓ hl hi⟩, trivial⟩⟩
end Ft
set_option linter.unusedVariables false
set_option linter.unusedSimpArgs false
open Go Mv Mw Go.Proofs
namespace Ft
theorem cf_ChkAg : ∀ ρ, cChkAg.pre ρ → ∀ b ∈ cChkAg.fs, b.den ρ = true := by
 simp only [cChkAg, pA, fA, agsV, allTrue, sd, implies_true, IE.den, nm_, ge0, leN, nv, li, tT, Nat.reduceAdd]
 try rintro ρ ⟨-, -, -, -, h1, h2, -⟩; exact ⟨h1, h2⟩
theorem of_ChkAg : ∀ o ∈ cChkAg.outs, ∀ ρ, o.post ρ → ∀ b ∈ o.fs, b.den ρ = true := by
 simp only [cChkAg, pA, fA, agsV, allTrue, sd, implies_true, IE.den, nm_, ge0, leN, nv, li, tT, Nat.reduceAdd]
 try (repeat' first | apply And.intro | intro _) <;> omega
theorem nf_ChkAg (P : Program) : ∀ nd ∈ ndChkAg P, ∀ ρ, nd.inv ρ → ∀ b ∈ nd.fs, b.den ρ = true := by
 simp only [ndChkAg, pA, fA, agsV, allTrue, sd, implies_true, IE.den, nm_, ge0, leN, nv, li, tT, Nat.reduceAdd]
 try (repeat' first | apply And.intro | intro _) <;> omega
theorem ok_ChkAg (mm : Bool) : cChkAg.Ok Tryz.prog mm Γ0 :=
 con_by (X := Xf Tryz.prog) (cons := consChkAg) (nds := ndChkAg Tryz.prog) (T0 := e_ChkAg Tryz.prog) (hk_ok _) (fun d hd => by cases hd) (by kernel_rfl) (by kernel_rfl) rfl (by kernel_rfl) cf_ChkAg of_ChkAg (nf_ChkAg _) (by kernel_rfl) (fun ρ hv hΓ hl hp => v_ChkAg Tryz.prog ρ hv hΓ hl hp) trivial
theorem cf_Check : ∀ ρ, cCheck.pre ρ → ∀ b ∈ cCheck.fs, b.den ρ = true := by
 simp only [cCheck, pA, fA, agsV, allTrue, sd, implies_true, IE.den, nm_, ge0, leN, nv, li, tT, Nat.reduceAdd]
 try (repeat' first | apply And.intro | intro _) <;> omega
theorem of_Check : ∀ o ∈ cCheck.outs, ∀ ρ, o.post ρ → ∀ b ∈ o.fs, b.den ρ = true := by
 simp only [cCheck, pA, fA, agsV, allTrue, sd, implies_true, IE.den, nm_, ge0, leN, nv, li, tT, Nat.reduceAdd]
 try (repeat' first | apply And.intro | intro _) <;> omega
theorem nf_Check (P : Program) : ∀ nd ∈ ndCheck P, ∀ ρ, nd.inv ρ → ∀ b ∈ nd.fs, b.den ρ = true := by
 simp only [ndCheck, pA, fA, agsV, allTrue, sd, implies_true, IE.den, nm_, ge0, leN, nv, li, tT, Nat.reduceAdd]
 try (repeat' first | apply And.intro | intro _) <;> omega
theorem ok_Check (mm : Bool) : cCheck.Ok Tryz.prog mm Γ0 :=
 con_by (X := Xf Tryz.prog) (cons := consCheck) (nds := ndCheck Tryz.prog) (T0 := e_Check Tryz.prog) (hk_ok _) (fun d hd => by
  rcases List.mem_cons.1 hd with rfl | hd
  ·exact ok_ChkAg mm
  cases hd) (by kernel_rfl) (by kernel_rfl) rfl (by kernel_rfl) cf_Check of_Check (nf_Check _) (by kernel_rfl) (fun ρ hv hΓ hl hp => v_Check Tryz.prog ρ hv hΓ hl hp) ⟨⟨n_Check_0 Tryz.prog, by kernel_rfl, fun ρ hv hΓ hl hi => v_Check_0 Tryz.prog ρ hv hΓ hl hi⟩, trivial⟩
theorem cf_At1 : ∀ ρ, cAt1.pre ρ → ∀ b ∈ cAt1.fs, b.den ρ = true := by
 simp only [cAt1, pA, fA, agsV, allTrue, sd, implies_true, IE.den, nm_, ge0, leN, nv, li, tT, Nat.reduceAdd]
 try (repeat' first | apply And.intro | intro _) <;> omega
theorem of_At1 : ∀ o ∈ cAt1.outs, ∀ ρ, o.post ρ → ∀ b ∈ o.fs, b.den ρ = true := by
 simp only [cAt1, pA, fA, agsV, allTrue, sd, implies_true, IE.den, nm_, ge0, leN, nv, li, tT, Nat.reduceAdd]
 try (repeat' first | apply And.intro | intro _) <;> omega
theorem nf_At1 (P : Program) : ∀ nd ∈ ndAt1 P, ∀ ρ, nd.inv ρ → ∀ b ∈ nd.fs, b.den ρ = true := by
 simp only [ndAt1, pA, fA, agsV, allTrue, sd, implies_true, IE.den, nm_, ge0, leN, nv, li, tT, Nat.reduceAdd]
 try (repeat' first | apply And.intro | intro _) <;> omega
theorem ok_At1 (mm : Bool) : cAt1.Ok Tryz.prog mm Γ0 :=
 con_by (X := Xf Tryz.prog) (cons := consAt1) (nds := ndAt1 Tryz.prog) (T0 := e_At1 Tryz.prog) (hk_ok _) (fun d hd => by
  rcases List.mem_cons.1 hd with rfl | hd
  ·exact ok_Check mm
  cases hd) (by kernel_rfl) (by kernel_rfl) rfl (by kernel_rfl) cf_At1 of_At1 (nf_At1 _) (by kernel_rfl) (fun ρ hv hΓ hl hp => v_At1 Tryz.prog ρ hv hΓ hl hp) ⟨⟨n_At1_0 Tryz.prog, by kernel_rfl, fun ρ hv hΓ hl hi => v_At1_0 Tryz.prog ρ hv hΓ hl hi⟩, ⟨⟨n_At1_1 Tryz.prog, by kernel_rfl, fun ρ hv hΓ hl hi => v_At1_1 Tryz.prog ρ hv hΓ hl hi⟩, trivial⟩⟩
end Ft
set_option linter.unusedVariables false
open Go Mv Mw Go.Proofs
namespace Ft
theorem hkG_ok (main : Co) : HkOk Tryz.prog main (Xg Tryz.prog).hk :=
 hOr_ok hApp_ok (hOr_ok hHStore_ok (hOr_ok hMap_ok (hOr_ok (hExt_ok xTA_ok) (hOr_ok hInv_ok (hOr_ok (hExt_ok xClear_ok) (hOr_ok (hExt_ok xApp_ok) (hOr_ok hPop_ok (hExt_ok xTail_ok))))))))
theorem gro_den {ρ : Env} {s p q n : Nat} (hs : Nat.beq s 1 = false) (h0 : 0 < s) (h : (ρ.list (64 + q)).length = s * n) : (grn n s p).den ρ = (gro s p q).den ρ := by
 have e : (lenOf s (64 + q)).den ρ = (n : Int) := by
  unfold lenOf
  rw [hs]
  show (((ρ.list (64 + q)).length : Nat) : Int).tdiv (s : Int) = _
  rw [h, Int.natCast_mul, Int.mul_tdiv_cancel_left _ (by omega)]
 simp only [grn, gro, SC.den, IE.den] at e ⊢
 rw [e]
 rfl
theorem ok_AtL (n : Nat) (wf : (cAtL n).wfB = true) (mm : Bool) : (cAtL n).Ok Tryz.prog mm Γ0 := by
 refine (ok_At1 mm).weaken rfl rfl rfl rfl rfl wf (fun ρ h => h.1) ?_
 intro ρ ρ' hl hp he o ho hpo
 rcases List.mem_cons.1 ho with rfl | ho
 ·have e : nv ρ' 18 0 = (n : Int) := by
   have : nv ρ' 18 0 = nv ρ 18 0 := by unfold nv; rw [list_same he (p := 18) (by rw [hl]; decide)]
   rw [this]; exact hp.2
  obtain ⟨-, h2, h3⟩ := hpo
  have h4 : (ρ'.list 86).length = 6 * n := by
   have : (((ρ'.list 86).length : Nat) : Int) = 6 * nv ρ' 18 0 := h3
   omega
  refine ⟨atO n, List.mem_singleton.2 rfl, rfl, ?_, rfl, ?_, ?_⟩
  ·show SC.den ρ' (.tup [grn n 6 21, e0]) = SC.den ρ' (.tup [gro 6 21 22, e0])
   simp only [SC.den, dens, gro_den (q := 22) rfl (by decide) h4]
  ·intro b hb
   rcases List.mem_cons.1 hb with rfl | hb
   ·rw [be_le]; show ((6 * n : Nat) : Int) ≤ ((ρ'.list 86).length : Nat); omega
   ·rcases List.mem_cons.1 hb with rfl | hb
    ·unfold leN; rw [be_le]; show ((ρ'.list 86).length : Nat) ≤ ((6 * n : Nat) : Int); omega
    ·cases hb
  ·refine ⟨?_, h4⟩
   rw [h2, e, Int.toNat_natCast]
 ·cases ho
theorem ok_AtL1 (mm : Bool) : cAtL1.Ok Tryz.prog mm Γ0 := ok_AtL 1 (by kernel_rfl) mm
theorem ok_AtL2 (mm : Bool) : cAtL2.Ok Tryz.prog mm Γ0 := ok_AtL 2 (by kernel_rfl) mm
theorem ok_AtL3 (mm : Bool) : cAtL3.Ok Tryz.prog mm Γ0 := ok_AtL 3 (by kernel_rfl) mm
theorem ok_AtL4 (mm : Bool) : cAtL4.Ok Tryz.prog mm Γ0 := ok_AtL 4 (by kernel_rfl) mm
theorem ok_AgL (mm : Bool) : cAgL.Ok Tryz.prog mm Γ0 := by
 refine (ok_Agents mm).weaken rfl rfl rfl rfl rfl (by kernel_rfl) (fun ρ h => h) ?_
 intro ρ ρ' hl hp he o ho hpo
 rcases List.mem_cons.1 ho with rfl | ho
 ·exact ⟨_, List.mem_cons_self, rfl, rfl, rfl, by rintro b ⟨⟩, hpo⟩
 rcases List.mem_cons.1 ho with rfl | ho
 ·obtain ⟨a1, a2, c, c1, c2, c3, c4, c5⟩ := hpo
  have c6 : (ρ'.list 86).length = 5 * c := c4
  have key : ∀ n : Nat, n = c → agO n ∈ cAgL.outs → ∃ o' ∈ cAgL.outs, o'.n = 3 ∧ o'.v.den ρ' = (gro 5 21 22).den ρ' ∧ o'.rw = [(17, oHat 20), (21, .lrow .i64 86 35 21)] ∧ (∀ b ∈ o'.fs, b.den ρ' = true) ∧ o'.post ρ' := by
   rintro n rfl hm
   refine ⟨agO n, hm, rfl, gro_den rfl (by decide) c6, rfl, ?_, a1, a2, c4, c5⟩
   intro b hb
   rcases List.mem_cons.1 hb with rfl | hb
   ·rw [be_le]; show ((5 * n : Nat) : Int) ≤ ((ρ'.list 86).length : Nat); omega
   ·rcases List.mem_cons.1 hb with rfl | hb
    ·unfold leN; rw [be_le]; show ((ρ'.list 86).length : Nat) ≤ ((5 * n : Nat) : Int); omega
    ·cases hb
  have : c = 1 ∨ c = 2 ∨ c = 3 ∨ c = 4 := by omega
  rcases this with h | h | h | h
  ·exact key 1 h.symm (by simp only [cAgL, List.mem_cons, true_or, or_true])
  ·exact key 2 h.symm (by simp only [cAgL, List.mem_cons, true_or, or_true])
  ·exact key 3 h.symm (by simp only [cAgL, List.mem_cons, true_or, or_true])
  ·exact key 4 h.symm (by simp only [cAgL, List.mem_cons, true_or, or_true])
 ·cases ho
end Ft
set_option linter.unusedVariables false
open Go Mv Mw Go.Proofs
namespace Ft
theorem hkM_ok (main : Co) : HkOk Tryz.prog main (Xm Tryz.prog).hk :=
 hOr_ok hApp_ok (hOr_ok hHStore_ok (hOr_ok hMap_ok (hOr_ok (hExt_ok xTA_ok) hInv_ok)))
end Ft
set_option linter.unusedVariables false
open Go Mv Mw
namespace Ft
def e_May0 (P : Program) : VT := (.new (.branch (.eq (.bits .and .i64 (h0 81) (h0 80)) (h0 80))
(.ret 0 [.keep 16, .keep 17])
(.ret 1 [.keep 16, .keep 17])))
def e_Has0 (P : Program) : VT := (.ret 0 [.keep 16, .keep 17])
def e_Cmp1 (P : Program) : VT := (.branch (.not (.eq (h0 80) (h0 80)))
(.branch (.not (.eq (hN 80 1) (hN 80 1)))
(.ret 2 [.keep 16])
(.ret 0 [.keep 16]))
(.branch (.not (.eq (hN 80 1) (hN 80 1)))
(.ret 1 [.keep 16])
(.branch (.lt (h0 80) (hN 80 1))
(.ret 0 [.keep 16])
(.branch (.lt (hN 80 1) (h0 80))
(.ret 1 [.keep 16])
(.ret 2 [.keep 16])))))
def e_PutA (P : Program) : VT := (.new (.obl (oblC cMay [.ints [(h0 80), (hN 80 1), (hN 80 2), (hN 80 3), (hN 80 4), (hN 80 5)], .ints [(h0 81)]]) (.both (.asm (asmC (outAt cMay.outs 0) [.ints [(h0 80), (hN 80 1), (hN 80 2), (hN 80 3), (hN 80 4), (hN 80 5)], .ints [(h0 81)]]) (.ret 0 [.keep 16, .keep 17, .ints [(.bits .or .i64 (.bits .andNot .i64 (h0 81) (hN 80 2)) (hN 80 3))]])) (.asm (asmC (outAt cMay.outs 1) [.ints [(h0 80), (hN 80 1), (hN 80 2), (hN 80 3), (hN 80 4), (hN 80 5)], .ints [(h0 81)]]) (.bad 0)))))
end Ft
set_option linter.unusedVariables false
set_option linter.unusedSimpArgs false
open Go Mv Mw
namespace Ft
theorem v_May0 (P : Program) (ρ : Env) (hv : vals ρ) (hΓ : Γ0.On ρ) (hl : ρ.k.length = 18) (hp : cMay0.pre ρ) : VC cMay0 (ndMay0 P) none ρ (e_May0 P) := by
 simp only [VC, oblC, asmC, appAsm, outAt, ndAt, allTrue, ve, BE.den, LX.den, nv, li, rowP, tT, e_May0, cMay0, oMay0, mel, andI] at hp ⊢
 simp only [vb, bdList, hl, IE.den, forall_eq', implies_true, reduceIte, reduceCtorEq, Nat.reduceAdd, Nat.reduceSub, Nat.reduceLeDiff, Nat.reduceLT, Nat.reduceEqDiff] at hp ⊢
 try exact fun _ _ => ⟨fun h => h, fun h => h⟩
theorem v_Has0 (P : Program) (ρ : Env) (hv : vals ρ) (hΓ : Γ0.On ρ) (hl : ρ.k.length = 18) (hp : cHas0.pre ρ) : VC cHas0 (ndHas0 P) none ρ (e_Has0 P) := by
 simp only [VC, oblC, asmC, appAsm, outAt, ndAt, allTrue, ve, BE.den, LX.den, nv, li, rowP, tT, e_Has0, cHas0, oHas0, mel] at hp ⊢
theorem v_Cmp1 (P : Program) (ρ : Env) (hv : vals ρ) (hΓ : Γ0.On ρ) (hl : ρ.k.length = 17) (hp : cCmp1.pre ρ) : VC cCmp1 (ndCmp1 P) none ρ (e_Cmp1 P) := by
 simp only [VC, oblC, asmC, appAsm, outAt, ndAt, allTrue, ve, BE.den, LX.den, nv, li, rowP, tT, e_Cmp1, cCmp1] at hp ⊢
 simp only [vb, bdList, hl, IE.den, forall_eq', implies_true, reduceIte, reduceCtorEq, Nat.reduceAdd, Nat.reduceSub, Nat.reduceLeDiff, Nat.reduceLT, Nat.reduceEqDiff] at hp ⊢
 exact fun _ _ => ⟨fun h2 => h2, fun h2 => ⟨fun h3 => h3, fun h3 => by omega⟩⟩
theorem v_PutA (P : Program) (ρ : Env) (hv : vals ρ) (hΓ : Γ0.On ρ) (hl : ρ.k.length = 18) (hp : cPutA.pre ρ) : VC cPutA (ndPutA P) none ρ (e_PutA P) := by
 simp only [VC, oblC, asmC, appAsm, outAt, ndAt, allTrue, ve, BE.den, LX.den, nv, li, rowP, tT, e_PutA, cPutA, cMay, cMay0, Con.split, oMay0, mel] at hp ⊢
 simp only [vb, bdList, hl, IE.den, forall_eq', implies_true, reduceIte, reduceCtorEq, Nat.reduceAdd, Nat.reduceSub, Nat.reduceLeDiff, Nat.reduceLT, Nat.reduceEqDiff] at hp ⊢
 obtain ⟨p1, p2, p3, p4⟩ := hp
 exact fun b r => ⟨p1, fun _ => ⟨rfl, aftA_rng p3 p4 p1⟩, fun h => by rw [p2] at h; cases h⟩
end Ft
set_option linter.unusedVariables false
open Go Mv Mw Go.Proofs
namespace Ft
theorem hkT_ok (main : Co) : HkOk Tryz.prog main (Xt Tryz.prog).hk :=
 hOr_ok hApp_ok (hOr_ok hHStore_ok (hOr_ok (hExt_ok xMap_ok) (hExt_ok xTA_ok)))
end Ft
set_option linter.unusedVariables false
set_option linter.unusedSimpArgs false
open Go Mv Mw Go.Proofs
namespace Ft
theorem cf_May0 : ∀ ρ, cMay0.pre ρ → ∀ b ∈ cMay0.fs, b.den ρ = true := by
 simp only [cMay0, fM, mel, oMay0, oHas0, allTrue, sd, implies_true, IE.den, nm_, ge0, leN, nv, li, tT, Nat.reduceAdd]
 try (repeat' first | apply And.intro | intro _) <;> omega
theorem of_May0 : ∀ o ∈ cMay0.outs, ∀ ρ, o.post ρ → ∀ b ∈ o.fs, b.den ρ = true := by
 simp only [cMay0, fM, mel, oMay0, oHas0, allTrue, sd, implies_true, IE.den, nm_, ge0, leN, nv, li, tT, Nat.reduceAdd]
 try (repeat' first | apply And.intro | intro _) <;> omega
theorem nf_May0 (P : Program) : ∀ nd ∈ ndMay0 P, ∀ ρ, nd.inv ρ → ∀ b ∈ nd.fs, b.den ρ = true := by
 simp only [ndMay0, fM, mel, oMay0, oHas0, allTrue, sd, implies_true, IE.den, nm_, ge0, leN, nv, li, tT, Nat.reduceAdd]
 try (repeat' first | apply And.intro | intro _) <;> omega
theorem ok_May0 (mm : Bool) : cMay0.Ok Tryz.prog mm Γ0 :=
 con_by (X := Xt Tryz.prog) (cons := consMay0) (nds := ndMay0 Tryz.prog) (T0 := e_May0 Tryz.prog) (hkT_ok _) (fun d hd => by cases hd) (by kernel_rfl) (by kernel_rfl) rfl (by kernel_rfl) cf_May0 of_May0 (nf_May0 _) (by kernel_rfl) (fun ρ hv hΓ hl hp => v_May0 Tryz.prog ρ hv hΓ hl hp) trivial
theorem cf_Has0 : ∀ ρ, cHas0.pre ρ → ∀ b ∈ cHas0.fs, b.den ρ = true := by
 simp only [cHas0, fM, mel, oMay0, oHas0, allTrue, sd, implies_true, IE.den, nm_, ge0, leN, nv, li, tT, Nat.reduceAdd]
 try (repeat' first | apply And.intro | intro _) <;> omega
theorem of_Has0 : ∀ o ∈ cHas0.outs, ∀ ρ, o.post ρ → ∀ b ∈ o.fs, b.den ρ = true := by
 simp only [cHas0, fM, mel, oMay0, oHas0, allTrue, sd, implies_true, IE.den, nm_, ge0, leN, nv, li, tT, Nat.reduceAdd]
 try (repeat' first | apply And.intro | intro _) <;> omega
theorem nf_Has0 (P : Program) : ∀ nd ∈ ndHas0 P, ∀ ρ, nd.inv ρ → ∀ b ∈ nd.fs, b.den ρ = true := by
 simp only [ndHas0, fM, mel, oMay0, oHas0, allTrue, sd, implies_true, IE.den, nm_, ge0, leN, nv, li, tT, Nat.reduceAdd]
 try (repeat' first | apply And.intro | intro _) <;> omega
theorem ok_Has0 (mm : Bool) : cHas0.Ok Tryz.prog mm Γ0 :=
 con_by (X := Xt Tryz.prog) (cons := consHas0) (nds := ndHas0 Tryz.prog) (T0 := e_Has0 Tryz.prog) (hkT_ok _) (fun d hd => by cases hd) (by kernel_rfl) (by kernel_rfl) rfl (by kernel_rfl) cf_Has0 of_Has0 (nf_Has0 _) (by kernel_rfl) (fun ρ hv hΓ hl hp => v_Has0 Tryz.prog ρ hv hΓ hl hp) trivial
theorem cf_Cmp1 : ∀ ρ, cCmp1.pre ρ → ∀ b ∈ cCmp1.fs, b.den ρ = true := by
 simp only [cCmp1, fM, mel, oMay0, oHas0, allTrue, sd, implies_true, IE.den, nm_, ge0, leN, nv, li, tT, Nat.reduceAdd]
 try (repeat' first | apply And.intro | intro _) <;> omega
theorem of_Cmp1 : ∀ o ∈ cCmp1.outs, ∀ ρ, o.post ρ → ∀ b ∈ o.fs, b.den ρ = true := by
 simp only [cCmp1, fM, mel, oMay0, oHas0, allTrue, sd, implies_true, IE.den, nm_, ge0, leN, nv, li, tT, Nat.reduceAdd]
 try (repeat' first | apply And.intro | intro _) <;> omega
theorem nf_Cmp1 (P : Program) : ∀ nd ∈ ndCmp1 P, ∀ ρ, nd.inv ρ → ∀ b ∈ nd.fs, b.den ρ = true := by
 simp only [ndCmp1, fM, mel, oMay0, oHas0, allTrue, sd, implies_true, IE.den, nm_, ge0, leN, nv, li, tT, Nat.reduceAdd]
 try (repeat' first | apply And.intro | intro _) <;> omega
theorem ok_Cmp1 (mm : Bool) : cCmp1.Ok Tryz.prog mm Γ0 :=
 con_by (X := Xt Tryz.prog) (cons := consCmp1) (nds := ndCmp1 Tryz.prog) (T0 := e_Cmp1 Tryz.prog) (hkT_ok _) (fun d hd => by cases hd) (by kernel_rfl) (by kernel_rfl) rfl (by kernel_rfl) cf_Cmp1 of_Cmp1 (nf_Cmp1 _) (by kernel_rfl) (fun ρ hv hΓ hl hp => v_Cmp1 Tryz.prog ρ hv hΓ hl hp) trivial
end Ft
set_option linter.unusedVariables false
open Go Mv Mw Go.Proofs
namespace Ft
theorem ok_May (mm : Bool) : cMay.Ok Tryz.prog mm Γ0 :=
 (ok_May0 mm).split2 rfl rfl rfl rfl rfl rfl (fun ρ h e => by
  have e' : andI (nv ρ 17 0) (nv ρ 16 1) = 0 := of_decide_eq_true e
  have h' : andI (nv ρ 17 0) (nv ρ 16 0) = nv ρ 16 0 := h
  simp [mayA, h', e']) (fun ρ h e => by
  have e' : ¬ andI (nv ρ 17 0) (nv ρ 16 1) = 0 := of_decide_eq_false e
  simp [mayA, e']) fun ρ h => by
  have h' : ¬ andI (nv ρ 17 0) (nv ρ 16 0) = nv ρ 16 0 := h
  simp [mayA, h']
theorem ok_Has (mm : Bool) : cHas.Ok Tryz.prog mm Γ0 :=
 (ok_Has0 mm).split rfl rfl (fun ρ h e => e) fun ρ h e => e
end Ft



set_option linter.unusedVariables false
open Go Mv Mw
namespace Ft
def e_Pass (P : Program) : VT := (.obl (oblC cFaults [.keep 16, .keep 17, .ints [(h0 82)], .ints [(h0 83), (hN 83 1)]]) (.new (.new (.asm (asmC (outAt cFaults.outs 0) [.keep 16, .keep 17, .ints [(h0 82)], .ints [(h0 83), (hN 83 1)], .keep 20, .keep 21]) (.obl (oblC cFaults [.keep 16, .keep 17, .ints [(h0 82)], .ints [(h0 84), (hN 84 1)]]) (.new (.new (.asm (asmC (outAt cFaults.outs 0) [.keep 16, .keep 17, .ints [(h0 82)], .ints [(h0 84), (hN 84 1)], .keep 22, .keep 23]) (.ret 0 [.keep 16, .keep 17, .keep 18, .keep 19, .ints [(h0 86), (hN 86 1)], .ints [(.bits .or .i64 (.bits .andNot .i64 (oN 63) (.wrap .i64 (.sub (.wrap .i64 (.shl .i64 (oN 1) (h0 82))) (oN 1)))) (.bits .and .i64 (h0 85) (h0 87)))]])))))))))
end Ft
set_option linter.unusedVariables false
set_option linter.unusedSimpArgs false
open Go Mv Mw
namespace Ft
set_option maxRecDepth 20000 in
theorem v_Pass (P : Program) (ρ : Env) (hv : vals ρ) (hΓ : Γ0.On ρ) (hl : ρ.k.length = 20) (hp : cPass.pre ρ) : VC cPass (ndPass P) none ρ (e_Pass P) := by
 simp only [VC, oblC, asmC, appAsm, outAt, ndAt, allTrue, ve, BE.den, LX.den, nv, li, rowP, tT, e_Pass, ndPass, cPass, mel, cFaults] at hp ⊢
 simp only [vb, bdList, hl, IE.den, forall_eq', implies_true, reduceIte, reduceCtorEq, Nat.reduceAdd, Nat.reduceSub, Nat.reduceLeDiff, Nat.reduceLT, Nat.reduceEqDiff] at hp ⊢
 obtain ⟨p0, a0, a1, f0, f1⟩ := hp
 generalize (ρ.list 82).getD 0 0 = few at *
 refine ⟨⟨p0, a0, by omega, f0, f1⟩, ?_⟩
 rintro _ r _ r1 ⟨b1, b2, b3, b4, -⟩
 refine ⟨⟨p0, by omega, by omega, f0, f1⟩, ?_⟩
 rintro _ r2 _ r3 ⟨c1, c2, c3, c4, -⟩
 have b5 := pow_le63 b4 f1
 have c5 := pow_le63 c4 f1
 obtain ⟨q, rfl⟩ := nat_of f0
 rw [Int.toNat_natCast]
 have h1 : ∀ k : Nat, k < 7 → 0 ≤ bitsOf .andNot .i64 63 (IntKind.i64.wrap (IntKind.i64.wrap (2 ^ Nat.min k 64) - 1)) ∧ bitsOf .andNot .i64 63 (IntKind.i64.wrap (IntKind.i64.wrap (2 ^ Nat.min k 64) - 1)) < 2 ^ 6 := by decide
 obtain ⟨u1, u2⟩ := h1 q (by omega)
 have v := and_rng (k := 6) (by decide) b3 (show _ < 2 ^ 6 by omega) c3 (by omega)
 have := or_rng (k := 6) (by decide) u1 u2 v.1 v.2
 exact ⟨by omega, by omega, by omega, by omega⟩
end Ft
set_option linter.unusedVariables false
set_option linter.unusedSimpArgs false
open Go Mv Mw Go.Proofs
namespace Ft
theorem cf_PutA : ∀ ρ, cPutA.pre ρ → ∀ b ∈ cPutA.fs, b.den ρ = true := by
 simp only [cPutA, fM, mel, fT, fBn, fImp, nB, fTl, pTl, nT, pA, fA, agsV, noT, nL, allTrue, sd, implies_true, IE.den, nm_, ge0, leN, nv, li, tT, Nat.reduceAdd]
 try (repeat' first | apply And.intro | intro _) <;> omega
theorem of_PutA : ∀ o ∈ cPutA.outs, ∀ ρ, o.post ρ → ∀ b ∈ o.fs, b.den ρ = true := by
 simp only [cPutA, fM, mel, fT, fBn, fImp, nB, fTl, pTl, nT, pA, fA, agsV, noT, nL, allTrue, sd, implies_true, IE.den, nm_, ge0, leN, nv, li, tT, Nat.reduceAdd]
 try (repeat' first | apply And.intro | intro _) <;> omega
theorem nf_PutA (P : Program) : ∀ nd ∈ ndPutA P, ∀ ρ, nd.inv ρ → ∀ b ∈ nd.fs, b.den ρ = true := by
 simp only [ndPutA, fM, mel, fT, fBn, fImp, nB, fTl, pTl, nT, pA, fA, agsV, noT, nL, allTrue, sd, implies_true, IE.den, nm_, ge0, leN, nv, li, tT, Nat.reduceAdd]
 try (repeat' first | apply And.intro | intro _) <;> omega
theorem ok_PutA (mm : Bool) : cPutA.Ok Tryz.prog mm Γ0 :=
 con_by (X := Xt Tryz.prog) (cons := consPutA) (nds := ndPutA Tryz.prog) (T0 := e_PutA Tryz.prog) (hkT_ok _) (fun d hd => by
  rcases List.mem_cons.1 hd with rfl | hd
  ·exact ok_May mm
  cases hd) (by kernel_rfl) (by kernel_rfl) rfl (by kernel_rfl) cf_PutA of_PutA (nf_PutA _) (by kernel_rfl) (fun ρ hv hΓ hl hp => v_PutA Tryz.prog ρ hv hΓ hl hp) trivial
theorem cf_Pass : ∀ ρ, cPass.pre ρ → ∀ b ∈ cPass.fs, b.den ρ = true := by
 simp only [cPass, fM, mel, fT, fBn, fImp, nB, fTl, pTl, nT, pA, fA, agsV, noT, nL, allTrue, sd, implies_true, IE.den, nm_, ge0, leN, nv, li, tT, Nat.reduceAdd]
 try (repeat' first | apply And.intro | intro _) <;> omega
theorem of_Pass : ∀ o ∈ cPass.outs, ∀ ρ, o.post ρ → ∀ b ∈ o.fs, b.den ρ = true := by
 simp only [cPass, fM, mel, fT, fBn, fImp, nB, fTl, pTl, nT, pA, fA, agsV, noT, nL, allTrue, sd, implies_true, IE.den, nm_, ge0, leN, nv, li, tT, Nat.reduceAdd]
 try (repeat' first | apply And.intro | intro _) <;> omega
theorem nf_Pass (P : Program) : ∀ nd ∈ ndPass P, ∀ ρ, nd.inv ρ → ∀ b ∈ nd.fs, b.den ρ = true := by
 simp only [ndPass, fM, mel, fT, fBn, fImp, nB, fTl, pTl, nT, pA, fA, agsV, noT, nL, allTrue, sd, implies_true, IE.den, nm_, ge0, leN, nv, li, tT, Nat.reduceAdd]
 try (repeat' first | apply And.intro | intro _) <;> omega
theorem ok_Pass (mm : Bool) : cPass.Ok Tryz.prog mm Γ0 :=
 con_by (X := Xt Tryz.prog) (cons := consPass) (nds := ndPass Tryz.prog) (T0 := e_Pass Tryz.prog) (hkT_ok _) (fun d hd => by
  rcases List.mem_cons.1 hd with rfl | hd
  ·exact ok_Faults mm
  cases hd) (by kernel_rfl) (by kernel_rfl) rfl (by kernel_rfl) cf_Pass of_Pass (nf_Pass _) (by kernel_rfl) (fun ρ hv hΓ hl hp => v_Pass Tryz.prog ρ hv hΓ hl hp) trivial
end Ft
set_option linter.unusedVariables false
set_option linter.unusedSimpArgs false
open Go Mv Mw
namespace Ft
theorem v_CmpQ (P : Program) (ρ : Env) (hv : vals ρ) (hΓ : Γ0.On ρ) (hl : ρ.k.length = 18) (hp : cCmpQ.pre ρ) : VC cCmpQ (ndCmpQ P) none ρ (e_CmpQ P) := by
 simp only [VC, oblC, asmC, appAsm, outAt, ndAt, allTrue, ve, BE.den, LX.den, nv, li, rowP, tT, e_CmpQ, cCmpQ, cCmp1] at hp ⊢
 simp only [vb, bdList, hl, IE.den, forall_eq', implies_true, reduceIte, reduceCtorEq, Nat.reduceAdd, Nat.reduceSub, Nat.reduceLeDiff, Nat.reduceLT, Nat.reduceEqDiff] at hp ⊢
 generalize (ρ.list 80).getD 1 0 = b
 generalize (ρ.list 81).getD 1 0 = b'
 intros
 refine ⟨?_, ?_, ?_⟩ <;> intro h1 <;> omega
theorem v_ThrQ (P : Program) (ρ : Env) (hv : vals ρ) (hΓ : Γ0.On ρ) (hl : ρ.k.length = 23) (hp : cThrQ.pre ρ) : VC cThrQ (ndThrQ P) none ρ (e_ThrQ P) := by
 simp only [VC, oblC, asmC, appAsm, outAt, ndAt, allTrue, ve, BE.den, LX.den, nv, li, rowP, tT, e_ThrQ, cThrQ, cMay, cMay0, cHas, cHas0, cPutA, Con.split, oMay0, oHas0, mel, thrY, agR] at hp ⊢
 simp only [vb, bdList, hl, IE.den, forall_eq', implies_true, reduceIte, reduceCtorEq, Nat.reduceAdd, Nat.reduceSub, Nat.reduceLeDiff, Nat.reduceLT, Nat.reduceEqDiff] at hp ⊢
 obtain ⟨p1, ⟨q1, q2⟩, p3, p4, p5⟩ := hp
 refine fun b r b' r' => ⟨p1, fun m => ⟨⟨p1, m, p3, p4⟩, fun b1 r1 => ?_⟩, fun m h => by rw [m] at h; exact absurd h.1 (by decide)⟩
 generalize (List.map intOf r1).getD 0 0 = t
 rintro ⟨rfl, t1⟩
 refine ⟨t1, fun h => ⟨⟨p1, m, p3, p4⟩, fun b2 r2 => ?_⟩, fun h h2 => by rw [h2.2] at h; cases h⟩
 generalize (List.map intOf r2).getD 0 0 = t2
 rintro ⟨rfl, t3⟩ b3 r3
 generalize aftA ((ρ.list 80).getD 2 0) ((ρ.list 80).getD 3 0) ((ρ.list 86).getD 0 0) = T at *
 obtain ⟨c1, c2, c3, c4⟩ := q2 T.toNat (by omega)
 have e1 : (T * 8).toNat = 8 * T.toNat := by omega
 have e2 : (T * 8 + 1).toNat = 8 * T.toNat + 1 := by omega
 have e3 : cst (ρ.list 82) T.toNat = (ρ.list 82).getD (8 * T.toNat) 0 := rfl
 have e4 : pts (ρ.list 82) T.toNat = (ρ.list 82).getD (8 * T.toNat + 1) 0 := rfl
 rw [e1, e2, ← e3, ← e4]
 exact ⟨⟨m, h⟩, wrap64_fit (by omega) (by omega), wrap64_fit (by omega) (by omega)⟩
theorem v_ImpQ (P : Program) (ρ : Env) (hv : vals ρ) (hΓ : Γ0.On ρ) (hl : ρ.k.length = 23) (hp : cImpQ.pre ρ) : VC cImpQ (ndImpQ P) none ρ (e_ImpQ P) := by
 simp only [VC, oblC, asmC, appAsm, outAt, ndAt, allTrue, ve, BE.den, LX.den, nv, li, rowP, tT, e_ImpQ, ndImpQ, cImpQ, mel, pImpQ, okPQ, nB] at hp ⊢
 simp only [vb, bdList, hl, IE.den, forall_eq', implies_true, reduceIte, reduceCtorEq, Nat.reduceAdd, Nat.reduceSub, Nat.reduceLeDiff, Nat.reduceLT, Nat.reduceEqDiff] at hp ⊢
 obtain ⟨h1, h2, h3, h4⟩ := hp
 exact ⟨⟨h1, h2, h3, h4⟩, by omega, by omega, fun j hj => by omega⟩
theorem v_ImpQ_0 (P : Program) (ρ : Env) (hv : vals ρ) (hΓ : Γ0.On ρ) (hl : ρ.k.length = 24) (hp : (ndAt (ndImpQ P) 0).inv ρ) : VC cImpQ (ndImpQ P) (some ((ndAt (ndImpQ P) 0).mu ρ)) ρ (n_ImpQ_0 P) := by
 simp only [VC, oblC, asmC, appAsm, outAt, ndAt, allTrue, ve, BE.den, LX.den, nv, li, rowP, tT, n_ImpQ_0, ndImpQ, cImpQ, cThrQ, cHas, cHas0, cCmpQ, Con.split, oHas0, mel, thrY, agR, pImpQ, okPQ, nB, goOnQ, putAsm] at hp ⊢
 simp only [vb, bdList, hl, IE.den, forall_eq', implies_true, reduceIte, reduceCtorEq, Nat.reduceAdd, Nat.reduceSub, Nat.reduceLeDiff, Nat.reduceLT, Nat.reduceEqDiff] at hp ⊢
 obtain ⟨⟨m0, n1, hB, g0, hok⟩, i0, i1, hnb⟩ := hp
 generalize (ρ.list 87).getD 0 0 = i at *
 generalize ρ.list 80 = B at *
 generalize (ρ.list 85).getD 0 0 = n at *
 generalize (ρ.list 86).getD 0 0 = M at *
 generalize ρ.list 82 = T0 at *
 generalize (ρ.list 83).getD 0 0 = C0 at *
 obtain ⟨j, rfl⟩ := nat_of i0
 obtain ⟨m, rfl⟩ := nat_of m0.1
 obtain ⟨nn, rfl⟩ : ∃ k : Nat, n = k := nat_of (by omega)
 simp only [Int.toNat_natCast] at *
 have hm : m < 64 := by omega
 have hlen := hB.len
 have hrT : rngT T0 := ⟨hok.len, fun k hk => by have := hok.rng k hk; omega⟩
 have E0 : ((j : Int) * 6).toNat = 6 * j := by omega
 have E1 : ((j : Int) * 6 + 1).toNat = 6 * j + 1 := by omega
 have E2 : ((j : Int) * 6 + 2).toNat = 6 * j + 2 := by omega
 have E3 : ((j : Int) * 6 + 3).toNat = 6 * j + 3 := by omega
 have E4 : ((j : Int) * 6 + 4).toNat = 6 * j + 4 := by omega
 have E5 : ((j : Int) * 6 + 5).toNat = 6 * j + 5 := by omega
 have G0 : B.getD (6 * j) 0 = fld B j 0 := rfl
 have G1 : B.getD (6 * j + 1) 0 = fld B j 1 := rfl
 have G2 : B.getD (6 * j + 2) 0 = fld B j 2 := rfl
 have G3 : B.getD (6 * j + 3) 0 = fld B j 3 := rfl
 have G4 : B.getD (6 * j + 4) 0 = fld B j 4 := rfl
 have G5 : B.getD (6 * j + 5) 0 = fld B j 5 := rfl
 have F0 : ((m : Int) * 8).toNat = 8 * m := by omega
 have F1 : ((m : Int) * 8 + 1).toNat = 8 * m + 1 := by omega
 have F7 : ((m : Int) * 8 + 7).toNat = 8 * m + 7 := by omega
 have H0 : T0.getD (8 * m) 0 = cst T0 m := rfl
 have H1 : T0.getD (8 * m + 1) 0 = pts T0 m := rfl
 have H7 : T0.getD (8 * m + 7) 0 = num T0 m := rfl
 have J0 : mayA (fld B j 0) (fld B j 1) m = mayJ B m j := rfl
 have J1 : aftA (fld B j 2) (fld B j 3) m = aftJ B m j := rfl
 have W : bitsOf .or .u64 C0 (IntKind.u64.wrap (2 ^ Nat.min m 64)) = withU C0 m := by unfold withU; rw [Int.one_mul, Int.toNat_natCast]
 simp only [E0, E1, E2, E3, E4, E5, G0, G1, G2, G3, G4, G5, F0, F1, F7, H0, H1, H7, J0, J1, W]
 have few := hB.few
 refine ⟨fun hj => ?_, fun hj k hk => hnb k (by omega)⟩
 have hjn : j < nn := by omega
 obtain ⟨a0, a1, a2, a3, a4, a5⟩ := hB.rng j hjn
 have gen : ∀ (a b : Nat) (r : List Int), BetterQ B T0 C0 m j → r = putL T0 (8 * m) (newT B T0 m j) → r.length = 512 ∧ (∀ g, OkQ B nn g T0 C0 → OkQ B nn g r (withU C0 m)) ∧ phiQ r (withU C0 m) < phiQ T0 C0 := by
  rintro _ _ r hb rfl
  exact ⟨(hok.better hB hm hjn hb).1.len, fun g hg => (hg.better hB hm hjn hb).1, (hok.better hB hm hjn hb).2⟩
 have no : ¬ BetterQ B T0 C0 m j → ∀ k : Nat, (k : Int) < j + 1 → ¬ BetterQ B T0 C0 m k := fun h k hk => by
  by_cases e : k = j
  ·rw [e]; exact h
  ·exact hnb k (by omega)
 refine ⟨by omega, fun _ _ => ⟨⟨m0, hrT, a2, a3, a4⟩, fun hn _ _ => ⟨⟨⟨m0, n1, hB, g0, hok⟩, by omega, by omega, no fun hb => hn ⟨hb.1, hb.2.1⟩⟩, by omega⟩, ?_⟩⟩
 rintro _ r ⟨⟨y1, y2⟩, x1, x2⟩ _ _
 rw [x1, x2]
 refine ⟨m0, fun h1 => ⟨fun h2 _ r2 h3 => ⟨⟨⟨m0, n1, hB, g0, hok⟩, by omega, by omega, gen 0 0 _ ⟨y1, y2, .inr h2⟩ h3⟩, by omega⟩, ?_, ?_⟩, fun h1 _ r2 h3 => ⟨⟨⟨m0, n1, hB, g0, hok⟩, by omega, by omega, gen 0 0 _ ⟨y1, y2, .inl h1⟩ h3⟩, by omega⟩⟩
 all_goals exact fun h2 => ⟨⟨⟨m0, n1, hB, g0, hok⟩, by omega, by omega, no fun hb => by
  rcases hb.2.2 with h | h
  ·rw [h1] at h; cases h
  ·exact h2 h⟩, by omega⟩
theorem v_ImpQ_1 (P : Program) (ρ : Env) (hv : vals ρ) (hΓ : Γ0.On ρ) (hl : ρ.k.length = 26) (hp : (ndAt (ndImpQ P) 1).inv ρ) : VC cImpQ (ndImpQ P) (some ((ndAt (ndImpQ P) 1).mu ρ)) ρ (n_ImpQ_1 P) := by
 simp only [VC, oblC, asmC, appAsm, outAt, ndAt, allTrue, ve, BE.den, LX.den, nv, li, rowP, tT, n_ImpQ_1, ndImpQ, cImpQ, cThrQ, cHas, cHas0, cCmpQ, Con.split, oHas0, mel, thrY, agR, pImpQ, okPQ, nB, goOnQ, putAsm] at hp ⊢
 simp only [vb, bdList, hl, IE.den, forall_eq', implies_true, reduceIte, reduceCtorEq, Nat.reduceAdd, Nat.reduceSub, Nat.reduceLeDiff, Nat.reduceLT, Nat.reduceEqDiff] at hp ⊢
 obtain ⟨⟨m0, n1, hB, g0, hok0⟩, i0, i1, hl1, hgo, hphi⟩ := hp
 generalize (ρ.list 89).getD 0 0 = i at *
 generalize ρ.list 80 = B at *
 generalize (ρ.list 85).getD 0 0 = n at *
 generalize (ρ.list 86).getD 0 0 = M at *
 generalize ρ.list 82 = T0 at *
 generalize (ρ.list 83).getD 0 0 = C0 at *
 generalize ρ.list 87 = T1 at *
 generalize (ρ.list 88).getD 0 0 = C1 at *
 have hok := hgo g0 hok0
 obtain ⟨j, rfl⟩ := nat_of i0
 obtain ⟨m, rfl⟩ := nat_of m0.1
 obtain ⟨nn, rfl⟩ : ∃ k : Nat, n = k := nat_of (by omega)
 simp only [Int.toNat_natCast] at *
 have hm : m < 64 := by omega
 have hlen := hB.len
 have hrT : rngT T1 := ⟨hok.len, fun k hk => by have := hok.rng k hk; omega⟩
 have E0 : ((j : Int) * 6).toNat = 6 * j := by omega
 have E1 : ((j : Int) * 6 + 1).toNat = 6 * j + 1 := by omega
 have E2 : ((j : Int) * 6 + 2).toNat = 6 * j + 2 := by omega
 have E3 : ((j : Int) * 6 + 3).toNat = 6 * j + 3 := by omega
 have E4 : ((j : Int) * 6 + 4).toNat = 6 * j + 4 := by omega
 have E5 : ((j : Int) * 6 + 5).toNat = 6 * j + 5 := by omega
 have G0 : B.getD (6 * j) 0 = fld B j 0 := rfl
 have G1 : B.getD (6 * j + 1) 0 = fld B j 1 := rfl
 have G2 : B.getD (6 * j + 2) 0 = fld B j 2 := rfl
 have G3 : B.getD (6 * j + 3) 0 = fld B j 3 := rfl
 have G4 : B.getD (6 * j + 4) 0 = fld B j 4 := rfl
 have G5 : B.getD (6 * j + 5) 0 = fld B j 5 := rfl
 have F0 : ((m : Int) * 8).toNat = 8 * m := by omega
 have F1 : ((m : Int) * 8 + 1).toNat = 8 * m + 1 := by omega
 have F7 : ((m : Int) * 8 + 7).toNat = 8 * m + 7 := by omega
 have H0 : T1.getD (8 * m) 0 = cst T1 m := rfl
 have H1 : T1.getD (8 * m + 1) 0 = pts T1 m := rfl
 have H7 : T1.getD (8 * m + 7) 0 = num T1 m := rfl
 have J0 : mayA (fld B j 0) (fld B j 1) m = mayJ B m j := rfl
 have J1 : aftA (fld B j 2) (fld B j 3) m = aftJ B m j := rfl
 have W : bitsOf .or .u64 C1 (IntKind.u64.wrap (2 ^ Nat.min m 64)) = withU C1 m := by unfold withU; rw [Int.one_mul, Int.toNat_natCast]
 simp only [E0, E1, E2, E3, E4, E5, G0, G1, G2, G3, G4, G5, F0, F1, F7, H0, H1, H7, J0, J1, W]
 have few := hB.few
 refine ⟨fun hj => ?_, fun hj => ⟨hl1, hgo, hphi⟩⟩
 have hjn : j < nn := by omega
 obtain ⟨a0, a1, a2, a3, a4, a5⟩ := hB.rng j hjn
 have gen : ∀ (a b : Nat) (r : List Int), BetterQ B T1 C1 m j → r = putL T1 (8 * m) (newT B T1 m j) → r.length = 512 ∧ (∀ g, OkQ B nn g T0 C0 → OkQ B nn g r (withU C1 m)) ∧ phiQ r (withU C1 m) < phiQ T0 C0 := by
  rintro _ _ r hb rfl
  exact ⟨(hok.better hB hm hjn hb).1.len, fun g hg => ((hgo g hg).better hB hm hjn hb).1, Nat.lt_trans (hok.better hB hm hjn hb).2 hphi⟩
 refine ⟨by omega, fun _ _ => ⟨⟨m0, hrT, a2, a3, a4⟩, fun hn _ _ => ⟨⟨⟨m0, n1, hB, g0, hok0⟩, by omega, by omega, hl1, hgo, hphi⟩, by omega⟩, ?_⟩⟩
 rintro _ r ⟨⟨y1, y2⟩, x1, x2⟩ _ _
 rw [x1, x2]
 refine ⟨m0, fun h1 => ⟨fun h2 _ r2 h3 => ⟨⟨⟨m0, n1, hB, g0, hok0⟩, by omega, by omega, gen 0 0 _ ⟨y1, y2, .inr h2⟩ h3⟩, by omega⟩, ?_, ?_⟩, fun h1 _ r2 h3 => ⟨⟨⟨m0, n1, hB, g0, hok0⟩, by omega, by omega, gen 0 0 _ ⟨y1, y2, .inl h1⟩ h3⟩, by omega⟩⟩
 all_goals exact fun h2 => ⟨⟨⟨m0, n1, hB, g0, hok0⟩, by omega, by omega, hl1, hgo, hphi⟩, by omega⟩
end Ft
set_option linter.unusedVariables false
set_option linter.unusedSimpArgs false
open Go Mv Mw
namespace Ft
set_option maxRecDepth 20000 in
theorem v_TollsQ (P : Program) (ρ : Env) (hv : vals ρ) (hΓ : Γ0.On ρ) (hl : ρ.k.length = 20) (hp : cTollsQ.pre ρ) : VC cTollsQ (ndTollsQ P) none ρ (e_TollsQ P) := by
 unfold e_TollsQ
 simp only [VC, oblC, asmC, appAsm, outAt, ndAt, allTrue, ve, BE.den, LX.den, nv, li, rowP, tT, ndTollsQ, cTollsQ, mel, pTlQ, nT] at hp ⊢
 simp only [vb, bdList, hl, IE.den, forall_eq', implies_true, reduceIte, reduceCtorEq, Nat.reduceAdd, Nat.reduceSub, Nat.reduceLeDiff, Nat.reduceLT, Nat.reduceEqDiff] at hp ⊢
 intro _ _ _ _
 refine ⟨hp, by rfl, ⟨by omega, by omega⟩, by omega, by omega, fun m hm => ⟨fun h => ?_, fun h => by omega⟩⟩
 rw [show (0 : Int) = ((0 : Nat) : Int) from rfl, hasU_nat (by decide) hm, Nat.zero_testBit] at h
 cases h
theorem v_TollsQ_0 (P : Program) (ρ : Env) (hv : vals ρ) (hΓ : Γ0.On ρ) (hl : ρ.k.length = 24) (hp : (ndAt (ndTollsQ P) 0).inv ρ) : VC cTollsQ (ndTollsQ P) (some ((ndAt (ndTollsQ P) 0).mu ρ)) ρ (n_TollsQ_0 P) := by
 simp only [VC, oblC, asmC, appAsm, outAt, ndAt, allTrue, ve, BE.den, LX.den, nv, li, rowP, tT, n_TollsQ_0, ndTollsQ, cTollsQ, mel, pTlQ, nT, cImpQ, pImpQ, goOnQ, okPQ, nB] at hp ⊢
 simp only [vb, bdList, hl, IE.den, forall_eq', implies_true, reduceIte, reduceCtorEq, Nat.reduceAdd, Nat.reduceSub, Nat.reduceLeDiff, Nat.reduceLT, Nat.reduceEqDiff] at hp ⊢
 obtain ⟨p0, hz, hC, i0, i1, hh⟩ := hp
 generalize (ρ.list 87).getD 0 0 = i at *
 generalize (ρ.list 83).getD 0 0 = a at *
 generalize (ρ.list 86).getD 0 0 = C at *
 generalize (ρ.list 82).getD 0 0 = n at *
 generalize ρ.list 81 = B at *
 rw [hz]
 obtain ⟨k, rfl⟩ := nat_of i0
 simp only [Int.toNat_natCast] at *
 have W : bitsOf .or .u64 C (IntKind.u64.wrap (2 ^ Nat.min k 64)) = withU C k := by unfold withU; rw [Int.one_mul, Int.toNat_natCast]
 rw [W]
 refine ⟨fun hk => ⟨fun h => ⟨⟨p0, trivial, withU_rng hC.1 hC.2 (by omega), by omega, by omega, fun m hm => ?_⟩, by omega⟩, fun h => ⟨⟨p0, trivial, hC, by omega, by omega, fun m hm => ?_⟩, by omega⟩⟩, fun hk => ?_⟩
 ·rw [hasU_withU hC.1 hC.2 (by omega) hm, Bool.or_eq_true, hh m hm, decide_eq_true_eq]
  have : gP a k = true := by unfold gP andI; simp [h]
  by_cases e : k = m
  ·subst e
   exact ⟨fun _ => ⟨by omega, this⟩, fun _ => .inr rfl⟩
  ·exact ⟨fun h => h.elim (fun h => ⟨by omega, h.2⟩) fun h => absurd h e, fun h => .inl ⟨by omega, h.2⟩⟩
 ·rw [hh m hm]
  have : ¬ gP a k = true := by unfold gP andI; simp [h]
  by_cases e : k = m
  ·subst e
   exact ⟨fun h => absurd h.2 this, fun h => absurd h.2 this⟩
  ·exact ⟨fun h => ⟨by omega, h.2⟩, fun h => ⟨by omega, h.2⟩⟩
 ·have hok : OkQ B n.toNat (gP a) zer C := OkQ.start hC.1 hC.2 fun m hm => by
   rw [Bool.eq_iff_iff, hh m hm]
   exact ⟨fun h => h.2, fun h => ⟨by omega, h⟩⟩
  refine ⟨⟨p0, hok, by omega, by omega, fun m j hm => by omega⟩, ?_⟩
  have := hok.phi_le
  omega
theorem v_TollsQ_1 (P : Program) (ρ : Env) (hv : vals ρ) (hΓ : Γ0.On ρ) (hl : ρ.k.length = 24) (hp : (ndAt (ndTollsQ P) 1).inv ρ) : VC cTollsQ (ndTollsQ P) (some ((ndAt (ndTollsQ P) 1).mu ρ)) ρ (n_TollsQ_1 P) := by
 simp only [VC, oblC, asmC, appAsm, outAt, ndAt, allTrue, ve, BE.den, LX.den, nv, li, rowP, tT, n_TollsQ_1, ndTollsQ, cTollsQ, mel, pTlQ, nT, cImpQ, pImpQ, goOnQ, okPQ, nB] at hp ⊢
 simp only [vb, bdList, hl, IE.den, forall_eq', implies_true, reduceIte, reduceCtorEq, Nat.reduceAdd, Nat.reduceSub, Nat.reduceLeDiff, Nat.reduceLT, Nat.reduceEqDiff] at hp ⊢
 obtain ⟨p0, hok, i0, i1, hno⟩ := hp
 generalize (ρ.list 87).getD 0 0 = i at *
 refine ⟨fun hk => ⟨⟨by omega, p0.1, p0.2.1, _, hok⟩, fun h => ⟨⟨p0, hok, by omega, by omega, fun m j hm hj => ?_⟩, by omega⟩, ?_⟩, fun hk => ⟨hok, fun m j hm hj => hno m j (by omega) hj⟩⟩
 ·by_cases e : (m : Int) = i
  ·have := h j hj
   rwa [← e, Int.toNat_natCast] at this
  ·exact hno m j (by omega) hj
 ·rintro _ r _ r' ⟨-, h1, h2⟩
  exact ⟨⟨p0, h1 _ hok, by omega, by omega⟩, by omega⟩
theorem v_TollsQ_2 (P : Program) (ρ : Env) (hv : vals ρ) (hΓ : Γ0.On ρ) (hl : ρ.k.length = 24) (hp : (ndAt (ndTollsQ P) 2).inv ρ) : VC cTollsQ (ndTollsQ P) (some ((ndAt (ndTollsQ P) 2).mu ρ)) ρ (n_TollsQ_2 P) := by
 simp only [VC, oblC, asmC, appAsm, outAt, ndAt, allTrue, ve, BE.den, LX.den, nv, li, rowP, tT, n_TollsQ_2, ndTollsQ, cTollsQ, mel, pTlQ, nT, cImpQ, pImpQ, goOnQ, okPQ, nB] at hp ⊢
 simp only [vb, bdList, hl, IE.den, forall_eq', implies_true, reduceIte, reduceCtorEq, Nat.reduceAdd, Nat.reduceSub, Nat.reduceLeDiff, Nat.reduceLT, Nat.reduceEqDiff] at hp ⊢
 obtain ⟨p0, hok, i0, i1⟩ := hp
 generalize (ρ.list 87).getD 0 0 = i at *
 refine ⟨fun hk => ⟨⟨by omega, p0.1, p0.2.1, _, hok⟩, fun h => ⟨⟨p0, hok, by omega, by omega⟩, by omega⟩, ?_⟩, fun hk => ⟨⟨p0, hok, by omega, by omega, fun m j hm => by omega⟩, by omega⟩⟩
 rintro _ r _ r' ⟨-, h1, h2⟩
 exact ⟨⟨p0, h1 _ hok, by omega, by omega⟩, by omega⟩
set_option maxRecDepth 20000 in
theorem v_TollsQN (P : Program) (ρ : Env) (hv : vals ρ) (hΓ : Γ0.On ρ) (hl : ρ.k.length = 17) (hp : cTollsQN.pre ρ) : VC cTollsQN (ndTollsQN P) none ρ (e_TollsQN P) := by
 unfold e_TollsQN
 simp only [VC, oblC, asmC, appAsm, outAt, ndAt, allTrue, ve, BE.den, LX.den, nv, li, rowP, tT, ndTollsQN, cTollsQN, mel] at hp ⊢
 simp only [vb, bdList, hl, IE.den, forall_eq', implies_true, reduceIte, reduceCtorEq, Nat.reduceAdd, Nat.reduceSub, Nat.reduceLeDiff, Nat.reduceLT, Nat.reduceEqDiff] at hp ⊢
 intro _ _ _ _
 refine ⟨hp, by rfl, ⟨by omega, by omega⟩, by omega, by omega, fun m hm => ⟨fun h => ?_, fun h => by omega⟩⟩
 rw [show (0 : Int) = ((0 : Nat) : Int) from rfl, hasU_nat (by decide) hm, Nat.zero_testBit] at h
 cases h
theorem v_TollsQN_0 (P : Program) (ρ : Env) (hv : vals ρ) (hΓ : Γ0.On ρ) (hl : ρ.k.length = 21) (hp : (ndAt (ndTollsQN P) 0).inv ρ) : VC cTollsQN (ndTollsQN P) (some ((ndAt (ndTollsQN P) 0).mu ρ)) ρ (n_TollsQN_0 P) := by
 simp only [VC, oblC, asmC, appAsm, outAt, ndAt, allTrue, ve, BE.den, LX.den, nv, li, rowP, tT, n_TollsQN_0, ndTollsQN, cTollsQN, mel, noT] at hp ⊢
 simp only [vb, bdList, hl, IE.den, forall_eq', implies_true, reduceIte, reduceCtorEq, Nat.reduceAdd, Nat.reduceSub, Nat.reduceLeDiff, Nat.reduceLT, Nat.reduceEqDiff] at hp ⊢
 obtain ⟨p0, hz, hC, i0, i1, hh⟩ := hp
 generalize (ρ.list 84).getD 0 0 = i at *
 generalize (ρ.list 80).getD 0 0 = a at *
 generalize (ρ.list 83).getD 0 0 = C at *
 rw [hz]
 obtain ⟨k, rfl⟩ := nat_of i0
 simp only [Int.toNat_natCast] at *
 have W : bitsOf .or .u64 C (IntKind.u64.wrap (2 ^ Nat.min k 64)) = withU C k := by unfold withU; rw [Int.one_mul, Int.toNat_natCast]
 rw [W]
 refine ⟨fun hk => ⟨fun h => ⟨⟨p0, trivial, withU_rng hC.1 hC.2 (by omega), by omega, by omega, fun m hm => ?_⟩, by omega⟩, fun h => ⟨⟨p0, trivial, hC, by omega, by omega, fun m hm => ?_⟩, by omega⟩⟩, fun hk => ?_⟩
 ·rw [hasU_withU hC.1 hC.2 (by omega) hm, Bool.or_eq_true, hh m hm, decide_eq_true_eq]
  have : gP a k = true := by unfold gP andI; simp [h]
  by_cases e : k = m
  ·subst e
   exact ⟨fun _ => ⟨by omega, this⟩, fun _ => .inr rfl⟩
  ·exact ⟨fun h => h.elim (fun h => ⟨by omega, h.2⟩) fun h => absurd h e, fun h => .inl ⟨by omega, h.2⟩⟩
 ·rw [hh m hm]
  have : ¬ gP a k = true := by unfold gP andI; simp [h]
  by_cases e : k = m
  ·subst e
   exact ⟨fun h => absurd h.2 this, fun h => absurd h.2 this⟩
  ·exact ⟨fun h => ⟨by omega, h.2⟩, fun h => ⟨by omega, h.2⟩⟩
 ·refine ⟨⟨⟨trivial, hC, fun m hm => ?_⟩, by omega, by omega⟩, by omega⟩
  rw [hh m hm]
  exact ⟨fun h => h.2, fun h => ⟨by omega, h⟩⟩
theorem v_TollsQN_1 (P : Program) (ρ : Env) (hv : vals ρ) (hΓ : Γ0.On ρ) (hl : ρ.k.length = 21) (hp : (ndAt (ndTollsQN P) 1).inv ρ) : VC cTollsQN (ndTollsQN P) (some ((ndAt (ndTollsQN P) 1).mu ρ)) ρ (n_TollsQN_1 P) := by
 simp only [VC, oblC, asmC, appAsm, outAt, ndAt, allTrue, ve, BE.den, LX.den, nv, li, rowP, tT, n_TollsQN_1, ndTollsQN, cTollsQN, mel] at hp ⊢
 simp only [vb, bdList, hl, IE.den, forall_eq', implies_true, reduceIte, reduceCtorEq, Nat.reduceAdd, Nat.reduceSub, Nat.reduceLeDiff, Nat.reduceLT, Nat.reduceEqDiff] at hp ⊢
 obtain ⟨p0, i0, i1⟩ := hp
 exact ⟨fun _ => ⟨⟨p0, by omega, by omega⟩, by omega⟩, fun _ => p0⟩
end Ft
set_option linter.unusedVariables false
set_option linter.unusedSimpArgs false
open Go Mv Mw Go.Proofs
namespace Ft
theorem cf_CmpQ : ∀ ρ, cCmpQ.pre ρ → ∀ b ∈ cCmpQ.fs, b.den ρ = true := by
 simp only [cCmpQ, fM, mel, fT, fBn, fImp, pImpQ, okPQ, nB, fTl, pTl, pTlQ, nT, pA, fA, agsV, noT, nL, goOnQ, cEachP, u64R, fB64, LowB, allTrue, sd, implies_true, IE.den, nm_, ge0, leN, nv, li, tT, Nat.reduceAdd]
 try (repeat' first | apply And.intro | intro _) <;> omega
theorem of_CmpQ : ∀ o ∈ cCmpQ.outs, ∀ ρ, o.post ρ → ∀ b ∈ o.fs, b.den ρ = true := by
 simp only [cCmpQ, fM, mel, fT, fBn, fImp, pImpQ, okPQ, nB, fTl, pTl, pTlQ, nT, pA, fA, agsV, noT, nL, goOnQ, cEachP, u64R, fB64, LowB, allTrue, sd, implies_true, IE.den, nm_, ge0, leN, nv, li, tT, Nat.reduceAdd]
 try (repeat' first | apply And.intro | intro _) <;> omega
theorem nf_CmpQ (P : Program) : ∀ nd ∈ ndCmpQ P, ∀ ρ, nd.inv ρ → ∀ b ∈ nd.fs, b.den ρ = true := by
 simp only [ndCmpQ, fM, mel, fT, fBn, fImp, pImpQ, okPQ, nB, fTl, pTl, pTlQ, nT, pA, fA, agsV, noT, nL, goOnQ, cEachP, u64R, fB64, LowB, allTrue, sd, implies_true, IE.den, nm_, ge0, leN, nv, li, tT, Nat.reduceAdd]
 try (repeat' first | apply And.intro | intro _) <;> omega
theorem ok_CmpQ (mm : Bool) : cCmpQ.Ok Tryz.prog mm Γ0 :=
 con_by (X := Xm Tryz.prog) (cons := consCmpQ) (nds := ndCmpQ Tryz.prog) (T0 := e_CmpQ Tryz.prog) (hkM_ok _) (fun d hd => by
  rcases List.mem_cons.1 hd with rfl | hd
  ·exact ok_Cmp1 mm
  cases hd) (by kernel_rfl) (by kernel_rfl) rfl (by kernel_rfl) cf_CmpQ of_CmpQ (nf_CmpQ _) (by kernel_rfl) (fun ρ hv hΓ hl hp => v_CmpQ Tryz.prog ρ hv hΓ hl hp) trivial
theorem cf_ThrQ : ∀ ρ, cThrQ.pre ρ → ∀ b ∈ cThrQ.fs, b.den ρ = true := by
 simp only [cThrQ, fM, mel, fT, fBn, fImp, pImpQ, okPQ, nB, fTl, pTl, pTlQ, nT, pA, fA, agsV, noT, nL, goOnQ, cEachP, u64R, fB64, LowB, allTrue, sd, implies_true, IE.den, nm_, ge0, leN, nv, li, tT, Nat.reduceAdd]
 try rintro ρ ⟨h1, h2, h3⟩; have := h2.1; omega
theorem of_ThrQ : ∀ o ∈ cThrQ.outs, ∀ ρ, o.post ρ → ∀ b ∈ o.fs, b.den ρ = true := by
 simp only [cThrQ, fM, mel, fT, fBn, fImp, pImpQ, okPQ, nB, fTl, pTl, pTlQ, nT, pA, fA, agsV, noT, nL, goOnQ, cEachP, u64R, fB64, LowB, allTrue, sd, implies_true, IE.den, nm_, ge0, leN, nv, li, tT, Nat.reduceAdd]
 try (repeat' first | apply And.intro | intro _) <;> omega
theorem nf_ThrQ (P : Program) : ∀ nd ∈ ndThrQ P, ∀ ρ, nd.inv ρ → ∀ b ∈ nd.fs, b.den ρ = true := by
 simp only [ndThrQ, fM, mel, fT, fBn, fImp, pImpQ, okPQ, nB, fTl, pTl, pTlQ, nT, pA, fA, agsV, noT, nL, goOnQ, cEachP, u64R, fB64, LowB, allTrue, sd, implies_true, IE.den, nm_, ge0, leN, nv, li, tT, Nat.reduceAdd]
 try (repeat' first | apply And.intro | intro _) <;> omega
theorem ok_ThrQ (mm : Bool) : cThrQ.Ok Tryz.prog mm Γ0 :=
 con_by (X := Xm Tryz.prog) (cons := consThrQ) (nds := ndThrQ Tryz.prog) (T0 := e_ThrQ Tryz.prog) (hkM_ok _) (fun d hd => by
  rcases List.mem_cons.1 hd with rfl | hd
  ·exact ok_May mm
  rcases List.mem_cons.1 hd with rfl | hd
  ·exact ok_Has mm
  rcases List.mem_cons.1 hd with rfl | hd
  ·exact ok_PutA mm
  cases hd) (by kernel_rfl) (by kernel_rfl) rfl (by kernel_rfl) cf_ThrQ of_ThrQ (nf_ThrQ _) (by kernel_rfl) (fun ρ hv hΓ hl hp => v_ThrQ Tryz.prog ρ hv hΓ hl hp) trivial
theorem cf_ImpQ : ∀ ρ, cImpQ.pre ρ → ∀ b ∈ cImpQ.fs, b.den ρ = true := by
 simp only [cImpQ, fM, mel, fT, fBn, fImp, pImpQ, okPQ, nB, fTl, pTl, pTlQ, nT, pA, fA, agsV, noT, nL, goOnQ, cEachP, u64R, fB64, LowB, allTrue, sd, implies_true, IE.den, nm_, ge0, leN, nv, li, tT, Nat.reduceAdd]
 try rintro ρ ⟨h1, h2, h3, g, h4⟩; have a := h3.len; have b := h3.few; have c := h4.len; omega
theorem of_ImpQ : ∀ o ∈ cImpQ.outs, ∀ ρ, o.post ρ → ∀ b ∈ o.fs, b.den ρ = true := by
 simp only [cImpQ, fM, mel, fT, fBn, fImp, pImpQ, okPQ, nB, fTl, pTl, pTlQ, nT, pA, fA, agsV, noT, nL, goOnQ, cEachP, u64R, fB64, LowB, allTrue, sd, implies_true, IE.den, nm_, ge0, leN, nv, li, tT, Nat.reduceAdd]
 try rintro ρ ⟨h1, -⟩; omega
theorem nf_ImpQ (P : Program) : ∀ nd ∈ ndImpQ P, ∀ ρ, nd.inv ρ → ∀ b ∈ nd.fs, b.den ρ = true := by
 simp only [ndImpQ, fM, mel, fT, fBn, fImp, pImpQ, okPQ, nB, fTl, pTl, pTlQ, nT, pA, fA, agsV, noT, nL, goOnQ, cEachP, u64R, fB64, LowB, allTrue, sd, implies_true, IE.den, nm_, ge0, leN, nv, li, tT, Nat.reduceAdd]
 try exact ⟨by rintro ρ ⟨⟨h1, h2, h3, g, h4⟩, h5, h6, -⟩; have a := h3.len; have b := h3.few; have c := h4.len; omega, by rintro ρ ⟨⟨h1, h2, h3, g, h4⟩, h5, h6, h7, -⟩; have a := h3.len; have b := h3.few; have c := h4.len; omega⟩
theorem ok_ImpQ (mm : Bool) : cImpQ.Ok Tryz.prog mm Γ0 :=
 con_by (X := Xm Tryz.prog) (cons := consImpQ) (nds := ndImpQ Tryz.prog) (T0 := e_ImpQ Tryz.prog) (hkM_ok _) (fun d hd => by
  rcases List.mem_cons.1 hd with rfl | hd
  ·exact ok_ThrQ mm
  rcases List.mem_cons.1 hd with rfl | hd
  ·exact ok_Has mm
  rcases List.mem_cons.1 hd with rfl | hd
  ·exact ok_CmpQ mm
  cases hd) (by kernel_rfl) (by kernel_rfl) rfl (by kernel_rfl) cf_ImpQ of_ImpQ (nf_ImpQ _) (by kernel_rfl) (fun ρ hv hΓ hl hp => v_ImpQ Tryz.prog ρ hv hΓ hl hp) ⟨⟨n_ImpQ_0 Tryz.prog, by kernel_rfl, fun ρ hv hΓ hl hi => v_ImpQ_0 Tryz.prog ρ hv hΓ hl hi⟩, ⟨⟨n_ImpQ_1 Tryz.prog, by kernel_rfl, fun ρ hv hΓ hl hi => v_ImpQ_1 Tryz.prog ρ hv hΓ hl hi⟩, trivial⟩⟩
theorem cf_TollsQ : ∀ ρ, cTollsQ.pre ρ → ∀ b ∈ cTollsQ.fs, b.den ρ = true := by
 simp only [cTollsQ, fM, mel, fT, fBn, fImp, pImpQ, okPQ, nB, fTl, pTl, pTlQ, nT, pA, fA, agsV, noT, nL, goOnQ, cEachP, u64R, fB64, LowB, allTrue, sd, implies_true, IE.den, nm_, ge0, leN, nv, li, tT, Nat.reduceAdd]
 try rintro ρ ⟨h1, h3, h4⟩; have a := h3.len; have b := h3.few; omega
theorem of_TollsQ : ∀ o ∈ cTollsQ.outs, ∀ ρ, o.post ρ → ∀ b ∈ o.fs, b.den ρ = true := by
 simp only [cTollsQ, fM, mel, fT, fBn, fImp, pImpQ, okPQ, nB, fTl, pTl, pTlQ, nT, pA, fA, agsV, noT, nL, goOnQ, cEachP, u64R, fB64, LowB, allTrue, sd, implies_true, IE.den, nm_, ge0, leN, nv, li, tT, Nat.reduceAdd]
 try intro ρ h; have c := h.ok.len; omega
theorem nf_TollsQ (P : Program) : ∀ nd ∈ ndTollsQ P, ∀ ρ, nd.inv ρ → ∀ b ∈ nd.fs, b.den ρ = true := by
 simp only [ndTollsQ, fM, mel, fT, fBn, fImp, pImpQ, okPQ, nB, fTl, pTl, pTlQ, nT, pA, fA, agsV, noT, nL, goOnQ, cEachP, u64R, fB64, LowB, allTrue, sd, implies_true, IE.den, nm_, ge0, leN, nv, li, tT, Nat.reduceAdd]
 try exact ⟨by rintro ρ ⟨⟨h1, h3, h4⟩, z, -, h5, h6, -⟩; have a := h3.len; have b := h3.few; have c := congrArg List.length z; rw [zer_len] at c; omega, by rintro ρ ⟨⟨h1, h3, h4⟩, h7, h5, h6, -⟩; have a := h3.len; have b := h3.few; have c := h7.len; omega, by rintro ρ ⟨⟨h1, h3, h4⟩, h7, h5, h6⟩; have a := h3.len; have b := h3.few; have c := h7.len; omega⟩
theorem ok_TollsQ (mm : Bool) : cTollsQ.Ok Tryz.prog mm Γ0 :=
 con_by (X := Xm Tryz.prog) (cons := consTollsQ) (nds := ndTollsQ Tryz.prog) (T0 := e_TollsQ Tryz.prog) (hkM_ok _) (fun d hd => by
  rcases List.mem_cons.1 hd with rfl | hd
  ·exact ok_ImpQ mm
  cases hd) (by kernel_rfl) (by kernel_rfl) rfl (by kernel_rfl) cf_TollsQ of_TollsQ (nf_TollsQ _) (by kernel_rfl) (fun ρ hv hΓ hl hp => v_TollsQ Tryz.prog ρ hv hΓ hl hp) ⟨⟨n_TollsQ_0 Tryz.prog, by kernel_rfl, fun ρ hv hΓ hl hi => v_TollsQ_0 Tryz.prog ρ hv hΓ hl hi⟩, ⟨⟨n_TollsQ_1 Tryz.prog, by kernel_rfl, fun ρ hv hΓ hl hi => v_TollsQ_1 Tryz.prog ρ hv hΓ hl hi⟩, ⟨⟨n_TollsQ_2 Tryz.prog, by kernel_rfl, fun ρ hv hΓ hl hi => v_TollsQ_2 Tryz.prog ρ hv hΓ hl hi⟩, trivial⟩⟩⟩
theorem cf_TollsQN : ∀ ρ, cTollsQN.pre ρ → ∀ b ∈ cTollsQN.fs, b.den ρ = true := by
 simp only [cTollsQN, fM, mel, fT, fBn, fImp, pImpQ, okPQ, nB, fTl, pTl, pTlQ, nT, pA, fA, agsV, noT, nL, goOnQ, cEachP, u64R, fB64, LowB, allTrue, sd, implies_true, IE.den, nm_, ge0, leN, nv, li, tT, Nat.reduceAdd]
 try (repeat' first | apply And.intro | intro _) <;> omega
theorem of_TollsQN : ∀ o ∈ cTollsQN.outs, ∀ ρ, o.post ρ → ∀ b ∈ o.fs, b.den ρ = true := by
 simp only [cTollsQN, fM, mel, fT, fBn, fImp, pImpQ, okPQ, nB, fTl, pTl, pTlQ, nT, pA, fA, agsV, noT, nL, goOnQ, cEachP, u64R, fB64, LowB, allTrue, sd, implies_true, IE.den, nm_, ge0, leN, nv, li, tT, Nat.reduceAdd]
 try rintro ρ ⟨z, -⟩; have c := congrArg List.length z; rw [zer_len] at c; omega
theorem nf_TollsQN (P : Program) : ∀ nd ∈ ndTollsQN P, ∀ ρ, nd.inv ρ → ∀ b ∈ nd.fs, b.den ρ = true := by
 simp only [ndTollsQN, fM, mel, fT, fBn, fImp, pImpQ, okPQ, nB, fTl, pTl, pTlQ, nT, pA, fA, agsV, noT, nL, goOnQ, cEachP, u64R, fB64, LowB, allTrue, sd, implies_true, IE.den, nm_, ge0, leN, nv, li, tT, Nat.reduceAdd]
 try exact ⟨by rintro ρ ⟨h1, z, -, h5, h6, -⟩; have c := congrArg List.length z; rw [zer_len] at c; omega, by rintro ρ ⟨⟨z, -⟩, h5, h6⟩; have c := congrArg List.length z; rw [zer_len] at c; omega⟩
theorem ok_TollsQN (mm : Bool) : cTollsQN.Ok Tryz.prog mm Γ0 :=
 con_by (X := Xm Tryz.prog) (cons := consTollsQN) (nds := ndTollsQN Tryz.prog) (T0 := e_TollsQN Tryz.prog) (hkM_ok _) (fun d hd => by cases hd) (by kernel_rfl) (by kernel_rfl) rfl (by kernel_rfl) cf_TollsQN of_TollsQN (nf_TollsQN _) (by kernel_rfl) (fun ρ hv hΓ hl hp => v_TollsQN Tryz.prog ρ hv hΓ hl hp) ⟨⟨n_TollsQN_0 Tryz.prog, by kernel_rfl, fun ρ hv hΓ hl hi => v_TollsQN_0 Tryz.prog ρ hv hΓ hl hi⟩, ⟨⟨n_TollsQN_1 Tryz.prog, by kernel_rfl, fun ρ hv hΓ hl hi => v_TollsQN_1 Tryz.prog ρ hv hΓ hl hi⟩, trivial⟩⟩
theorem cf_Tz : ∀ ρ, cTz.pre ρ → ∀ b ∈ cTz.fs, b.den ρ = true := by
 simp only [cTz, fM, mel, fT, fBn, fImp, pImpQ, okPQ, nB, fTl, pTl, pTlQ, nT, pA, fA, agsV, noT, nL, goOnQ, cEachP, u64R, fB64, LowB, allTrue, sd, implies_true, IE.den, nm_, ge0, leN, nv, li, tT, Nat.reduceAdd]
 try (repeat' first | apply And.intro | intro _) <;> omega
theorem of_Tz : ∀ o ∈ cTz.outs, ∀ ρ, o.post ρ → ∀ b ∈ o.fs, b.den ρ = true := by
 simp only [cTz, fM, mel, fT, fBn, fImp, pImpQ, okPQ, nB, fTl, pTl, pTlQ, nT, pA, fA, agsV, noT, nL, goOnQ, cEachP, u64R, fB64, LowB, allTrue, sd, implies_true, IE.den, nm_, ge0, leN, nv, li, tT, Nat.reduceAdd]
 try (repeat' first | apply And.intro | intro _) <;> omega
theorem nf_Tz (P : Program) : ∀ nd ∈ ndTz P, ∀ ρ, nd.inv ρ → ∀ b ∈ nd.fs, b.den ρ = true := by
 simp only [ndTz, fM, mel, fT, fBn, fImp, pImpQ, okPQ, nB, fTl, pTl, pTlQ, nT, pA, fA, agsV, noT, nL, goOnQ, cEachP, u64R, fB64, LowB, allTrue, sd, implies_true, IE.den, nm_, ge0, leN, nv, li, tT, Nat.reduceAdd]
 try (repeat' first | apply And.intro | intro _) <;> omega
theorem ok_Tz (mm : Bool) : cTz.Ok Tryz.prog mm Γ0 :=
 con_by (X := Xm Tryz.prog) (cons := consTz) (nds := ndTz Tryz.prog) (T0 := e_Tz Tryz.prog) (hkM_ok _) (fun d hd => by cases hd) (by kernel_rfl) (by kernel_rfl) rfl (by kernel_rfl) cf_Tz of_Tz (nf_Tz _) (by kernel_rfl) (fun ρ hv hΓ hl hp => v_Tz Tryz.prog ρ hv hΓ hl hp) trivial
theorem cf_Each : ∀ ρ, cEach.pre ρ → ∀ b ∈ cEach.fs, b.den ρ = true := by
 simp only [cEach, fM, mel, fT, fBn, fImp, pImpQ, okPQ, nB, fTl, pTl, pTlQ, nT, pA, fA, agsV, noT, nL, goOnQ, cEachP, u64R, fB64, LowB, allTrue, sd, implies_true, IE.den, nm_, ge0, leN, nv, li, tT, Nat.reduceAdd]
 try (repeat' first | apply And.intro | intro _) <;> omega
theorem of_Each : ∀ o ∈ cEach.outs, ∀ ρ, o.post ρ → ∀ b ∈ o.fs, b.den ρ = true := by
 simp only [cEach, fM, mel, fT, fBn, fImp, pImpQ, okPQ, nB, fTl, pTl, pTlQ, nT, pA, fA, agsV, noT, nL, goOnQ, cEachP, u64R, fB64, LowB, allTrue, sd, implies_true, IE.den, nm_, ge0, leN, nv, li, tT, Nat.reduceAdd]
 try (repeat' first | apply And.intro | intro _) <;> omega
theorem nf_Each (P : Program) : ∀ nd ∈ ndEach P, ∀ ρ, nd.inv ρ → ∀ b ∈ nd.fs, b.den ρ = true := by
 simp only [ndEach, fM, mel, fT, fBn, fImp, pImpQ, okPQ, nB, fTl, pTl, pTlQ, nT, pA, fA, agsV, noT, nL, goOnQ, cEachP, u64R, fB64, LowB, allTrue, sd, implies_true, IE.den, nm_, ge0, leN, nv, li, tT, Nat.reduceAdd]
 try exact ⟨by rintro ρ ⟨-, h, -⟩; omega, by rintro ρ ⟨-, h, e, h1⟩; have := bits_le ((ρ.list 80).getD 0 0); rw [← e, List.length_append] at this; omega⟩
theorem ok_Each (mm : Bool) : cEach.Ok Tryz.prog mm Γ0 :=
 con_by (X := Xm Tryz.prog) (cons := consEach) (nds := ndEach Tryz.prog) (T0 := e_Each Tryz.prog) (hkM_ok _) (fun d hd => by
  rcases List.mem_cons.1 hd with rfl | hd
  ·exact ok_Tz mm
  cases hd) (by kernel_rfl) (by kernel_rfl) rfl (by kernel_rfl) cf_Each of_Each (nf_Each _) (by kernel_rfl) (fun ρ hv hΓ hl hp => v_Each Tryz.prog ρ hv hΓ hl hp) ⟨⟨n_Each_0 Tryz.prog, by kernel_rfl, fun ρ hv hΓ hl hi => v_Each_0 Tryz.prog ρ hv hΓ hl hi⟩, ⟨⟨n_Each_1 Tryz.prog, by kernel_rfl, fun ρ hv hΓ hl hi => v_Each_1 Tryz.prog ρ hv hΓ hl hi⟩, trivial⟩⟩
theorem cf_List : ∀ ρ, cList.pre ρ → ∀ b ∈ cList.fs, b.den ρ = true := by
 simp only [cList, fM, mel, fT, fBn, fImp, pImpQ, okPQ, nB, fTl, pTl, pTlQ, nT, pA, fA, agsV, noT, nL, goOnQ, cEachP, u64R, fB64, LowB, allTrue, sd, implies_true, IE.den, nm_, ge0, leN, nv, li, tT, Nat.reduceAdd]
 try (repeat' first | apply And.intro | intro _) <;> omega
theorem of_List : ∀ o ∈ cList.outs, ∀ ρ, o.post ρ → ∀ b ∈ o.fs, b.den ρ = true := by
 simp only [cList, fM, mel, fT, fBn, fImp, pImpQ, okPQ, nB, fTl, pTl, pTlQ, nT, pA, fA, agsV, noT, nL, goOnQ, cEachP, u64R, fB64, LowB, allTrue, sd, implies_true, IE.den, nm_, ge0, leN, nv, li, tT, Nat.reduceAdd]
 try (repeat' first | apply And.intro | intro _) <;> omega
theorem nf_List (P : Program) : ∀ nd ∈ ndList P, ∀ ρ, nd.inv ρ → ∀ b ∈ nd.fs, b.den ρ = true := by
 simp only [ndList, fM, mel, fT, fBn, fImp, pImpQ, okPQ, nB, fTl, pTl, pTlQ, nT, pA, fA, agsV, noT, nL, goOnQ, cEachP, u64R, fB64, LowB, allTrue, sd, implies_true, IE.den, nm_, ge0, leN, nv, li, tT, Nat.reduceAdd]
 try (repeat' first | apply And.intro | intro _) <;> omega
theorem ok_List (mm : Bool) : cList.Ok Tryz.prog mm Γ0 :=
 con_by (X := Xm Tryz.prog) (cons := consList) (nds := ndList Tryz.prog) (T0 := e_List Tryz.prog) (hkM_ok _) (fun d hd => by
  rcases List.mem_cons.1 hd with rfl | hd
  ·exact ok_Each mm
  cases hd) (by kernel_rfl) (by kernel_rfl) rfl (by kernel_rfl) cf_List of_List (nf_List _) (by kernel_rfl) (fun ρ hv hΓ hl hp => v_List Tryz.prog ρ hv hΓ hl hp) trivial
theorem cf_Hop : ∀ ρ, cHop.pre ρ → ∀ b ∈ cHop.fs, b.den ρ = true := by
 simp only [cHop, fM, mel, fT, fBn, fImp, pImpQ, okPQ, nB, fTl, pTl, pTlQ, nT, pA, fA, agsV, noT, nL, goOnQ, cEachP, u64R, fB64, LowB, allTrue, sd, implies_true, IE.den, nm_, ge0, leN, nv, li, tT, Nat.reduceAdd]
 try (repeat' first | apply And.intro | intro _) <;> omega
theorem of_Hop : ∀ o ∈ cHop.outs, ∀ ρ, o.post ρ → ∀ b ∈ o.fs, b.den ρ = true := by
 simp only [cHop, fM, mel, fT, fBn, fImp, pImpQ, okPQ, nB, fTl, pTl, pTlQ, nT, pA, fA, agsV, noT, nL, goOnQ, cEachP, u64R, fB64, LowB, allTrue, sd, implies_true, IE.den, nm_, ge0, leN, nv, li, tT, Nat.reduceAdd]
 try (repeat' first | apply And.intro | intro _) <;> omega
theorem nf_Hop (P : Program) : ∀ nd ∈ ndHop P, ∀ ρ, nd.inv ρ → ∀ b ∈ nd.fs, b.den ρ = true := by
 simp only [ndHop, fM, mel, fT, fBn, fImp, pImpQ, okPQ, nB, fTl, pTl, pTlQ, nT, pA, fA, agsV, noT, nL, goOnQ, cEachP, u64R, fB64, LowB, allTrue, sd, implies_true, IE.den, nm_, ge0, leN, nv, li, tT, Nat.reduceAdd]
 try (repeat' first | apply And.intro | intro _) <;> omega
theorem ok_Hop (mm : Bool) : cHop.Ok Tryz.prog mm Γ0 :=
 con_by (X := Xm Tryz.prog) (cons := consHop) (nds := ndHop Tryz.prog) (T0 := e_Hop Tryz.prog) (hkM_ok _) (fun d hd => by
  rcases List.mem_cons.1 hd with rfl | hd
  ·exact ok_At1 mm
  rcases List.mem_cons.1 hd with rfl | hd
  ·exact ok_TollsQ mm
  rcases List.mem_cons.1 hd with rfl | hd
  ·exact ok_List mm
  cases hd) (by kernel_rfl) (by kernel_rfl) rfl (by kernel_rfl) cf_Hop of_Hop (nf_Hop _) (by kernel_rfl) (fun ρ hv hΓ hl hp => v_Hop Tryz.prog ρ hv hΓ hl hp) trivial
theorem cf_HopN : ∀ ρ, cHopN.pre ρ → ∀ b ∈ cHopN.fs, b.den ρ = true := by
 simp only [cHopN, fM, mel, fT, fBn, fImp, pImpQ, okPQ, nB, fTl, pTl, pTlQ, nT, pA, fA, agsV, noT, nL, goOnQ, cEachP, u64R, fB64, LowB, allTrue, sd, implies_true, IE.den, nm_, ge0, leN, nv, li, tT, Nat.reduceAdd]
 try (repeat' first | apply And.intro | intro _) <;> omega
theorem of_HopN : ∀ o ∈ cHopN.outs, ∀ ρ, o.post ρ → ∀ b ∈ o.fs, b.den ρ = true := by
 simp only [cHopN, fM, mel, fT, fBn, fImp, pImpQ, okPQ, nB, fTl, pTl, pTlQ, nT, pA, fA, agsV, noT, nL, goOnQ, cEachP, u64R, fB64, LowB, allTrue, sd, implies_true, IE.den, nm_, ge0, leN, nv, li, tT, Nat.reduceAdd]
 try (repeat' first | apply And.intro | intro _) <;> omega
theorem nf_HopN (P : Program) : ∀ nd ∈ ndHopN P, ∀ ρ, nd.inv ρ → ∀ b ∈ nd.fs, b.den ρ = true := by
 simp only [ndHopN, fM, mel, fT, fBn, fImp, pImpQ, okPQ, nB, fTl, pTl, pTlQ, nT, pA, fA, agsV, noT, nL, goOnQ, cEachP, u64R, fB64, LowB, allTrue, sd, implies_true, IE.den, nm_, ge0, leN, nv, li, tT, Nat.reduceAdd]
 try (repeat' first | apply And.intro | intro _) <;> omega
theorem ok_HopN (mm : Bool) : cHopN.Ok Tryz.prog mm Γ0 :=
 con_by (X := Xm Tryz.prog) (cons := consHopN) (nds := ndHopN Tryz.prog) (T0 := e_HopN Tryz.prog) (hkM_ok _) (fun d hd => by
  rcases List.mem_cons.1 hd with rfl | hd
  ·exact ok_TollsQN mm
  rcases List.mem_cons.1 hd with rfl | hd
  ·exact ok_List mm
  cases hd) (by kernel_rfl) (by kernel_rfl) rfl (by kernel_rfl) cf_HopN of_HopN (nf_HopN _) (by kernel_rfl) (fun ρ hv hΓ hl hp => v_HopN Tryz.prog ρ hv hΓ hl hp) trivial
end Ft
set_option linter.unusedVariables false
set_option linter.unusedSimpArgs false
set_option maxRecDepth 20000
open Go Mv Mw
namespace Ft
theorem below_succ {p : Nat → Prop} {k : Int} (h0 : 0 ≤ k) (h : ∀ j : Nat, (j : Int) < k → p j) (hk : p k.toNat) : ∀ j : Nat, (j : Int) < k + 1 → p j := fun j hj => by
 by_cases e : (j : Int) < k
 ·exact h j e
 ·have : j = k.toNat := by omega
  rw [this]; exact hk
theorem v_Eq (P : Program) (ρ : Env) (hv : vals ρ) (hΓ : Γ0.On ρ) (hl : ρ.k.length = 22) (hp : cEq.pre ρ) : VC cEq (ndEq P) none ρ (e_Eq P) := by
 simp only [VC, oblC, asmC, appAsm, outAt, ndAt, allTrue, ve, BE.den, LX.den, nv, li, rowP, tT, e_Eq, ndEq, cEq, pEq] at hp ⊢
 simp only [vb, bdList, hl, IE.den, forall_eq', implies_true, reduceIte, reduceCtorEq, Nat.reduceAdd, Nat.reduceSub, Nat.reduceLeDiff, Nat.reduceLT, Nat.reduceEqDiff] at hp ⊢
 exact ⟨hp, by omega, by omega, by omega, by omega⟩
theorem v_Eq_0 (P : Program) (ρ : Env) (hv : vals ρ) (hΓ : Γ0.On ρ) (hl : ρ.k.length = 23) (hp : (ndAt (ndEq P) 0).inv ρ) : VC cEq (ndEq P) (some ((ndAt (ndEq P) 0).mu ρ)) ρ (n_Eq_0 P) := by
 simp only [VC, oblC, asmC, appAsm, outAt, ndAt, allTrue, ve, BE.den, LX.den, nv, li, rowP, tT, n_Eq_0, ndEq, cEq, pEq] at hp ⊢
 simp only [vb, bdList, hl, IE.den, forall_eq', implies_true, reduceIte, reduceCtorEq, Nat.reduceAdd, Nat.reduceSub, Nat.reduceLeDiff, Nat.reduceLT, Nat.reduceEqDiff] at hp ⊢
 obtain ⟨⟨p1, p2, p3, p4, p5, p6⟩, p7, p8, p9, p10⟩ := hp
 refine ⟨fun h1 => ⟨fun h2 => ⟨by omega, by omega, fun hne => ⟨((ρ.list 86).getD 0 0).toNat, by omega, by omega, hne⟩, fun he => ⟨⟨⟨p1, p2, p3, p4, p5, p6⟩, by omega, by omega, by omega, below_succ p7 p10 he⟩, by omega⟩⟩, fun h2 j hj hj' => p10 j (by omega)⟩, fun h1 j hj _ => p10 j (by omega)⟩
end Ft
set_option linter.unusedVariables false
set_option linter.unusedSimpArgs false
open Go Mv Mw Go.Proofs
namespace Ft
theorem cf_Eq : ∀ ρ, cEq.pre ρ → ∀ b ∈ cEq.fs, b.den ρ = true := by
 simp only [cEq, fM, mel, fT, pA, fA, agsV, cFew, fEq, pEq, roM, roN, roG, allTrue, sd, implies_true, IE.den, nm_, ge0, leN, nv, li, tT, Nat.reduceAdd]
 try (repeat' first | apply And.intro | intro _) <;> omega
theorem of_Eq : ∀ o ∈ cEq.outs, ∀ ρ, o.post ρ → ∀ b ∈ o.fs, b.den ρ = true := by
 simp only [cEq, fM, mel, fT, pA, fA, agsV, cFew, fEq, pEq, roM, roN, roG, allTrue, sd, implies_true, IE.den, nm_, ge0, leN, nv, li, tT, Nat.reduceAdd]
 try (repeat' first | apply And.intro | intro _) <;> omega
theorem nf_Eq (P : Program) : ∀ nd ∈ ndEq P, ∀ ρ, nd.inv ρ → ∀ b ∈ nd.fs, b.den ρ = true := by
 simp only [ndEq, fM, mel, fT, pA, fA, agsV, cFew, fEq, pEq, roM, roN, roG, allTrue, sd, implies_true, IE.den, nm_, ge0, leN, nv, li, tT, Nat.reduceAdd]
 try (repeat' first | apply And.intro | intro _) <;> omega
theorem ok_Eq (mm : Bool) : cEq.Ok Tryz.prog mm Γ0 :=
 con_by (X := Xg Tryz.prog) (cons := consEq) (nds := ndEq Tryz.prog) (T0 := e_Eq Tryz.prog) (hkG_ok _) (fun d hd => by cases hd) (by kernel_rfl) (by kernel_rfl) rfl (by kernel_rfl) cf_Eq of_Eq (nf_Eq _) (by kernel_rfl) (fun ρ hv hΓ hl hp => v_Eq Tryz.prog ρ hv hΓ hl hp) ⟨⟨n_Eq_0 Tryz.prog, by kernel_rfl, fun ρ hv hΓ hl hi => v_Eq_0 Tryz.prog ρ hv hΓ hl hi⟩, trivial⟩
theorem cf_ChkF : ∀ ρ, cChkF.pre ρ → ∀ b ∈ cChkF.fs, b.den ρ = true := by
 simp only [cChkF, fM, mel, fT, pA, fA, agsV, cFew, fEq, pEq, roM, roN, roG, allTrue, sd, implies_true, IE.den, nm_, ge0, leN, nv, li, tT, Nat.reduceAdd]
 try (repeat' first | apply And.intro | intro _) <;> omega
theorem of_ChkF : ∀ o ∈ cChkF.outs, ∀ ρ, o.post ρ → ∀ b ∈ o.fs, b.den ρ = true := by
 simp only [cChkF, fM, mel, fT, pA, fA, agsV, cFew, fEq, pEq, roM, roN, roG, allTrue, sd, implies_true, IE.den, nm_, ge0, leN, nv, li, tT, Nat.reduceAdd]
 try (repeat' first | apply And.intro | intro _) <;> omega
theorem nf_ChkF (P : Program) : ∀ nd ∈ ndChkF P, ∀ ρ, nd.inv ρ → ∀ b ∈ nd.fs, b.den ρ = true := by
 simp only [ndChkF, fM, mel, fT, pA, fA, agsV, cFew, fEq, pEq, roM, roN, roG, allTrue, sd, implies_true, IE.den, nm_, ge0, leN, nv, li, tT, Nat.reduceAdd]
 try (repeat' first | apply And.intro | intro _) <;> omega
theorem ok_ChkF (mm : Bool) : cChkF.Ok Tryz.prog mm Γ0 :=
 con_by (X := Xg Tryz.prog) (cons := consChkF) (nds := ndChkF Tryz.prog) (T0 := e_ChkF Tryz.prog) (hkG_ok _) (fun d hd => by cases hd) (by kernel_rfl) (by kernel_rfl) rfl (by kernel_rfl) cf_ChkF of_ChkF (nf_ChkF _) (by kernel_rfl) (fun ρ hv hΓ hl hp => v_ChkF Tryz.prog ρ hv hΓ hl hp) trivial
theorem cf_FewN : ∀ ρ, cFewN.pre ρ → ∀ b ∈ cFewN.fs, b.den ρ = true := by
 simp only [cFewN, fM, mel, fT, pA, fA, agsV, cFew, fEq, pEq, roM, roN, roG, allTrue, sd, implies_true, IE.den, nm_, ge0, leN, nv, li, tT, Nat.reduceAdd]
 try (repeat' first | apply And.intro | intro _) <;> omega
theorem of_FewN : ∀ o ∈ cFewN.outs, ∀ ρ, o.post ρ → ∀ b ∈ o.fs, b.den ρ = true := by
 simp only [cFewN, fM, mel, fT, pA, fA, agsV, cFew, fEq, pEq, roM, roN, roG, allTrue, sd, implies_true, IE.den, nm_, ge0, leN, nv, li, tT, Nat.reduceAdd]
 try (repeat' first | apply And.intro | intro _) <;> omega
theorem nf_FewN (P : Program) : ∀ nd ∈ ndFewN P, ∀ ρ, nd.inv ρ → ∀ b ∈ nd.fs, b.den ρ = true := by
 simp only [ndFewN, fM, mel, fT, pA, fA, agsV, cFew, fEq, pEq, roM, roN, roG, allTrue, sd, implies_true, IE.den, nm_, ge0, leN, nv, li, tT, Nat.reduceAdd]
 try (repeat' first | apply And.intro | intro _) <;> omega
theorem ok_FewN (mm : Bool) : cFewN.Ok Tryz.prog mm Γ0 :=
 con_by (X := Xg Tryz.prog) (cons := consFewN) (nds := ndFewN Tryz.prog) (T0 := e_FewN Tryz.prog) (hkG_ok _) (fun d hd => by
  rcases List.mem_cons.1 hd with rfl | hd
  ·exact ok_ChkF mm
  rcases List.mem_cons.1 hd with rfl | hd
  ·exact ok_TollsQN mm
  cases hd) (by kernel_rfl) (by kernel_rfl) rfl (by kernel_rfl) cf_FewN of_FewN (nf_FewN _) (by kernel_rfl) (fun ρ hv hΓ hl hp => v_FewN Tryz.prog ρ hv hΓ hl hp) trivial
theorem cf_Few1 : ∀ ρ, cFew1.pre ρ → ∀ b ∈ cFew1.fs, b.den ρ = true := by
 simp only [cFew1, fM, mel, fT, pA, fA, agsV, cFew, fEq, pEq, roM, roN, roG, allTrue, sd, implies_true, IE.den, nm_, ge0, leN, nv, li, tT, Nat.reduceAdd]
 try (repeat' first | apply And.intro | intro _) <;> omega
theorem of_Few1 : ∀ o ∈ cFew1.outs, ∀ ρ, o.post ρ → ∀ b ∈ o.fs, b.den ρ = true := by
 simp only [cFew1, fM, mel, fT, pA, fA, agsV, cFew, fEq, pEq, roM, roN, roG, allTrue, sd, implies_true, IE.den, nm_, ge0, leN, nv, li, tT, Nat.reduceAdd]
 try (repeat' first | apply And.intro | intro _) <;> omega
theorem nf_Few1 (P : Program) : ∀ nd ∈ ndFew1 P, ∀ ρ, nd.inv ρ → ∀ b ∈ nd.fs, b.den ρ = true := by
 simp only [ndFew1, fM, mel, fT, pA, fA, agsV, cFew, fEq, pEq, roM, roN, roG, allTrue, sd, implies_true, IE.den, nm_, ge0, leN, nv, li, tT, Nat.reduceAdd]
 try (repeat' first | apply And.intro | intro _) <;> omega
theorem ok_Few1 (mm : Bool) : cFew1.Ok Tryz.prog mm Γ0 :=
 con_by (X := Xg Tryz.prog) (cons := consFew1) (nds := ndFew1 Tryz.prog) (T0 := e_Few1 Tryz.prog) (hkG_ok _) (fun d hd => by
  rcases List.mem_cons.1 hd with rfl | hd
  ·exact ok_ChkF mm
  rcases List.mem_cons.1 hd with rfl | hd
  ·exact ok_AtL1 mm
  rcases List.mem_cons.1 hd with rfl | hd
  ·exact ok_TollsQ mm
  rcases List.mem_cons.1 hd with rfl | hd
  ·exact ok_TollsQN mm
  cases hd) (by kernel_rfl) (by kernel_rfl) rfl (by kernel_rfl) cf_Few1 of_Few1 (nf_Few1 _) (by kernel_rfl) (fun ρ hv hΓ hl hp => v_Few1 Tryz.prog ρ hv hΓ hl hp) trivial
theorem cf_Few2 : ∀ ρ, cFew2.pre ρ → ∀ b ∈ cFew2.fs, b.den ρ = true := by
 simp only [cFew2, fM, mel, fT, pA, fA, agsV, cFew, fEq, pEq, roM, roN, roG, allTrue, sd, implies_true, IE.den, nm_, ge0, leN, nv, li, tT, Nat.reduceAdd]
 try (repeat' first | apply And.intro | intro _) <;> omega
theorem of_Few2 : ∀ o ∈ cFew2.outs, ∀ ρ, o.post ρ → ∀ b ∈ o.fs, b.den ρ = true := by
 simp only [cFew2, fM, mel, fT, pA, fA, agsV, cFew, fEq, pEq, roM, roN, roG, allTrue, sd, implies_true, IE.den, nm_, ge0, leN, nv, li, tT, Nat.reduceAdd]
 try (repeat' first | apply And.intro | intro _) <;> omega
theorem nf_Few2 (P : Program) : ∀ nd ∈ ndFew2 P, ∀ ρ, nd.inv ρ → ∀ b ∈ nd.fs, b.den ρ = true := by
 simp only [ndFew2, fM, mel, fT, pA, fA, agsV, cFew, fEq, pEq, roM, roN, roG, allTrue, sd, implies_true, IE.den, nm_, ge0, leN, nv, li, tT, Nat.reduceAdd]
 try (repeat' first | apply And.intro | intro _) <;> omega
theorem ok_Few2 (mm : Bool) : cFew2.Ok Tryz.prog mm Γ0 :=
 con_by (X := Xg Tryz.prog) (cons := consFew2) (nds := ndFew2 Tryz.prog) (T0 := e_Few2 Tryz.prog) (hkG_ok _) (fun d hd => by
  rcases List.mem_cons.1 hd with rfl | hd
  ·exact ok_ChkF mm
  rcases List.mem_cons.1 hd with rfl | hd
  ·exact ok_AtL2 mm
  rcases List.mem_cons.1 hd with rfl | hd
  ·exact ok_TollsQ mm
  rcases List.mem_cons.1 hd with rfl | hd
  ·exact ok_TollsQN mm
  cases hd) (by kernel_rfl) (by kernel_rfl) rfl (by kernel_rfl) cf_Few2 of_Few2 (nf_Few2 _) (by kernel_rfl) (fun ρ hv hΓ hl hp => v_Few2 Tryz.prog ρ hv hΓ hl hp) trivial
theorem cf_Few3 : ∀ ρ, cFew3.pre ρ → ∀ b ∈ cFew3.fs, b.den ρ = true := by
 simp only [cFew3, fM, mel, fT, pA, fA, agsV, cFew, fEq, pEq, roM, roN, roG, allTrue, sd, implies_true, IE.den, nm_, ge0, leN, nv, li, tT, Nat.reduceAdd]
 try (repeat' first | apply And.intro | intro _) <;> omega
theorem of_Few3 : ∀ o ∈ cFew3.outs, ∀ ρ, o.post ρ → ∀ b ∈ o.fs, b.den ρ = true := by
 simp only [cFew3, fM, mel, fT, pA, fA, agsV, cFew, fEq, pEq, roM, roN, roG, allTrue, sd, implies_true, IE.den, nm_, ge0, leN, nv, li, tT, Nat.reduceAdd]
 try (repeat' first | apply And.intro | intro _) <;> omega
theorem nf_Few3 (P : Program) : ∀ nd ∈ ndFew3 P, ∀ ρ, nd.inv ρ → ∀ b ∈ nd.fs, b.den ρ = true := by
 simp only [ndFew3, fM, mel, fT, pA, fA, agsV, cFew, fEq, pEq, roM, roN, roG, allTrue, sd, implies_true, IE.den, nm_, ge0, leN, nv, li, tT, Nat.reduceAdd]
 try (repeat' first | apply And.intro | intro _) <;> omega
theorem ok_Few3 (mm : Bool) : cFew3.Ok Tryz.prog mm Γ0 :=
 con_by (X := Xg Tryz.prog) (cons := consFew3) (nds := ndFew3 Tryz.prog) (T0 := e_Few3 Tryz.prog) (hkG_ok _) (fun d hd => by
  rcases List.mem_cons.1 hd with rfl | hd
  ·exact ok_ChkF mm
  rcases List.mem_cons.1 hd with rfl | hd
  ·exact ok_AtL3 mm
  rcases List.mem_cons.1 hd with rfl | hd
  ·exact ok_TollsQ mm
  rcases List.mem_cons.1 hd with rfl | hd
  ·exact ok_TollsQN mm
  cases hd) (by kernel_rfl) (by kernel_rfl) rfl (by kernel_rfl) cf_Few3 of_Few3 (nf_Few3 _) (by kernel_rfl) (fun ρ hv hΓ hl hp => v_Few3 Tryz.prog ρ hv hΓ hl hp) trivial
theorem cf_Few4 : ∀ ρ, cFew4.pre ρ → ∀ b ∈ cFew4.fs, b.den ρ = true := by
 simp only [cFew4, fM, mel, fT, pA, fA, agsV, cFew, fEq, pEq, roM, roN, roG, allTrue, sd, implies_true, IE.den, nm_, ge0, leN, nv, li, tT, Nat.reduceAdd]
 try (repeat' first | apply And.intro | intro _) <;> omega
theorem of_Few4 : ∀ o ∈ cFew4.outs, ∀ ρ, o.post ρ → ∀ b ∈ o.fs, b.den ρ = true := by
 simp only [cFew4, fM, mel, fT, pA, fA, agsV, cFew, fEq, pEq, roM, roN, roG, allTrue, sd, implies_true, IE.den, nm_, ge0, leN, nv, li, tT, Nat.reduceAdd]
 try (repeat' first | apply And.intro | intro _) <;> omega
theorem nf_Few4 (P : Program) : ∀ nd ∈ ndFew4 P, ∀ ρ, nd.inv ρ → ∀ b ∈ nd.fs, b.den ρ = true := by
 simp only [ndFew4, fM, mel, fT, pA, fA, agsV, cFew, fEq, pEq, roM, roN, roG, allTrue, sd, implies_true, IE.den, nm_, ge0, leN, nv, li, tT, Nat.reduceAdd]
 try (repeat' first | apply And.intro | intro _) <;> omega
theorem ok_Few4 (mm : Bool) : cFew4.Ok Tryz.prog mm Γ0 :=
 con_by (X := Xg Tryz.prog) (cons := consFew4) (nds := ndFew4 Tryz.prog) (T0 := e_Few4 Tryz.prog) (hkG_ok _) (fun d hd => by
  rcases List.mem_cons.1 hd with rfl | hd
  ·exact ok_ChkF mm
  rcases List.mem_cons.1 hd with rfl | hd
  ·exact ok_AtL4 mm
  rcases List.mem_cons.1 hd with rfl | hd
  ·exact ok_TollsQ mm
  rcases List.mem_cons.1 hd with rfl | hd
  ·exact ok_TollsQN mm
  cases hd) (by kernel_rfl) (by kernel_rfl) rfl (by kernel_rfl) cf_Few4 of_Few4 (nf_Few4 _) (by kernel_rfl) (fun ρ hv hΓ hl hp => v_Few4 Tryz.prog ρ hv hΓ hl hp) trivial
end Ft
set_option linter.unusedVariables false
open Go Mv Mw Go.Proofs
namespace Ft
theorem ok_EqX (mm : Bool) : cEqX.Ok Tryz.prog mm Γ0 := .never (by kernel_rfl) (ok_Eq mm).callable fun _ h => h
theorem ok_EqL (mm : Bool) : cEqL.Ok Tryz.prog mm Γ0 := by
 refine (ok_Eq mm).weaken rfl rfl rfl rfl rfl (by kernel_rfl) (fun ρ h => h.1) ?_
 intro ρ ρ' hl hp he o ho hpo
 have hl' : ρ.k.length = 22 := hl
 obtain ⟨-, h1, h2⟩ := hp
 have e : ∀ p, p < 22 → ρ'.list (64 + p) = ρ.list (64 + p) := fun p h => list_same he (by omega)
 have a1 : nv ρ' 18 0 = ((li ρ' 17).length : Nat) := by unfold nv li at h1 ⊢; rw [e 18 (by omega), e 17 (by omega)]; exact h1
 have a2 : nv ρ' 21 0 = ((li ρ' 20).length : Nat) := by unfold nv li at h2 ⊢; rw [e 21 (by omega), e 20 (by omega)]; exact h2
 have no : ¬ li ρ' 17 = li ρ' 20 → o.v.den ρ' = SC.den ρ' no_ → o.n = 0 → o.rw = [] → ∃ o' ∈ cEqL.outs, o'.n = o.n ∧ o'.v.den ρ' = o.v.den ρ' ∧ o'.rw = o.rw ∧ (∀ b ∈ o'.fs, b.den ρ' = true) ∧ o'.post ρ' :=
  fun h hv hn hr => ⟨_, List.mem_cons_self, hn.symm, hv.symm, hr.symm, by rintro b ⟨⟩, h⟩
 rcases List.mem_cons.1 ho with rfl | ho
 ·obtain ⟨j, j1, j2, hne⟩ := hpo
  exact no (fun h => hne (by rw [h])) rfl rfl rfl
 rcases List.mem_cons.1 ho with rfl | ho
 ·by_cases hq : li ρ' 17 = li ρ' 20
  ·refine ⟨_, List.mem_cons_of_mem _ List.mem_cons_self, rfl, ?_, rfl, by rintro b ⟨⟩, hq⟩
   show Value.bool true = Value.bool (nv ρ' 18 0 == nv ρ' 21 0)
   rw [a1, a2, hq, beq_self_eq_true]
  ·refine no hq ?_ rfl rfl
   show Value.bool (nv ρ' 18 0 == nv ρ' 21 0) = Value.bool false
   have : nv ρ' 18 0 ≠ nv ρ' 21 0 := fun h => hq (by
    have hle : (li ρ' 17).length = (li ρ' 20).length := by omega
    refine List.ext_getElem hle fun i i1 i2 => ?_
    have := hpo i (by omega) (by omega)
    rwa [List.getD_eq_getElem?_getD, List.getD_eq_getElem?_getD, List.getElem?_eq_getElem i1, List.getElem?_eq_getElem i2] at this)
   rw [beq_eq_false_iff_ne.2 this]
 ·cases ho
end Ft
set_option linter.unusedVariables false
open Go Mv Mw Go.Proofs
namespace Ft
theorem Fa_ok (mm : Bool) : HkOk Tryz.prog (noRel mm) (Fa.hk Tryz.prog) :=
 hOr_ok (hExt_ok xClear_ok) (hOr_ok (hExt_ok xApp_ok) (hOr_ok hObv_ok (hOr_ok hPop_ok (hOr_ok (hExt_ok xTail_ok) (hOr_ok hMap_ok (hOr_ok (hExt_ok (xAs_ok LB_as)) (hOr_ok (hExt_ok (xAs_ok LE_as)) (hOr_ok (hExt_ok (xNot_ok LB_not)) (hExt_ok xTA_ok)))))))))
end Ft
set_option linter.unusedVariables false
namespace Mw
open Go Mv
def VT.at_ : List Bool → VT → VT
 | [], t => t
 | x :: p, .branch _ t f => match x with
  | false => t.at_ p
  | true => f.at_ p
 | x :: p, .both t f => match x with
  | false => t.at_ p
  | true => f.at_ p
 | _ :: p, .need _ t => t.at_ p
 | _ :: p, .new t => t.at_ p
 | _ :: p, .obl _ t => t.at_ p
 | _ :: p, .asm _ t => t.at_ p
 | _ :: _, t => t
def VT.put (y : VT) : List Bool → VT → VT
 | [], _ => y
 | x :: p, .branch b t f => match x with
  | false => .branch b (put y p t) f
  | true => .branch b t (put y p f)
 | x :: p, .both t f => match x with
  | false => .both (put y p t) f
  | true => .both t (put y p f)
 | _ :: p, .need b t => .need b (put y p t)
 | _ :: p, .new t => .new (put y p t)
 | _ :: p, .obl b t => .obl b (put y p t)
 | _ :: p, .asm b t => .asm b (put y p t)
 | _ :: _, t => t
theorem VT.graft : ∀ (p : List Bool) {T x C y : VT}, VT.put y p T = C → T.at_ p = x → T = VT.put x p C
 | [], T, x, C, y, _, h => h
 | b :: p, T, x, C, y, hc, h => by
  subst hc
  cases T with
  | branch c t f => cases b with
   | false => exact congrArg (VT.branch c · f) (VT.graft p rfl h)
   | true => exact congrArg (VT.branch c t ·) (VT.graft p rfl h)
  | both t f => cases b with
   | false => exact congrArg (VT.both · f) (VT.graft p rfl h)
   | true => exact congrArg (VT.both t ·) (VT.graft p rfl h)
  | need c t => exact congrArg (VT.need c ·) (VT.graft p rfl h)
  | new t => exact congrArg VT.new (VT.graft p rfl h)
  | obl c t => exact congrArg (VT.obl c ·) (VT.graft p rfl h)
  | asm c t => exact congrArg (VT.asm c ·) (VT.graft p rfl h)
  | jump _ _ _ => rfl
  | ret _ _ => rfl
  | ok => rfl
  | bad _ => rfl
end Mw
set_option linter.unusedVariables false
namespace Mv
open Go
theorem Goes.steps {P : Program} {Stop : Goroutine → Own → Prop} {g : Goroutine} {S : Own} (h : Goes P Co.lone Stop g S) (hStop : ∀ g S, Stop g S → g = G g.frame g.callers) : ∀ {w : World}, S.In w →
  ∃ g' S' w', Stop g' S' ∧ Mid S w S' w' ∧ Steps P (lone g.frame g.callers w) (lone g'.frame g'.callers w') ∧ g = G g.frame g.callers := by
 induction h with
 | stop h => exact fun hw => ⟨_, _, _, h, .refl hw, Steps.refl _ _, hStop _ _ h⟩
 | big Q h1 _ ih => exact h1.elim
 | @step g₀ _ g' w' es S' hs h1 h2 ih =>
  intro w hw
  have hs := hs.2 rfl
  obtain ⟨he, hm, _⟩ := h1 w hw
  obtain ⟨g2, S2, w2, hst, hm2, hsteps, hg'⟩ := ih w hw hm.inn
  refine ⟨g2, S2, w2, hst, hm.trans hm2, Steps.head (m₁ := lone (g' w).frame (g' w).callers (w' w)) (step_lone_go ?_) hsteps, hs⟩
  have e1 : ({ frame := (g' w).frame, callers := (g' w).callers, status := .running, dying := none } : Goroutine) = g' w := hg'.symm
  rw [e1]
  have e2 := hs.symm
  unfold G at e2
  have he' : stepG P true g₀ w = GStep.go (g' w) (w' w) (es w) := he
  rw [e2, he']
  rfl
theorem Calls.lone {P : Program} {f : FuncId} {args : Array Value} {S : Own} {Post : End → Own → Prop} (h : Calls P Co.lone f args S Post) {w : World} (hw : S.In w) :
  Go.Calls P f args w fun e w' => ∃ e' S', e = End.ending e' ∧ Mid S w S' w' ∧ Post e' S' := by
 intro cs
 obtain ⟨g', S', w', ⟨x, e, rfl, p, hf, hkd, hd, fn, hfn, hl⟩, hm, hs, _⟩ :=
  (h (fun g S' => ∃ x e, g = G x cs ∧ Post e S' ∧ Leaves P f .normal e x S') .normal cs (by decide) fun x e S' p l => .stop ⟨x, e, rfl, p, l⟩).steps (by rintro g S ⟨x, e, rfl, _⟩; rfl) hw
 cases e with
 | panicked ch => exact ⟨.panicked ch, w', x, ⟨.panicked ch, S', rfl, hm, p⟩, hs, hf, hl, hd, fn, by rw [hf]; exact hfn⟩
 | returned v =>
  obtain ⟨hmode, hr⟩ := hl
  obtain ⟨z, w3, es3, hr3, _, _, rfl, rfl⟩ := (hr w' hm.inn).sound #[]
  have e1 : (results fn x.tmps).run P w3 = .ok v w3 := by have := congrArg Prod.fst hr3; simpa [outcome] using this
  exact ⟨.returned v, w3, x, ⟨.returned v, S', rfl, hm, p⟩, hs, hf, hmode, hd, hkd, fn, by rw [hf]; exact hfn, e1⟩
end Mv
