/- A logic over the machine and a run of a program on unknown values, in the kernel. No statement of the project is proved in this text. -/
import Derived.Below
import Derived.Carry
import Derived.ChangeSame
import Derived.ChangeSlices
import Derived.ChangeVars
import Derived.Deep.DeepHandedRow
import Derived.JoinedOf
import Derived.LaidHandle
import Derived.LaidLaws
import Derived.Lib.LaidU8
import Derived.ProofKit
import Derived.RowKit
import Derived.RowKitTokens
import Derived.SevenTiedAt
import Derived.Test.YtcidaiiknhfkiaaGreatDoorCards
import Derived.Test.YtcidaiiknhfkiaaGreatDoorTie
import Derived.Test.YtcidaiiknhfkiaaGreatDoorm5
set_option linter.unusedVariables false
set_option linter.unusedSimpArgs false
set_option maxRecDepth 20000
open Go Mv Mw
namespace Ft
def toE62 : List Bd := [.keep 19, .lst 84, .ints [(.quo (.len 84) (oN 5)), (.add (.quo (.len 84) (oN 5)) (.room 19 5))], .ints [(h0 86), (h0 88)]]
def toE30 : VT := vsm cShort 0 toE62 (.bad 1)
def toE31 : VT := vsm cShort 1 toE62 (.bad 1)
def toE19 : List Bd := (vap toE62 [.keep 25, .keep 26, .keep 27, .keep 28])
def toE8 : VT := .both toE31 (.new (.new (.new (.new (vsm cShort 2 toE19 (.bad 1))))))
def toE0 : VT := vob cShort toE62 (.both toE30 toE8)
def toE20 : List Bd := (vap toE62 [.keep 27, .keep 28, .keep 29, .keep 30])
def toE1 : VT := vob cShort toE62 (.both toE30 (.both toE31 (.new (.new (.new (.new (vsm cShort 2 toE20 (.bad 1))))))))
def toE95 : Bd := .ints [(hN 83 2)]
def toE82 : List Bd := [.keep 22, .lst 87, .ints [(.len 87), (.add (.len 87) (.room 22 1))], toE95]
def toE91 : Bd := .ints [(h0 83), (hN 83 1), (.add (hN 83 2) (oN 1))]
def toE26 (P : Program) : VT := .jump 3 [.keep 16, .keep 17, .lst 82, toE91, .keep 20, .lst 85, .keep 22, .lst 87] (ndAt (ndNRow P) 3).items
def toE10 (P : Program) : VT := vsm cFind 0 toE82 (toE26 P)
def toE74 : List Bd := (vap toE82 [.keep 26])
def toE2 (P : Program) : VT := vob cFind toE82 (.both (toE10 P) (.new (vsm cFind 1 toE74 (.bad 1))))
def toE73 : List Bd := (vap toE82 [.keep 27])
def toE3 (P : Program) : VT := vob cFind toE82 (.both (toE10 P) (.new (vsm cFind 1 toE73 (.bad 1))))
def toE4 (P : Program) : VT := vob cFind toE82 (.both (toE10 P) (.new (vsm cFind 1 (vap toE82 [.keep 31]) (.bad 1))))
def toE76 : List Bd := (vap toE82 [.keep 28])
def toE5 (P : Program) : VT := vob cFind toE82 (.both (toE10 P) (.new (vsm cFind 1 toE76 (.bad 1))))
def toE77 : List Bd := (vap toE82 [.keep 32])
def toE6 (P : Program) : VT := vob cFind toE82 (.both (toE10 P) (.new (vsm cFind 1 toE77 (.bad 1))))
def toE81 : List Bd := [.keep 20, .lst 85, .ints [(.len 85), (.add (.len 85) (.room 20 1))], toE95]
def toE78 : List Bd := [.keep 16, .keep 17, .lst 82, toE91, .keep 20, .lst 85]
def toE42 (P : Program) : VT := .jump 1 toE78 (ndAt (ndNRow P) 1).items
def toE11 (P : Program) : VT := vsm cFind 0 toE81 (toE42 P)
def toE71 : List Bd := (vap toE81 [.keep 30])
def toE47 : VT := .new (vsm cFind 1 toE71 (.bad 1))
def toE7 (P : Program) : VT := vob cFind toE81 (.both (toE11 P) toE47)
def toE89 : Bd := .ints [(h0 83), (hN 83 1), (hN 83 2), (.add (hN 83 3) (oN 1))]
def toE12 : Bd := .ints [(.nth 82 (.mul (hN 83 3) (oN 5))), (.nth 82 (.add (.mul (hN 83 3) (oN 5)) (oN 1))), (.nth 82 (.add (.mul (hN 83 3) (oN 5)) (oN 2))), (.nth 82 (.add (.mul (hN 83 3) (oN 5)) (oN 3))), (.nth 82 (.add (.mul (hN 83 3) (oN 5)) (oN 4)))]
def toE9 : List Bd := [.keep 16, .keep 17, .lst 82, toE89, .keep 20, .lst 85, .keep 23, toE12]
def toE85 : Bd := .ints [(.quo (.len 82) (oN 5)), (.add (.quo (.len 82) (oN 5)) (.room 17 5))]
def toE52 : List Bd := [.keep 17, .lst 82, toE85, .ints [(h0 87), (hN 83 1)]]
def toE13 : List Bd := (vap toE52 [.keep 24, .keep 25, .keep 26, .keep 27])
def toE53 : List Bd := [.keep 17, .lst 82, toE85, .ints [(h0 91), (hN 83 1)]]
def toE14 : List Bd := (vap toE53 [.keep 28, .keep 29, .keep 30, .keep 31])
def toE55 : List Bd := [.keep 17, .lst 82, toE85, .ints [(h0 89), (hN 83 1)]]
def toE15 : List Bd := (vap toE55 [.keep 26, .keep 27, .keep 28, .keep 29])
def toE54 : List Bd := [.keep 22, .lst 87, .ints [(.quo (.len 87) (oN 5)), (.add (.quo (.len 87) (oN 5)) (.room 22 5))], .ints [(h0 83), (hN 83 1)]]
def toE16 : List Bd := (vap toE54 [.keep 24, .keep 25, .keep 26, .keep 27])
def toE56 : List Bd := [.keep 17, .lst 82, toE85, .ints [(h0 93), (hN 83 1)]]
def toE17 : List Bd := (vap toE56 [.keep 30, .keep 31, .keep 32, .keep 33])
def toE58 : List Bd := [.keep 17, .lst 82, toE85, .ints [(h0 90), (hN 83 1)]]
def toE18 : List Bd := (vap toE58 [.keep 27, .keep 28, .keep 29, .keep 30])
def toE96 : Bd := .ints [(h0 83)]
def toE33 : List Bd := [.keep 17, .lst 82, toE85, toE96, .keep 22, toE95]
def toE21 : List Bd := (vap toE33 [.keep 23])
def toE34 : List Bd := [.keep 17, .lst 82, toE85, toE96, .keep 26, toE95]
def toE22 : List Bd := (vap toE34 [.keep 27])
def toE35 : List Bd := [.keep 17, .lst 82, toE85, toE96, .keep 24, toE95]
def toE23 : List Bd := (vap toE35 [.keep 25])
def toE36 : List Bd := [.keep 17, .lst 82, toE85, toE96, .keep 28, toE95]
def toE24 : List Bd := (vap toE36 [.keep 29])
def toE38 : List Bd := [.keep 17, .lst 82, toE85, toE96, .keep 25, toE95]
def toE25 : List Bd := (vap toE38 [.keep 26])
def toE94 : List Bd := [.ints [(h0 84), (h0 86)]]
def toE27 : VT := vob cShortN toE94 (.both (vsm cShortN 0 toE94 (.bad 1)) (vsm cShortN 1 toE94 (.bad 1)))
def toE28 : List Bd := (vap toE62 [.keep 25, .keep 26])
def toE29 : VT := vsm cShort 0 toE52 (.bad 1)
def toE32 : List Bd := [.keep 17, .lst 82, toE85, toE96, .keep 20, toE95]
def toE37 : List Bd := [.keep 17, .lst 82, toE85, toE96, .keep 23, toE95]
def toE39 : List Bd := [.keep 17, .lst 82, toE85, toE96, .keep 27, toE95]
def toE40 : List Bd := [.keep 17, .lst 82, toE85, toE96, .keep 30, toE95]
def toE41 (P : Program) : VT := .jump 3 [.keep 16, .keep 19, .lst 84, .ints [(h0 86), (h0 88), (oN 0)], .keep 25, .lst 90, .keep 27, .lst 92] (ndAt (ndNRow P) 3).items
def toE43 (P : Program) : VT := .jump 2 toE78 (ndAt (ndNRow P) 2).items
def toE69 : List Bd := (vap toE81 [.keep 24])
def toE44 : VT := .new (vsm cFind 1 toE69 (.bad 1))
def toE45 : VT := .new (vsm cFind 1 (vap toE81 [.keep 28]) (.bad 1))
def toE70 : List Bd := (vap toE81 [.keep 26])
def toE46 : VT := .new (vsm cFind 1 toE70 (.bad 1))
def toE48 : List Bd := [.keep 16, .keep 17, .lst 82, toE89, .keep 20, .lst 85, .keep 26, .lst 89]
def toE49 : List Bd := [.keep 16, .keep 17, .lst 82, toE89, .keep 20, .lst 85, .keep 22, .lst 87]
def toE50 : List Bd := [.keep 17, .lst 82, toE85, .ints [(h0 85), (hN 83 1)]]
def toE51 : List Bd := [.keep 20, .lst 85, .ints [(.quo (.len 85) (oN 5)), (.add (.quo (.len 85) (oN 5)) (.room 20 5))], .ints [(h0 83), (hN 83 1)]]
def toE57 : List Bd := [.keep 17, .lst 82, toE85, .ints [(h0 88), (hN 83 1)]]
def toE59 : List Bd := [.keep 24, .lst 89, .ints [(.quo (.len 89) (oN 5)), (.add (.quo (.len 89) (oN 5)) (.room 24 5))], .ints [(h0 83), (hN 83 1)]]
def toE60 : List Bd := [.keep 17, .lst 82, toE85, .ints [(h0 92), (hN 83 1)]]
def toE61 : List Bd := [.keep 17, .lst 82, toE85, .ints [(h0 95), (hN 83 1)]]
def toE84 : List Bd := [.keep 16, .keep 19, .lst 84, .ints [(h0 86), (h0 88), (oN 0)], .keep 25, .lst 90]
def toE63 (P : Program) : VT := .jump 1 toE84 (ndAt (ndNRow P) 1).items
def toE64 (P : Program) : VT := .jump 2 toE84 (ndAt (ndNRow P) 2).items
def toE65 (P : Program) : VT := .jump 0 [.keep 16, .keep 17, .lst 82, toE91] (ndAt (ndNRow P) 0).items
def toE66 : List Bd := [.keep 16, .keep 17, .lst 82, toE89, .keep 20, .lst 85]
def toE67 : VT := vsm cFind 0 toE81 (.bad 1)
def toE68 : VT := vsm cFind 0 toE82 (.bad 1)
def toE72 : List Bd := (vap toE81 [.keep 22])
def toE75 : List Bd := (vap toE82 [.keep 29])
def toE79 (P : Program) : VT := .jump 0 [.keep 16, .keep 19, .lst 84, .ints [(h0 86), (h0 88), (oN 0)]] (ndAt (ndNRow P) 0).items
def toE92 : Bd := .ints [(h0 83), (hN 83 1), (hN 83 2), (oN 0)]
def toE80 : List Bd := [.keep 16, .keep 17, .lst 82, toE92, .keep 20, .lst 85]
def toE83 : List Bd := [.keep 16, .keep 17, .ints [(oN 4), (oN 4)], .ints [(oN 0), (oN 11400714819323198485)]]
def toE86 : List Bd := [.keep 16, .keep 17, .ints [(oN 15)], .ints [(h0 82), (hN 82 1)]]
def toE87 : List Bd := [.keep 16, .keep 17, .ints [(oN 4)], .ints [(h0 83), (hN 83 1)]]
def toE88 : List Bd := [.keep 16, .keep 17, .ints [(oN 4)], .ints [(h0 85), (hN 85 1)]]
def toE90 : VT := vob cFined [] (vsm cFined 0 [] (.ret 0 [.keep 16]))
def toE93 : List Bd := [.ints [(h0 83), (hN 83 1)]]
def e_NRow (P : Program) : VT := .new (vob cAgents toE83 (.both (.new (vsm cAgents 0 (vap toE83 [.keep 18]) (vob cTo toE86 (.new (.new (vsm cTo 0 (vap toE86 [.keep 19, .keep 20]) (vob cPass toE87 (.new (.new (vsm cPass 0 (vap toE87 [.keep 21, .keep 22]) (vob cNeedN toE94 (.both (vsm cNeedN 0 toE94 (vob cSpoilN toE94 (.both (vsm cSpoilN 0 toE94 (vob cShortN toE94 (.both (vsm cShortN 0 toE94 toE90) (vsm cShortN 1 toE94 (.bad 1))))) (vsm cSpoilN 1 toE94 toE27)))) (vsm cNeedN 1 toE94 (vob cSpoilN toE94 (.both (vsm cSpoilN 0 toE94 toE27) (vsm cSpoilN 1 toE94 (vob cShortN toE94 (.both (vsm cShortN 0 toE94 (.bad 1)) (vsm cShortN 1 toE94 (.jump 12 [.keep 16] (ndAt (ndNRow P) 12).items)))))))))))))))))))) (.new (.new (.new (vsm cAgents 1 (vap toE83 [.keep 18, .keep 19, .keep 20]) (vob cTo toE86 (.new (.new (vsm cTo 0 (vap toE86 [.keep 21, .keep 22]) (vob cPass toE88 (.new (.new (vsm cPass 0 (vap toE88 [.keep 23, .keep 24]) (vob cNeed toE62 (.both (vsm cNeed 0 toE62 (vob cSpoil toE62 (.both (vsm cSpoil 0 toE62 (vob cShort toE62 (.both (vsm cShort 0 toE62 toE90) toE8))) (.both (vsm cSpoil 1 toE62 toE0) (.new (.new (vsm cSpoil 2 toE28 toE1))))))) (.both (vsm cNeed 1 toE62 (vob cSpoil toE62 (.both (vsm cSpoil 0 toE62 toE0) (.both (vsm cSpoil 1 toE62 (vob cShort toE62 (.both toE30 (.both (vsm cShort 1 toE62 (toE79 P)) (.new (.new (.new (.new (vsm cShort 2 toE19 (toE79 P)))))))))) (.new (.new (vsm cSpoil 2 toE28 (vob cShort toE62 (.both toE30 (.both (vsm cShort 1 toE62 (toE63 P)) (.new (.new (.new (.new (vsm cShort 2 toE20 (toE63 P)))))))))))))))) (.new (.new (vsm cNeed 2 toE28 (vob cSpoil toE62 (.both (vsm cSpoil 0 toE62 toE1) (.both (vsm cSpoil 1 toE62 (vob cShort toE62 (.both toE30 (.both (vsm cShort 1 toE62 (toE64 P)) (.new (.new (.new (.new (vsm cShort 2 toE20 (toE64 P)))))))))) (.new (.new (vsm cSpoil 2 (vap toE62 [.keep 27, .keep 28]) (vob cShort toE62 (.both toE30 (.both (vsm cShort 1 toE62 (toE41 P)) (.new (.new (.new (.new (vsm cShort 2 (vap toE62 [.keep 29, .keep 30, .keep 31, .keep 32]) (toE41 P)))))))))))))))))))))))))))))))))))
def n_NRow_0 (P : Program) : VT := .branch (.lt (hN 83 2) (.quo (.len 82) (oN 5))) (.jump 4 [.keep 16, .keep 17, .lst 82, toE92] (ndAt (ndNRow P) 4).items) toE90
def n_NRow_1 (P : Program) : VT := .branch (.lt (hN 83 2) (.quo (.len 82) (oN 5))) (.jump 6 toE80 (ndAt (ndNRow P) 6).items) toE90
def n_NRow_2 (P : Program) : VT := .branch (.lt (hN 83 2) (.quo (.len 82) (oN 5))) (.jump 8 toE80 (ndAt (ndNRow P) 8).items) toE90
def n_NRow_3 (P : Program) : VT := .branch (.lt (hN 83 2) (.quo (.len 82) (oN 5))) (.jump 10 [.keep 16, .keep 17, .lst 82, toE92, .keep 20, .lst 85, .keep 22, .lst 87] (ndAt (ndNRow P) 10).items) toE90
def n_NRow_4 (P : Program) : VT := .branch (.lt (hN 83 3) (.quo (.len 82) (oN 5))) (.branch (.not (.eq (hN 83 3) (hN 83 2))) (.need [(.le (.add (.mul (hN 83 3) (oN 5)) (oN 5)) (.len 82))] (.new (.new (.jump 5 [.keep 16, .keep 17, .lst 82, toE89, .keep 21, toE12] (ndAt (ndNRow P) 5).items)))) (.jump 4 [.keep 16, .keep 17, .lst 82, toE89] (ndAt (ndNRow P) 4).items)) (vob cShortN toE93 (.both (vsm cShortN 0 toE93 (.bad 1)) (vsm cShortN 1 toE93 (.new (vob cFoll toE32 (.both (vsm cFoll 0 toE32 (toE65 P)) (.new (vsm cFoll 1 (vap toE32 [.keep 21]) (vob cShort toE50 (.both (vsm cShort 0 toE50 (.bad 1)) (.both (vsm cShort 1 toE50 (toE65 P)) (.new (.new (.new (.new (vsm cShort 2 (vap toE50 [.keep 22, .keep 23, .keep 24, .keep 25]) (toE65 P)))))))))))))))))
def n_NRow_5 (P : Program) : VT := .branch (.lt (hN 83 3) (.quo (.len 82) (oN 5))) (.branch (.not (.eq (hN 83 3) (hN 83 2))) (.need [(.le (.add (.mul (hN 83 3) (oN 5)) (oN 5)) (.len 82))] (.new (.need [(.eq (.mul (.quo (.len 85) (oN 5)) (oN 5)) (.len 85))] (.new (.asm (appAsm 23 (.whole 85) (.lits [(.nth 82 (.mul (hN 83 3) (oN 5))), (.nth 82 (.add (.mul (hN 83 3) (oN 5)) (oN 1))), (.nth 82 (.add (.mul (hN 83 3) (oN 5)) (oN 2))), (.nth 82 (.add (.mul (hN 83 3) (oN 5)) (oN 3))), (.nth 82 (.add (.mul (hN 83 3) (oN 5)) (oN 4)))])) (.new (.jump 5 [.keep 16, .keep 17, .lst 82, toE89, .keep 24, .lst 87] (ndAt (ndNRow P) 5).items))))))) (.jump 5 toE66 (ndAt (ndNRow P) 5).items)) (vob cShort toE51 (.both (vsm cShort 0 toE51 (.bad 1)) (.both (vsm cShort 1 toE51 (.new (vob cFoll toE33 (.both (vsm cFoll 0 toE33 (toE65 P)) (.new (vsm cFoll 1 toE21 (vob cShort toE52 (.both toE29 (.both (vsm cShort 1 toE52 (toE65 P)) (.new (.new (.new (.new (vsm cShort 2 toE13 (toE65 P))))))))))))))) (.new (.new (.new (.new (vsm cShort 2 (vap toE51 [.keep 22, .keep 23, .keep 24, .keep 25]) (.new (vob cFoll toE34 (.both (vsm cFoll 0 toE34 (toE65 P)) (.new (vsm cFoll 1 toE22 (vob cShort toE53 (.both (vsm cShort 0 toE53 (.bad 1)) (.both (vsm cShort 1 toE53 (toE65 P)) (.new (.new (.new (.new (vsm cShort 2 toE14 (toE65 P))))))))))))))))))))))
def n_NRow_6 (P : Program) : VT := .branch (.lt (hN 83 3) (.quo (.len 82) (oN 5))) (.branch (.not (.eq (hN 83 3) (hN 83 2))) (.need [(.le (.add (.mul (hN 83 3) (oN 5)) (oN 5)) (.len 82))] (.new (.new (.jump 7 toE9 (ndAt (ndNRow P) 7).items)))) (.jump 6 toE66 (ndAt (ndNRow P) 6).items)) (vob cShortN toE93 (.both (vsm cShortN 0 toE93 (.bad 1)) (vsm cShortN 1 toE93 (.new (vob cFoll toE33 (.both (vsm cFoll 0 toE33 (vob cFind toE81 (.both (toE11 P) (.new (vsm cFind 1 (vap toE81 [.keep 23]) (.bad 1)))))) (.new (vsm cFoll 1 toE21 (vob cShort toE52 (.both (vsm cShort 0 toE52 (vob cFind toE81 (.both toE67 (.new (vsm cFind 1 toE69 (toE42 P)))))) (.both (vsm cShort 1 toE52 (vob cFind toE81 (.both (toE11 P) toE44))) (.new (.new (.new (.new (vsm cShort 2 toE13 (vob cFind toE81 (.both (toE11 P) toE45))))))))))))))))))
def n_NRow_7 (P : Program) : VT := .branch (.lt (hN 83 3) (.quo (.len 82) (oN 5))) (.branch (.not (.eq (hN 83 3) (hN 83 2))) (.need [(.le (.add (.mul (hN 83 3) (oN 5)) (oN 5)) (.len 82))] (.new (.need [(.eq (.mul (.quo (.len 87) (oN 5)) (oN 5)) (.len 87))] (.new (.asm (appAsm 25 (.whole 87) (.lits [(.nth 82 (.mul (hN 83 3) (oN 5))), (.nth 82 (.add (.mul (hN 83 3) (oN 5)) (oN 1))), (.nth 82 (.add (.mul (hN 83 3) (oN 5)) (oN 2))), (.nth 82 (.add (.mul (hN 83 3) (oN 5)) (oN 3))), (.nth 82 (.add (.mul (hN 83 3) (oN 5)) (oN 4)))])) (.new (.jump 7 toE48 (ndAt (ndNRow P) 7).items))))))) (.jump 7 toE49 (ndAt (ndNRow P) 7).items)) (vob cShort toE54 (.both (vsm cShort 0 toE54 (.bad 1)) (.both (vsm cShort 1 toE54 (.new (vob cFoll toE35 (.both (vsm cFoll 0 toE35 (vob cFind toE81 (.both (toE11 P) (.new (vsm cFind 1 (vap toE81 [.keep 25]) (.bad 1)))))) (.new (vsm cFoll 1 toE23 (vob cShort toE55 (.both (vsm cShort 0 toE55 (vob cFind toE81 (.both toE67 (.new (vsm cFind 1 toE70 (toE42 P)))))) (.both (vsm cShort 1 toE55 (vob cFind toE81 (.both (toE11 P) toE46))) (.new (.new (.new (.new (vsm cShort 2 toE15 (toE7 P))))))))))))))) (.new (.new (.new (.new (vsm cShort 2 toE16 (.new (vob cFoll toE36 (.both (vsm cFoll 0 toE36 (vob cFind toE81 (.both (toE11 P) (.new (vsm cFind 1 (vap toE81 [.keep 29]) (.bad 1)))))) (.new (vsm cFoll 1 toE24 (vob cShort toE56 (.both (vsm cShort 0 toE56 (vob cFind toE81 (.both toE67 (.new (vsm cFind 1 toE71 (toE42 P)))))) (.both (vsm cShort 1 toE56 (toE7 P)) (.new (.new (.new (.new (vsm cShort 2 toE17 (vob cFind toE81 (.both (toE11 P) (.new (vsm cFind 1 (vap toE81 [.keep 34]) (.bad 1))))))))))))))))))))))))))
def n_NRow_8 (P : Program) : VT := .branch (.lt (hN 83 3) (.quo (.len 82) (oN 5))) (.branch (.not (.eq (hN 83 3) (hN 83 2))) (.need [(.le (.add (.mul (hN 83 3) (oN 5)) (oN 5)) (.len 82))] (.new (.new (.jump 9 toE9 (ndAt (ndNRow P) 9).items)))) (.jump 8 toE66 (ndAt (ndNRow P) 8).items)) (vob cShortN toE93 (.both (vsm cShortN 0 toE93 (vob cFind toE81 (.both toE67 (.new (vsm cFind 1 toE72 (.new (vob cFoll toE37 (.both (vsm cFoll 0 toE37 (toE43 P)) (.new (vsm cFoll 1 (vap toE37 [.keep 24]) (vob cShort toE57 (.both (vsm cShort 0 toE57 (.bad 1)) (.both (vsm cShort 1 toE57 (toE43 P)) (.new (.new (.new (.new (vsm cShort 2 (vap toE57 [.keep 25, .keep 26, .keep 27, .keep 28]) (toE43 P))))))))))))))))))) (vsm cShortN 1 toE93 (vob cFind toE81 (.both (vsm cFind 0 toE81 (.new (vob cFoll toE33 (.both (vsm cFoll 0 toE33 (toE43 P)) (.new (vsm cFoll 1 toE21 (vob cShort toE52 (.both toE29 (.both (vsm cShort 1 toE52 (toE43 P)) (.new (.new (.new (.new (vsm cShort 2 toE13 (toE43 P))))))))))))))) (.new (vsm cFind 1 toE72 (.bad 1))))))))
def n_NRow_9 (P : Program) : VT := .branch (.lt (hN 83 3) (.quo (.len 82) (oN 5))) (.branch (.not (.eq (hN 83 3) (hN 83 2))) (.need [(.le (.add (.mul (hN 83 3) (oN 5)) (oN 5)) (.len 82))] (.new (.need [(.eq (.mul (.quo (.len 87) (oN 5)) (oN 5)) (.len 87))] (.new (.asm (appAsm 25 (.whole 87) (.lits [(.nth 82 (.mul (hN 83 3) (oN 5))), (.nth 82 (.add (.mul (hN 83 3) (oN 5)) (oN 1))), (.nth 82 (.add (.mul (hN 83 3) (oN 5)) (oN 2))), (.nth 82 (.add (.mul (hN 83 3) (oN 5)) (oN 3))), (.nth 82 (.add (.mul (hN 83 3) (oN 5)) (oN 4)))])) (.new (.jump 9 toE48 (ndAt (ndNRow P) 9).items))))))) (.jump 9 toE49 (ndAt (ndNRow P) 9).items)) (vob cShort toE54 (.both (vsm cShort 0 toE54 (vob cFind toE81 (.both toE67 (.new (vsm cFind 1 toE69 (.new (vob cFoll toE38 (.both (vsm cFoll 0 toE38 (toE43 P)) (.new (vsm cFoll 1 toE25 (vob cShort toE58 (.both (vsm cShort 0 toE58 (.bad 1)) (.both (vsm cShort 1 toE58 (toE43 P)) (.new (.new (.new (.new (vsm cShort 2 toE18 (toE43 P))))))))))))))))))) (.both (vsm cShort 1 toE54 (vob cFind toE81 (.both (vsm cFind 0 toE81 (.new (vob cFoll toE35 (.both (vsm cFoll 0 toE35 (toE43 P)) (.new (vsm cFoll 1 toE23 (vob cShort toE55 (.both (vsm cShort 0 toE55 (.bad 1)) (.both (vsm cShort 1 toE55 (toE43 P)) (.new (.new (.new (.new (vsm cShort 2 toE15 (toE43 P))))))))))))))) toE44))) (.new (.new (.new (.new (vsm cShort 2 toE16 (vob cFind toE81 (.both (vsm cFind 0 toE81 (.new (vob cFoll toE36 (.both (vsm cFoll 0 toE36 (toE43 P)) (.new (vsm cFoll 1 toE24 (vob cShort toE56 (.both (vsm cShort 0 toE56 (.bad 1)) (.both (vsm cShort 1 toE56 (toE43 P)) (.new (.new (.new (.new (vsm cShort 2 toE17 (toE43 P))))))))))))))) toE45))))))))))
def n_NRow_10 (P : Program) : VT := .branch (.lt (hN 83 3) (.quo (.len 82) (oN 5))) (.branch (.not (.eq (hN 83 3) (hN 83 2))) (.need [(.le (.add (.mul (hN 83 3) (oN 5)) (oN 5)) (.len 82))] (.new (.new (.jump 11 [.keep 16, .keep 17, .lst 82, toE89, .keep 20, .lst 85, .keep 22, .lst 87, .keep 25, toE12] (ndAt (ndNRow P) 11).items)))) (.jump 10 toE49 (ndAt (ndNRow P) 10).items)) (vob cShortN toE93 (.both (vsm cShortN 0 toE93 (vob cFind toE81 (.both toE67 (.new (vsm cFind 1 toE69 (.new (vob cFoll toE38 (.both (vsm cFoll 0 toE38 (toE2 P)) (.new (vsm cFoll 1 toE25 (vob cShort toE58 (.both (vsm cShort 0 toE58 (vob cFind toE82 (.both toE68 (.new (vsm cFind 1 toE73 (toE26 P)))))) (.both (vsm cShort 1 toE58 (toE3 P)) (.new (.new (.new (.new (vsm cShort 2 toE18 (toE4 P))))))))))))))))))) (vsm cShortN 1 toE93 (vob cFind toE81 (.both (vsm cFind 0 toE81 (.new (vob cFoll toE35 (.both (vsm cFoll 0 toE35 (vob cFind toE82 (.both (toE10 P) (.new (vsm cFind 1 (vap toE82 [.keep 25]) (.bad 1)))))) (.new (vsm cFoll 1 toE23 (vob cShort toE55 (.both (vsm cShort 0 toE55 (vob cFind toE82 (.both toE68 (.new (vsm cFind 1 toE74 (toE26 P)))))) (.both (vsm cShort 1 toE55 (toE2 P)) (.new (.new (.new (.new (vsm cShort 2 toE15 (vob cFind toE82 (.both (toE10 P) (.new (vsm cFind 1 (vap toE82 [.keep 30]) (.bad 1))))))))))))))))))) toE44)))))
def n_NRow_11 (P : Program) : VT := .branch (.lt (hN 83 3) (.quo (.len 82) (oN 5))) (.branch (.not (.eq (hN 83 3) (hN 83 2))) (.need [(.le (.add (.mul (hN 83 3) (oN 5)) (oN 5)) (.len 82))] (.new (.need [(.eq (.mul (.quo (.len 89) (oN 5)) (oN 5)) (.len 89))] (.new (.asm (appAsm 27 (.whole 89) (.lits [(.nth 82 (.mul (hN 83 3) (oN 5))), (.nth 82 (.add (.mul (hN 83 3) (oN 5)) (oN 1))), (.nth 82 (.add (.mul (hN 83 3) (oN 5)) (oN 2))), (.nth 82 (.add (.mul (hN 83 3) (oN 5)) (oN 3))), (.nth 82 (.add (.mul (hN 83 3) (oN 5)) (oN 4)))])) (.new (.jump 11 [.keep 16, .keep 17, .lst 82, toE89, .keep 20, .lst 85, .keep 22, .lst 87, .keep 28, .lst 91] (ndAt (ndNRow P) 11).items))))))) (.jump 11 [.keep 16, .keep 17, .lst 82, toE89, .keep 20, .lst 85, .keep 22, .lst 87, .keep 24, .lst 89] (ndAt (ndNRow P) 11).items)) (vob cShort toE59 (.both (vsm cShort 0 toE59 (vob cFind toE81 (.both toE67 (.new (vsm cFind 1 toE70 (.new (vob cFoll toE39 (.both (vsm cFoll 0 toE39 (toE5 P)) (.new (vsm cFoll 1 (vap toE39 [.keep 28]) (vob cShort toE60 (.both (vsm cShort 0 toE60 (vob cFind toE82 (.both toE68 (.new (vsm cFind 1 toE75 (toE26 P)))))) (.both (vsm cShort 1 toE60 (vob cFind toE82 (.both (toE10 P) (.new (vsm cFind 1 toE75 (.bad 1)))))) (.new (.new (.new (.new (vsm cShort 2 (vap toE60 [.keep 29, .keep 30, .keep 31, .keep 32]) (vob cFind toE82 (.both (toE10 P) (.new (vsm cFind 1 (vap toE82 [.keep 33]) (.bad 1))))))))))))))))))))))) (.both (vsm cShort 1 toE59 (vob cFind toE81 (.both (vsm cFind 0 toE81 (.new (vob cFoll toE34 (.both (vsm cFoll 0 toE34 (toE3 P)) (.new (vsm cFoll 1 toE22 (vob cShort toE53 (.both (vsm cShort 0 toE53 (vob cFind toE82 (.both toE68 (.new (vsm cFind 1 toE76 (toE26 P)))))) (.both (vsm cShort 1 toE53 (toE5 P)) (.new (.new (.new (.new (vsm cShort 2 toE14 (toE6 P))))))))))))))) toE46))) (.new (.new (.new (.new (vsm cShort 2 (vap toE59 [.keep 26, .keep 27, .keep 28, .keep 29]) (vob cFind toE81 (.both (vsm cFind 0 toE81 (.new (vob cFoll toE40 (.both (vsm cFoll 0 toE40 (toE4 P)) (.new (vsm cFoll 1 (vap toE40 [.keep 31]) (vob cShort toE61 (.both (vsm cShort 0 toE61 (vob cFind toE82 (.both toE68 (.new (vsm cFind 1 toE77 (toE26 P)))))) (.both (vsm cShort 1 toE61 (toE6 P)) (.new (.new (.new (.new (vsm cShort 2 (vap toE61 [.keep 32, .keep 33, .keep 34, .keep 35]) (vob cFind toE82 (.both (toE10 P) (.new (vsm cFind 1 (vap toE82 [.keep 36]) (.bad 1))))))))))))))))))) toE47))))))))))
def n_NRow_12 (P : Program) : VT := toE90
def five (L : List Int) (k : Nat) : List Int := [L.getD (5 * k) 0, L.getD (5 * k + 1) 0, L.getD (5 * k + 2) 0, L.getD (5 * k + 3) 0, L.getD (5 * k + 4) 0]
theorem qek (L : List Int) (i : Nat) : othL L i (i + 1) = othL L i i := by rw [othL, if_pos rfl, List.append_nil]
theorem qej {L : List Int} {i k : Nat} (h : k ≠ i) : othL L i (k + 1) = othL L i k ++ five L k := by rw [othL, if_neg h]; rfl
theorem qbj (L : List Int) (i : Nat) : ∀ k, (othL L i k).length = 5 * (if i < k then k - 1 else k)
 | 0 => by simp [othL]
 | k + 1 => by
  have ih := qbj L i k
  by_cases h : k = i
  ·subst h
   rw [qek, ih, if_neg (by omega), if_pos (by omega)]; omega
  ·rw [qej h, List.length_append, ih]
   show _ + 5 = _
   split <;> split <;> omega
theorem othL_get (L : List Int) (i : Nat) : ∀ (k j f : Nat), f < 5 → 5 * j + f < (othL L i k).length → (othL L i k).getD (5 * j + f) 0 = if j < i then L.getD (5 * j + f) 0 else L.getD (5 * (j + 1) + f) 0
 | 0, j, f, _, h => by simp [othL] at h
 | k + 1, j, f, hf, h => by
  by_cases e : k = i
  ·subst e
   rw [qek] at h ⊢
   exact othL_get L k k j f hf h
  ·rw [qej e] at h ⊢
   have hl := qbj L i k
   rw [getD_app]
   by_cases hc : 5 * j + f < (othL L i k).length
   ·rw [if_pos hc]
    exact othL_get L i k j f hf hc
   ·rw [if_neg hc]
    rw [List.length_append, hl] at h
    have h : 5 * j + f < 5 * (if i < k then k - 1 else k) + 5 := h
    rw [hl] at hc ⊢
    by_cases hk : i < k
    ·rw [if_pos hk] at h hc ⊢
     rw [if_neg (by omega), show 5 * j + f - 5 * (k - 1) = f by omega, show 5 * (j + 1) + f = 5 * k + f by omega]
     match f, hf with
     | 0, _ => rfl
     | 1, _ => rfl
     | 2, _ => rfl
     | 3, _ => rfl
     | 4, _ => rfl
    ·rw [if_neg hk] at h hc ⊢
     rw [if_pos (by omega), show 5 * j + f - 5 * k = f by omega, show 5 * j + f = 5 * k + f by omega]
     match f, hf with
     | 0, _ => rfl
     | 1, _ => rfl
     | 2, _ => rfl
     | 3, _ => rfl
     | 4, _ => rfl
theorem oth_fld {L : List Int} {n i j f : Nat} (hi : i < n) (hj : j < n - 1) (hf : f < 5) : (othL L i n).getD (5 * j + f) 0 = if j < i then L.getD (5 * j + f) 0 else L.getD (5 * (j + 1) + f) 0 :=
 othL_get L i n j f hf (by rw [qbj, if_pos hi]; omega)
theorem oth_ags {L : List Int} {n i : Nat} (h : agsV L n) (hi : i < n) : agsV (othL L i n) (n - 1) := by
 refine ⟨by rw [qbj, if_pos hi], by have := h.2.1; omega, fun j hj => ?_⟩
 have g := fun f hf => oth_fld (L := L) (f := f) hi hj hf
 have g0 := g 0 (by omega)
 rw [Nat.add_zero, Nat.add_zero] at g0
 unfold agV
 rw [g0, g 1 (by omega), g 2 (by omega), g 3 (by omega), g 4 (by omega)]
 split
 ·exact h.2.2 j (by omega)
 ·exact h.2.2 (j + 1) (by omega)
theorem oth_qs {L : List Int} {n i : Nat} (hi : i < n) : qsA (othL L i n) (n - 1) = (qsA L n).eraseIdx i := by
 apply List.ext_getElem?
 intro j
 rw [List.getElem?_eraseIdx, qsA_get]
 by_cases hj : j < n - 1
 ·rw [if_pos hj]
  have g := fun f hf => oth_fld (L := L) (f := f) hi hj hf
  have g0 := g 0 (by omega)
  rw [Nat.add_zero, Nat.add_zero] at g0
  unfold qA
  rw [g0, g 1 (by omega), g 2 (by omega), g 3 (by omega)]
  by_cases hc : j < i
  ·simp only [if_pos hc]
   rw [qsA_get, if_pos (by omega)]; rfl
  ·simp only [if_neg hc]
   rw [qsA_get, if_pos (by omega)]; rfl
 ·rw [if_neg hj]
  by_cases hc : j < i
  ·omega
  ·rw [if_neg hc, qsA_get, if_neg (by omega)]
theorem nf_not {l : List Int} {x : Int} (h : ∀ j : Nat, (j : Int) < ((l.length : Nat) : Int) → ¬ l.getD j 0 = x) : x ∉ l := fun hx => by
 obtain ⟨j, hj, e⟩ := List.getElem_of_mem hx
 refine h j (by omega) ?_
 rw [List.getD_eq_getElem?_getD, List.getElem?_eq_getElem hj, ← e]; rfl
theorem fd_mem {l : List Int} {x r : Int} (h : 0 ≤ r ∧ r < ((l.length : Nat) : Int) ∧ l.getD r.toNat 0 = x) : x ∈ l := by
 obtain ⟨h0, h1, h2⟩ := h
 rw [List.getD_eq_getElem?_getD, List.getElem?_eq_getElem (show r.toNat < l.length by omega)] at h2
 rw [← h2]; exact List.getElem_mem _
theorem findA {l : List Int} {x : Int} {X : Prop} (h1 : 1 ≤ l.length ∧ l.length ≤ 4) (h : x ∈ l) (hX : X) : ((1 : Int) ≤ ((l.length : Nat) : Int) ∧ ((l.length : Nat) : Int) ≤ 64 ∧ ((l.length : Nat) : Int) ≤ ((l.length : Nat) : Int)) ∧
  ((∀ j : Nat, (j : Int) < ((l.length : Nat) : Int) → ¬ l.getD j 0 = x) → False) ∧ ∀ (b : Nat) (r : List Value), 0 ≤ (r.map intOf).getD 0 0 ∧ (r.map intOf).getD 0 0 < ((l.length : Nat) : Int) ∧ l.getD ((r.map intOf).getD 0 0).toNat 0 = x → X :=
 ⟨by omega, fun hn => nf_not hn h, fun _ _ _ => hX⟩
theorem findB {l : List Int} {x : Int} {X : Prop} (h1 : 1 ≤ l.length ∧ l.length ≤ 4) (h : x ∉ l) (hX : X) : ((1 : Int) ≤ ((l.length : Nat) : Int) ∧ ((l.length : Nat) : Int) ≤ 64 ∧ ((l.length : Nat) : Int) ≤ ((l.length : Nat) : Int)) ∧
  ((∀ j : Nat, (j : Int) < ((l.length : Nat) : Int) → ¬ l.getD j 0 = x) → X) ∧ ∀ (b : Nat) (r : List Value), 0 ≤ (r.map intOf).getD 0 0 ∧ (r.map intOf).getD 0 0 < ((l.length : Nat) : Int) ∧ l.getD ((r.map intOf).getD 0 0).toNat 0 = x → False :=
 ⟨by omega, fun _ => hX, fun _ _ hf => h (fd_mem hf)⟩
theorem oth_le {L l : List Int} {i k : Nat} (h : othL L i k = l) (hk : k ≤ 4) : l.length ≤ 20 := by
 rw [← h, qbj]; split <;> omega
theorem selL_len {P : Nat → Prop} : ∀ n, (selL P n).length ≤ n
 | 0 => Nat.le_refl _
 | n + 1 => by
  have ih := selL_len (P := P) n
  by_cases h : P n
  ·rw [selL_yes h, List.length_append, List.length_singleton]; omega
  ·rw [qfm h]; omega
theorem qdg {P : Nat → Prop} {n i : Nat} {l : List Int} (h : selL P n = l) (hi : i < n) : ((i : Nat) : Int) ∈ l ↔ P i := by
 subst h
 rw [mem_selL]
 constructor
 ·rintro ⟨j, -, hp, e⟩
  have : i = j := by omega
  subst this; exact hp
 ·exact fun hp => ⟨i, hi, hp, rfl⟩
theorem qbq {P : Nat → Prop} {n : Nat} {l : List Int} (h : selL P n = l) (hn : n ≤ 4) (hl : 1 ≤ l.length) : 1 ≤ l.length ∧ l.length ≤ 4 := by
 have := selL_len (P := P) n
 rw [h] at this
 omega
open Go Mv Mw Go.Proofs
theorem e5_ {L : List Int} {n : Nat} (h : L.length = 5 * n) : ((L.length : Nat) : Int).tdiv 5 = (n : Nat) := by
 rw [h, Int.natCast_mul]; exact Int.mul_tdiv_cancel_left _ (by decide)
theorem five_ {L : List Int} {k : Nat} : five L k = [L.getD ((k : Int) * 5).toNat 0, L.getD ((k : Int) * 5 + 1).toNat 0, L.getD ((k : Int) * 5 + 2).toNat 0, L.getD ((k : Int) * 5 + 3).toNat 0, L.getD ((k : Int) * 5 + 4).toNat 0] := by
 unfold five
 rw [show ((k : Int) * 5).toNat = 5 * k by omega, show ((k : Int) * 5 + 1).toNat = 5 * k + 1 by omega, show ((k : Int) * 5 + 2).toNat = 5 * k + 2 by omega, show ((k : Int) * 5 + 3).toNat = 5 * k + 3 by omega, show ((k : Int) * 5 + 4).toNat = 5 * k + 4 by omega]
theorem qfq {x : Int} {X : Prop} (h : x ∈ ([] : List Int)) : X := absurd h List.not_mem_nil
theorem v_NRow (P : Program) : V0 cNRow (ndNRow P) 17 (e_NRow P) := fun ρ hv hΓ hl hp => by
 simp (maxSteps := 20000000) only [VC, oblC, asmC, outAt, ndAt, allTrue, ve, BE.den, LX.den, nv, li, rowP, tT, e_NRow, toE41, toE64, toE84, toE20, toE62, toE63, toE19, toE79, toE30, toE1, toE31, toE28, toE0, toE8, toE88, toE27, toE94, toE90, toE87, toE86, toE83, vob, vsm, vap, cNRow, ndNRow, pR, ndL, spL, otR, iR, kR, cNeed, cSpoil, cShort, cNeX, cNoX, cNeedN, cSpoilN, cShortN, cFined, cTo, cAgents, cPass, qa, pAg, pA, nBe, mel] at hp ⊢
 simp (maxSteps := 20000000) only [vb, qaa, bdRest, bdList, hl, IE.den, forall_eq', implies_true, reduceIte, reduceCtorEq, Nat.reduceAdd, Nat.reduceSub, Nat.reduceLeDiff, Nat.reduceLT, Nat.reduceEqDiff] at hp ⊢
 obtain ⟨h1, h0⟩ := hp
 intro _ _
 refine ⟨by omega, ?_, ?_⟩
 ·intro _ r hr
  generalize (List.map intOf r).getD 0 0 = a at *
  refine ⟨by omega, ?_⟩
  intro _ r1 _ r2 hr1
  generalize (List.map intOf r1).getD 0 0 = b at *
  generalize (List.map intOf r2).getD 0 0 = m at *
  refine ⟨by omega, ?_⟩
  intro _ r3 _ r4 hr2
  generalize (List.map intOf r3).getD 0 0 = c at *
  generalize (List.map intOf r4).getD 0 0 = p at *
  have hB : (0 ≤ m ∧ m ≤ 63) ∧ 0 ≤ p ∧ p ≤ 63 := by omega
  by_cases hC : Can [] p m
  ·exact ⟨hB, fun h => absurd hC h, fun _ => ⟨hB, fun h => absurd hC h, fun _ => ⟨hB, fun h => absurd hC h⟩⟩⟩
  ·exact ⟨hB, fun _ => ⟨hB, fun _ => ⟨hB, fun h => absurd h hC⟩, fun h => absurd h hC⟩, fun h => absurd h hC⟩
 ·intro _ r _ r1 _ r2 hr
  obtain ⟨a0, a1, n, n1, n4, -, hL, hA⟩ := hr
  generalize (List.map intOf r).getD 0 0 = a at *
  generalize List.map intOf r2 = L at *
  have hag : agsV L n := ⟨hL, by omega, fun i hi => agV_mono (hA i hi)⟩
  have hN : nA L = n := nA_of hL
  rw [e5_ hL, hN, Int.toNat_natCast]
  refine ⟨by omega, ?_⟩
  intro _ r1 _ r2 hr1
  generalize (List.map intOf r1).getD 0 0 = b at *
  generalize (List.map intOf r2).getD 0 0 = m at *
  refine ⟨by omega, ?_⟩
  intro _ r3 _ r4 hr2
  generalize (List.map intOf r3).getD 0 0 = c at *
  generalize (List.map intOf r4).getD 0 0 = p at *
  have hB : (1 ≤ (n : Int) ∧ agsV L n) ∧ (0 ≤ m ∧ m ≤ 63) ∧ 0 ≤ p ∧ p ≤ 63 := ⟨⟨by omega, hag⟩, by omega⟩
  by_cases hC : Can (qsA L n) p m
  ·have hPR : PR L m p := by unfold PR; rw [hN]; exact ⟨hag, by omega, by omega, by omega, hC⟩
   exact ⟨hB, fun h => absurd hC h, fun hn => ⟨hB, fun h => absurd hC h, fun hs => ⟨hB, fun h => absurd hC h, fun _ => ⟨hPR, hn.2, hs.2, by omega, by omega⟩, fun _ _ _ _ _ _ _ _ _ => ⟨hPR, hn.2, hs.2, by omega, by omega⟩⟩, fun _ _ _ r7 hs => ⟨hB, fun h => absurd hC h, fun _ => ⟨hPR, hn.2, hs.2.1, hs.2.2.1, by omega, by omega⟩, fun _ _ _ _ _ _ _ _ _ => ⟨hPR, hn.2, hs.2.1, hs.2.2.1, by omega, by omega⟩⟩⟩, fun _ _ _ r6 hn => ⟨hB, fun h => absurd hC h, fun hs => ⟨hB, fun h => absurd hC h, fun _ => ⟨hPR, hn.2.1, hn.2.2.1, hs.2, by omega, by omega⟩, fun _ _ _ _ _ _ _ _ _ => ⟨hPR, hn.2.1, hn.2.2.1, hs.2, by omega, by omega⟩⟩, fun _ _ _ r7 hs => ⟨hB, fun h => absurd hC h, fun _ => ⟨hPR, hn.2.1, hn.2.2.1, hs.2.1, hs.2.2.1, by omega, by omega⟩, fun _ _ _ _ _ _ _ _ _ => ⟨hPR, hn.2.1, hn.2.2.1, hs.2.1, hs.2.2.1, by omega, by omega⟩⟩⟩⟩
  ·exact ⟨hB, fun _ => ⟨hB, fun _ => ⟨hB, fun h => absurd h hC, fun _ _ _ _ _ _ _ _ h => absurd h hC⟩, fun h => absurd h.1 hC, fun _ _ _ _ h => absurd h.1 hC⟩, fun h => absurd h.1 hC, fun _ _ _ _ h => absurd h.1 hC⟩
theorem v_NRow_0 (P : Program) : VN cNRow (ndNRow P) 0 20 (n_NRow_0 P) := fun ρ hv hΓ hl hp => by
 simp (maxSteps := 20000000) only [VC, oblC, asmC, outAt, ndAt, allTrue, ve, BE.den, LX.den, nv, li, rowP, tT, n_NRow_0, toE90, toE92, vob, vsm, cNRow, ndNRow, pR, ndL, spL, otR, iR, kR, cFined] at hp ⊢
 simp (maxSteps := 20000000) only [vb, qaa, bdRest, bdList, hl, IE.den, forall_eq', implies_true, reduceIte, reduceCtorEq, Nat.reduceAdd, Nat.reduceSub, Nat.reduceLeDiff, Nat.reduceLT, Nat.reduceEqDiff] at hp ⊢
 obtain ⟨hR, hn, hs, i0, i1⟩ := hp
 obtain ⟨hag, n1, m, p, hC⟩ := id hR
 have n4 := hag.2.1
 rw [e5_ hag.1]
 exact fun h => ⟨⟨hR, hn, hs, ⟨⟨i0, h⟩, by omega, by omega⟩, rfl⟩, by omega⟩
theorem v_NRow_1 (P : Program) : VN cNRow (ndNRow P) 1 22 (n_NRow_1 P) := fun ρ hv hΓ hl hp => by
 simp (maxSteps := 20000000) only [VC, oblC, asmC, outAt, ndAt, allTrue, ve, BE.den, LX.den, nv, li, rowP, tT, n_NRow_1, toE90, toE80, toE92, vob, vsm, cNRow, ndNRow, pR, ndL, spL, otR, iR, kR, cFined] at hp ⊢
 simp (maxSteps := 20000000) only [vb, qaa, bdRest, bdList, hl, IE.den, forall_eq', implies_true, reduceIte, reduceCtorEq, Nat.reduceAdd, Nat.reduceSub, Nat.reduceLeDiff, Nat.reduceLT, Nat.reduceEqDiff] at hp ⊢
 obtain ⟨hR, hn, hs, ls, i0, i1⟩ := hp
 obtain ⟨hag, n1, m, p, hC⟩ := id hR
 have n4 := hag.2.1
 rw [e5_ hag.1]
 exact fun h => ⟨⟨hR, hn, hs, ls, ⟨⟨i0, h⟩, by omega, by omega⟩, rfl⟩, by omega⟩
theorem v_NRow_2 (P : Program) : VN cNRow (ndNRow P) 2 22 (n_NRow_2 P) := fun ρ hv hΓ hl hp => by
 simp (maxSteps := 20000000) only [VC, oblC, asmC, outAt, ndAt, allTrue, ve, BE.den, LX.den, nv, li, rowP, tT, n_NRow_2, toE90, toE80, toE92, vob, vsm, cNRow, ndNRow, pR, ndL, spL, otR, iR, kR, cFined] at hp ⊢
 simp (maxSteps := 20000000) only [vb, qaa, bdRest, bdList, hl, IE.den, forall_eq', implies_true, reduceIte, reduceCtorEq, Nat.reduceAdd, Nat.reduceSub, Nat.reduceLeDiff, Nat.reduceLT, Nat.reduceEqDiff] at hp ⊢
 obtain ⟨hR, hn, ln, hs, i0, i1⟩ := hp
 obtain ⟨hag, n1, m, p, hC⟩ := id hR
 have n4 := hag.2.1
 rw [e5_ hag.1]
 exact fun h => ⟨⟨hR, hn, ln, hs, ⟨⟨i0, h⟩, by omega, by omega⟩, rfl⟩, by omega⟩
theorem v_NRow_3 (P : Program) : VN cNRow (ndNRow P) 3 24 (n_NRow_3 P) := fun ρ hv hΓ hl hp => by
 simp (maxSteps := 20000000) only [VC, oblC, asmC, outAt, ndAt, allTrue, ve, BE.den, LX.den, nv, li, rowP, tT, n_NRow_3, toE90, toE92, vob, vsm, cNRow, ndNRow, pR, ndL, spL, otR, iR, kR, cFined] at hp ⊢
 simp (maxSteps := 20000000) only [vb, qaa, bdRest, bdList, hl, IE.den, forall_eq', implies_true, reduceIte, reduceCtorEq, Nat.reduceAdd, Nat.reduceSub, Nat.reduceLeDiff, Nat.reduceLT, Nat.reduceEqDiff] at hp ⊢
 obtain ⟨hR, hn, ln, hs, ls, i0, i1⟩ := hp
 obtain ⟨hag, n1, m, p, hC⟩ := id hR
 have n4 := hag.2.1
 rw [e5_ hag.1]
 exact fun h => ⟨⟨hR, hn, ln, hs, ls, ⟨⟨i0, h⟩, by omega, by omega⟩, rfl⟩, by omega⟩
theorem v_NRow_4 (P : Program) : VN cNRow (ndNRow P) 4 20 (n_NRow_4 P) := fun ρ hv hΓ hl hp => by
 simp (maxSteps := 20000000) only [VC, oblC, asmC, outAt, ndAt, allTrue, ve, BE.den, LX.den, nv, li, rowP, tT, n_NRow_4, toE50, toE85, toE65, toE91, toE32, toE95, toE96, toE93, toE12, toE89, vob, vsm, vap, cNRow, ndNRow, pR, ndL, spL, otR, iR, kR, cShort, cNoX, cShortN, cFoll, qa, pAg, pA, nBe, mel, box3] at hp ⊢
 simp (maxSteps := 20000000) only [vb, qaa, bdRest, bdList, hl, IE.den, forall_eq', implies_true, reduceIte, reduceCtorEq, Nat.reduceAdd, Nat.reduceSub, Nat.reduceLeDiff, Nat.reduceLT, Nat.reduceEqDiff] at hp ⊢
 obtain ⟨hR, hn, hs, ⟨⟨i0, i1⟩, k0, k1⟩, ho⟩ := hp
 obtain ⟨hag, n1, m, p, hC⟩ := id hR
 have hL := hag.1
 have n4 := hag.2.1
 generalize nA (ρ.list 82) = n at *
 simp only [e5_ hL, Int.toNat_natCast]
 generalize (ρ.list 83).getD 2 0 = i at *
 obtain ⟨i, rfl⟩ := Int.eq_ofNat_of_zero_le i0
 generalize (ρ.list 83).getD 3 0 = k at *
 obtain ⟨k, rfl⟩ := Int.eq_ofNat_of_zero_le k0
 simp only [Int.toNat_natCast] at *
 have hi : i < n := by omega
 have qn := qdg hn hi
 have qs := qdg hs hi
 unfold needV at qn
 unfold spoilV at qs
 rw [qdy hi] at qs
 refine ⟨fun h => ⟨fun hk => ?_, fun hk => ?_⟩, fun h => ?_⟩
 ·refine ⟨by omega, fun _ _ _ _ => ⟨⟨hR, hn, hs, ⟨⟨i0, i1⟩, by omega, by omega⟩, ?_, Nat.le_refl _⟩, by omega⟩⟩
  rw [show ((k : Int) + 1).toNat = k + 1 by omega, qej (by omega), ho]
  rw [five_]; rfl
 ·refine ⟨⟨hR, hn, hs, ⟨⟨i0, i1⟩, by omega, by omega⟩, ?_⟩, by omega⟩
  rw [show ((k : Int) + 1).toNat = i + 1 by omega, qek, ← ho, show k = i by omega]
 ·have kn : k = n := by omega
  subst kn
  have e := oth_qs (L := ρ.list 82) hi
  have lO := qbj (ρ.list 82) i k
  rw [if_pos hi, ho] at lO
  rw [ho] at e
  have k1 : k - 1 = 0 := by have : ([] : List Int).length = 0 := rfl; omega
  rw [k1] at e
  refine ⟨⟨m, p⟩, fun hc => qfq (qn.2 (by rw [← e]; exact hc)), fun hc => ?_⟩ <;> refine fun _ _ => ⟨⟨⟨by omega, hag⟩, m, by omega⟩, fun hm => ?_, fun _ r hr => ⟨⟨⟨by omega, hag⟩, hr.2.2, p⟩, fun hc => qfq (qs.2 ⟨hr.1, by rw [← hr.2.1]; exact hc⟩), fun hc => ?_, fun _ _ _ _ _ _ _ _ hc => ?_⟩⟩ <;> exact ⟨⟨hR, hn, hs, by omega, by omega⟩, by omega⟩
theorem v_NRow_5 (P : Program) : VN cNRow (ndNRow P) 5 22 (n_NRow_5 P) := fun ρ hv hΓ hl hp => by
 simp (maxSteps := 20000000) only [VC, oblC, asmC, appAsm, outAt, ndAt, allTrue, ve, BE.den, LX.den, nv, li, rowP, tT, n_NRow_5, toE14, toE53, toE85, toE22, toE34, toE95, toE96, toE13, toE52, toE29, toE21, toE33, toE65, toE91, toE51, toE66, toE89, vob, vsm, vap, cNRow, ndNRow, pR, ndL, spL, otR, iR, kR, cShort, cFoll, qa, pAg, pA, nBe, mel, box3] at hp ⊢
 simp (maxSteps := 20000000) only [vb, qaa, bdRest, bdList, hl, IE.den, forall_eq', implies_true, reduceIte, reduceCtorEq, Nat.reduceAdd, Nat.reduceSub, Nat.reduceLeDiff, Nat.reduceLT, Nat.reduceEqDiff] at hp ⊢
 obtain ⟨hR, hn, hs, ⟨⟨i0, i1⟩, k0, k1⟩, ho, lo⟩ := hp
 obtain ⟨hag, n1, m, p, hC⟩ := id hR
 have hL := hag.1
 have n4 := hag.2.1
 generalize nA (ρ.list 82) = n at *
 simp only [e5_ hL, Int.toNat_natCast]
 generalize (ρ.list 83).getD 2 0 = i at *
 obtain ⟨i, rfl⟩ := Int.eq_ofNat_of_zero_le i0
 generalize (ρ.list 83).getD 3 0 = k at *
 obtain ⟨k, rfl⟩ := Int.eq_ofNat_of_zero_le k0
 simp only [Int.toNat_natCast] at *
 have hi : i < n := by omega
 have qn := qdg hn hi
 have qs := qdg hs hi
 unfold needV at qn
 unfold spoilV at qs
 rw [qdy hi] at qs
 refine ⟨fun h => ⟨fun hk => ?_, fun hk => ?_⟩, fun h => ?_⟩
 ·obtain ⟨q, lO⟩ : ∃ q, (ρ.list 85).length = 5 * q := ⟨_, ho ▸ qbj (ρ.list 82) i k⟩
  have e9 := e5_ lO
  refine ⟨by omega, fun _ _ => ⟨by rw [e9]; omega, fun _ r hr _ _ => ⟨⟨hR, hn, hs, ⟨⟨i0, i1⟩, by omega, by omega⟩, ?_, ?_⟩, by omega⟩⟩⟩
  ·rw [show ((k : Int) + 1).toNat = k + 1 by omega, qej (by omega), ho, hr]
   rw [five_]
  ·rw [hr, List.length_append]; omega
 ·refine ⟨⟨hR, hn, hs, ⟨⟨i0, i1⟩, by omega, by omega⟩, ?_, lo⟩, by omega⟩
  rw [show ((k : Int) + 1).toNat = i + 1 by omega, qek, ← ho, show k = i by omega]
 ·have kn : k = n := by omega
  subst kn
  have e := oth_qs (L := ρ.list 82) hi
  have lO := qbj (ρ.list 82) i k
  rw [if_pos hi, ho] at lO
  rw [ho] at e
  have e9 : ((ρ.list 85).length : Int).tdiv 5 = ((k - 1 : Nat) : Int) := e5_ lO
  have hO := oth_ags hag hi
  rw [ho] at hO
  simp only [e9, Int.toNat_natCast]
  refine ⟨⟨⟨by omega, hO⟩, m, p⟩, fun hc => qfq (qn.2 (by rw [← e]; exact hc)), fun hc => ?_, fun _ _ _ _ _ _ _ _ hc => ?_⟩ <;> refine fun _ _ => ⟨⟨⟨by omega, hag⟩, m, by omega⟩, fun hm => ?_, fun _ r hr => ⟨⟨⟨by omega, hag⟩, hr.2.2, p⟩, fun hc => qfq (qs.2 ⟨hr.1, by rw [← hr.2.1]; exact hc⟩), fun hc => ?_, fun _ _ _ _ _ _ _ _ hc => ?_⟩⟩ <;> exact ⟨⟨hR, hn, hs, by omega, by omega⟩, by omega⟩
theorem v_NRow_6 (P : Program) : VN cNRow (ndNRow P) 6 22 (n_NRow_6 P) := fun ρ hv hΓ hl hp => by
 simp (maxSteps := 20000000) only [VC, oblC, asmC, outAt, ndAt, allTrue, ve, BE.den, LX.den, nv, li, rowP, tT, n_NRow_6, toE45, toE81, toE95, toE13, toE52, toE85, toE44, toE69, toE42, toE78, toE91, toE67, toE21, toE33, toE96, toE11, toE93, toE66, toE89, toE9, toE12, vob, vsm, vap, cNRow, ndNRow, pR, ndL, spL, otR, iR, kR, cShort, cNoX, cShortN, cFoll, cFind, qa, pAg, pA, pL, nBe, mel, box3] at hp ⊢
 simp (maxSteps := 20000000) only [vb, qaa, bdRest, bdList, hl, IE.den, forall_eq', implies_true, reduceIte, reduceCtorEq, Nat.reduceAdd, Nat.reduceSub, Nat.reduceLeDiff, Nat.reduceLT, Nat.reduceEqDiff] at hp ⊢
 obtain ⟨hR, hn, hs, ls, ⟨⟨i0, i1⟩, k0, k1⟩, ho⟩ := hp
 obtain ⟨hag, n1, m, p, hC⟩ := id hR
 have hL := hag.1
 have n4 := hag.2.1
 generalize nA (ρ.list 82) = n at *
 simp only [e5_ hL, Int.toNat_natCast]
 generalize (ρ.list 83).getD 2 0 = i at *
 obtain ⟨i, rfl⟩ := Int.eq_ofNat_of_zero_le i0
 generalize (ρ.list 83).getD 3 0 = k at *
 obtain ⟨k, rfl⟩ := Int.eq_ofNat_of_zero_le k0
 simp only [Int.toNat_natCast] at *
 have hi : i < n := by omega
 have qn := qdg hn hi
 have qs := qdg hs hi
 unfold needV at qn
 unfold spoilV at qs
 rw [qdy hi] at qs
 have LS := qbq hs n4 ls
 refine ⟨fun h => ⟨fun hk => ?_, fun hk => ?_⟩, fun h => ?_⟩
 ·refine ⟨by omega, fun _ _ _ _ => ⟨⟨hR, hn, hs, ls, ⟨⟨i0, i1⟩, by omega, by omega⟩, ?_, Nat.le_refl _⟩, by omega⟩⟩
  rw [show ((k : Int) + 1).toNat = k + 1 by omega, qej (by omega), ho]
  rw [five_]; rfl
 ·refine ⟨⟨hR, hn, hs, ls, ⟨⟨i0, i1⟩, by omega, by omega⟩, ?_⟩, by omega⟩
  rw [show ((k : Int) + 1).toNat = i + 1 by omega, qek, ← ho, show k = i by omega]
 ·have kn : k = n := by omega
  subst kn
  have e := oth_qs (L := ρ.list 82) hi
  have lO := qbj (ρ.list 82) i k
  rw [if_pos hi, ho] at lO
  rw [ho] at e
  have k1 : k - 1 = 0 := by have : ([] : List Int).length = 0 := rfl; omega
  rw [k1] at e
  refine ⟨⟨m, p⟩, fun hc => qfq (qn.2 (by rw [← e]; exact hc)), fun hc => ?_⟩ <;> refine fun _ _ => ⟨⟨⟨by omega, hag⟩, m, by omega⟩, fun hm => findB LS (fun h => by have h := (qs.1 h).1; rw [hm] at h; exact absurd h (by decide)) ?_, fun _ r hr => ⟨⟨⟨by omega, hag⟩, hr.2.2, p⟩, fun hc => findA LS (qs.2 ⟨hr.1, by rw [← hr.2.1]; exact hc⟩) ?_, fun hc => findB LS (fun h => (qs.1 h).2 (by rw [← hr.2.1]; exact hc)) ?_, fun _ _ _ _ _ _ _ _ hc => findB LS (fun h => (qs.1 h).2 (by rw [← hr.2.1]; exact hc)) ?_⟩⟩ <;> exact ⟨⟨hR, hn, hs, ls, by omega, by omega⟩, by omega⟩
theorem v_NRow_7 (P : Program) : VN cNRow (ndNRow P) 7 24 (n_NRow_7 P) := fun ρ hv hΓ hl hp => by
 simp (maxSteps := 20000000) only [VC, oblC, asmC, appAsm, outAt, ndAt, allTrue, ve, BE.den, LX.den, nv, li, rowP, tT, n_NRow_7, toE17, toE56, toE85, toE71, toE81, toE95, toE24, toE36, toE96, toE16, toE54, toE7, toE47, toE11, toE42, toE78, toE91, toE15, toE55, toE46, toE70, toE67, toE23, toE35, toE49, toE89, toE48, vob, vsm, vap, cNRow, ndNRow, pR, ndL, spL, otR, iR, kR, cShort, cFoll, cFind, qa, pAg, pA, pL, nBe, mel, box3] at hp ⊢
 simp (maxSteps := 20000000) only [vb, qaa, bdRest, bdList, hl, IE.den, forall_eq', implies_true, reduceIte, reduceCtorEq, Nat.reduceAdd, Nat.reduceSub, Nat.reduceLeDiff, Nat.reduceLT, Nat.reduceEqDiff] at hp ⊢
 obtain ⟨hR, hn, hs, ls, ⟨⟨i0, i1⟩, k0, k1⟩, ho, lo⟩ := hp
 obtain ⟨hag, n1, m, p, hC⟩ := id hR
 have hL := hag.1
 have n4 := hag.2.1
 generalize nA (ρ.list 82) = n at *
 simp only [e5_ hL, Int.toNat_natCast]
 generalize (ρ.list 83).getD 2 0 = i at *
 obtain ⟨i, rfl⟩ := Int.eq_ofNat_of_zero_le i0
 generalize (ρ.list 83).getD 3 0 = k at *
 obtain ⟨k, rfl⟩ := Int.eq_ofNat_of_zero_le k0
 simp only [Int.toNat_natCast] at *
 have hi : i < n := by omega
 have qn := qdg hn hi
 have qs := qdg hs hi
 unfold needV at qn
 unfold spoilV at qs
 rw [qdy hi] at qs
 have LS := qbq hs n4 ls
 refine ⟨fun h => ⟨fun hk => ?_, fun hk => ?_⟩, fun h => ?_⟩
 ·obtain ⟨q, lO⟩ : ∃ q, (ρ.list 87).length = 5 * q := ⟨_, ho ▸ qbj (ρ.list 82) i k⟩
  have e9 := e5_ lO
  refine ⟨by omega, fun _ _ => ⟨by rw [e9]; omega, fun _ r hr _ _ => ⟨⟨hR, hn, hs, ls, ⟨⟨i0, i1⟩, by omega, by omega⟩, ?_, ?_⟩, by omega⟩⟩⟩
  ·rw [show ((k : Int) + 1).toNat = k + 1 by omega, qej (by omega), ho, hr]
   rw [five_]
  ·rw [hr, List.length_append]; omega
 ·refine ⟨⟨hR, hn, hs, ls, ⟨⟨i0, i1⟩, by omega, by omega⟩, ?_, lo⟩, by omega⟩
  rw [show ((k : Int) + 1).toNat = i + 1 by omega, qek, ← ho, show k = i by omega]
 ·have kn : k = n := by omega
  subst kn
  have e := oth_qs (L := ρ.list 82) hi
  have lO := qbj (ρ.list 82) i k
  rw [if_pos hi, ho] at lO
  rw [ho] at e
  have e9 : ((ρ.list 87).length : Int).tdiv 5 = ((k - 1 : Nat) : Int) := e5_ lO
  have hO := oth_ags hag hi
  rw [ho] at hO
  simp only [e9, Int.toNat_natCast]
  refine ⟨⟨⟨by omega, hO⟩, m, p⟩, fun hc => qfq (qn.2 (by rw [← e]; exact hc)), fun hc => ?_, fun _ _ _ _ _ _ _ _ hc => ?_⟩ <;> refine fun _ _ => ⟨⟨⟨by omega, hag⟩, m, by omega⟩, fun hm => findB LS (fun h => by have h := (qs.1 h).1; rw [hm] at h; exact absurd h (by decide)) ?_, fun _ r hr => ⟨⟨⟨by omega, hag⟩, hr.2.2, p⟩, fun hc => findA LS (qs.2 ⟨hr.1, by rw [← hr.2.1]; exact hc⟩) ?_, fun hc => findB LS (fun h => (qs.1 h).2 (by rw [← hr.2.1]; exact hc)) ?_, fun _ _ _ _ _ _ _ _ hc => findB LS (fun h => (qs.1 h).2 (by rw [← hr.2.1]; exact hc)) ?_⟩⟩ <;> exact ⟨⟨hR, hn, hs, ls, by omega, by omega⟩, by omega⟩
theorem v_NRow_8 (P : Program) : VN cNRow (ndNRow P) 8 22 (n_NRow_8 P) := fun ρ hv hΓ hl hp => by
 simp (maxSteps := 20000000) only [VC, oblC, asmC, outAt, ndAt, allTrue, ve, BE.den, LX.den, nv, li, rowP, tT, n_NRow_8, toE13, toE52, toE85, toE29, toE21, toE33, toE95, toE96, toE57, toE43, toE78, toE91, toE37, toE72, toE81, toE67, toE93, toE66, toE89, toE9, toE12, vob, vsm, vap, cNRow, ndNRow, pR, ndL, spL, otR, iR, kR, cShort, cNoX, cShortN, cFoll, cFind, qa, pAg, pA, pL, nBe, mel, box3] at hp ⊢
 simp (maxSteps := 20000000) only [vb, qaa, bdRest, bdList, hl, IE.den, forall_eq', implies_true, reduceIte, reduceCtorEq, Nat.reduceAdd, Nat.reduceSub, Nat.reduceLeDiff, Nat.reduceLT, Nat.reduceEqDiff] at hp ⊢
 obtain ⟨hR, hn, ln, hs, ⟨⟨i0, i1⟩, k0, k1⟩, ho⟩ := hp
 obtain ⟨hag, n1, m, p, hC⟩ := id hR
 have hL := hag.1
 have n4 := hag.2.1
 generalize nA (ρ.list 82) = n at *
 simp only [e5_ hL, Int.toNat_natCast]
 generalize (ρ.list 83).getD 2 0 = i at *
 obtain ⟨i, rfl⟩ := Int.eq_ofNat_of_zero_le i0
 generalize (ρ.list 83).getD 3 0 = k at *
 obtain ⟨k, rfl⟩ := Int.eq_ofNat_of_zero_le k0
 simp only [Int.toNat_natCast] at *
 have hi : i < n := by omega
 have qn := qdg hn hi
 have qs := qdg hs hi
 unfold needV at qn
 unfold spoilV at qs
 rw [qdy hi] at qs
 have LN := qbq hn n4 ln
 refine ⟨fun h => ⟨fun hk => ?_, fun hk => ?_⟩, fun h => ?_⟩
 ·refine ⟨by omega, fun _ _ _ _ => ⟨⟨hR, hn, ln, hs, ⟨⟨i0, i1⟩, by omega, by omega⟩, ?_, Nat.le_refl _⟩, by omega⟩⟩
  rw [show ((k : Int) + 1).toNat = k + 1 by omega, qej (by omega), ho]
  rw [five_]; rfl
 ·refine ⟨⟨hR, hn, ln, hs, ⟨⟨i0, i1⟩, by omega, by omega⟩, ?_⟩, by omega⟩
  rw [show ((k : Int) + 1).toNat = i + 1 by omega, qek, ← ho, show k = i by omega]
 ·have kn : k = n := by omega
  subst kn
  have e := oth_qs (L := ρ.list 82) hi
  have lO := qbj (ρ.list 82) i k
  rw [if_pos hi, ho] at lO
  rw [ho] at e
  have k1 : k - 1 = 0 := by have : ([] : List Int).length = 0 := rfl; omega
  rw [k1] at e
  refine ⟨⟨m, p⟩, fun hc => findA LN (qn.2 (by rw [← e]; exact hc)) ?_, fun hc => findB LN (fun h => qn.1 h (by rw [← e]; exact hc)) ?_⟩ <;> refine fun _ _ => ⟨⟨⟨by omega, hag⟩, m, by omega⟩, fun hm => ?_, fun _ r hr => ⟨⟨⟨by omega, hag⟩, hr.2.2, p⟩, fun hc => qfq (qs.2 ⟨hr.1, by rw [← hr.2.1]; exact hc⟩), fun hc => ?_, fun _ _ _ _ _ _ _ _ hc => ?_⟩⟩ <;> exact ⟨⟨hR, hn, ln, hs, by omega, by omega⟩, by omega⟩
theorem v_NRow_9 (P : Program) : VN cNRow (ndNRow P) 9 24 (n_NRow_9 P) := fun ρ hv hΓ hl hp => by
 simp (maxSteps := 20000000) only [VC, oblC, asmC, appAsm, outAt, ndAt, allTrue, ve, BE.den, LX.den, nv, li, rowP, tT, n_NRow_9, toE45, toE81, toE95, toE17, toE56, toE85, toE24, toE36, toE96, toE16, toE54, toE44, toE69, toE15, toE55, toE23, toE35, toE18, toE58, toE25, toE38, toE43, toE78, toE91, toE67, toE49, toE89, toE48, vob, vsm, vap, cNRow, ndNRow, pR, ndL, spL, otR, iR, kR, cShort, cFoll, cFind, qa, pAg, pA, pL, nBe, mel, box3] at hp ⊢
 simp (maxSteps := 20000000) only [vb, qaa, bdRest, bdList, hl, IE.den, forall_eq', implies_true, reduceIte, reduceCtorEq, Nat.reduceAdd, Nat.reduceSub, Nat.reduceLeDiff, Nat.reduceLT, Nat.reduceEqDiff] at hp ⊢
 obtain ⟨hR, hn, ln, hs, ⟨⟨i0, i1⟩, k0, k1⟩, ho, lo⟩ := hp
 obtain ⟨hag, n1, m, p, hC⟩ := id hR
 have hL := hag.1
 have n4 := hag.2.1
 generalize nA (ρ.list 82) = n at *
 simp only [e5_ hL, Int.toNat_natCast]
 generalize (ρ.list 83).getD 2 0 = i at *
 obtain ⟨i, rfl⟩ := Int.eq_ofNat_of_zero_le i0
 generalize (ρ.list 83).getD 3 0 = k at *
 obtain ⟨k, rfl⟩ := Int.eq_ofNat_of_zero_le k0
 simp only [Int.toNat_natCast] at *
 have hi : i < n := by omega
 have qn := qdg hn hi
 have qs := qdg hs hi
 unfold needV at qn
 unfold spoilV at qs
 rw [qdy hi] at qs
 have LN := qbq hn n4 ln
 refine ⟨fun h => ⟨fun hk => ?_, fun hk => ?_⟩, fun h => ?_⟩
 ·obtain ⟨q, lO⟩ : ∃ q, (ρ.list 87).length = 5 * q := ⟨_, ho ▸ qbj (ρ.list 82) i k⟩
  have e9 := e5_ lO
  refine ⟨by omega, fun _ _ => ⟨by rw [e9]; omega, fun _ r hr _ _ => ⟨⟨hR, hn, ln, hs, ⟨⟨i0, i1⟩, by omega, by omega⟩, ?_, ?_⟩, by omega⟩⟩⟩
  ·rw [show ((k : Int) + 1).toNat = k + 1 by omega, qej (by omega), ho, hr]
   rw [five_]
  ·rw [hr, List.length_append]; omega
 ·refine ⟨⟨hR, hn, ln, hs, ⟨⟨i0, i1⟩, by omega, by omega⟩, ?_, lo⟩, by omega⟩
  rw [show ((k : Int) + 1).toNat = i + 1 by omega, qek, ← ho, show k = i by omega]
 ·have kn : k = n := by omega
  subst kn
  have e := oth_qs (L := ρ.list 82) hi
  have lO := qbj (ρ.list 82) i k
  rw [if_pos hi, ho] at lO
  rw [ho] at e
  have e9 : ((ρ.list 87).length : Int).tdiv 5 = ((k - 1 : Nat) : Int) := e5_ lO
  have hO := oth_ags hag hi
  rw [ho] at hO
  simp only [e9, Int.toNat_natCast]
  refine ⟨⟨⟨by omega, hO⟩, m, p⟩, fun hc => findA LN (qn.2 (by rw [← e]; exact hc)) ?_, fun hc => findB LN (fun h => qn.1 h (by rw [← e]; exact hc)) ?_, fun _ _ _ _ _ _ _ _ hc => findB LN (fun h => qn.1 h (by rw [← e]; exact hc)) ?_⟩ <;> refine fun _ _ => ⟨⟨⟨by omega, hag⟩, m, by omega⟩, fun hm => ?_, fun _ r hr => ⟨⟨⟨by omega, hag⟩, hr.2.2, p⟩, fun hc => qfq (qs.2 ⟨hr.1, by rw [← hr.2.1]; exact hc⟩), fun hc => ?_, fun _ _ _ _ _ _ _ _ hc => ?_⟩⟩ <;> exact ⟨⟨hR, hn, ln, hs, by omega, by omega⟩, by omega⟩
theorem v_NRow_10 (P : Program) : VN cNRow (ndNRow P) 10 24 (n_NRow_10 P) := fun ρ hv hΓ hl hp => by
 simp (maxSteps := 20000000) only [VC, oblC, asmC, outAt, ndAt, allTrue, ve, BE.den, LX.den, nv, li, rowP, tT, n_NRow_10, toE44, toE69, toE81, toE95, toE15, toE55, toE85, toE74, toE82, toE23, toE35, toE96, toE10, toE26, toE91, toE4, toE18, toE58, toE3, toE73, toE68, toE25, toE38, toE2, toE67, toE93, toE49, toE89, toE12, vob, vsm, vap, cNRow, ndNRow, pR, ndL, spL, otR, iR, kR, cShort, cNoX, cShortN, cFoll, cFind, qa, pAg, pA, pL, nBe, mel, box3] at hp ⊢
 simp (maxSteps := 20000000) only [vb, qaa, bdRest, bdList, hl, IE.den, forall_eq', implies_true, reduceIte, reduceCtorEq, Nat.reduceAdd, Nat.reduceSub, Nat.reduceLeDiff, Nat.reduceLT, Nat.reduceEqDiff] at hp ⊢
 obtain ⟨hR, hn, ln, hs, ls, ⟨⟨i0, i1⟩, k0, k1⟩, ho⟩ := hp
 obtain ⟨hag, n1, m, p, hC⟩ := id hR
 have hL := hag.1
 have n4 := hag.2.1
 generalize nA (ρ.list 82) = n at *
 simp only [e5_ hL, Int.toNat_natCast]
 generalize (ρ.list 83).getD 2 0 = i at *
 obtain ⟨i, rfl⟩ := Int.eq_ofNat_of_zero_le i0
 generalize (ρ.list 83).getD 3 0 = k at *
 obtain ⟨k, rfl⟩ := Int.eq_ofNat_of_zero_le k0
 simp only [Int.toNat_natCast] at *
 have hi : i < n := by omega
 have qn := qdg hn hi
 have qs := qdg hs hi
 unfold needV at qn
 unfold spoilV at qs
 rw [qdy hi] at qs
 have LN := qbq hn n4 ln
 have LS := qbq hs n4 ls
 refine ⟨fun h => ⟨fun hk => ?_, fun hk => ?_⟩, fun h => ?_⟩
 ·refine ⟨by omega, fun _ _ _ _ => ⟨⟨hR, hn, ln, hs, ls, ⟨⟨i0, i1⟩, by omega, by omega⟩, ?_, Nat.le_refl _⟩, by omega⟩⟩
  rw [show ((k : Int) + 1).toNat = k + 1 by omega, qej (by omega), ho]
  rw [five_]; rfl
 ·refine ⟨⟨hR, hn, ln, hs, ls, ⟨⟨i0, i1⟩, by omega, by omega⟩, ?_⟩, by omega⟩
  rw [show ((k : Int) + 1).toNat = i + 1 by omega, qek, ← ho, show k = i by omega]
 ·have kn : k = n := by omega
  subst kn
  have e := oth_qs (L := ρ.list 82) hi
  have lO := qbj (ρ.list 82) i k
  rw [if_pos hi, ho] at lO
  rw [ho] at e
  have k1 : k - 1 = 0 := by have : ([] : List Int).length = 0 := rfl; omega
  rw [k1] at e
  refine ⟨⟨m, p⟩, fun hc => findA LN (qn.2 (by rw [← e]; exact hc)) ?_, fun hc => findB LN (fun h => qn.1 h (by rw [← e]; exact hc)) ?_⟩ <;> refine fun _ _ => ⟨⟨⟨by omega, hag⟩, m, by omega⟩, fun hm => findB LS (fun h => by have h := (qs.1 h).1; rw [hm] at h; exact absurd h (by decide)) ?_, fun _ r hr => ⟨⟨⟨by omega, hag⟩, hr.2.2, p⟩, fun hc => findA LS (qs.2 ⟨hr.1, by rw [← hr.2.1]; exact hc⟩) ?_, fun hc => findB LS (fun h => (qs.1 h).2 (by rw [← hr.2.1]; exact hc)) ?_, fun _ _ _ _ _ _ _ _ hc => findB LS (fun h => (qs.1 h).2 (by rw [← hr.2.1]; exact hc)) ?_⟩⟩ <;> exact ⟨⟨hR, hn, ln, hs, ls, by omega, by omega⟩, by omega⟩
theorem v_NRow_11 (P : Program) : VN cNRow (ndNRow P) 11 26 (n_NRow_11 P) := fun ρ hv hΓ hl hp => by
 simp (maxSteps := 20000000) only [VC, oblC, asmC, appAsm, outAt, ndAt, allTrue, ve, BE.den, LX.den, nv, li, rowP, tT, n_NRow_11, toE47, toE71, toE81, toE95, toE77, toE82, toE61, toE85, toE4, toE10, toE26, toE91, toE40, toE96, toE46, toE70, toE6, toE14, toE53, toE76, toE22, toE34, toE3, toE73, toE75, toE68, toE60, toE5, toE39, toE67, toE59, toE89, vob, vsm, vap, cNRow, ndNRow, pR, ndL, spL, otR, iR, kR, cShort, cFoll, cFind, qa, pAg, pA, pL, nBe, mel, box3] at hp ⊢
 simp (maxSteps := 20000000) only [vb, qaa, bdRest, bdList, hl, IE.den, forall_eq', implies_true, reduceIte, reduceCtorEq, Nat.reduceAdd, Nat.reduceSub, Nat.reduceLeDiff, Nat.reduceLT, Nat.reduceEqDiff] at hp ⊢
 obtain ⟨hR, hn, ln, hs, ls, ⟨⟨i0, i1⟩, k0, k1⟩, ho, lo⟩ := hp
 obtain ⟨hag, n1, m, p, hC⟩ := id hR
 have hL := hag.1
 have n4 := hag.2.1
 generalize nA (ρ.list 82) = n at *
 simp only [e5_ hL, Int.toNat_natCast]
 generalize (ρ.list 83).getD 2 0 = i at *
 obtain ⟨i, rfl⟩ := Int.eq_ofNat_of_zero_le i0
 generalize (ρ.list 83).getD 3 0 = k at *
 obtain ⟨k, rfl⟩ := Int.eq_ofNat_of_zero_le k0
 simp only [Int.toNat_natCast] at *
 have hi : i < n := by omega
 have qn := qdg hn hi
 have qs := qdg hs hi
 unfold needV at qn
 unfold spoilV at qs
 rw [qdy hi] at qs
 have LN := qbq hn n4 ln
 have LS := qbq hs n4 ls
 refine ⟨fun h => ⟨fun hk => ?_, fun hk => ?_⟩, fun h => ?_⟩
 ·obtain ⟨q, lO⟩ : ∃ q, (ρ.list 89).length = 5 * q := ⟨_, ho ▸ qbj (ρ.list 82) i k⟩
  have e9 := e5_ lO
  refine ⟨by omega, fun _ _ => ⟨by rw [e9]; omega, fun _ r hr _ _ => ⟨⟨hR, hn, ln, hs, ls, ⟨⟨i0, i1⟩, by omega, by omega⟩, ?_, ?_⟩, by omega⟩⟩⟩
  ·rw [show ((k : Int) + 1).toNat = k + 1 by omega, qej (by omega), ho, hr]
   rw [five_]
  ·rw [hr, List.length_append]; omega
 ·refine ⟨⟨hR, hn, ln, hs, ls, ⟨⟨i0, i1⟩, by omega, by omega⟩, ?_, lo⟩, by omega⟩
  rw [show ((k : Int) + 1).toNat = i + 1 by omega, qek, ← ho, show k = i by omega]
 ·have kn : k = n := by omega
  subst kn
  have e := oth_qs (L := ρ.list 82) hi
  have lO := qbj (ρ.list 82) i k
  rw [if_pos hi, ho] at lO
  rw [ho] at e
  have e9 : ((ρ.list 89).length : Int).tdiv 5 = ((k - 1 : Nat) : Int) := e5_ lO
  have hO := oth_ags hag hi
  rw [ho] at hO
  simp only [e9, Int.toNat_natCast]
  refine ⟨⟨⟨by omega, hO⟩, m, p⟩, fun hc => findA LN (qn.2 (by rw [← e]; exact hc)) ?_, fun hc => findB LN (fun h => qn.1 h (by rw [← e]; exact hc)) ?_, fun _ _ _ _ _ _ _ _ hc => findB LN (fun h => qn.1 h (by rw [← e]; exact hc)) ?_⟩ <;> refine fun _ _ => ⟨⟨⟨by omega, hag⟩, m, by omega⟩, fun hm => findB LS (fun h => by have h := (qs.1 h).1; rw [hm] at h; exact absurd h (by decide)) ?_, fun _ r hr => ⟨⟨⟨by omega, hag⟩, hr.2.2, p⟩, fun hc => findA LS (qs.2 ⟨hr.1, by rw [← hr.2.1]; exact hc⟩) ?_, fun hc => findB LS (fun h => (qs.1 h).2 (by rw [← hr.2.1]; exact hc)) ?_, fun _ _ _ _ _ _ _ _ hc => findB LS (fun h => (qs.1 h).2 (by rw [← hr.2.1]; exact hc)) ?_⟩⟩ <;> exact ⟨⟨hR, hn, ln, hs, ls, by omega, by omega⟩, by omega⟩
theorem v_NRow_12 (P : Program) : VN cNRow (ndNRow P) 12 17 (n_NRow_12 P) := fun ρ hv hΓ hl hp => by
 simp (maxSteps := 20000000) only [VC, oblC, asmC, outAt, ndAt, allTrue, ve, BE.den, LX.den, nv, li, rowP, tT, n_NRow_12, toE90, vob, vsm, cNRow, ndNRow, pR, ndL, spL, otR, iR, kR, cFined] at hp ⊢
 simp (maxSteps := 20000000) only [vb, qaa, bdRest, bdList, hl, IE.den, forall_eq', implies_true, reduceIte, reduceCtorEq, Nat.reduceAdd, Nat.reduceSub, Nat.reduceLeDiff, Nat.reduceLT, Nat.reduceEqDiff] at hp ⊢
theorem hkM_ok (main : Co) : HkOk Tryz.prog main (Xm Tryz.prog).hk :=
 qau hApp_ok (qau hHStore_ok (qau hMap_ok (qau (qbr xTA_ok) hInv_ok)))
def e_Find (P : Program) : VT := (.jump 0 [.keep 16, .keep 17, .keep 18, .keep 19, .ints [(oN 0)]] (ndAt (ndFind P) 0).items)
def n_Find_0 (P : Program) : VT := (.branch (.lt (h0 84) (h0 82))
(.need [(.lt (h0 84) (.len 81))] (.branch (.eq (.nth 81 (h0 84)) (h0 83))
(.ret 1 [.keep 16, .keep 17, .keep 18, .keep 19, .ints [(h0 84)]])
(.jump 0 [.keep 16, .keep 17, .keep 18, .keep 19, .ints [(.add (h0 84) (oN 1))]] (ndAt (ndFind P) 0).items)))
(.ret 0 [.keep 16, .keep 17, .keep 18, .keep 19]))
theorem v_Find (P : Program) : V0 cFind (ndFind P) 20 (e_Find P) := fun ρ hv hΓ hl hp => by
 simp only [VC, outAt, ndAt, allTrue, ve, BE.den, LX.den, nv, li, tT, e_Find, ndFind, cFind, pL] at hp ⊢
 simp only [vb, bdList, hl, IE.den, forall_eq', implies_true, reduceIte, reduceCtorEq, Nat.reduceAdd, Nat.reduceSub, Nat.reduceLeDiff, Nat.reduceLT, Nat.reduceEqDiff] at hp ⊢
 exact ⟨hp, by omega, by omega, by omega⟩
theorem below_succ {p : Nat → Prop} {k : Int} (h0 : 0 ≤ k) (h : ∀ j : Nat, (j : Int) < k → p j) (hk : p k.toNat) : ∀ j : Nat, (j : Int) < k + 1 → p j := fun j hj => by
 by_cases e : (j : Int) < k
 ·exact h j e
 ·have : j = k.toNat := by omega
  rw [this]; exact hk
theorem v_Find_0 (P : Program) : VN cFind (ndFind P) 0 21 (n_Find_0 P) := fun ρ hv hΓ hl hp => by
 simp only [VC, outAt, ndAt, allTrue, ve, BE.den, LX.den, nv, li, tT, n_Find_0, ndFind, cFind, pL] at hp ⊢
 simp only [vb, bdList, hl, IE.den, forall_eq', implies_true, reduceIte, reduceCtorEq, Nat.reduceAdd, Nat.reduceSub, Nat.reduceLeDiff, Nat.reduceLT, Nat.reduceEqDiff] at hp ⊢
 obtain ⟨⟨p1, p2, p3⟩, p4, p5, p6⟩ := hp
 exact ⟨fun hlt => ⟨by omega, fun he => ⟨p4, hlt, he⟩, fun he => ⟨⟨⟨p1, p2, p3⟩, by omega, by omega, below_succ p4 p6 he⟩, by omega⟩⟩, fun hge j hj => p6 j (by omega)⟩
theorem f_Find (P : Program) : FS cFind (ndFind P) := by
 simp only [FS, cFind, fL, pL, allTrue, sd, implies_true, IE.den, nm_, ge0, leN, nv, li, tT, Nat.reduceAdd, ndFind]
 try (repeat' first | apply And.intro | intro _) <;> omega
theorem ok_Find (mm : Bool) : cFind.Ok Tryz.prog mm Γ0 :=
 qaw (X := Xm Tryz.prog) (cons := consFind) (T0 := e_Find Tryz.prog) (hkM_ok _) trivial (f_Find Tryz.prog) (v_Find Tryz.prog) ⟨⟨n_Find_0 Tryz.prog, by kernel_rfl, v_Find_0 Tryz.prog⟩, trivial⟩
theorem Fa_ok (mm : Bool) : HkOk Tryz.prog (noRel mm) (Fa.hk Tryz.prog) :=
 qau (qbr xClear_ok) (qau (qbr xApp_ok) (qau hObv_ok (qau hPop_ok (qau (qbr xTail_ok) (qau hMap_ok (qau (qbr (xAs_ok LB_as)) (qau (qbr (xAs_ok LE_as)) (qau (qbr (xNot_ok LB_not)) (qbr xTA_ok)))))))))
end Ft
namespace Mv
open Go
theorem Goes.steps {P : Program} {Stop : Goroutine → Own → Prop} {g : Goroutine} {S : Own} (h : Goes P Co.lone Stop g S) (hStop : ∀ g S, Stop g S → g = G g.frame g.callers) : ∀ {w : World}, S.In w →
  ∃ g' S' w', Stop g' S' ∧ Mid S w S' w' ∧ Steps P (lone g.frame g.callers w) (lone g'.frame g'.callers w') ∧ g = G g.frame g.callers := by
 induction h with
 | stop h => exact fun hw => ⟨_, _, _, h, .refl hw, Steps.refl _ _, hStop _ _ h⟩
 | big Q h1 _ ih => exact h1.elim
 | @step g₀ _ g' w' es S' hs h1 h2 ih =>
  intro w hw
  have hs := hs.2 rfl
  obtain ⟨he, hm, _⟩ := h1 w hw
  obtain ⟨g2, S2, w2, hst, hm2, hsteps, hg'⟩ := ih w hw hm.inn
  refine ⟨g2, S2, w2, hst, hm.trans hm2, Steps.head (m₁ := lone (g' w).frame (g' w).callers (w' w)) (step_lone_go ?_) hsteps, hs⟩
  have e1 : ({ frame := (g' w).frame, callers := (g' w).callers, status := .running, dying := none } : Goroutine) = g' w := hg'.symm
  rw [e1]
  have e2 := hs.symm
  unfold G at e2
  have he' : stepG P true g₀ w = GStep.go (g' w) (w' w) (es w) := he
  rw [e2, he']
  rfl
theorem Calls.lone {P : Program} {f : FuncId} {args : Array Value} {S : Own} {Post : End → Own → Prop} (h : Calls P Co.lone f args S Post) {w : World} (hw : S.In w) :
  Go.Calls P f args w fun e w' => ∃ e' S', e = End.ending e' ∧ Mid S w S' w' ∧ Post e' S' := by
 intro cs
 obtain ⟨g', S', w', ⟨x, e, rfl, p, hf, hkd, hd, fn, hfn, hl⟩, hm, hs, _⟩ :=
  (h (fun g S' => ∃ x e, g = G x cs ∧ Post e S' ∧ Leaves P f .normal e x S') .normal cs (by decide) fun x e S' p l => .stop ⟨x, e, rfl, p, l⟩).steps (by rintro g S ⟨x, e, rfl, _⟩; rfl) hw
 cases e with
 | panicked ch => exact ⟨.panicked ch, w', x, ⟨.panicked ch, S', rfl, hm, p⟩, hs, hf, hl, hd, fn, by rw [hf]; exact hfn⟩
 | returned v =>
  obtain ⟨hmode, hr⟩ := hl
  obtain ⟨z, w3, es3, hr3, _, _, rfl, rfl⟩ := (hr w' hm.inn).sound #[]
  have e1 : (results fn x.tmps).run P w3 = .ok v w3 := by have := congrArg Prod.fst hr3; simpa [outcome] using this
  exact ⟨.returned v, w3, x, ⟨.returned v, S', rfl, hm, p⟩, hs, hf, hmode, hd, hkd, fn, by rw [hf]; exact hfn, e1⟩
end Mv
namespace Mw
open Go Mv
theorem rowAt_off {P : Program} {fits : TypeId → Bool} : ∀ {d : Nat} {e : TypeId} {count off n : Nat}, rowAt P fits d e count off n = true → off ≤ count * P.cellsOf e
 | 0, _, _, _, _, h => by simp [rowAt] at h
 | d + 1, e, count, off, n, h => by
  simp only [rowAt] at h
  split at h
  ·cases h
  ·rename_i hs
   have hm := Nat.div_add_mod off (P.cellsOf e)
   have hlt := Nat.mod_lt off (Nat.pos_of_ne_zero hs)
   simp only [Bool.or_eq_true, Bool.and_eq_true, beq_iff_eq, decide_eq_true_eq] at h
   rcases h with ⟨⟨h1, h2⟩, _⟩ | ⟨h1, _⟩
   ·have := Nat.mul_le_mul_right (P.cellsOf e) (show off / P.cellsOf e ≤ count by omega)
    rw [Nat.mul_comm] at hm
    omega
   ·have := Nat.mul_le_mul_right (P.cellsOf e) (show off / P.cellsOf e + 1 ≤ count by omega)
    rw [Nat.add_mul, Nat.one_mul] at this
    rw [Nat.mul_comm] at hm
    omega
theorem liesAt_off {P : Program} : ∀ {d : Nat} {e : TypeId} {count off : Nat} {u : TypeId} {n : Nat}, Go.liesAt P d e count off u n = true → off ≤ count * P.cellsOf e
 | 0, _, _, _, _, _, h => by simp [Go.liesAt] at h
 | d + 1, e, count, off, u, n, h => by
  simp only [Go.liesAt, Bool.or_eq_true] at h
  rcases h with h | h
  ·exact rowAt_off h
  ·split at h
   ·exact liesAt_off h
   ·cases h
theorem has_cells {P : Program} {W : World} {r : Reach} {base n : Nat} {a : Addr} {e : TypeId} (h : W.has P r base a e n) : a.spot = none ∧ ∃ cs ty fz, W.heap[a.block]? = some (.cells cs ty fz) ∧ a.off ≤ cs.size := by
 obtain ⟨_, h1, row, cells, h2, h3⟩ := h
 refine ⟨h1, ?_⟩
 unfold World.shape? at h2
 split at h2
 ·rename_i c elem fz hc
  simp only [Option.some.injEq, Prod.mk.injEq] at h2
  obtain ⟨rfl, rfl⟩ := h2
  exact ⟨c, elem, fz, hc, Nat.le_trans (liesAt_off h3) (Nat.div_mul_le_self _ _)⟩
 ·cases h2
theorem patch_same {cs : Array Value} {ty : TypeId} {fz : Nat × Nat} {o : Nat} {vs : List Value} (ho : o ≤ cs.size) (h : ∀ i, i < vs.length → cs[o + i]? = vs[i]?) : patch (.cells cs ty fz) o vs = .cells cs ty fz := by
 simp only [patch]
 congr 1
 have hle : o + vs.length ≤ cs.size := by
  by_cases h0 : vs.length = 0
  ·omega
  ·have := h (vs.length - 1) (by omega)
   rw [List.getElem?_eq_getElem (by omega)] at this
   have := (Array.getElem?_eq_some_iff.1 this).1
   omega
 apply Array.ext'
 apply List.ext_getElem?
 intro i
 rw [Nat.sub_eq_zero_of_le ho]
 simp only [List.replicate_zero, List.append_nil, List.append_assoc]
 have hlt : (cs.toList.take o).length = o := by simp; omega
 rcases Nat.lt_or_ge i o with h1 | h1
 ·rw [List.getElem?_append_left (by omega), List.getElem?_take_of_lt h1]
 ·rw [List.getElem?_append_right (by omega), hlt]
  rcases Nat.lt_or_ge (i - o) vs.length with h2 | h2
  ·rw [List.getElem?_append_left h2, ← h _ h2, ← Array.getElem?_toList]
   congr 1; omega
  ·rw [List.getElem?_append_right h2, List.getElem?_drop]
   congr 1; omega
theorem ints_of {H : Type} {enc : TypeId × Value → H} {P : Program} {W : World} {t e : TypeId} {v : Value} {d : DataW H} {ps : List MemPlace} {base : Nat} (ht : P.underlying t = some (.slice e)) (he : P.underlying e = some (.int .i64)) (hc : P.cellsOf e = 1)
  (hv : Value.okWide P W .any base t v) (h : DataW.Trod enc P W 0 (fun _ => true) true t v d ps) :
  (v = .slice none 0 0) ∨ ∃ (b off len cap : Nat) (cs : Array Value) (ty : TypeId) (fz : Nat × Nat) (L : List Int) (rest : List (DataW H)) (els : List (DataW H)), v = .slice (some ⟨b, off, none⟩) len cap ∧ len ≤ cap ∧ L.length = len ∧
   W.heap[b]? = some (.cells cs ty fz) ∧ patch (.cells cs ty fz) off (L.map (Value.int .i64)) = .cells cs ty fz ∧ d = .slice els rest ∧ els.length + rest.length = cap := by
 have hv' : Cell.ok P W .any base t v := by
  unfold Value.okWide at hv
  rw [ht] at hv
  simp only [Cell.okWide, ht] at hv
  exact hv
 obtain ⟨fuel, h⟩ := h
 unfold Cell.ok at hv'
 rw [ht] at hv'
 split at hv' <;> first | (exact hv'.elim) | (rename_i hx; cases hx; done) | skip
 ·exact .inl rfl
 ·rename_i a len cap hx
  obtain rfl := TypeDesc.slice.inj (Option.some.inj hx)
  obtain ⟨h1, h2, h3⟩ := hv'
  obtain ⟨k1, cs, ty, fz, k2, k3⟩ := has_cells h3
  rcases Go.ChangeShapes.open_ints ht he hc h with ⟨h4, _⟩ | ⟨a', len', cap', zs, h4, _, h5, h6, h7, h8, h9, h10⟩
  ·simp [Value.cells] at h4
  ·simp only [Value.cells, List.cons.injEq, Value.slice.injEq, Option.some.injEq, and_true] at h4
   obtain ⟨rfl, rfl, rfl⟩ := h4
   rw [if_pos rfl] at h7
   obtain ⟨b, off, spot⟩ := a
   simp only at k1 k2 k3
   subst k1
   simp only [Prod.mk.injEq] at h8
   refine .inr ⟨b, off, len, cap, cs, ty, fz, zs.take len, _, _, rfl, h1, by simp [h7, h1], k2, patch_same k3 fun i hi => ?_, h8.1, by simp [Go.ChangeShapes.lits, h7]; omega⟩
   simp only [List.length_map, List.length_take] at hi
   have := h9 i (by omega)
   have e : (Addr.add ⟨b, off, none⟩ i) = ⟨b, off + i, none⟩ := by simp [Addr.add]
   rw [e] at this
   unfold World.cell? at this
   simp only [k2, Option.isSome_none, Bool.false_eq_true, if_false] at this
   rw [this, List.getElem?_map, List.getElem?_take_of_lt (by omega), List.getElem?_eq_getElem (by omega)]
   simp [List.getD, List.getElem?_eq_getElem (show i < zs.length by omega)]
theorem trodAll_stays {H : Type} {enc : TypeId × Value → H} {P : Program} {W W' : World} {sp' : Nat → Bool} (hl : laidOutB P = true) (hb : Go.RowKit.Below W.heap.size W W') : ∀ {ts : List TypeId} {vs : List Value} {ds : List (DataW H)} {ps : List MemPlace},
  (∀ t ∈ ts, P.readableRec t = true ∧ t < P.types.size) → DataW.TrodAll enc P W 0 (fun _ => true) true ts vs ds ps → (∀ x ∈ ps, x.block < W.heap.size) → (∀ x ∈ ps, sp' x.block = true) → DataW.TrodAll enc P W' 0 sp' true ts vs ds ps
 | [], [], [], ps, _, h, _, _ => h
 | t :: ts, v :: vs, d :: ds, ps, ht, ⟨p, q, h1, h2, e⟩, hlt, hsp => by
  subst e
  obtain ⟨k1, k2⟩ := ht t List.mem_cons_self
  exact ⟨p, q, WideElems.Trod_stays hl k1 k2 h1 (fun x hx => hb.same (hlt x (List.mem_append_left _ hx))) (fun x hx => hsp x (List.mem_append_left _ hx)),
   trodAll_stays hl hb (fun t ht' => ht t (List.mem_cons_of_mem _ ht')) h2 (fun x hx => hlt x (List.mem_append_right _ hx)) (fun x hx => hsp x (List.mem_append_right _ hx)), rfl⟩
 | [], [], _ :: _, _, _, h, _, _ | [], _ :: _, _, _, _, h, _, _ | _ :: _, [], _, _, _, h, _, _ | _ :: _, _ :: _, [], _, _, h, _, _ => h.elim
theorem mid_below {S S' : Own} {W w' : World} (h : Mid S W S' w') (hS : ∀ b, S.full b = none) : Go.RowKit.Below W.heap.size W w' :=
 ⟨h.os, h.tape, h.output, h.size, fun k hk => h.kept k hk (hS k)⟩
def readsW (W : World) (bs : List Nat) : Own := { full := fun _ => none, ro := fun b => match bs.contains b with
  | true => W.heap[b]?
  | false => none }
theorem readsW_ro {W : World} {bs : List Nat} {b : Nat} (h : b ∈ bs) : (readsW W bs).ro b = W.heap[b]? := by
 simp only [readsW, List.contains_iff_mem.2 h]
theorem readsW_in {W : World} {bs : List Nat} (h : ∀ b ∈ bs, ∀ o, W.heap[b]? = some o → mapish o = false) : (readsW W bs).In W where
 lay b o hb := by cases hb
 layro b o hb := by
  simp only [readsW] at hb
  split at hb
  ·rename_i hc
   exact Lay.self hb (h b (List.contains_iff_mem.1 hc) o hb)
  ·cases hb
 disj b hb := by cases hb
theorem readsW_sat {W : World} {bs : List Nat} {ρ : Env} {l : List (Nat × SO)} (h : ∀ x ∈ l, x.1 < ρ.k.length ∧ x.2.ok ρ.k.length ∧ ρ.blk x.1 ∈ bs ∧ W.heap[ρ.blk x.1]? = some (x.2.den ρ)) : Sat ρ ⟨setsT [], setsT l, .none⟩ (readsW W bs) (readsW W bs) where
 has i u hi := by simp [setsT, Tr.qba] at hi
 hro i u hi := by
  obtain ⟨h1, h2, h3, h4⟩ := h (i, u) (qao hi)
  exact ⟨h1, h2, by rw [readsW_ro h3]; exact h4⟩
 inj i j u u' hi := by simp [setsT, Tr.qba] at hi
 frm b u hb := hb
 apart i u hi := by simp [setsT, Tr.qba] at hi
 ro b u hb := hb
 gh := rfl
 dis b hb := by cases hb
 ghok := trivial
 lent i hi := by cases hi
 linj i hi := by cases hi
 rinj i hi := by cases hi
 lnd := List.nodup_nil
 frz := trivial
theorem yes_calls {P : Program} {Γ0 : Facts} {c : Con} {v : SC} (hc : c.Ok P true Γ0) (hrw : c.rw = []) (hout : ∀ o ∈ c.outs, o.v = .bool (.lit true)) {W : World} {bs : List Nat} {ρ : Env} (hv : vals ρ) (hΓ : Γ0.On ρ) (hl : ρ.k.length = 16 + c.m) (hp : c.pre ρ)
  (hm : ∀ b ∈ bs, ∀ o, W.heap[b]? = some o → mapish o = false) (hr : ∀ x ∈ c.ro, x.1 < ρ.k.length ∧ x.2.ok ρ.k.length ∧ ρ.blk x.1 ∈ bs ∧ W.heap[ρ.blk x.1]? = some (x.2.den ρ)) (hzi : c.zi = none := by rfl) :
  Go.Calls P c.f (c.args.map (SC.den ρ)).toArray W fun e w' => e = .returned (.bool true) ∧ Go.RowKit.Below W.heap.size W w' := by
 have h1 := hc.calls (readsW W bs) ρ (readsW W bs) hv hΓ hl hp (by rw [hrw, hzi]; exact readsW_sat hr)
 refine (Calls.lone h1 (readsW_in hm)).mono ?_
 rintro e w' ⟨e', S', rfl, hmid, o, ho, ρ', _, _, rfl, _⟩
 rw [hout o ho]
 exact ⟨rfl, mid_below hmid fun _ => rfl⟩
end Mw
set_option maxRecDepth 100000
namespace Go.Proofs.YtcidaiiknhfkiaaGreatDoor
open Go Mv Mw Go.ChangeShapes Go.WideShapes Go.RowKit
theorem own : ownKnob Tryz.prog.godebug = none := by kernel_rfl
theorem gEt : Tryz.prog.globalNamed "errors.errorType" = some 0 := by kernel_rfl
def nameOf : DataW Unit → String
 | .iface n _ => n
 | _ => "none"
theorem gRt : (Tryz.prog.cutTypes.find? (·.1 == nameOf Rows.laid_errors_errorType)).map (·.2) = some 180 := by kernel_rfl
theorem gOne : ((List.range Tryz.prog.types.size).filter fun t => Tryz.prog.rowNamed t [101, 114, 114, 111, 114]) = [79] := by kernel_rfl
abbrev n64 : String := Rows.finingNeededRow.named.getD 1 "none"
abbrev laid_ : List (String × DataW Unit) := [(n64, Rows.laid_math_bits_deBruijn64tab), ("errors.errorType", Rows.laid_errors_errorType)]
abbrev tabs_ : List (String × DataW Unit) := [(n64, Rows.laid_math_bits_deBruijn64tab)]
abbrev hand_ : List (String × DataW Unit) := [("errors.errorType", Rows.laid_errors_errorType)]
theorem laid_parts {W : World} (h : laidMetH Tryz.prog laid_ W) : laidMet Tryz.prog tabs_ W ∧ handlesMet Tryz.prog hand_ W := h
theorem handle_of_laid {W : World} (h : laidMetH Tryz.prog laid_ W) : W.cell? ⟨0, 0, none⟩ = some (.iface 180 (.agg #[.pointer (some ⟨2, 79, none⟩)])) := by
 have h' := laid_parts h
 obtain ⟨name, u, ty, e1, e2, e3, e4, e5⟩ := h'.2 _ (List.mem_singleton.2 rfl)
 have en : name = [101, 114, 114, 111, 114] := (Option.some.inj e1).symm
 subst en
 obtain rfl := Option.some.inj (gRt.symm.trans e2)
 have hm : ty ∈ (List.range Tryz.prog.types.size).filter fun t => Tryz.prog.rowNamed t [101, 114, 114, 111, 114] := List.mem_filter.2 ⟨List.mem_range.2 e3, e4⟩
 rw [gOne] at hm
 obtain rfl := List.mem_singleton.1 hm
 have hh : typeHandle Tryz.prog 79 = .pointer (some ⟨2, 79, none⟩) := by kernel_rfl
 rw [hh] at e5
 simpa using World.var?_cell gEt e5 0
def litsOf : DataW Unit → List Int
 | .agg l => l.map fun | .lit (.int _ z) => z | _ => 0
 | _ => []
theorem t64 : litsOf Rows.laid_math_bits_deBruijn64tab = Ft.tab64 := by kernel_rfl
theorem g64 : Tryz.prog.globalNamed n64 = some 1 := by kernel_rfl
theorem d64 : (Rows.laid_math_bits_deBruijn64tab : DataW Unit) = Lib.tabData .u8 (litsOf Rows.laid_math_bits_deBruijn64tab) := rfl
theorem tab_of_laid {W : World} (h : laidMetH Tryz.prog laid_ W) {n : String} {d : DataW Unit} (hm : (n, d) ∈ tabs_) {g t e k : Nat} {zs : List Int} (hg : Tryz.prog.globalNamed n = some g) (ht : (Tryz.prog.globals[g]?).map (·.type) = some t) (hu : Tryz.prog.underlying t = some (.array k e)) (he : Tryz.prog.underlying e = some (.int .u8))
  (hce : Tryz.prog.cellsOf e = 1) (hct : Tryz.prog.cellsOf t = k) (hd : d = Lib.tabData .u8 zs) : ∃ ty fz, W.heap[g]? = some (.cells (zs.map fun z => Value.int .u8 z).toArray ty fz) := by
 obtain ⟨g', t', cs, fuel, p, h1, h2, h3, h4⟩ := Lib.laidMet.reads (laid_parts h).1 hm
 obtain rfl := Option.some.inj (hg.symm.trans h1)
 obtain rfl := Option.some.inj (ht.symm.trans h2)
 subst hd
 have hcs := Lib.cells_of_tab hu he hce hct h4
 simp only [World.var?, h1, Option.bind_some] at h3
 split at h3
 ·rename_i cs' ty fz hh
  simp only [Option.some.injEq] at h3
  subst h3
  exact ⟨ty, fz, by rw [hh, ← hcs]⟩
 ·cases h3
theorem heap0 {W : World} (hs : W.ShapedOpen Tryz.prog) (hl : laidMetH Tryz.prog laid_ W) : W.heap[0]? = some (.cells #[.iface 180 (.agg #[.pointer (some ⟨2, 79, none⟩)])] 156) := by
 have hc := handle_of_laid hl
 obtain ⟨cs, h1, h2, _⟩ := hs.1 0 #[.nilIface] 156 (of_decide_eq_true (by kernel_rfl)) (by kernel_rfl)
 rw [h1]
 have h3 : cs[0]? = some (.iface 180 (.agg #[.pointer (some ⟨2, 79, none⟩)])) := by
  unfold World.cell? at hc
  rw [h1] at hc
  simpa using hc
 have h4 : cs.size = 1 := h2
 have h5 : cs = #[.iface 180 (.agg #[.pointer (some ⟨2, 79, none⟩)])] := by
  apply Array.ext
  ·simpa using h4
  ·intro i hi1 hi2
   have hi0 : i = 0 := by simpa using hi2
   subst hi0
   obtain ⟨hlt, he⟩ := Array.getElem?_eq_some_iff.1 h3
   simpa using he
 rw [h5]
theorem heap1 {W : World} (hs : W.ShapedOpen Tryz.prog) (h : laidMetH Tryz.prog laid_ W) : W.heap[1]? = some (.cells (Ft.tab64.map fun z => Value.int .u8 z).toArray 199) := by
 obtain ⟨cs, h1, _, _⟩ := hs.1 1 (Array.replicate 64 (.int .u8 0)) 199 (of_decide_eq_true (by kernel_rfl)) (by kernel_rfl)
 obtain ⟨ty, fz, h2⟩ := tab_of_laid h (n := n64) List.mem_cons_self g64 (t := 199) (e := 5) (k := 64) (by kernel_rfl) (by kernel_rfl) (by kernel_rfl) (by kernel_rfl) (by kernel_rfl) d64
 rw [t64] at h2
 rw [h1] at h2
 simp only [Option.some.injEq, Obj.cells.injEq] at h2
 rw [h1, h2.1]
noncomputable def laidWorld (os : Os) : World :=
  let w0 := World.holding Tryz.prog os ⟨#[], #[], []⟩
  { w0 with heap := (w0.heap.modify 0 fun
      | .cells _ t frozen => .cells #[.iface 180 (.agg #[.pointer (some ⟨2, 79, none⟩)])] t frozen
      | o => o).modify 1 fun
      | .cells _ t frozen => .cells (Ft.tab64.map fun z => Value.int .u8 z).toArray t frozen
      | o => o }
theorem laidWorld_met (os : Os) (args : Array Value) : laidMetH Tryz.prog laid_ ((laidWorld os).forCall (fun _ _ => 0) ⟨#[], args, []⟩).memory :=
 laidMetH_of_parts3 (fuel := 8) (laidMet_of_run' 8 (by kernel_rfl) (by kernel_rfl)) (by kernel_rfl) (by kernel_rfl)
end Go.Proofs.YtcidaiiknhfkiaaGreatDoor
