/- A part of the run of the row's end: states, facts that the kernel runs, or their chain. -/
import Derived.Test.YtcidaiiknhfkiaaDoorf1
import Derived.Test.YtcidaiiknhfkiaaDoorf2
import Derived.Test.YtcidaiiknhfkiaaDoorf3
import Derived.Test.YtcidaiiknhfkiaaDoorf4
import Derived.Test.YtcidaiiknhfkiaaDoorf5
import Derived.Test.YtcidaiiknhfkiaaDoorf6
import Derived.Test.YtcidaiiknhfkiaaDoorf7
import Derived.Test.YtcidaiiknhfkiaaDoorf8
import Derived.Test.YtcidaiiknhfkiaaDoorf9
import Derived.Test.YtcidaiiknhfkiaaDoorf10
import Derived.Test.YtcidaiiknhfkiaaDoorf11
import Derived.Test.YtcidaiiknhfkiaaDoorf12
import Derived.Test.YtcidaiiknhfkiaaDoorf13
import Derived.Test.YtcidaiiknhfkiaaDoorf14
import Derived.Test.YtcidaiiknhfkiaaDoorf15
import Derived.KernelRfl
set_option linter.unusedSimpArgs false
set_option maxRecDepth 1000000
set_option maxHeartbeats 0
set_option linter.unusedVariables false
namespace Fk
open Go Mv Mw Go.Proofs Ft
theorem fn_ok10 : FnOk Tryd.prog 10 := ⟨by kernel_rfl, by kernel_rfl, by kernel_rfl⟩
theorem fn_ok13 : FnOk Tryd.prog 13 := ⟨by kernel_rfl, by kernel_rfl, by kernel_rfl⟩
theorem fn_ok24 : FnOk Tryd.prog 24 := ⟨by kernel_rfl, by kernel_rfl, by kernel_rfl⟩
theorem fn_ok30 : FnOk Tryd.prog 30 := ⟨by kernel_rfl, by kernel_rfl, by kernel_rfl⟩
theorem c24 (mm : Bool) : CallA Tryd.prog mm 24 [(.slice 344 (.lit (.ofNat 0)) (.lit (.ofNat 4)) (.add (.lit (.ofNat 4)) (.room 344 6))), (vI 0), (.agg [(.fn (.func 44) [] [])])] (s5).hp 346 (vP 347) h22 4863 :=
 CallA.at_ (size := 40) (fn_ok24) (by kernel_rfl) (FromA.piece (Fa_ok mm) r9 (noSumsA) (FromA.piece (Fa_ok mm) r12 (noSumsA) (FromA.piece (Fa_ok mm) r15 (noSumsA) (FromA.piece (Fa_ok mm) r18 (noSumsA) (FromA.piece (Fa_ok mm) r21 (noSumsA) (FromA.last (Fa_ok mm) r23 (noSumsA)))))))
theorem c31 (mm : Bool) : CallA Tryd.prog mm 10 [(vL 313 4 4), (vI 7), (vI 0)] (s2).hp 314 (.tup [(.slice 4875 (.lit (.ofNat 0)) (.lit (.ofNat 3)) (.add (.lit (.ofNat 3)) (.room 4875 1))), (vI 4), (vI 0)]) h29 4878 :=
 CallA.at_ (size := 32) (fn_ok10) (by kernel_rfl) (FromA.piece (Fa_ok mm) r6 (noSumsA) (FromA.call r27 (c24 mm) (FromA.cut r28 (FromA.last (Fa_ok mm) r30 (noSumsA)))))
theorem c62 (mm : Bool) : CallA Tryd.prog mm 24 [(.slice 4909 (.lit (.ofNat 0)) (.lit (.ofNat 4)) (.add (.lit (.ofNat 4)) (.room 4909 6))), (vI 56), (.agg [(.fn (.func 66) [] [])])] (s40).hp 4911 (vP 4912) h60 10289 :=
 CallA.at_ (size := 40) (fn_ok24) (by kernel_rfl) (FromA.piece (Fa_ok mm) r44 (noSumsA) (FromA.piece (Fa_ok mm) r47 (noSumsA) (FromA.piece (Fa_ok mm) r50 (noSumsA) (FromA.piece (Fa_ok mm) r53 (noSumsA) (FromA.piece (Fa_ok mm) r56 (noSumsA) (FromA.piece (Fa_ok mm) r59 (noSumsA) (FromA.last (Fa_ok mm) r61 (noSumsA))))))))
theorem c69 (mm : Bool) : CallA Tryd.prog mm 30 [(vL 4878 4 4), (vI 56)] (s37).hp 4879 (.tup [(vI 4), (vI 3), (vI 0)]) h67 10294 :=
 CallA.at_ (size := 30) (fn_ok30) (by kernel_rfl) (FromA.piece (Fa_ok mm) r41 (noSumsA) (FromA.call r65 (c62 mm) (FromA.cut r66 (FromA.last (Fa_ok mm) r68 (noSumsA)))))
theorem c76 (mm : Bool) : CallA Tryd.prog mm 13 [] h0 16 vT h74 10513 :=
 CallA.at_ (size := 108) (fn_ok13) (by kernel_rfl) (FromA.piece (Fa_ok mm) r3 (noSumsA) (FromA.call r34 (c31 mm) (FromA.cut r35 (FromA.piece (Fa_ok mm) r38 (noSumsA) (FromA.call r72 (c69 mm) (FromA.cut r73 (FromA.last (Fa_ok mm) r75 (noSumsA))))))))
end Fk
