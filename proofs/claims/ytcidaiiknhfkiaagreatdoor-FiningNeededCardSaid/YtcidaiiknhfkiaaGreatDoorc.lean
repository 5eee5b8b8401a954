/- A part of the run of the row's end: states, facts that the kernel runs, or their chain. -/
import Derived.Test.YtcidaiiknhfkiaaGreatDoorf1
import Derived.Test.YtcidaiiknhfkiaaGreatDoorf2
import Derived.Test.YtcidaiiknhfkiaaGreatDoorf3
import Derived.Test.YtcidaiiknhfkiaaGreatDoorf4
import Derived.Test.YtcidaiiknhfkiaaGreatDoorf5
import Derived.Test.YtcidaiiknhfkiaaGreatDoorf6
import Derived.Test.YtcidaiiknhfkiaaGreatDoorf7
import Derived.Test.YtcidaiiknhfkiaaGreatDoorf8
import Derived.Test.YtcidaiiknhfkiaaGreatDoorf9
import Derived.Test.YtcidaiiknhfkiaaGreatDoorf10
import Derived.Test.YtcidaiiknhfkiaaGreatDoorf11
import Derived.Test.YtcidaiiknhfkiaaGreatDoorf12
import Derived.Test.YtcidaiiknhfkiaaGreatDoorf13
import Derived.Test.YtcidaiiknhfkiaaGreatDoorf14
import Derived.Test.YtcidaiiknhfkiaaGreatDoorf15
import Derived.KernelRfl
set_option linter.unusedSimpArgs false
set_option maxRecDepth 1000000
set_option maxHeartbeats 0
set_option linter.unusedVariables false
namespace Fk
open Go Mv Mw Go.Proofs Ft
theorem fn_ok19 : FnOk Tryz.prog 19 := ⟨by kernel_rfl, by kernel_rfl, by kernel_rfl⟩
theorem fn_ok42 : FnOk Tryz.prog 42 := ⟨by kernel_rfl, by kernel_rfl, by kernel_rfl⟩
theorem fn_ok44 : FnOk Tryz.prog 44 := ⟨by kernel_rfl, by kernel_rfl, by kernel_rfl⟩
theorem fn_ok82 : FnOk Tryz.prog 82 := ⟨by kernel_rfl, by kernel_rfl, by kernel_rfl⟩
theorem c24 (mm : Bool) : CallA Tryz.prog mm 82 [(.slice 344 (.lit (.ofNat 0)) (.lit (.ofNat 4)) (.add (.lit (.ofNat 4)) (.room 344 6))), (vI 0), (.agg [(.fn (.func 118) [] [])])] (s5).hp 346 (vP 347) h22 4863 :=
 CallA.at_ (size := 40) (fn_ok82) (by kernel_rfl) (FromA.piece (Fa_ok mm) r9 (qbm) (FromA.piece (Fa_ok mm) r12 (qbm) (FromA.piece (Fa_ok mm) r15 (qbm) (FromA.piece (Fa_ok mm) r18 (qbm) (FromA.piece (Fa_ok mm) r21 (qbm) (FromA.last (Fa_ok mm) r23 (qbm)))))))
theorem c31 (mm : Bool) : CallA Tryz.prog mm 42 [(vL 313 4 4), (vI 7), (vI 0)] (s2).hp 314 (.tup [(.slice 4875 (.lit (.ofNat 0)) (.lit (.ofNat 3)) (.add (.lit (.ofNat 3)) (.room 4875 1))), (vI 4), (vI 0)]) h29 4878 :=
 CallA.at_ (size := 32) (fn_ok42) (by kernel_rfl) (FromA.piece (Fa_ok mm) r6 (qbm) (FromA.call r27 (c24 mm) (FromA.cut r28 (FromA.last (Fa_ok mm) r30 (qbm)))))
theorem c65 (mm : Bool) : CallA Tryz.prog mm 82 [(.slice 4909 (.lit (.ofNat 0)) (.lit (.ofNat 4)) (.add (.lit (.ofNat 4)) (.room 4909 6))), (vI 56), (.agg [(.fn (.func 115) [] [])])] (s40).hp 4911 (vP 4912) h63 10289 :=
 CallA.at_ (size := 40) (fn_ok82) (by kernel_rfl) (FromA.piece (Fa_ok mm) r44 (qbm) (FromA.piece (Fa_ok mm) r47 (qbm) (FromA.piece (Fa_ok mm) r50 (qbm) (FromA.piece (Fa_ok mm) r53 (qbm) (FromA.piece (Fa_ok mm) r56 (qbm) (FromA.piece (Fa_ok mm) r59 (qbm) (FromA.piece (Fa_ok mm) r62 (qbm) (FromA.last (Fa_ok mm) r64 (qbm)))))))))
theorem c72 (mm : Bool) : CallA Tryz.prog mm 44 [(vL 4878 4 4), (vI 56)] (s37).hp 4879 (.tup [(vI 4), (vI 3), (vI 0)]) h70 10294 :=
 CallA.at_ (size := 30) (fn_ok44) (by kernel_rfl) (FromA.piece (Fa_ok mm) r41 (qbm) (FromA.call r68 (c65 mm) (FromA.cut r69 (FromA.last (Fa_ok mm) r71 (qbm)))))
theorem c79 (mm : Bool) : CallA Tryz.prog mm 19 [] h0 16 vT h77 10513 :=
 CallA.at_ (size := 108) (fn_ok19) (by kernel_rfl) (FromA.piece (Fa_ok mm) r3 (qbm) (FromA.call r34 (c31 mm) (FromA.cut r35 (FromA.piece (Fa_ok mm) r38 (qbm) (FromA.call r75 (c72 mm) (FromA.cut r76 (FromA.last (Fa_ok mm) r78 (qbm))))))))
end Fk
