/- A part of the run of the row's end: states, facts that the kernel runs, or their chain. -/
import Derived.Test.YtladmdopggnnmaaGreatDoorf1
import Derived.Test.YtladmdopggnnmaaGreatDoorf2
import Derived.Test.YtladmdopggnnmaaGreatDoorf3
import Derived.Test.YtladmdopggnnmaaGreatDoorf4
import Derived.Test.YtladmdopggnnmaaGreatDoorf5
import Derived.Test.YtladmdopggnnmaaGreatDoorf6
import Derived.Test.YtladmdopggnnmaaGreatDoorf7
import Derived.Test.YtladmdopggnnmaaGreatDoorf8
import Derived.Test.YtladmdopggnnmaaGreatDoorf9
import Derived.Test.YtladmdopggnnmaaGreatDoorf10
import Derived.Test.YtladmdopggnnmaaGreatDoorf11
import Derived.Test.YtladmdopggnnmaaGreatDoorf12
import Derived.Test.YtladmdopggnnmaaGreatDoorf13
import Derived.Test.YtladmdopggnnmaaGreatDoorf14
import Derived.Test.YtladmdopggnnmaaGreatDoorf15
import Derived.Test.YtladmdopggnnmaaGreatDoorf16
import Derived.Test.YtladmdopggnnmaaGreatDoorf17
import Derived.Test.YtladmdopggnnmaaGreatDoorf18
import Derived.Test.YtladmdopggnnmaaGreatDoorf19
import Derived.Test.YtladmdopggnnmaaGreatDoorf20
import Derived.Test.YtladmdopggnnmaaGreatDoorf21
import Derived.Test.YtladmdopggnnmaaGreatDoorf22
import Derived.Test.YtladmdopggnnmaaGreatDoorf23
import Derived.Test.YtladmdopggnnmaaGreatDoorf24
import Derived.Test.YtladmdopggnnmaaGreatDoorf25
import Derived.Test.YtladmdopggnnmaaGreatDoorf26
import Derived.Test.YtladmdopggnnmaaGreatDoorf27
import Derived.Test.YtladmdopggnnmaaGreatDoorf28
import Derived.Test.YtladmdopggnnmaaGreatDoorf29
import Derived.Test.YtladmdopggnnmaaGreatDoorf30
import Derived.Test.YtladmdopggnnmaaGreatDoorf31
import Derived.Test.YtladmdopggnnmaaGreatDoorf32
import Derived.Test.YtladmdopggnnmaaGreatDoorf33
import Derived.Test.YtladmdopggnnmaaGreatDoorf34
import Derived.Test.YtladmdopggnnmaaGreatDoorf35
import Derived.Test.YtladmdopggnnmaaGreatDoorf36
import Derived.Test.YtladmdopggnnmaaGreatDoorf37
import Derived.Test.YtladmdopggnnmaaGreatDoorf38
import Derived.Test.YtladmdopggnnmaaGreatDoorf39
import Derived.Test.YtladmdopggnnmaaGreatDoorf40
import Derived.KernelRfl
set_option linter.unusedSimpArgs false
set_option maxRecDepth 1000000
set_option maxHeartbeats 0
set_option linter.unusedVariables false
namespace Fk
open Go Mv Mw Go.Proofs Ft
theorem fn_ok3 : FnOk Tryz.prog 3 := ⟨by kernel_rfl, by kernel_rfl, by kernel_rfl⟩
theorem fn_ok5 : FnOk Tryz.prog 5 := ⟨by kernel_rfl, by kernel_rfl, by kernel_rfl⟩
theorem fn_ok10 : FnOk Tryz.prog 10 := ⟨by kernel_rfl, by kernel_rfl, by kernel_rfl⟩
theorem fn_ok15 : FnOk Tryz.prog 15 := ⟨by kernel_rfl, by kernel_rfl, by kernel_rfl⟩
theorem fn_ok16 : FnOk Tryz.prog 16 := ⟨by kernel_rfl, by kernel_rfl, by kernel_rfl⟩
theorem fn_ok25 : FnOk Tryz.prog 25 := ⟨by kernel_rfl, by kernel_rfl, by kernel_rfl⟩
theorem fn_ok31 : FnOk Tryz.prog 31 := ⟨by kernel_rfl, by kernel_rfl, by kernel_rfl⟩
theorem fn_ok38 : FnOk Tryz.prog 38 := ⟨by kernel_rfl, by kernel_rfl, by kernel_rfl⟩
theorem fn_ok41 : FnOk Tryz.prog 41 := ⟨by kernel_rfl, by kernel_rfl, by kernel_rfl⟩
theorem fn_ok42 : FnOk Tryz.prog 42 := ⟨by kernel_rfl, by kernel_rfl, by kernel_rfl⟩
theorem fn_ok60 : FnOk Tryz.prog 60 := ⟨by kernel_rfl, by kernel_rfl, by kernel_rfl⟩
theorem c20 (N : Nat) (w0 : Option World) : CallT Tryz.prog (Co.meet Tryz.prog N w0) 38 [(.slice 347 (.lit (.ofNat 0)) (.lit (.ofNat 4)) (.add (.lit (.ofNat 4)) (.room 347 6))), (vI 0), (.agg [(.fn (.func 66) [] [])])] (mkH l4 l5) 349 (vP 350) h18 4866 :=
 CallT.at_ (size := 40) (fn_ok38) (by kernel_rfl) (FromT.piece (Fa_ok N w0) r8 (noSumsT) (FromT.piece (Fa_ok N w0) r11 (noSumsT) (FromT.piece (Fa_ok N w0) r14 (noSumsT) (FromT.piece (Fa_ok N w0) r17 (noSumsT) (FromT.last (Fa_ok N w0) r19 (noSumsT))))))
theorem c44 (N : Nat) (w0 : Option World) : CallT Tryz.prog (Co.meet Tryz.prog N w0) 38 [(.slice 4912 (.lit (.ofNat 0)) (.lit (.ofNat 4)) (.add (.lit (.ofNat 4)) (.room 4912 6))), (vI 56), (.agg [(.fn (.func 74) [] [])])] (mkH l22 l23) 4914 (vP 4915) h42 10292 :=
 CallT.at_ (size := 40) (fn_ok38) (by kernel_rfl) (FromT.piece (Fa_ok N w0) r26 (noSumsT) (FromT.piece (Fa_ok N w0) r29 (noSumsT) (FromT.piece (Fa_ok N w0) r32 (noSumsT) (FromT.piece (Fa_ok N w0) r35 (noSumsT) (FromT.piece (Fa_ok N w0) r38 (noSumsT) (FromT.piece (Fa_ok N w0) r41 (noSumsT) (FromT.last (Fa_ok N w0) r43 (noSumsT))))))))
theorem c65 (N : Nat) (w0 : Option World) : CallT Tryz.prog (Co.meet Tryz.prog N w0) 38 [(.slice 347 (.lit (.ofNat 0)) (.lit (.ofNat 4)) (.add (.lit (.ofNat 4)) (.room 347 6))), (vI 0), (.agg [(.fn (.func 66) [] [])])] (mkH l49 l50) 349 (vP 350) h63 4866 :=
 CallT.at_ (size := 40) (fn_ok38) (by kernel_rfl) (FromT.piece (Fa_ok N w0) r53 (noSumsT) (FromT.piece (Fa_ok N w0) r56 (noSumsT) (FromT.piece (Fa_ok N w0) r59 (noSumsT) (FromT.piece (Fa_ok N w0) r62 (noSumsT) (FromT.last (Fa_ok N w0) r64 (noSumsT))))))
theorem c92 (N : Nat) (w0 : Option World) : CallT Tryz.prog (Co.meet Tryz.prog N w0) 38 [(.slice 4912 (.lit (.ofNat 0)) (.lit (.ofNat 4)) (.add (.lit (.ofNat 4)) (.room 4912 6))), (vI 56), (.agg [(.fn (.func 74) [] [])])] (mkH l70 l71) 4914 (vP 4915) h90 10292 :=
 CallT.at_ (size := 40) (fn_ok38) (by kernel_rfl) (FromT.piece (Fa_ok N w0) r74 (noSumsT) (FromT.piece (Fa_ok N w0) r77 (noSumsT) (FromT.piece (Fa_ok N w0) r80 (noSumsT) (FromT.piece (Fa_ok N w0) r83 (noSumsT) (FromT.piece (Fa_ok N w0) r86 (noSumsT) (FromT.piece (Fa_ok N w0) r89 (noSumsT) (FromT.last (Fa_ok N w0) r91 (noSumsT))))))))
theorem c96 (N : Nat) (w0 : Option World) : CallT Tryz.prog (Co.meet Tryz.prog N w0) 5 [] (s2).hp 19 vT h94 10516 :=
 CallT.at_ (size := 108) (fn_ok5) (by kernel_rfl) (FromT.piece (Fa_ok N w0) r48 (noSumsT) (FromT.piece (Fa_ok N w0) r69 (consSumT (s := q66) (c65 N w0) (noSumsT)) (FromT.last (Fa_ok N w0) r95 (consSumT (s := q93) (c92 N w0) (noSumsT)))))
theorem c112 (N : Nat) (w0 : Option World) : CallT Tryz.prog (Co.meet Tryz.prog N w0) 60 [(.slice 10834 (.lit (.ofNat 0)) (.lit (.ofNat 4)) (.add (.lit (.ofNat 4)) (.room 10834 6))), (.int .u64 (.lit (.ofNat 128)))] (s108).hp 10835 (.int .u64 (.lit (.ofNat 72))) h110 10842 :=
 CallT.at_ (size := 28) (fn_ok60) (by kernel_rfl) (FromT.last (Fa_ok N w0) r111 (noSumsT))
theorem c122 (N : Nat) (w0 : Option World) : CallT Tryz.prog (Co.meet Tryz.prog N w0) 60 [(.slice 10834 (.lit (.ofNat 0)) (.lit (.ofNat 4)) (.add (.lit (.ofNat 4)) (.room 10834 6))), (.int .u64 (.lit (.ofNat 72)))] (s118).hp 10842 (.int .u64 (.lit (.ofNat 15))) h120 10849 :=
 CallT.at_ (size := 28) (fn_ok60) (by kernel_rfl) (FromT.last (Fa_ok N w0) r121 (noSumsT))
theorem c132 (N : Nat) (w0 : Option World) : CallT Tryz.prog (Co.meet Tryz.prog N w0) 60 [(.slice 10834 (.lit (.ofNat 0)) (.lit (.ofNat 4)) (.add (.lit (.ofNat 4)) (.room 10834 6))), (.int .u64 (.lit (.ofNat 7)))] (s128).hp 10849 (.int .u64 (.lit (.ofNat 5))) h130 10856 :=
 CallT.at_ (size := 28) (fn_ok60) (by kernel_rfl) (FromT.last (Fa_ok N w0) r131 (noSumsT))
theorem c139 (N : Nat) (w0 : Option World) : CallT Tryz.prog (Co.meet Tryz.prog N w0) 31 [(.slice 10834 (.lit (.ofNat 0)) (.lit (.ofNat 4)) (.add (.lit (.ofNat 4)) (.room 10834 6))), (vI 7)] (s105).hp 10835 (.int .u64 (.lit (.ofNat 207))) h137 10856 :=
 CallT.at_ (size := 21) (fn_ok31) (by kernel_rfl) (FromT.piece (Fa_ok N w0) r109 (noSumsT) (FromT.call r115 (c112 N w0) (FromT.cut r116 (FromT.piece (Fa_ok N w0) r119 (noSumsT) (FromT.call r125 (c122 N w0) (FromT.cut r126 (FromT.piece (Fa_ok N w0) r129 (noSumsT) (FromT.call r135 (c132 N w0) (FromT.cut r136 (FromT.last (Fa_ok N w0) r138 (noSumsT)))))))))))
theorem c146 (N : Nat) (w0 : Option World) : CallT Tryz.prog (Co.meet Tryz.prog N w0) 10 [(vL 10803 4 4), (vI 7)] (s102).hp 10804 (.tup [(.slice 10870 (.lit (.ofNat 0)) (.lit (.ofNat 6)) (.add (.lit (.ofNat 6)) (.room 10870 1))), (vI 0)]) h144 10871 :=
 CallT.at_ (size := 24) (fn_ok10) (by kernel_rfl) (FromT.piece (Fa_ok N w0) r106 (noSumsT) (FromT.call r142 (c139 N w0) (FromT.cut r143 (FromT.last (Fa_ok N w0) r145 (noSumsT)))))
theorem c162 (N : Nat) (w0 : Option World) : CallT Tryz.prog (Co.meet Tryz.prog N w0) 60 [(.slice 10902 (.lit (.ofNat 0)) (.lit (.ofNat 4)) (.add (.lit (.ofNat 4)) (.room 10902 6))), (.int .u64 (.lit (.ofNat 256)))] (s158).hp 10903 (.int .u64 (.lit (.ofNat 0))) h160 10910 :=
 CallT.at_ (size := 28) (fn_ok60) (by kernel_rfl) (FromT.last (Fa_ok N w0) r161 (noSumsT))
theorem c169 (N : Nat) (w0 : Option World) : CallT Tryz.prog (Co.meet Tryz.prog N w0) 31 [(.slice 10902 (.lit (.ofNat 0)) (.lit (.ofNat 4)) (.add (.lit (.ofNat 4)) (.room 10902 6))), (vI 8)] (s155).hp 10903 (.int .u64 (.lit (.ofNat 256))) h167 10910 :=
 CallT.at_ (size := 21) (fn_ok31) (by kernel_rfl) (FromT.piece (Fa_ok N w0) r159 (noSumsT) (FromT.call r165 (c162 N w0) (FromT.cut r166 (FromT.last (Fa_ok N w0) r168 (noSumsT)))))
theorem c176 (N : Nat) (w0 : Option World) : CallT Tryz.prog (Co.meet Tryz.prog N w0) 10 [(vL 10871 4 4), (vI 8)] (s152).hp 10872 (.tup [(.slice 10914 (.lit (.ofNat 0)) (.lit (.ofNat 1)) (.add (.lit (.ofNat 1)) (.room 10914 1))), (vI 0)]) h174 10915 :=
 CallT.at_ (size := 24) (fn_ok10) (by kernel_rfl) (FromT.piece (Fa_ok N w0) r156 (noSumsT) (FromT.call r172 (c169 N w0) (FromT.cut r173 (FromT.last (Fa_ok N w0) r175 (noSumsT)))))
theorem c200 (N : Nat) (w0 : Option World) : CallT Tryz.prog (Co.meet Tryz.prog N w0) 38 [(.slice 11651 (.lit (.ofNat 0)) (.lit (.ofNat 4)) (.add (.lit (.ofNat 4)) (.room 11651 6))), (vI 0), (.agg [(.fn (.func 66) [] [])])] (mkH l184 l185) 11653 (vP 11654) h198 16170 :=
 CallT.at_ (size := 40) (fn_ok38) (by kernel_rfl) (FromT.piece (Fa_ok N w0) r188 (noSumsT) (FromT.piece (Fa_ok N w0) r191 (noSumsT) (FromT.piece (Fa_ok N w0) r194 (noSumsT) (FromT.piece (Fa_ok N w0) r197 (noSumsT) (FromT.last (Fa_ok N w0) r199 (noSumsT))))))
theorem c213 (N : Nat) (w0 : Option World) : CallT Tryz.prog (Co.meet Tryz.prog N w0) 41 [(.slice 16216 (.lit (.ofNat 0)) (.lit (.ofNat 4)) (.add (.lit (.ofNat 4)) (.room 16216 6))), (vI 7), (vI 0)] (s206).hp 16217 (.tup [(.slice 16574 (.lit (.ofNat 0)) (.lit (.ofNat 1)) (.add (.lit (.ofNat 1)) (.room 16574 1))), (vI 0)]) h211 17146 :=
 CallT.at_ (size := 19) (fn_ok41) (by kernel_rfl) (FromT.piece (Fa_ok N w0) r210 (noSumsT) (FromT.last (Fa_ok N w0) r212 (noSumsT)))
theorem c220 (N : Nat) (w0 : Option World) : CallT Tryz.prog (Co.meet Tryz.prog N w0) 15 [(vL 16185 4 4), (vI 7), (vI 0)] (s203).hp 16186 (.tup [(.slice 16574 (.lit (.ofNat 0)) (.lit (.ofNat 1)) (.add (.lit (.ofNat 1)) (.room 16574 1))), (vI 0)]) h218 17146 :=
 CallT.at_ (size := 29) (fn_ok15) (by kernel_rfl) (FromT.piece (Fa_ok N w0) r207 (noSumsT) (FromT.call r216 (c213 N w0) (FromT.cut r217 (FromT.last (Fa_ok N w0) r219 (noSumsT)))))
theorem c239 (N : Nat) (w0 : Option World) : CallT Tryz.prog (Co.meet Tryz.prog N w0) 25 [(.slice 17178 (.lit (.ofNat 0)) (.lit (.ofNat 4)) (.add (.lit (.ofNat 4)) (.room 17178 6))), (.fn (.func 71) [] [(vP 17184), (vP 17179), (vP 17180), (vP 17181)])] (s232).hp 17611 (.slice 18331 (.lit (.ofNat 0)) (.lit (.ofNat 3)) (.add (.lit (.ofNat 3)) (.room 18331 1))) h237 18600 :=
 CallT.at_ (size := 24) (fn_ok25) (by kernel_rfl) (FromT.piece (Fa_ok N w0) r236 (noSumsT) (FromT.last (Fa_ok N w0) r238 (noSumsT)))
theorem c246 (N : Nat) (w0 : Option World) : CallT Tryz.prog (Co.meet Tryz.prog N w0) 41 [(.slice 17178 (.lit (.ofNat 0)) (.lit (.ofNat 4)) (.add (.lit (.ofNat 4)) (.room 17178 6))), (vI 7), (vI 0)] (s229).hp 17179 (.tup [(.slice 18331 (.lit (.ofNat 0)) (.lit (.ofNat 3)) (.add (.lit (.ofNat 3)) (.room 18331 1))), (vI 0)]) h244 18600 :=
 CallT.at_ (size := 19) (fn_ok41) (by kernel_rfl) (FromT.piece (Fa_ok N w0) r233 (noSumsT) (FromT.call r242 (c239 N w0) (FromT.cut r243 (FromT.last (Fa_ok N w0) r245 (noSumsT)))))
theorem c253 (N : Nat) (w0 : Option World) : CallT Tryz.prog (Co.meet Tryz.prog N w0) 15 [(vL 17146 4 4), (vI 7), (vI 0)] (s226).hp 17148 (.tup [(.slice 18331 (.lit (.ofNat 0)) (.lit (.ofNat 3)) (.add (.lit (.ofNat 3)) (.room 18331 1))), (vI 0)]) h251 18600 :=
 CallT.at_ (size := 29) (fn_ok15) (by kernel_rfl) (FromT.piece (Fa_ok N w0) r230 (noSumsT) (FromT.call r249 (c246 N w0) (FromT.cut r250 (FromT.last (Fa_ok N w0) r252 (noSumsT)))))
theorem c269 (N : Nat) (w0 : Option World) : CallT Tryz.prog (Co.meet Tryz.prog N w0) 42 [(.slice 18632 (.lit (.ofNat 0)) (.lit (.ofNat 4)) (.add (.lit (.ofNat 4)) (.room 18632 6))), (vI 7), (vI 0)] (s262).hp 18633 (.tup [(.slice 19770 (.lit (.ofNat 0)) (.lit (.ofNat 1)) (.add (.lit (.ofNat 1)) (.room 19770 1))), (vI 0)]) h267 19771 :=
 CallT.at_ (size := 19) (fn_ok42) (by kernel_rfl) (FromT.piece (Fa_ok N w0) r266 (noSumsT) (FromT.last (Fa_ok N w0) r268 (noSumsT)))
theorem c276 (N : Nat) (w0 : Option World) : CallT Tryz.prog (Co.meet Tryz.prog N w0) 16 [(vL 18600 4 4), (vI 7), (vI 0)] (s259).hp 18602 (.tup [(.slice 19770 (.lit (.ofNat 0)) (.lit (.ofNat 1)) (.add (.lit (.ofNat 1)) (.room 19770 1))), (vI 0)]) h274 19771 :=
 CallT.at_ (size := 29) (fn_ok16) (by kernel_rfl) (FromT.piece (Fa_ok N w0) r263 (noSumsT) (FromT.call r272 (c269 N w0) (FromT.cut r273 (FromT.last (Fa_ok N w0) r275 (noSumsT)))))
theorem c306 (N : Nat) (w0 : Option World) : CallT Tryz.prog (Co.meet Tryz.prog N w0) 38 [(.slice 20402 (.lit (.ofNat 0)) (.lit (.ofNat 4)) (.add (.lit (.ofNat 4)) (.room 20402 6))), (vI 56), (.agg [(.fn (.func 74) [] [])])] (mkH l284 l285) 20404 (vP 20405) h304 25782 :=
 CallT.at_ (size := 40) (fn_ok38) (by kernel_rfl) (FromT.piece (Fa_ok N w0) r288 (noSumsT) (FromT.piece (Fa_ok N w0) r291 (noSumsT) (FromT.piece (Fa_ok N w0) r294 (noSumsT) (FromT.piece (Fa_ok N w0) r297 (noSumsT) (FromT.piece (Fa_ok N w0) r300 (noSumsT) (FromT.piece (Fa_ok N w0) r303 (noSumsT) (FromT.last (Fa_ok N w0) r305 (noSumsT))))))))
theorem c330 (N : Nat) (w0 : Option World) : CallT Tryz.prog (Co.meet Tryz.prog N w0) 38 [(.slice 25817 (.lit (.ofNat 0)) (.lit (.ofNat 4)) (.add (.lit (.ofNat 4)) (.room 25817 6))), (vI 56), (.agg [(.fn (.func 74) [] [])])] (mkH l311 l312) 25819 (vP 25820) h328 30205 :=
 CallT.at_ (size := 40) (fn_ok38) (by kernel_rfl) (FromT.piece (Fa_ok N w0) r315 (noSumsT) (FromT.piece (Fa_ok N w0) r318 (noSumsT) (FromT.piece (Fa_ok N w0) r321 (noSumsT) (FromT.piece (Fa_ok N w0) r324 (noSumsT) (FromT.piece (Fa_ok N w0) r327 (noSumsT) (FromT.last (Fa_ok N w0) r329 (noSumsT)))))))
theorem c339 (N : Nat) (w0 : Option World) : CallT Tryz.prog (Co.meet Tryz.prog N w0) 38 [vZ, (vI 62), (.agg [(.fn (.func 74) [] [])])] (mkH l335 l336) 30212 (vP 30213) h337 30214 :=
 CallT.at_ (size := 40) (fn_ok38) (by kernel_rfl) (FromT.last (Fa_ok N w0) r338 (noSumsT))
theorem c366 (N : Nat) (w0 : Option World) : CallT Tryz.prog (Co.meet Tryz.prog N w0) 38 [(.slice 30312 (.lit (.ofNat 0)) (.lit (.ofNat 4)) (.add (.lit (.ofNat 4)) (.room 30312 6))), (vI 56), (.agg [(.fn (.func 74) [] [])])] (mkH l344 l345) 30316 (vP 30317) h364 35694 :=
 CallT.at_ (size := 40) (fn_ok38) (by kernel_rfl) (FromT.piece (Fa_ok N w0) r348 (noSumsT) (FromT.piece (Fa_ok N w0) r351 (noSumsT) (FromT.piece (Fa_ok N w0) r354 (noSumsT) (FromT.piece (Fa_ok N w0) r357 (noSumsT) (FromT.piece (Fa_ok N w0) r360 (noSumsT) (FromT.piece (Fa_ok N w0) r363 (noSumsT) (FromT.last (Fa_ok N w0) r365 (noSumsT))))))))
theorem c372 (N : Nat) (w0 : Option World) : CallT Tryz.prog (Co.meet Tryz.prog N w0) 38 [vZ, (vI 56), (.agg [(.fn (.func 74) [] [])])] (mkH l368 l369) 35701 (vP 35702) h370 35703 :=
 CallT.at_ (size := 40) (fn_ok38) (by kernel_rfl) (FromT.last (Fa_ok N w0) r371 (noSumsT))
theorem c378 (N : Nat) (w0 : Option World) : CallT Tryz.prog (Co.meet Tryz.prog N w0) 38 [(.slice 35706 (.lit (.ofNat 0)) (.lit (.ofNat 1)) (.add (.lit (.ofNat 1)) (.room 35706 6))), (vI 56), (.agg [(.fn (.func 74) [] [])])] (mkH l374 l375) 35708 (vP 35709) h376 36094 :=
 CallT.at_ (size := 40) (fn_ok38) (by kernel_rfl) (FromT.last (Fa_ok N w0) r377 (noSumsT))
theorem c387 (N : Nat) (w0 : Option World) : CallT Tryz.prog (Co.meet Tryz.prog N w0) 38 [(.slice 36097 (.lit (.ofNat 0)) (.lit (.ofNat 1)) (.add (.lit (.ofNat 1)) (.room 36097 6))), (vI 56), (.agg [(.fn (.func 74) [] [])])] (mkH l380 l381) 36099 (vP 36100) h385 36869 :=
 CallT.at_ (size := 40) (fn_ok38) (by kernel_rfl) (FromT.piece (Fa_ok N w0) r384 (noSumsT) (FromT.last (Fa_ok N w0) r386 (noSumsT)))
theorem c393 (N : Nat) (w0 : Option World) : CallT Tryz.prog (Co.meet Tryz.prog N w0) 38 [(.slice 36872 (.lit (.ofNat 0)) (.lit (.ofNat 1)) (.add (.lit (.ofNat 1)) (.room 36872 6))), (vI 56), (.agg [(.fn (.func 74) [] [])])] (mkH l389 l390) 36874 (vP 36875) h391 37260 :=
 CallT.at_ (size := 40) (fn_ok38) (by kernel_rfl) (FromT.last (Fa_ok N w0) r392 (noSumsT))
theorem c402 (N : Nat) (w0 : Option World) : CallT Tryz.prog (Co.meet Tryz.prog N w0) 38 [(.slice 37263 (.lit (.ofNat 0)) (.lit (.ofNat 1)) (.add (.lit (.ofNat 1)) (.room 37263 6))), (vI 56), (.agg [(.fn (.func 74) [] [])])] (mkH l395 l396) 37265 (vP 37266) h400 38003 :=
 CallT.at_ (size := 40) (fn_ok38) (by kernel_rfl) (FromT.piece (Fa_ok N w0) r399 (noSumsT) (FromT.last (Fa_ok N w0) r401 (noSumsT)))
theorem c417 (N : Nat) (w0 : Option World) : CallT Tryz.prog (Co.meet Tryz.prog N w0) 38 [(.slice 38010 (.lit (.ofNat 0)) (.lit (.ofNat 2)) (.add (.lit (.ofNat 2)) (.room 38010 6))), (vI 56), (.agg [(.fn (.func 74) [] [])])] (mkH l404 l405) 38012 (vP 38013) h415 40574 :=
 CallT.at_ (size := 40) (fn_ok38) (by kernel_rfl) (FromT.piece (Fa_ok N w0) r408 (noSumsT) (FromT.piece (Fa_ok N w0) r411 (noSumsT) (FromT.piece (Fa_ok N w0) r414 (noSumsT) (FromT.last (Fa_ok N w0) r416 (noSumsT)))))
theorem c426 (N : Nat) (w0 : Option World) : CallT Tryz.prog (Co.meet Tryz.prog N w0) 38 [(.slice 40577 (.lit (.ofNat 0)) (.lit (.ofNat 2)) (.add (.lit (.ofNat 2)) (.room 40577 6))), (vI 56), (.agg [(.fn (.func 74) [] [])])] (mkH l419 l420) 40579 (vP 40580) h424 41349 :=
 CallT.at_ (size := 40) (fn_ok38) (by kernel_rfl) (FromT.piece (Fa_ok N w0) r423 (noSumsT) (FromT.last (Fa_ok N w0) r425 (noSumsT)))
theorem c438 (N : Nat) (w0 : Option World) : CallT Tryz.prog (Co.meet Tryz.prog N w0) 38 [(.slice 41352 (.lit (.ofNat 0)) (.lit (.ofNat 2)) (.add (.lit (.ofNat 2)) (.room 41352 6))), (vI 56), (.agg [(.fn (.func 74) [] [])])] (mkH l428 l429) 41354 (vP 41355) h436 43788 :=
 CallT.at_ (size := 40) (fn_ok38) (by kernel_rfl) (FromT.piece (Fa_ok N w0) r432 (noSumsT) (FromT.piece (Fa_ok N w0) r435 (noSumsT) (FromT.last (Fa_ok N w0) r437 (noSumsT))))
theorem c447 (N : Nat) (w0 : Option World) : CallT Tryz.prog (Co.meet Tryz.prog N w0) 38 [(.slice 43795 (.lit (.ofNat 0)) (.lit (.ofNat 2)) (.add (.lit (.ofNat 2)) (.room 43795 6))), (vI 56), (.agg [(.fn (.func 74) [] [])])] (mkH l440 l441) 43797 (vP 43798) h445 45335 :=
 CallT.at_ (size := 40) (fn_ok38) (by kernel_rfl) (FromT.piece (Fa_ok N w0) r444 (noSumsT) (FromT.last (Fa_ok N w0) r446 (noSumsT)))
theorem c456 (N : Nat) (w0 : Option World) : CallT Tryz.prog (Co.meet Tryz.prog N w0) 38 [(.slice 45338 (.lit (.ofNat 0)) (.lit (.ofNat 2)) (.add (.lit (.ofNat 2)) (.room 45338 6))), (vI 56), (.agg [(.fn (.func 74) [] [])])] (mkH l449 l450) 45340 (vP 45341) h454 46846 :=
 CallT.at_ (size := 40) (fn_ok38) (by kernel_rfl) (FromT.piece (Fa_ok N w0) r453 (noSumsT) (FromT.last (Fa_ok N w0) r455 (noSumsT)))
theorem c465 (N : Nat) (w0 : Option World) : CallT Tryz.prog (Co.meet Tryz.prog N w0) 38 [(.slice 46853 (.lit (.ofNat 0)) (.lit (.ofNat 2)) (.add (.lit (.ofNat 2)) (.room 46853 6))), (vI 56), (.agg [(.fn (.func 74) [] [])])] (mkH l458 l459) 46855 (vP 46856) h463 48361 :=
 CallT.at_ (size := 40) (fn_ok38) (by kernel_rfl) (FromT.piece (Fa_ok N w0) r462 (noSumsT) (FromT.last (Fa_ok N w0) r464 (noSumsT)))
theorem c486 (N : Nat) (w0 : Option World) : CallT Tryz.prog (Co.meet Tryz.prog N w0) 38 [(.slice 48376 (.lit (.ofNat 0)) (.lit (.ofNat 3)) (.add (.lit (.ofNat 3)) (.room 48376 6))), (vI 56), (.agg [(.fn (.func 74) [] [])])] (mkH l467 l468) 48378 (vP 48379) h484 52628 :=
 CallT.at_ (size := 40) (fn_ok38) (by kernel_rfl) (FromT.piece (Fa_ok N w0) r471 (noSumsT) (FromT.piece (Fa_ok N w0) r474 (noSumsT) (FromT.piece (Fa_ok N w0) r477 (noSumsT) (FromT.piece (Fa_ok N w0) r480 (noSumsT) (FromT.piece (Fa_ok N w0) r483 (noSumsT) (FromT.last (Fa_ok N w0) r485 (noSumsT)))))))
theorem c493 (N : Nat) (w0 : Option World) : CallT Tryz.prog (Co.meet Tryz.prog N w0) 3 [] h0 16 vT h491 53250 :=
 CallT.at_ (size := 415) (fn_ok3) (by kernel_rfl) (FromT.piece (Fa_ok N w0) r3 (noSumsT) (FromT.call r99 (c96 N w0) (FromT.cut r100 (FromT.piece (Fa_ok N w0) r103 (noSumsT) (FromT.call r149 (c146 N w0) (FromT.cut r150 (FromT.piece (Fa_ok N w0) r153 (noSumsT) (FromT.call r179 (c176 N w0) (FromT.cut r180 (FromT.piece (Fa_ok N w0) r183 (noSumsT) (FromT.piece (Fa_ok N w0) r204 (consSumT (s := q201) (c200 N w0) (noSumsT)) (FromT.call r223 (c220 N w0) (FromT.cut r224 (FromT.piece (Fa_ok N w0) r227 (noSumsT) (FromT.call r256 (c253 N w0) (FromT.cut r257 (FromT.piece (Fa_ok N w0) r260 (noSumsT) (FromT.call r279 (c276 N w0) (FromT.cut r280 (FromT.piece (Fa_ok N w0) r283 (noSumsT) (FromT.piece (Fa_ok N w0) r310 (consSumT (s := q307) (c306 N w0) (noSumsT)) (FromT.piece (Fa_ok N w0) r334 (consSumT (s := q331) (c330 N w0) (noSumsT)) (FromT.piece (Fa_ok N w0) r343 (consSumT (s := q340) (c339 N w0) (noSumsT)) (FromT.piece (Fa_ok N w0) r490 (consSumT (s := q487) (c486 N w0) (consSumT (s := q466) (c465 N w0) (consSumT (s := q457) (c456 N w0) (consSumT (s := q448) (c447 N w0) (consSumT (s := q439) (c438 N w0) (consSumT (s := q427) (c426 N w0) (consSumT (s := q418) (c417 N w0) (consSumT (s := q403) (c402 N w0) (consSumT (s := q394) (c393 N w0) (consSumT (s := q388) (c387 N w0) (consSumT (s := q379) (c378 N w0) (consSumT (s := q373) (c372 N w0) (consSumT (s := q367) (c366 N w0) (noSumsT)))))))))))))) (FromT.last (Fa_ok N w0) r492 (noSumsT))))))))))))))))))))))))))
end Fk
