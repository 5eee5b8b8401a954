/- A part of the run of the row: states, facts that the kernel runs, or their chain. -/
import Derived.Test.YtehopimmbgoaaaaGreatDoorf1x1
import Derived.Test.YtehopimmbgoaaaaGreatDoorf1x2
import Derived.Test.YtehopimmbgoaaaaGreatDoorf1x3
import Derived.Test.YtehopimmbgoaaaaGreatDoorf1x4
import Derived.Test.YtehopimmbgoaaaaGreatDoorf1x5
import Derived.Test.YtehopimmbgoaaaaGreatDoorf1x6
import Derived.Test.YtehopimmbgoaaaaGreatDoorf1x7
import Derived.Test.YtehopimmbgoaaaaGreatDoorf1x8
import Derived.Test.YtehopimmbgoaaaaGreatDoorf1x9
import Derived.Test.YtehopimmbgoaaaaGreatDoorf1x10
import Derived.Test.YtehopimmbgoaaaaGreatDoorf1x11
import Derived.Test.YtehopimmbgoaaaaGreatDoorf1x12
import Derived.Test.YtehopimmbgoaaaaGreatDoorf1x13
import Derived.Test.YtehopimmbgoaaaaGreatDoorf1x14
import Derived.Test.YtehopimmbgoaaaaGreatDoorf1x15
import Derived.Test.YtehopimmbgoaaaaGreatDoorf1x16
import Derived.Test.YtehopimmbgoaaaaGreatDoorf1x17
import Derived.Test.YtehopimmbgoaaaaGreatDoorf1x18
import Derived.Test.YtehopimmbgoaaaaGreatDoorf1x19
import Derived.Test.YtehopimmbgoaaaaGreatDoorf1x20
import Derived.Test.YtehopimmbgoaaaaGreatDoorf1x21
import Derived.Test.YtehopimmbgoaaaaGreatDoorf1x22
import Derived.Test.YtehopimmbgoaaaaGreatDoorf1x23
import Derived.Test.YtehopimmbgoaaaaGreatDoorf1x24
import Derived.Test.YtehopimmbgoaaaaGreatDoorf1x25
import Derived.Test.YtehopimmbgoaaaaGreatDoorf1x26
import Derived.Test.YtehopimmbgoaaaaGreatDoorf1x27
import Derived.Test.YtehopimmbgoaaaaGreatDoorf1x28
import Derived.Test.YtehopimmbgoaaaaGreatDoorf1x29
import Derived.Test.YtehopimmbgoaaaaGreatDoorf2x1
import Derived.Test.YtehopimmbgoaaaaGreatDoorf2x2
import Derived.KernelRfl
set_option linter.unusedSimpArgs false
set_option maxRecDepth 1000000
set_option maxHeartbeats 0
set_option linter.unusedVariables false
namespace Mw
open Go Mv Go.Proofs
theorem fn_ok3 : FnOk Tryz.prog 3 := ⟨by kernel_rfl, by kernel_rfl, by kernel_rfl⟩
theorem fn_ok5 : FnOk Tryz.prog 5 := ⟨by kernel_rfl, by kernel_rfl, by kernel_rfl⟩
theorem fn_ok22 : FnOk Tryz.prog 22 := ⟨by kernel_rfl, by kernel_rfl, by kernel_rfl⟩
theorem fn_ok40 : FnOk Tryz.prog 40 := ⟨by kernel_rfl, by kernel_rfl, by kernel_rfl⟩
theorem fn_ok83 : FnOk Tryz.prog 83 := ⟨by kernel_rfl, by kernel_rfl, by kernel_rfl⟩
theorem fn_ok84 : FnOk Tryz.prog 84 := ⟨by kernel_rfl, by kernel_rfl, by kernel_rfl⟩
theorem c56 {N : Nat} {w0 : Option World} : CallTo Tryz.prog N w0 83 [(vP 6756), (.ref 8586)] (mkH l52 l53) 8589 vF h54 8591 :=
  CallTo.at_ (size := 40) (fn_ok83) (by kernel_rfl) (Cf_ok.last r55 (noSums) noWs)
theorem c65 {N : Nat} {w0 : Option World} : CallTo Tryz.prog N w0 84 [(.ref 8408), (vI 1)] (mkH l58 l59) 8596 (.ref 8596) h63 8599 :=
  CallTo.at_ (size := 25) (fn_ok84) (by kernel_rfl) (Cf_ok.piece r62 (noSums) noWs (Cf_ok.last r64 (noSums) noWs))
theorem c71 {N : Nat} {w0 : Option World} : CallTo Tryz.prog N w0 83 [(vP 6756), (.ref 8596)] (mkH l67 l68) 8599 vT h69 8601 :=
  CallTo.at_ (size := 40) (fn_ok83) (by kernel_rfl) (Cf_ok.last r70 (noSums) noWs)
theorem c77 {N : Nat} {w0 : Option World} : CallTo Tryz.prog N w0 84 [(.ref 8596), (vI 2)] (mkH l73 l74) 8601 (.ref 8601) h75 8604 :=
  CallTo.at_ (size := 25) (fn_ok84) (by kernel_rfl) (Cf_ok.last r76 (noSums) noWs)
theorem c83 {N : Nat} {w0 : Option World} : CallTo Tryz.prog N w0 83 [(vP 6756), (.ref 8601)] (mkH l79 l80) 8604 vF h81 8606 :=
  CallTo.at_ (size := 40) (fn_ok83) (by kernel_rfl) (Cf_ok.last r82 (noSums) noWs)
theorem c89 {N : Nat} {w0 : Option World} : CallTo Tryz.prog N w0 83 [(vP 6756), (.ref 8591)] (mkH l85 l86) 8594 vF h87 8596 :=
  CallTo.at_ (size := 40) (fn_ok83) (by kernel_rfl) (Cf_ok.last r88 (noSums) noWs)
theorem c95 {N : Nat} {w0 : Option World} : CallTo Tryz.prog N w0 84 [(.ref 8408), (vI 2)] (mkH l91 l92) 8606 (.ref 8606) h93 8609 :=
  CallTo.at_ (size := 25) (fn_ok84) (by kernel_rfl) (Cf_ok.last r94 (noSums) noWs)
theorem c101 {N : Nat} {w0 : Option World} : CallTo Tryz.prog N w0 83 [(vP 6756), (.ref 8606)] (mkH l97 l98) 8609 vT h99 8611 :=
  CallTo.at_ (size := 40) (fn_ok83) (by kernel_rfl) (Cf_ok.last r100 (noSums) noWs)
theorem c105 {N : Nat} {w0 : Option World} : CallTo Tryz.prog N w0 40 [(.fn (.func 81) [] [(vP 8398), (vP 8399)]), (.fn (.func 42) [] [])] (s41).hp 8400 (.tup [(.int .u64 (.lit (.ofNat 3))), vT]) h103 8611 :=
  CallTo.at_ (size := 20) (fn_ok40) (by kernel_rfl) (Cf_ok.piece r51 (noSums) noWs (Cf_ok.last r104 (consSum (s := q102) c101 (consSum (s := q96) c95 (consSum (s := q90) c89 (consSum (s := q84) c83 (consSum (s := q78) c77 (consSum (s := q72) c71 (consSum (s := q66) c65 (consSum (s := q57) c56 (noSums))))))))) noWs))
theorem c112 {N : Nat} {w0 : Option World} : CallTo Tryz.prog N w0 22 [(.agg [(vL 6728 2 2), (vL 6729 2 2), (vL 6730 3 3), (vL 6731 3 3), (vL 6732 1 1)]), (vI 0)] (s32).hp 6733 (.tup [(.slice 8617 (.lit (.ofNat 0)) (.lit (.ofNat 2)) (.add (.lit (.ofNat 2)) (.room 8617 1))), (vI 0)]) h110 8618 :=
  CallTo.at_ (size := 36) (fn_ok22) (by kernel_rfl) (Cf_ok.piece r48 (noSums) (consWs r47 (consWs r44 noWs)) (From.call r108 c105 (From.cut r109 (Cf_ok.last r111 (noSums) noWs))))
theorem c122 {N : Nat} {w0 : Option World} : CallTo Tryz.prog N w0 5 [] (s2).hp 44 vT h117 9186 :=
  CallTo.at_ (size := 128) (fn_ok5) (by kernel_rfl) (Cf_ok.piece r12 (noSums) (consWs r11 (consWs r8 noWs)) (Cf_ok.piece r21 (noSums) (consWs r20 (consWs r17 noWs)) (Cf_ok.piece r30 (noSums) (consWs r29 (consWs r26 noWs)) (Cf_ok.piece r39 (noSums) (consWs r38 (consWs r35 noWs)) (From.call r115 c112 (From.cut r116 (Cf_ok.last r121 (noSums) (consWs r120 noWs))))))))
theorem c284 {N : Nat} {w0 : Option World} : CallTo Tryz.prog N w0 84 [(.ref 30887), (vI 1)] (mkH l277 l278) 31060 (.ref 31060) h282 31063 :=
  CallTo.at_ (size := 25) (fn_ok84) (by kernel_rfl) (Cf_ok.piece r281 (noSums) noWs (Cf_ok.last r283 (noSums) noWs))
theorem c290 {N : Nat} {w0 : Option World} : CallTo Tryz.prog N w0 84 [(.ref 30887), (vI 2)] (mkH l286 l287) 31070 (.ref 31070) h288 31073 :=
  CallTo.at_ (size := 25) (fn_ok84) (by kernel_rfl) (Cf_ok.last r289 (noSums) noWs)
theorem c296 {N : Nat} {w0 : Option World} : CallTo Tryz.prog N w0 83 [(vP 29235), (.ref 31070)] (mkH l292 l293) 31073 vT h294 31075 :=
  CallTo.at_ (size := 40) (fn_ok83) (by kernel_rfl) (Cf_ok.last r295 (noSums) noWs)
theorem c300 {N : Nat} {w0 : Option World} : CallTo Tryz.prog N w0 40 [(.fn (.func 81) [] [(vP 30877), (vP 30878)]), (.fn (.func 42) [] [])] (s266).hp 30879 (.tup [(.int .u64 (.lit (.ofNat 6))), vT]) h298 31075 :=
  CallTo.at_ (size := 20) (fn_ok40) (by kernel_rfl) (Cf_ok.piece r276 (noSums) noWs (Cf_ok.last r299 (consSum (s := q297) c296 (consSum (s := q291) c290 (consSum (s := q285) c284 (noSums)))) noWs))
theorem c307 {N : Nat} {w0 : Option World} : CallTo Tryz.prog N w0 22 [(.agg [(vL 29207 2 2), (vL 29208 2 2), (vL 29209 3 3), (vL 29210 3 3), (vL 29211 1 1)]), (vI 1)] (s254).hp 29212 (.tup [(.slice 31081 (.lit (.ofNat 0)) (.lit (.ofNat 2)) (.add (.lit (.ofNat 2)) (.room 31081 1))), (vI 0)]) h305 31082 :=
  CallTo.at_ (size := 36) (fn_ok22) (by kernel_rfl) (Cf_ok.piece r273 (noSums) (consWs r272 (consWs r269 noWs)) (From.call r303 c300 (From.cut r304 (Cf_ok.last r306 (noSums) noWs))))
theorem c326 {N : Nat} {w0 : Option World} : CallTo Tryz.prog N w0 22 [(.agg [(vL 31083 2 2), (vL 31084 2 2), (vL 31085 3 3), (vL 31086 3 3), (vL 31087 1 1)]), (vI 2)] (s313).hp 31088 (.tup [vZ, (vI 11)]) h324 32941 :=
  CallTo.at_ (size := 36) (fn_ok22) (by kernel_rfl) (Cf_ok.piece r323 (noSums) (consWs r322 (consWs r319 noWs)) (Cf_ok.last r325 (noSums) noWs))
theorem cK {N : Nat} {w0 : Option World} : CallTo Tryz.prog N w0 3 [] h0 16 vT h415 38633 :=
  CallTo.at_ (size := 505) (fn_ok3) (by kernel_rfl) (Cf_ok.piece r3 (noSums) noWs (From.call r125 c122 (From.cut r126 (Cf_ok.piece r135 (noSums) (consWs r134 (consWs r131 noWs)) (Cf_ok.piece r144 (noSums) (consWs r143 (consWs r140 noWs)) (Cf_ok.piece r153 (noSums) (consWs r152 (consWs r149 noWs)) (Cf_ok.piece r162 (noSums) (consWs r161 (consWs r158 noWs)) (Cf_ok.piece r171 (noSums) (consWs r170 (consWs r167 noWs)) (Cf_ok.piece r180 (noSums) (consWs r179 (consWs r176 noWs)) (Cf_ok.piece r189 (noSums) (consWs r188 (consWs r185 noWs)) (Cf_ok.piece r198 (noSums) (consWs r197 (consWs r194 noWs)) (Cf_ok.piece r207 (noSums) (consWs r206 (consWs r203 noWs)) (Cf_ok.piece r216 (noSums) (consWs r215 (consWs r212 noWs)) (Cf_ok.piece r225 (noSums) (consWs r224 (consWs r221 noWs)) (Cf_ok.piece r234 (noSums) (consWs r233 (consWs r230 noWs)) (Cf_ok.piece r243 (noSums) (consWs r242 (consWs r239 noWs)) (Cf_ok.piece r252 (noSums) (consWs r251 (consWs r248 noWs)) (Cf_ok.piece r264 (noSums) (consWs r263 (consWs r260 (consWs r257 noWs))) (From.call r310 c307 (From.cut r311 (Cf_ok.piece r314 (noSums) noWs (From.call r329 c326 (From.cut r330 (Cf_ok.piece r333 (noSums) noWs (Cf_ok.piece r342 (noSums) (consWs r341 (consWs r338 noWs)) (Cf_ok.piece r354 (noSums) (consWs r353 (consWs r350 (consWs r347 noWs))) (Cf_ok.piece r363 (noSums) (consWs r362 (consWs r359 noWs)) (Cf_ok.piece r405 (noSums) (consWs r374 noWs) (Cf_ok.piece r414 (noSums) (consWs r371 (consWs r368 noWs)) (Cf_ok.last r416 (noSums) noWs))))))))))))))))))))))))))))))

end Mw
