/- A part of the run of WeighKnown: states, facts that the kernel runs, or their chain. -/
import Derived.Test.YtdlalkokiicddaaGreatDoorf1
import Derived.Test.YtdlalkokiicddaaGreatDoorf2
import Derived.Test.YtdlalkokiicddaaGreatDoorf3
import Derived.Test.YtdlalkokiicddaaGreatDoorf4
import Derived.Test.YtdlalkokiicddaaGreatDoorf5
import Derived.Test.YtdlalkokiicddaaGreatDoorf6
import Derived.Test.YtdlalkokiicddaaGreatDoorf7
import Derived.Test.YtdlalkokiicddaaGreatDoorf8
import Derived.Test.YtdlalkokiicddaaGreatDoorf9
import Derived.Test.YtdlalkokiicddaaGreatDoorf10
import Derived.Test.YtdlalkokiicddaaGreatDoorf11
import Derived.Test.YtdlalkokiicddaaGreatDoorf12
import Derived.Test.YtdlalkokiicddaaGreatDoorf13
import Derived.Test.YtdlalkokiicddaaGreatDoorf14
import Derived.Test.YtdlalkokiicddaaGreatDoorf15
import Derived.Test.YtdlalkokiicddaaGreatDoorf16
import Derived.Test.YtdlalkokiicddaaGreatDoorf17
import Derived.Test.YtdlalkokiicddaaGreatDoorf18
import Derived.Test.YtdlalkokiicddaaGreatDoorf19
import Derived.Test.YtdlalkokiicddaaGreatDoorf20
import Derived.Test.YtdlalkokiicddaaGreatDoorf21
import Derived.Test.YtdlalkokiicddaaGreatDoorf22
import Derived.Test.YtdlalkokiicddaaGreatDoorf23
import Derived.Test.YtdlalkokiicddaaGreatDoorf24
import Derived.Test.YtdlalkokiicddaaGreatDoorf25
import Derived.Test.YtdlalkokiicddaaGreatDoorf26
import Derived.Test.YtdlalkokiicddaaGreatDoorf27
import Derived.Test.YtdlalkokiicddaaGreatDoorf28
import Derived.Test.YtdlalkokiicddaaGreatDoorf29
import Derived.Test.YtdlalkokiicddaaGreatDoorf30
import Derived.Test.YtdlalkokiicddaaGreatDoorf31
import Derived.Test.YtdlalkokiicddaaGreatDoorf32
import Derived.Test.YtdlalkokiicddaaGreatDoorf33
import Derived.Test.YtdlalkokiicddaaGreatDoorf34
import Derived.Test.YtdlalkokiicddaaGreatDoorf35
import Derived.Test.YtdlalkokiicddaaGreatDoorf36
import Derived.Test.YtdlalkokiicddaaGreatDoorf37
import Derived.Test.YtdlalkokiicddaaGreatDoorf38
import Derived.KernelRfl
set_option linter.unusedSimpArgs false
set_option maxRecDepth 1000000
set_option maxHeartbeats 0
set_option linter.unusedVariables false
namespace Mw
open Go Mv Go.Proofs
theorem fn_ok3 : FnOk Tryz.prog 3 := ⟨by kernel_rfl, by kernel_rfl, by kernel_rfl⟩
theorem fn_ok5 : FnOk Tryz.prog 5 := ⟨by kernel_rfl, by kernel_rfl, by kernel_rfl⟩
theorem fn_ok16 : FnOk Tryz.prog 16 := ⟨by kernel_rfl, by kernel_rfl, by kernel_rfl⟩
theorem fn_ok20 : FnOk Tryz.prog 20 := ⟨by kernel_rfl, by kernel_rfl, by kernel_rfl⟩
theorem fn_ok37 : FnOk Tryz.prog 37 := ⟨by kernel_rfl, by kernel_rfl, by kernel_rfl⟩
theorem fn_ok50 : FnOk Tryz.prog 50 := ⟨by kernel_rfl, by kernel_rfl, by kernel_rfl⟩
theorem fn_ok83 : FnOk Tryz.prog 83 := ⟨by kernel_rfl, by kernel_rfl, by kernel_rfl⟩
theorem c27 {N : Nat} {w0 : Option World} : CallTo Tryz.prog N w0 83 [(.agg [(vL 1836 4 4), (vL 1831 3 3)]), (vI 0), (.fn (.func 53) [] [])] (s14).hp 2248 (vP 2249) h25 6125 :=
  CallTo.at_ (size := 31) (fn_ok83) (by kernel_rfl) (Cf_ok.piece r18 (noSums) (Cf_ok.piece r21 (noSums) (Cf_ok.piece r24 (noSums) (Cf_ok.last r26 (noSums)))))
theorem c40 {N : Nat} {w0 : Option World} : CallTo Tryz.prog N w0 50 [(.agg [(vL 1836 4 4), (vL 1831 3 3)]), (vI 0), (vI 0)] (s11).hp 2247 (vI 3) h38 6799 :=
  CallTo.at_ (size := 33) (fn_ok50) (by kernel_rfl) (Cf_ok.piece r15 (noSums) (From.call r30 c27 (From.cut r31 (Cf_ok.piece r34 (noSums) (Cf_ok.piece r37 (noSums) (Cf_ok.last r39 (noSums)))))))
theorem c59 {N : Nat} {w0 : Option World} : CallTo Tryz.prog N w0 83 [(.agg [(vL 1836 4 4), (vL 1831 3 3)]), (vI 1), (.fn (.func 53) [] [])] (s49).hp 6800 (vP 6801) h57 10148 :=
  CallTo.at_ (size := 31) (fn_ok83) (by kernel_rfl) (Cf_ok.piece r53 (noSums) (Cf_ok.piece r56 (noSums) (Cf_ok.last r58 (noSums))))
theorem c72 {N : Nat} {w0 : Option World} : CallTo Tryz.prog N w0 50 [(.agg [(vL 1836 4 4), (vL 1831 3 3)]), (vI 1), (vI 0)] (s46).hp 6799 (vI 4) h70 10822 :=
  CallTo.at_ (size := 33) (fn_ok50) (by kernel_rfl) (Cf_ok.piece r50 (noSums) (From.call r62 c59 (From.cut r63 (Cf_ok.piece r66 (noSums) (Cf_ok.piece r69 (noSums) (Cf_ok.last r71 (noSums)))))))
theorem c94 {N : Nat} {w0 : Option World} : CallTo Tryz.prog N w0 83 [(.agg [(vL 1836 4 4), (vL 1831 3 3)]), (vI 2), (.fn (.func 53) [] [])] (s81).hp 10823 (vP 10824) h92 14445 :=
  CallTo.at_ (size := 31) (fn_ok83) (by kernel_rfl) (Cf_ok.piece r85 (noSums) (Cf_ok.piece r88 (noSums) (Cf_ok.piece r91 (noSums) (Cf_ok.last r93 (noSums)))))
theorem c107 {N : Nat} {w0 : Option World} : CallTo Tryz.prog N w0 50 [(.agg [(vL 1836 4 4), (vL 1831 3 3)]), (vI 2), (vI 0)] (s78).hp 10822 (vI 3) h105 15119 :=
  CallTo.at_ (size := 33) (fn_ok50) (by kernel_rfl) (Cf_ok.piece r82 (noSums) (From.call r97 c94 (From.cut r98 (Cf_ok.piece r101 (noSums) (Cf_ok.piece r104 (noSums) (Cf_ok.last r106 (noSums)))))))
theorem c123 {N : Nat} {w0 : Option World} : CallTo Tryz.prog N w0 83 [(.agg [(vL 1836 4 4), (vL 1831 3 3)]), (vI 3), (.fn (.func 53) [] [])] (s116).hp 15120 (vP 15121) h121 17969 :=
  CallTo.at_ (size := 31) (fn_ok83) (by kernel_rfl) (Cf_ok.piece r120 (noSums) (Cf_ok.last r122 (noSums)))
theorem c136 {N : Nat} {w0 : Option World} : CallTo Tryz.prog N w0 50 [(.agg [(vL 1836 4 4), (vL 1831 3 3)]), (vI 3), (vI 0)] (s113).hp 15119 (vI 5) h134 18519 :=
  CallTo.at_ (size := 33) (fn_ok50) (by kernel_rfl) (Cf_ok.piece r117 (noSums) (From.call r126 c123 (From.cut r127 (Cf_ok.piece r130 (noSums) (Cf_ok.piece r133 (noSums) (Cf_ok.last r135 (noSums)))))))
theorem c143 {N : Nat} {w0 : Option World} : CallTo Tryz.prog N w0 20 [(.agg [(vL 1836 4 4), (vL 1831 3 3)]), (vI 0)] (s8).hp 1837 (.tup [(vI 0), (vI 3), (vI 0)]) h141 18519 :=
  CallTo.at_ (size := 51) (fn_ok20) (by kernel_rfl) (Cf_ok.piece r12 (noSums) (From.call r43 c40 (From.cut r44 (Cf_ok.piece r47 (noSums) (From.call r75 c72 (From.cut r76 (Cf_ok.piece r79 (noSums) (From.call r110 c107 (From.cut r111 (Cf_ok.piece r114 (noSums) (From.call r139 c136 (From.cut r140 (Cf_ok.last r142 (noSums))))))))))))))
theorem c150 {N : Nat} {w0 : Option World} : CallTo Tryz.prog N w0 5 [] (s2).hp 49 vT h148 18758 :=
  CallTo.at_ (size := 103) (fn_ok5) (by kernel_rfl) (Cf_ok.piece r6 (noSums) (Cf_ok.piece r9 (noSums) (From.call r146 c143 (From.cut r147 (Cf_ok.last r149 (noSums))))))
theorem c174 {N : Nat} {w0 : Option World} : CallTo Tryz.prog N w0 37 [(.agg [(vL 21843 4 4), (vL 21838 3 3)]), (vI 1), (.fn (.func 33) [] [])] (s167).hp 22065 (vP 22066) h172 25175 :=
  CallTo.at_ (size := 31) (fn_ok37) (by kernel_rfl) (Cf_ok.piece r171 (noSums) (Cf_ok.last r173 (noSums)))
theorem c181 {N : Nat} {w0 : Option World} : CallTo Tryz.prog N w0 16 [(.agg [(vL 21843 4 4), (vL 21838 3 3)]), (vI 1), (vI 2)] (mkH l164 l165) 21844 (.tup [(vI 1), (vI 0)]) h179 25183 :=
  CallTo.at_ (size := 56) (fn_ok16) (by kernel_rfl) (Cf_ok.piece r168 (noSums) (From.call r177 c174 (From.cut r178 (Cf_ok.last r180 (noSums)))))
theorem c196 {N : Nat} {w0 : Option World} : CallTo Tryz.prog N w0 37 [(.agg [(vL 25192 4 4), (vL 25187 3 3)]), (vI 2), (.fn (.func 33) [] [])] (s189).hp 25414 (vP 25415) h194 28714 :=
  CallTo.at_ (size := 31) (fn_ok37) (by kernel_rfl) (Cf_ok.piece r193 (noSums) (Cf_ok.last r195 (noSums)))
theorem c203 {N : Nat} {w0 : Option World} : CallTo Tryz.prog N w0 16 [(.agg [(vL 25192 4 4), (vL 25187 3 3)]), (vI 2), (vI 1)] (mkH l186 l187) 25193 (.tup [(vI 2), (vI 0)]) h201 28722 :=
  CallTo.at_ (size := 56) (fn_ok16) (by kernel_rfl) (Cf_ok.piece r190 (noSums) (From.call r199 c196 (From.cut r200 (Cf_ok.last r202 (noSums)))))
theorem c218 {N : Nat} {w0 : Option World} : CallTo Tryz.prog N w0 37 [(.agg [(vL 28731 4 4), (vL 28726 3 3)]), (vI 1), (.fn (.func 33) [] [])] (s211).hp 28953 (vP 28954) h216 32063 :=
  CallTo.at_ (size := 31) (fn_ok37) (by kernel_rfl) (Cf_ok.piece r215 (noSums) (Cf_ok.last r217 (noSums)))
theorem c225 {N : Nat} {w0 : Option World} : CallTo Tryz.prog N w0 16 [(.agg [(vL 28731 4 4), (vL 28726 3 3)]), (vI 1), (vI 3)] (mkH l208 l209) 28732 (.tup [(vI 3), (vI 0)]) h223 32071 :=
  CallTo.at_ (size := 56) (fn_ok16) (by kernel_rfl) (Cf_ok.piece r212 (noSums) (From.call r221 c218 (From.cut r222 (Cf_ok.last r224 (noSums)))))
theorem c237 {N : Nat} {w0 : Option World} : CallTo Tryz.prog N w0 16 [(.agg [(vL 32080 4 4), (vL 32075 3 3)]), (vI 3), (vI 1)] (mkH l230 l231) 32081 (.tup [(vI 2), (vI 0)]) h235 34908 :=
  CallTo.at_ (size := 56) (fn_ok16) (by kernel_rfl) (Cf_ok.piece r234 (noSums) (Cf_ok.last r236 (noSums)))
theorem c256 {N : Nat} {w0 : Option World} : CallTo Tryz.prog N w0 83 [(.agg [(vL 18867 1 1), vZ]), (vI 0), (.fn (.func 53) [] [])] (s249).hp 37459 (vP 37460) h254 38870 :=
  CallTo.at_ (size := 31) (fn_ok83) (by kernel_rfl) (Cf_ok.piece r253 (noSums) (Cf_ok.last r255 (noSums)))
theorem c272 {N : Nat} {w0 : Option World} : CallTo Tryz.prog N w0 50 [(.agg [(vL 18867 1 1), vZ]), (vI 0), (vI 0)] (s246).hp 37458 (vI 1) h270 39978 :=
  CallTo.at_ (size := 33) (fn_ok50) (by kernel_rfl) (Cf_ok.piece r250 (noSums) (From.call r259 c256 (From.cut r260 (Cf_ok.piece r263 (noSums) (Cf_ok.piece r266 (noSums) (Cf_ok.piece r269 (noSums) (Cf_ok.last r271 (noSums))))))))
theorem c279 {N : Nat} {w0 : Option World} : CallTo Tryz.prog N w0 20 [(.agg [(vL 18867 1 1), vZ]), (vI 0)] (s243).hp 37319 (.tup [(vI 0), (vI 0), (vI 11)]) h277 39978 :=
  CallTo.at_ (size := 51) (fn_ok20) (by kernel_rfl) (Cf_ok.piece r247 (noSums) (From.call r275 c272 (From.cut r276 (Cf_ok.last r278 (noSums)))))
theorem c289 {N : Nat} {w0 : Option World} : CallTo Tryz.prog N w0 3 [] h0 16 vT h287 41720 :=
  CallTo.at_ (size := 385) (fn_ok3) (by kernel_rfl) (Cf_ok.piece r3 (noSums) (From.call r153 c150 (From.cut r154 (Cf_ok.piece r157 (noSums) (Cf_ok.piece r160 (noSums) (Cf_ok.piece r163 (noSums) (Cf_ok.piece r185 (oneSum (s := q182) c181) (Cf_ok.piece r207 (oneSum (s := q204) c203) (Cf_ok.piece r229 (oneSum (s := q226) c225) (Cf_ok.piece r241 (oneSum (s := q238) c237) (Cf_ok.piece r244 (noSums) (From.call r282 c279 (From.cut r283 (Cf_ok.piece r286 (noSums) (Cf_ok.last r288 (noSums))))))))))))))))
end Mw
