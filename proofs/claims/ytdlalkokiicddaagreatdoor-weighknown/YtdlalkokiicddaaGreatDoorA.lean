/- What the run asks of the program: the library of WaitGroup, errors.As. -/
import Derived.Test.YtdlalkokiicddaaGreatDoorProg
import Derived.Test.YtdlalkokiicddaaGreatDoorm4
import Derived.KernelRfl
set_option maxRecDepth 100000
namespace Mw
open Go Mv Go.Proofs Go.Extern
def Cf : Conf := ⟨⟨⟨65, 68, 43, 94, 70, 72, 78, 95, 96, 97, 98, 99, 71, 100, 76, 101, 73, 74, 75, 77, 79, 123, 124, 106, 125, 107, 129, 137, 159, 90, 87, 85, 100, 88, 141, 176, 178, 82, 83, 84⟩, 40, 66, 67, 1⟩, ⟨102, 103, 104, 127, 128, 126, 1, 196, 134, 132, 67, 25⟩, [17, 69, 105, 41]⟩

theorem Cf_wg : Go.Conc.Lib.WgLib Tryz.prog Cf.hk.L where
  f_add := by kernel_rfl
  f_done := by kernel_rfl
  f_wait := by kernel_rfl
  f_relMerge := by kernel_rfl
  f_disable := by kernel_rfl
  f_enable := by kernel_rfl
  f_inBubble := by kernel_rfl
  f_associate := by kernel_rfl
  f_fatal := by kernel_rfl
  f_uOr := by kernel_rfl
  f_uAdd := by kernel_rfl
  f_raceRead := by kernel_rfl
  f_uLoad := by kernel_rfl
  f_uStore := by kernel_rfl
  f_disassociate := by kernel_rfl
  f_semrelease := by kernel_rfl
  f_acquire := by kernel_rfl
  f_isAssociated := by kernel_rfl
  f_uCas := by kernel_rfl
  f_raceWrite := by kernel_rfl
  f_semacquire := by kernel_rfl
  f_orU64 := by kernel_rfl
  f_addU64 := by kernel_rfl
  f_loadU64 := by kernel_rfl
  f_storeU64 := by kernel_rfl
  f_casU64 := by kernel_rfl
  underlying_tWgP := by kernel_rfl
  runUnderlying_tWgP := fun _ => by kernel_rfl
  sizeOf_tWgP := fun _ => by kernel_rfl
  isAgg_tWgP := fun _ => by kernel_rfl
  zeroValue_tWgP := fun _ => by kernel_rfl
  underlying_tUP := by kernel_rfl
  runUnderlying_tUP := fun _ => by kernel_rfl
  sizeOf_tUP := fun _ => by kernel_rfl
  isAgg_tUP := fun _ => by kernel_rfl
  zeroValue_tUP := fun _ => by kernel_rfl
  underlying_tI32 := by kernel_rfl
  runUnderlying_tI32 := fun _ => by kernel_rfl
  sizeOf_tI32 := fun _ => by kernel_rfl
  isAgg_tI32 := fun _ => by kernel_rfl
  zeroValue_tI32 := fun _ => by kernel_rfl
  underlying_tWg := by kernel_rfl
  runUnderlying_tWg := fun _ => by kernel_rfl
  sizeOf_tWg := fun _ => by kernel_rfl
  isAgg_tWg := fun _ => by kernel_rfl
  zeroValue_tWg := fun _ => by kernel_rfl
  underlying_tAU := by kernel_rfl
  runUnderlying_tAU := fun _ => by kernel_rfl
  sizeOf_tAU := fun _ => by kernel_rfl
  isAgg_tAU := fun _ => by kernel_rfl
  zeroValue_tAU := fun _ => by kernel_rfl
  underlying_tU64 := by kernel_rfl
  runUnderlying_tU64 := fun _ => by kernel_rfl
  sizeOf_tU64 := fun _ => by kernel_rfl
  isAgg_tU64 := fun _ => by kernel_rfl
  zeroValue_tU64 := fun _ => by kernel_rfl
  underlying_tSh := by kernel_rfl
  runUnderlying_tSh := fun _ => by kernel_rfl
  sizeOf_tSh := fun _ => by kernel_rfl
  isAgg_tSh := fun _ => by kernel_rfl
  zeroValue_tSh := fun _ => by kernel_rfl
  underlying_tU32 := by kernel_rfl
  runUnderlying_tU32 := fun _ => by kernel_rfl
  sizeOf_tU32 := fun _ => by kernel_rfl
  isAgg_tU32 := fun _ => by kernel_rfl
  zeroValue_tU32 := fun _ => by kernel_rfl
  underlying_tPU32 := by kernel_rfl
  runUnderlying_tPU32 := fun _ => by kernel_rfl
  sizeOf_tPU32 := fun _ => by kernel_rfl
  isAgg_tPU32 := fun _ => by kernel_rfl
  zeroValue_tPU32 := fun _ => by kernel_rfl
  underlying_tPAU := by kernel_rfl
  runUnderlying_tPAU := fun _ => by kernel_rfl
  sizeOf_tPAU := fun _ => by kernel_rfl
  isAgg_tPAU := fun _ => by kernel_rfl
  zeroValue_tPAU := fun _ => by kernel_rfl
  underlying_tPU64 := by kernel_rfl
  runUnderlying_tPU64 := fun _ => by kernel_rfl
  sizeOf_tPU64 := fun _ => by kernel_rfl
  isAgg_tPU64 := fun _ => by kernel_rfl
  zeroValue_tPU64 := fun _ => by kernel_rfl
  underlying_t0 := by kernel_rfl
  runUnderlying_t0 := fun _ => by kernel_rfl
  sizeOf_t0 := fun _ => by kernel_rfl
  isAgg_t0 := fun _ => by kernel_rfl
  zeroValue_t0 := fun _ => by kernel_rfl
  underlying_t3 := by kernel_rfl
  runUnderlying_t3 := fun _ => by kernel_rfl
  sizeOf_t3 := fun _ => by kernel_rfl
  isAgg_t3 := fun _ => by kernel_rfl
  zeroValue_t3 := fun _ => by kernel_rfl
  underlying_t4 := by kernel_rfl
  runUnderlying_t4 := fun _ => by kernel_rfl
  sizeOf_t4 := fun _ => by kernel_rfl
  isAgg_t4 := fun _ => by kernel_rfl
  zeroValue_t4 := fun _ => by kernel_rfl
  underlying_t9 := by kernel_rfl
  runUnderlying_t9 := fun _ => by kernel_rfl
  sizeOf_t9 := fun _ => by kernel_rfl
  isAgg_t9 := fun _ => by kernel_rfl
  zeroValue_t9 := fun _ => by kernel_rfl
  underlying_t20 := by kernel_rfl
  runUnderlying_t20 := fun _ => by kernel_rfl
  sizeOf_t20 := fun _ => by kernel_rfl
  isAgg_t20 := fun _ => by kernel_rfl
  zeroValue_t20 := fun _ => by kernel_rfl
  underlying_t21 := by kernel_rfl
  runUnderlying_t21 := fun _ => by kernel_rfl
  sizeOf_t21 := fun _ => by kernel_rfl
  isAgg_t21 := fun _ => by kernel_rfl
  zeroValue_t21 := fun _ => by kernel_rfl
  room_tWg := by kernel_rfl
  room_tU32 := by kernel_rfl
theorem Cf_gl : GoLib Tryz.prog Cf.hk :=
  ⟨Tryz.f67, _, _, _, Tryz.func67, rfl, ⟨_, _, _, _, _, _, _, _, _, by decide, rfl⟩, rfl, rfl⟩
theorem Cf_gf : GoFn Tryz.prog Cf.hk :=
  ⟨Tryz.f40, _, _, _, _, _, Tryz.func40, rfl, ⟨_, _, _, _, _, _, _, rfl⟩, ⟨_, _, _, _, _, _, _, rfl⟩, by decide, rfl, rfl⟩
def ext_ (fn : Func) : Array Value → Sem Value := (Extern.find fn).getD fun args => ReflectliteValue.unpack (args.getD 0 (.tuple #[]))
theorem Cf_as : AsLib Tryz.prog Cf.as where
  valueOf := ⟨Tryz.f102, Tryz.func102, by kernel_rfl, by kernel_rfl, by kernel_rfl, by kernel_rfl⟩
  typ := ⟨Tryz.f103, Tryz.func103, by kernel_rfl, by kernel_rfl, by kernel_rfl, by kernel_rfl⟩
  isNil := ⟨Tryz.f104, Tryz.func104, by kernel_rfl, by kernel_rfl, by kernel_rfl, by kernel_rfl⟩
  elemV := ⟨Tryz.f127, Tryz.func127, by kernel_rfl, by kernel_rfl, by kernel_rfl, by kernel_rfl⟩
  setV := ⟨Tryz.f128, Tryz.func128, by kernel_rfl, by kernel_rfl, by kernel_rfl, by kernel_rfl⟩
  typeOf := ⟨Tryz.f126, Tryz.func126, by kernel_rfl, by kernel_rfl, by kernel_rfl, by kernel_rfl⟩
  mkP := fun _ => by kernel_rfl
  mkE := fun _ => by kernel_rfl
  mkA := fun _ => by kernel_rfl
  type_ := fun _ => by kernel_rfl
  partsP := fun _ => by kernel_rfl
  partsE := fun _ => by kernel_rfl
  partsA := fun _ => by kernel_rfl
  flag := by kernel_rfl
  elem? := by kernel_rfl
  direct := by kernel_rfl
  typeOf_ := fun _ => by kernel_rfl
  kindP := ⟨150, ext_ Tryz.f150, fun _ => by kernel_rfl, ⟨Tryz.f150, Tryz.func150, by kernel_rfl, by kernel_rfl, by kernel_rfl, by kernel_rfl⟩, by kernel_rfl, by kernel_rfl⟩
  elemT := ⟨163, ext_ Tryz.f163, fun _ => by kernel_rfl, ⟨Tryz.f163, Tryz.func163, by kernel_rfl, by kernel_rfl, by kernel_rfl, by kernel_rfl⟩, by kernel_rfl⟩
  impl := ⟨164, ext_ Tryz.f164, fun _ => by kernel_rfl, ⟨Tryz.f164, Tryz.func164, by kernel_rfl, by kernel_rfl, by kernel_rfl, by kernel_rfl⟩, by kernel_rfl⟩
  assign := ⟨161, ext_ Tryz.f161, fun _ => by kernel_rfl, ⟨Tryz.f161, Tryz.func161, by kernel_rfl, by kernel_rfl, by kernel_rfl, by kernel_rfl⟩, by kernel_rfl⟩
theorem Cf_ok : Cf.Ok Tryz.prog := ⟨Cf_wg, Cf_gl, Cf_gf, Cf_as⟩
end Mw
