/- The numbers of the functions in which our hooks act, and that they are what the hooks ask. -/
import Derived.Test.YtehopimmbgoaaaaGreatDoorProg
import Derived.Test.YtehopimmbgoaaaaGreatDoorm5
import Derived.KernelRfl
set_option maxRecDepth 100000
namespace Mw
open Go Mv Go.Proofs Go.Extern
def Cf : Conf := ⟨⟨⟨93, 96, 73, 123, 98, 100, 106, 124, 125, 126, 127, 128, 99, 129, 104, 130, 101, 102, 103, 105, 107, 138, 139, 132, 140, 133, 169, 157, 206, 135, 132, 130, 85, 133, 177, 213, 215, 127, 128, 129⟩, 69, 94, 95, 1⟩, ⟨89, 90, 91, 121, 122, 120, 3, 193, 120, 118, 62, 25⟩, [39, 65, 92, 70, 115, 84, 85, 83, 135], [(84, 3, [0, 1, 4, 5, 9, 10, 11, 24]), (83, 3, [0, 1, 4, 5, 9, 10, 11, 12, 13, 14, 15, 16])]⟩

theorem Cf_wg : Go.Conc.Lib.WgLib Tryz.prog Cf.hk.L where
  f_add := by kernel_rfl
  f_done := by kernel_rfl
  f_wait := by kernel_rfl
  f_relMerge := by kernel_rfl
  f_disable := by kernel_rfl
  f_enable := by kernel_rfl
  f_inBubble := by kernel_rfl
  f_associate := by kernel_rfl
  f_fatal := by kernel_rfl
  f_uOr := by kernel_rfl
  f_uAdd := by kernel_rfl
  f_raceRead := by kernel_rfl
  f_uLoad := by kernel_rfl
  f_uStore := by kernel_rfl
  f_disassociate := by kernel_rfl
  f_semrelease := by kernel_rfl
  f_acquire := by kernel_rfl
  f_isAssociated := by kernel_rfl
  f_uCas := by kernel_rfl
  f_raceWrite := by kernel_rfl
  f_semacquire := by kernel_rfl
  f_orU64 := by kernel_rfl
  f_addU64 := by kernel_rfl
  f_loadU64 := by kernel_rfl
  f_storeU64 := by kernel_rfl
  f_casU64 := by kernel_rfl
  underlying_tWgP := by kernel_rfl
  runUnderlying_tWgP := fun _ => by kernel_rfl
  sizeOf_tWgP := fun _ => by kernel_rfl
  isAgg_tWgP := fun _ => by kernel_rfl
  zeroValue_tWgP := fun _ => by kernel_rfl
  underlying_tUP := by kernel_rfl
  runUnderlying_tUP := fun _ => by kernel_rfl
  sizeOf_tUP := fun _ => by kernel_rfl
  isAgg_tUP := fun _ => by kernel_rfl
  zeroValue_tUP := fun _ => by kernel_rfl
  underlying_tI32 := by kernel_rfl
  runUnderlying_tI32 := fun _ => by kernel_rfl
  sizeOf_tI32 := fun _ => by kernel_rfl
  isAgg_tI32 := fun _ => by kernel_rfl
  zeroValue_tI32 := fun _ => by kernel_rfl
  underlying_tWg := by kernel_rfl
  runUnderlying_tWg := fun _ => by kernel_rfl
  sizeOf_tWg := fun _ => by kernel_rfl
  isAgg_tWg := fun _ => by kernel_rfl
  zeroValue_tWg := fun _ => by kernel_rfl
  underlying_tAU := by kernel_rfl
  runUnderlying_tAU := fun _ => by kernel_rfl
  sizeOf_tAU := fun _ => by kernel_rfl
  isAgg_tAU := fun _ => by kernel_rfl
  zeroValue_tAU := fun _ => by kernel_rfl
  underlying_tU64 := by kernel_rfl
  runUnderlying_tU64 := fun _ => by kernel_rfl
  sizeOf_tU64 := fun _ => by kernel_rfl
  isAgg_tU64 := fun _ => by kernel_rfl
  zeroValue_tU64 := fun _ => by kernel_rfl
  underlying_tSh := by kernel_rfl
  runUnderlying_tSh := fun _ => by kernel_rfl
  sizeOf_tSh := fun _ => by kernel_rfl
  isAgg_tSh := fun _ => by kernel_rfl
  zeroValue_tSh := fun _ => by kernel_rfl
  underlying_tU32 := by kernel_rfl
  runUnderlying_tU32 := fun _ => by kernel_rfl
  sizeOf_tU32 := fun _ => by kernel_rfl
  isAgg_tU32 := fun _ => by kernel_rfl
  zeroValue_tU32 := fun _ => by kernel_rfl
  underlying_tPU32 := by kernel_rfl
  runUnderlying_tPU32 := fun _ => by kernel_rfl
  sizeOf_tPU32 := fun _ => by kernel_rfl
  isAgg_tPU32 := fun _ => by kernel_rfl
  zeroValue_tPU32 := fun _ => by kernel_rfl
  underlying_tPAU := by kernel_rfl
  runUnderlying_tPAU := fun _ => by kernel_rfl
  sizeOf_tPAU := fun _ => by kernel_rfl
  isAgg_tPAU := fun _ => by kernel_rfl
  zeroValue_tPAU := fun _ => by kernel_rfl
  underlying_tPU64 := by kernel_rfl
  runUnderlying_tPU64 := fun _ => by kernel_rfl
  sizeOf_tPU64 := fun _ => by kernel_rfl
  isAgg_tPU64 := fun _ => by kernel_rfl
  zeroValue_tPU64 := fun _ => by kernel_rfl
  underlying_t0 := by kernel_rfl
  runUnderlying_t0 := fun _ => by kernel_rfl
  sizeOf_t0 := fun _ => by kernel_rfl
  isAgg_t0 := fun _ => by kernel_rfl
  zeroValue_t0 := fun _ => by kernel_rfl
  underlying_t3 := by kernel_rfl
  runUnderlying_t3 := fun _ => by kernel_rfl
  sizeOf_t3 := fun _ => by kernel_rfl
  isAgg_t3 := fun _ => by kernel_rfl
  zeroValue_t3 := fun _ => by kernel_rfl
  underlying_t4 := by kernel_rfl
  runUnderlying_t4 := fun _ => by kernel_rfl
  sizeOf_t4 := fun _ => by kernel_rfl
  isAgg_t4 := fun _ => by kernel_rfl
  zeroValue_t4 := fun _ => by kernel_rfl
  underlying_t9 := by kernel_rfl
  runUnderlying_t9 := fun _ => by kernel_rfl
  sizeOf_t9 := fun _ => by kernel_rfl
  isAgg_t9 := fun _ => by kernel_rfl
  zeroValue_t9 := fun _ => by kernel_rfl
  underlying_t20 := by kernel_rfl
  runUnderlying_t20 := fun _ => by kernel_rfl
  sizeOf_t20 := fun _ => by kernel_rfl
  isAgg_t20 := fun _ => by kernel_rfl
  zeroValue_t20 := fun _ => by kernel_rfl
  underlying_t21 := by kernel_rfl
  runUnderlying_t21 := fun _ => by kernel_rfl
  sizeOf_t21 := fun _ => by kernel_rfl
  isAgg_t21 := fun _ => by kernel_rfl
  zeroValue_t21 := fun _ => by kernel_rfl
  room_tWg := by kernel_rfl
  room_tU32 := by kernel_rfl
theorem Cf_gl : GoLib Tryz.prog Cf.hk :=
  ⟨Tryz.f95, _, _, _, Tryz.func95, rfl, ⟨_, _, _, _, _, _, _, _, _, by decide, rfl⟩, rfl, rfl⟩
theorem Cf_gf : GoFn Tryz.prog Cf.hk :=
  ⟨Tryz.f69, _, _, _, _, _, Tryz.func69, rfl, ⟨_, _, _, _, _, _, _, rfl⟩, ⟨_, _, _, _, _, _, _, rfl⟩, by decide, rfl, rfl⟩
def ext_ (fn : Func) : Array Value → Sem Value := (Extern.find fn).getD fun args => ReflectliteValue.unpack (args.getD 0 (.tuple #[]))
theorem Cf_as : AsLib Tryz.prog Cf.as where
  valueOf := ⟨Tryz.f89, Tryz.func89, by kernel_rfl, by kernel_rfl, by kernel_rfl, by kernel_rfl⟩
  typ := ⟨Tryz.f90, Tryz.func90, by kernel_rfl, by kernel_rfl, by kernel_rfl, by kernel_rfl⟩
  isNil := ⟨Tryz.f91, Tryz.func91, by kernel_rfl, by kernel_rfl, by kernel_rfl, by kernel_rfl⟩
  elemV := ⟨Tryz.f121, Tryz.func121, by kernel_rfl, by kernel_rfl, by kernel_rfl, by kernel_rfl⟩
  setV := ⟨Tryz.f122, Tryz.func122, by kernel_rfl, by kernel_rfl, by kernel_rfl, by kernel_rfl⟩
  typeOf := ⟨Tryz.f120, Tryz.func120, by kernel_rfl, by kernel_rfl, by kernel_rfl, by kernel_rfl⟩
  mkP := fun _ => by kernel_rfl
  mkE := fun _ => by kernel_rfl
  mkA := fun _ => by kernel_rfl
  type_ := fun _ => by kernel_rfl
  partsP := fun _ => by kernel_rfl
  partsE := fun _ => by kernel_rfl
  partsA := fun _ => by kernel_rfl
  flag := by kernel_rfl
  elem? := by kernel_rfl
  direct := by kernel_rfl
  typeOf_ := fun _ => by kernel_rfl
  kindP := ⟨155, ext_ Tryz.f155, fun _ => by kernel_rfl, ⟨Tryz.f155, Tryz.func155, by kernel_rfl, by kernel_rfl, by kernel_rfl, by kernel_rfl⟩, by kernel_rfl, by kernel_rfl⟩
  elemT := ⟨166, ext_ Tryz.f166, fun _ => by kernel_rfl, ⟨Tryz.f166, Tryz.func166, by kernel_rfl, by kernel_rfl, by kernel_rfl, by kernel_rfl⟩, by kernel_rfl⟩
  impl := ⟨167, ext_ Tryz.f167, fun _ => by kernel_rfl, ⟨Tryz.f167, Tryz.func167, by kernel_rfl, by kernel_rfl, by kernel_rfl, by kernel_rfl⟩, by kernel_rfl⟩
  assign := ⟨164, ext_ Tryz.f164, fun _ => by kernel_rfl, ⟨Tryz.f164, Tryz.func164, by kernel_rfl, by kernel_rfl, by kernel_rfl, by kernel_rfl⟩, by kernel_rfl⟩
theorem Cf_ok : Cf.Ok Tryz.prog := ⟨Cf_wg, Cf_gl, Cf_gf, Cf_as⟩
end Mw
