/- Part 4 of the walks and of the mathematics under them: Shelf. -/
import Derived.Shelf.Strings.Builder1
import Derived.Shelf.Strings.Builder2
import Derived.Shelf.Strings.Trim
import Derived.Shelf.Small.Utf8
import Derived.Shelf.Small.Bits
import Derived.Shelf.Small.Strs
import Derived.Shelf.Small.Wraps
import Derived.Shelf.Strings.BuilderF
import Derived.Shelf.Strings.BuilderK
import Derived.Shelf.Utf8.RuneCount
import Derived.Shelf.Strings.Builder2Cap
import Derived.Shelf.Strconv.Itoa0
import Derived.Shelf.Strconv.Itoa1
import Derived.Shelf.LaysM
import Derived.Shelf.Strconv.Itoa2
import Derived.Shelf.Strings.Search1
import Derived.Shelf.Strings.Search2
import Derived.Shelf.Strings.Search3
import Derived.Shelf.Strings.Cut
import Derived.Shelf.Strings.Count
import Derived.Shelf.Strings.Shaped
import Derived.Shelf.Strings.Prefix
import Derived.Shelf.Strings.Split
import Derived.Shelf.Strings.SplitShaped
import Derived.Shelf.Unicode.Decode
import Derived.Shelf.Strings.Runes
import Derived.Shelf.Strings.RuneCount
import Derived.Shelf.Strings.AsciiSet
import Derived.Shelf.Strings.Explode
import Derived.Shelf.Bits.Mul64
import Derived.Shelf.Strings.Repeat
import Derived.Shelf.Unicode.DecodeSlow
import Derived.Shelf.Strings.BuilderCap
import Derived.Test.YtioacnhbiinjbaaGreatDoorProg
set_option maxHeartbeats 16000000
set_option maxRecDepth 100000
/- Shelf -/
namespace Go.Proofs
open Go.Shelf
def Tryz.lays169_ren : Go.Shelf.Ren := ⟨fun | 169 => 354 | n => n, fun | 70 => 404 | 9 => 9 | 0 => 0 | 72 => 407 | 37 => 405 | 127 => 436 | 3 => 3 | 5 => 5 | n => n, fun | n => n⟩
theorem Tryz.lays169 : Go.Proofs.Lays.n169 Tryz.prog Tryz.lays169_ren := {
 mixed := by kernel_rfl
 f169 := Tryz.func354.trans (congrArg some (by kernel_rfl))
 t0 := Tryz.underlying0
 a0 := Tryz.isAgg0
 z0 := Tryz.sizeOf0
 v0 := Tryz.zeroValue0
 t3 := Tryz.underlying3
 a3 := Tryz.isAgg3
 z3 := Tryz.sizeOf3
 v3 := Tryz.zeroValue3
 t9 := Tryz.underlying9
 a9 := Tryz.isAgg9
 z9 := Tryz.sizeOf9
 v9 := Tryz.zeroValue9
 t37 := Tryz.underlying405
 a37 := Tryz.isAgg405
 z37 := Tryz.sizeOf405
 v37 := Tryz.zeroValue405
 t70 := Tryz.underlying404
 a70 := Tryz.isAgg404
 z70 := Tryz.sizeOf404
 v70 := Tryz.zeroValue404
 t72 := Tryz.underlying407
 a72 := Tryz.isAgg407
 z72 := Tryz.sizeOf407
 v72 := Tryz.zeroValue407
 t127 := Tryz.underlying436
 a127 := Tryz.isAgg436
 z127 := Tryz.sizeOf436
 v127 := Tryz.zeroValue436 }
theorem Tryz.Builder_Extra_169 : Builder.Extra Tryz.prog Tryz.lays169_ren := {
 sizeBuilder := by kernel_rfl
 liesBuilder := by kernel_rfl
 t5 := Tryz.underlying5
 a5 := Tryz.isAgg5
 z5 := Tryz.sizeOf5
 v5 := Tryz.zeroValue5
 infoByte := by kernel_rfl
 cellsByte := by kernel_rfl
 sizeByte := by kernel_rfl
 neB5 := by decide }
def Tryz.lays161_ren : Go.Shelf.Ren := ⟨fun | 161 => 372 | 231 => 245 | 227 => 247 | 233 => 248 | 235 => 250 | 228 => 335 | 197 => 336 | 151 => 337 | 260 => 379 | 152 => 380 | 137 => 402 | 119 => 403 | 224 => 400 | 225 => 399 | 217 => 398 | 266 => 417 | n => n, fun | 9 => 9 | 4 => 4 | 3 => 3 | 5 => 5 | 117 => 321 | 116 => 320 | 0 => 0 | 124 => 324 | 105 => 386 | 21 => 21 | 119 => 442 | 46 => 380 | 139 => 445 | 138 => 444 | n => n, fun | 3 => 1 | 4 => 2 | n => n⟩
theorem Tryz.lays161 : Go.Proofs.Lays.n161 Tryz.prog Tryz.lays161_ren := {
 mixed := by kernel_rfl
 f119 := Tryz.func403.trans (congrArg some (by kernel_rfl))
 f137 := Tryz.func402.trans (congrArg some (by kernel_rfl))
 f151 := Tryz.func337.trans (congrArg some (by kernel_rfl))
 f152 := Tryz.func380.trans (congrArg some (by kernel_rfl))
 f161 := Tryz.func372.trans (congrArg some (by kernel_rfl))
 f197 := Tryz.func336.trans (congrArg some (by kernel_rfl))
 f217 := Tryz.func398.trans (congrArg some (by kernel_rfl))
 f224 := Tryz.func400.trans (congrArg some (by kernel_rfl))
 f225 := Tryz.func399.trans (congrArg some (by kernel_rfl))
 f227 := Tryz.func247.trans (congrArg some (by kernel_rfl))
 f228 := Tryz.func335.trans (congrArg some (by kernel_rfl))
 f231 := Tryz.func245.trans (congrArg some (by kernel_rfl))
 f233 := Tryz.func248.trans (congrArg some (by kernel_rfl))
 f235 := Tryz.func250.trans (congrArg some (by kernel_rfl))
 f260 := Tryz.func379.trans (congrArg some (by kernel_rfl))
 f266 := Tryz.func417.trans (congrArg some (by kernel_rfl))
 t0 := Tryz.underlying0
 a0 := Tryz.isAgg0
 z0 := Tryz.sizeOf0
 v0 := Tryz.zeroValue0
 t3 := Tryz.underlying3
 a3 := Tryz.isAgg3
 z3 := Tryz.sizeOf3
 v3 := Tryz.zeroValue3
 t4 := Tryz.underlying4
 a4 := Tryz.isAgg4
 z4 := Tryz.sizeOf4
 v4 := Tryz.zeroValue4
 t5 := Tryz.underlying5
 a5 := Tryz.isAgg5
 z5 := Tryz.sizeOf5
 v5 := Tryz.zeroValue5
 t9 := Tryz.underlying9
 a9 := Tryz.isAgg9
 z9 := Tryz.sizeOf9
 v9 := Tryz.zeroValue9
 t21 := Tryz.underlying21
 a21 := Tryz.isAgg21
 z21 := Tryz.sizeOf21
 v21 := Tryz.zeroValue21
 t46 := Tryz.underlying380
 a46 := Tryz.isAgg380
 z46 := Tryz.sizeOf380
 v46 := Tryz.zeroValue380
 t105 := Tryz.underlying386
 a105 := Tryz.isAgg386
 z105 := Tryz.sizeOf386
 v105 := Tryz.zeroValue386
 t116 := Tryz.underlying320
 a116 := Tryz.isAgg320
 z116 := Tryz.sizeOf320
 t117 := Tryz.underlying321
 a117 := Tryz.isAgg321
 z117 := Tryz.sizeOf321
 v117 := Tryz.zeroValue321
 t119 := Tryz.underlying442
 a119 := Tryz.isAgg442
 z119 := Tryz.sizeOf442
 t124 := Tryz.underlying324
 a124 := Tryz.isAgg324
 z124 := Tryz.sizeOf324
 v124 := Tryz.zeroValue324
 t138 := Tryz.underlying444
 a138 := Tryz.isAgg444
 z138 := Tryz.sizeOf444
 v138 := Tryz.zeroValue444
 t139 := Tryz.underlying445
 a139 := Tryz.isAgg445
 z139 := Tryz.sizeOf445
 v139 := Tryz.zeroValue445
 g3 := by kernel_rfl
 g4 := by kernel_rfl }
open Go.RowKit in
theorem Tryz.strings_TrimLeft_one (s : ByteArray) (c : UInt8) (hc : c.toNat < 128) (w : World) :
  Calls Tryz.prog 372 #[.string s, .string ⟨#[c]⟩] w fun e w' => e = .returned (.string ⟨(Lib.trimLeftB s.data.toList c).toArray⟩) ∧ w' = w := Any.strings_TrimLeft_one Tryz.lays161 s c hc w
def Tryz.lays160_ren : Go.Shelf.Ren := ⟨fun | 160 => 125 | 232 => 246 | 231 => 245 | 227 => 247 | 234 => 249 | 233 => 248 | 236 => 251 | 235 => 250 | 228 => 335 | 271 => 338 | 151 => 337 | 197 => 336 | 120 => 381 | 152 => 380 | 260 => 379 | 137 => 402 | 119 => 403 | 224 => 400 | 225 => 399 | 217 => 398 | 266 => 417 | n => n, fun | 9 => 9 | 4 => 4 | 3 => 3 | 5 => 5 | 117 => 321 | 116 => 320 | 0 => 0 | 124 => 324 | 21 => 21 | 105 => 386 | 46 => 380 | 119 => 442 | 139 => 445 | 138 => 444 | n => n, fun | 3 => 1 | 4 => 2 | n => n⟩
theorem Tryz.lays160 : Go.Proofs.Lays.n160 Tryz.prog Tryz.lays160_ren := {
 mixed := by kernel_rfl
 f119 := Tryz.func403.trans (congrArg some (by kernel_rfl))
 f120 := Tryz.func381.trans (congrArg some (by kernel_rfl))
 f137 := Tryz.func402.trans (congrArg some (by kernel_rfl))
 f151 := Tryz.func337.trans (congrArg some (by kernel_rfl))
 f152 := Tryz.func380.trans (congrArg some (by kernel_rfl))
 f160 := Tryz.func125.trans (congrArg some (by kernel_rfl))
 f197 := Tryz.func336.trans (congrArg some (by kernel_rfl))
 f217 := Tryz.func398.trans (congrArg some (by kernel_rfl))
 f224 := Tryz.func400.trans (congrArg some (by kernel_rfl))
 f225 := Tryz.func399.trans (congrArg some (by kernel_rfl))
 f227 := Tryz.func247.trans (congrArg some (by kernel_rfl))
 f228 := Tryz.func335.trans (congrArg some (by kernel_rfl))
 f231 := Tryz.func245.trans (congrArg some (by kernel_rfl))
 f232 := Tryz.func246.trans (congrArg some (by kernel_rfl))
 f233 := Tryz.func248.trans (congrArg some (by kernel_rfl))
 f234 := Tryz.func249.trans (congrArg some (by kernel_rfl))
 f235 := Tryz.func250.trans (congrArg some (by kernel_rfl))
 f236 := Tryz.func251.trans (congrArg some (by kernel_rfl))
 f260 := Tryz.func379.trans (congrArg some (by kernel_rfl))
 f266 := Tryz.func417.trans (congrArg some (by kernel_rfl))
 f271 := Tryz.func338.trans (congrArg some (by kernel_rfl))
 t0 := Tryz.underlying0
 a0 := Tryz.isAgg0
 z0 := Tryz.sizeOf0
 v0 := Tryz.zeroValue0
 t3 := Tryz.underlying3
 a3 := Tryz.isAgg3
 z3 := Tryz.sizeOf3
 v3 := Tryz.zeroValue3
 t4 := Tryz.underlying4
 a4 := Tryz.isAgg4
 z4 := Tryz.sizeOf4
 v4 := Tryz.zeroValue4
 t5 := Tryz.underlying5
 a5 := Tryz.isAgg5
 z5 := Tryz.sizeOf5
 v5 := Tryz.zeroValue5
 t9 := Tryz.underlying9
 a9 := Tryz.isAgg9
 z9 := Tryz.sizeOf9
 v9 := Tryz.zeroValue9
 t21 := Tryz.underlying21
 a21 := Tryz.isAgg21
 z21 := Tryz.sizeOf21
 v21 := Tryz.zeroValue21
 t46 := Tryz.underlying380
 a46 := Tryz.isAgg380
 z46 := Tryz.sizeOf380
 v46 := Tryz.zeroValue380
 t105 := Tryz.underlying386
 a105 := Tryz.isAgg386
 z105 := Tryz.sizeOf386
 v105 := Tryz.zeroValue386
 t116 := Tryz.underlying320
 a116 := Tryz.isAgg320
 z116 := Tryz.sizeOf320
 t117 := Tryz.underlying321
 a117 := Tryz.isAgg321
 z117 := Tryz.sizeOf321
 v117 := Tryz.zeroValue321
 t119 := Tryz.underlying442
 a119 := Tryz.isAgg442
 z119 := Tryz.sizeOf442
 t124 := Tryz.underlying324
 a124 := Tryz.isAgg324
 z124 := Tryz.sizeOf324
 v124 := Tryz.zeroValue324
 t138 := Tryz.underlying444
 a138 := Tryz.isAgg444
 z138 := Tryz.sizeOf444
 v138 := Tryz.zeroValue444
 t139 := Tryz.underlying445
 a139 := Tryz.isAgg445
 z139 := Tryz.sizeOf445
 v139 := Tryz.zeroValue445
 g3 := by kernel_rfl
 g4 := by kernel_rfl }
open Go.RowKit in
theorem Tryz.strings_Trim_one (s : ByteArray) (c : UInt8) (hc : c.toNat < 128) (w : World) (hs : s.size ≤ 9223372036854775807) :
  Calls Tryz.prog 125 #[.string s, .string ⟨#[c]⟩] w fun e w' => e = .returned (.string ⟨(Lib.trimB s.data.toList c).toArray⟩) ∧ (w' = w ∨ w' = w.drew) := Any.strings_Trim_one Tryz.lays160 s c hc w hs
def Tryz.lays133_ren : Go.Shelf.Ren := ⟨fun | 133 => 412 | 128 => 425 | n => n, fun | 51 => 389 | 3 => 3 | 4 => 4 | 46 => 380 | 5 => 5 | 9 => 9 | n => n, fun | n => n⟩
theorem Tryz.lays133 : Go.Proofs.Lays.n133 Tryz.prog Tryz.lays133_ren := {
 mixed := by kernel_rfl
 f128 := Tryz.func425.trans (congrArg some (by kernel_rfl))
 f133 := Tryz.func412.trans (congrArg some (by kernel_rfl))
 t3 := Tryz.underlying3
 a3 := Tryz.isAgg3
 z3 := Tryz.sizeOf3
 v3 := Tryz.zeroValue3
 t4 := Tryz.underlying4
 a4 := Tryz.isAgg4
 z4 := Tryz.sizeOf4
 v4 := Tryz.zeroValue4
 t5 := Tryz.underlying5
 a5 := Tryz.isAgg5
 z5 := Tryz.sizeOf5
 v5 := Tryz.zeroValue5
 t9 := Tryz.underlying9
 a9 := Tryz.isAgg9
 z9 := Tryz.sizeOf9
 v9 := Tryz.zeroValue9
 t46 := Tryz.underlying380
 a46 := Tryz.isAgg380
 z46 := Tryz.sizeOf380
 v46 := Tryz.zeroValue380
 t51 := Tryz.underlying389
 a51 := Tryz.isAgg389
 z51 := Tryz.sizeOf389
 v51 := Tryz.zeroValue389 }
theorem Tryz.bits_LeadingZeros32 (x : Int) (w : World) (h0 : 0 ≤ x) (h1 : x ≤ 4294967295) :
  Calls Tryz.prog 412 #[.int .u32 x] w fun e w' => e = .returned (.int .i64 (32 - (Lib.bitLen x.toNat : Int))) ∧ w' = w := Any.bits_LeadingZeros32 Tryz.lays133 x w h0 h1
def Tryz.lays103_ren : Go.Shelf.Ren := ⟨fun | 103 => 313 | 210 => 370 | 206 => 243 | n => n, fun | 9 => 9 | 4 => 4 | 24 => 363 | 3 => 3 | n => n, fun | n => n⟩
theorem Tryz.lays103 : Go.Proofs.Lays.n103 Tryz.prog Tryz.lays103_ren := {
 mixed := by kernel_rfl
 f103 := Tryz.func313.trans (congrArg some (by kernel_rfl))
 f206 := Tryz.func243.trans (congrArg some (by kernel_rfl))
 f210 := Tryz.func370.trans (congrArg some (by kernel_rfl))
 t3 := Tryz.underlying3
 a3 := Tryz.isAgg3
 z3 := Tryz.sizeOf3
 v3 := Tryz.zeroValue3
 t4 := Tryz.underlying4
 a4 := Tryz.isAgg4
 z4 := Tryz.sizeOf4
 v4 := Tryz.zeroValue4
 t9 := Tryz.underlying9
 a9 := Tryz.isAgg9
 z9 := Tryz.sizeOf9
 v9 := Tryz.zeroValue9
 t24 := Tryz.underlying363
 a24 := Tryz.isAgg363
 z24 := Tryz.sizeOf363
 v24 := Tryz.zeroValue363 }
open Go.RowKit in
theorem Tryz.strings_CutPrefix (s p : ByteArray) (w : World) :
  Calls Tryz.prog 313 #[.string s, .string p] w fun e w' => e = .returned (.tuple #[.string ⟨(Lib.trimPrefix s.data.toList p.data.toList).toArray⟩, .bool (Lib.hasPrefix s.data.toList p.data.toList)]) ∧ w' = w := Any.strings_CutPrefix Tryz.lays103 s p w
open Go.RowKit in
theorem Tryz.Builder_String_any_f (B b : Nat) (l : List UInt8) (w : World) (h : Lib.IsBuilderF 407 5 B b (Lib.byteCells l) w) (hBw : B ≤ w.heap.size) :
  Calls Tryz.prog 354 #[.pointer (some ⟨b, 0, none⟩)] w fun e w' => e = .returned (.string ⟨l.toArray⟩) ∧ (Lib.IsBuilderF 407 5 B b (Lib.byteCells l) w' ∧ Below B w w') := Any.Builder_String_any_f Tryz.lays169 Tryz.Builder_Extra_169 B b l w h hBw
def Tryz.lays283_ren : Go.Shelf.Ren := ⟨fun | 283 => 404 | n => n, fun | 3 => 3 | 9 => 9 | 4 => 4 | n => n, fun | n => n⟩
theorem Tryz.lays283 : Go.Proofs.Lays.n283 Tryz.prog Tryz.lays283_ren := {
 mixed := by kernel_rfl
 f283 := Tryz.func404.trans (congrArg some (by kernel_rfl))
 t3 := Tryz.underlying3
 a3 := Tryz.isAgg3
 z3 := Tryz.sizeOf3
 v3 := Tryz.zeroValue3
 t4 := Tryz.underlying4
 a4 := Tryz.isAgg4
 z4 := Tryz.sizeOf4
 v4 := Tryz.zeroValue4
 t9 := Tryz.underlying9
 a9 := Tryz.isAgg9
 z9 := Tryz.sizeOf9
 v9 := Tryz.zeroValue9 }
open Go.Lib in
theorem Tryz.internal_strconv_small (i : Nat) (h : i < 100) (w : World) :
  Calls Tryz.prog 404 #[.int .i64 i] w fun e w' => e = .returned (.string ⟨(Lib.decDigits i).toArray⟩) ∧ w' = w := Any.internal_strconv_small Tryz.lays283 i h w
def Tryz.laysM284_ren : Go.Shelf.Ren := ⟨fun | 284 => 405 | 129 => 420 | 317 => 419 | 318 => 421 | n => n, fun | 53 => 327 | 3 => 3 | 212 => 464 | 0 => 0 | 4 => 4 | 46 => 380 | 5 => 5 | 9 => 9 | n => n, fun | 17 => 3 | n => n⟩
theorem Tryz.laysM284 : Go.Proofs.LaysM.n284 Tryz.prog Tryz.laysM284_ren := {
 mixed := by kernel_rfl
 f129 := Tryz.func420.trans (congrArg some (by kernel_rfl))
 f284 := Tryz.func405.trans (congrArg some (by kernel_rfl))
 f317 := Tryz.func419.trans (congrArg some (by kernel_rfl))
 f318 := Tryz.func421.trans (congrArg some (by kernel_rfl))
 t0 := Tryz.underlying0
 a0 := Tryz.isAgg0
 z0 := Tryz.sizeOf0
 v0 := Tryz.zeroValue0
 t3 := Tryz.underlying3
 a3 := Tryz.isAgg3
 z3 := Tryz.sizeOf3
 v3 := Tryz.zeroValue3
 t4 := Tryz.underlying4
 a4 := Tryz.isAgg4
 z4 := Tryz.sizeOf4
 v4 := Tryz.zeroValue4
 t5 := Tryz.underlying5
 a5 := Tryz.isAgg5
 z5 := Tryz.sizeOf5
 v5 := Tryz.zeroValue5
 t9 := Tryz.underlying9
 a9 := Tryz.isAgg9
 z9 := Tryz.sizeOf9
 v9 := Tryz.zeroValue9
 t46 := Tryz.underlying380
 a46 := Tryz.isAgg380
 z46 := Tryz.sizeOf380
 v46 := Tryz.zeroValue380
 t53 := Tryz.underlying327
 a53 := Tryz.isAgg327
 z53 := Tryz.sizeOf327
 v53 := Tryz.zeroValue327
 t212 := Tryz.underlying464
 a212 := Tryz.isAgg464
 z212 := Tryz.sizeOf464
 v212 := Tryz.zeroValue464
 g17 := by kernel_rfl
 i0 := by kernel_rfl
 i3 := by kernel_rfl
 i4 := by kernel_rfl
 i5 := by kernel_rfl
 i9 := by kernel_rfl
 i46 := by kernel_rfl
 i53 := by kernel_rfl
 i212 := by kernel_rfl
 m17 := by kernel_rfl }
open Go.Lib in
theorem Tryz.internal_strconv_numDigits (u : Nat) (h1 : 1 ≤ u) (h2 : u < 18446744073709551616) (w : World) (htab : Lib.TabIs Tryz.prog w "internal/strconv.uint64pow10" .u64 Lib.pow10Tab) :
  Calls Tryz.prog 405 #[.int .u64 u] w fun e w' => e = .returned (.int .i64 (Lib.nDigits u)) ∧ w' = w := Any.internal_strconv_numDigits Tryz.laysM284 u h1 h2 w htab
def Tryz.lays285_ren : Go.Shelf.Ren := ⟨fun | 285 => 406 | n => n, fun | 37 => 405 | 53 => 327 | 3 => 3 | 4 => 4 | 51 => 389 | 9 => 9 | 5 => 5 | 0 => 0 | n => n, fun | n => n⟩
theorem Tryz.lays285 : Go.Proofs.Lays.n285 Tryz.prog Tryz.lays285_ren := {
 mixed := by kernel_rfl
 f285 := Tryz.func406.trans (congrArg some (by kernel_rfl))
 t0 := Tryz.underlying0
 a0 := Tryz.isAgg0
 z0 := Tryz.sizeOf0
 v0 := Tryz.zeroValue0
 t3 := Tryz.underlying3
 a3 := Tryz.isAgg3
 z3 := Tryz.sizeOf3
 v3 := Tryz.zeroValue3
 t4 := Tryz.underlying4
 a4 := Tryz.isAgg4
 z4 := Tryz.sizeOf4
 v4 := Tryz.zeroValue4
 t5 := Tryz.underlying5
 a5 := Tryz.isAgg5
 z5 := Tryz.sizeOf5
 v5 := Tryz.zeroValue5
 t9 := Tryz.underlying9
 a9 := Tryz.isAgg9
 z9 := Tryz.sizeOf9
 v9 := Tryz.zeroValue9
 t37 := Tryz.underlying405
 a37 := Tryz.isAgg405
 z37 := Tryz.sizeOf405
 v37 := Tryz.zeroValue405
 t51 := Tryz.underlying389
 a51 := Tryz.isAgg389
 z51 := Tryz.sizeOf389
 v51 := Tryz.zeroValue389
 t53 := Tryz.underlying327
 a53 := Tryz.isAgg327
 z53 := Tryz.sizeOf327
 v53 := Tryz.zeroValue327 }
open Go.RowKit Go.Sort Go.Lib in
theorem Tryz.internal_strconv_formatBase10 (blk off cap : Nat) (u : Nat) (d : Array UInt8) (w : World) (hH : Holds (fun (b : UInt8) => Value.int .u8 (b.toNat : Int)) w blk off d) (hu : u < 10 ^ d.size) (hu64 : u < 18446744073709551616) (hsz : d.size < 4611686018427387904) :
  Calls Tryz.prog 406 #[.slice (some ⟨blk, off, none⟩) d.size cap, .int .u64 u] w fun e w' =>
   e = .returned (.tuple #[]) ∧ ∃ (n v' : Nat) (dk : Array UInt8), w' = (putRow (fun (b : UInt8) => Value.int .u8 (b.toNat : Int)) w blk off dk).drewN n ∧ FmtInv d.size u 0 v' dk := Any.internal_strconv_formatBase10 Tryz.lays285 blk off cap u d w hH hu hu64 hsz
def Tryz.lays219_ren : Go.Shelf.Ren := ⟨fun | 219 => 378 | 217 => 398 | 225 => 399 | 224 => 400 | 267 => 401 | 266 => 417 | 314 => 418 | n => n, fun | 9 => 9 | 3 => 3 | 4 => 4 | 5 => 5 | 46 => 380 | 146 => 454 | 51 => 389 | n => n, fun | 1 => 0 | n => n⟩
theorem Tryz.lays219 : Go.Proofs.Lays.n219 Tryz.prog Tryz.lays219_ren := {
 mixed := by kernel_rfl
 f217 := Tryz.func398.trans (congrArg some (by kernel_rfl))
 f219 := Tryz.func378.trans (congrArg some (by kernel_rfl))
 f224 := Tryz.func400.trans (congrArg some (by kernel_rfl))
 f225 := Tryz.func399.trans (congrArg some (by kernel_rfl))
 f266 := Tryz.func417.trans (congrArg some (by kernel_rfl))
 f267 := Tryz.func401.trans (congrArg some (by kernel_rfl))
 f314 := Tryz.func418.trans (congrArg some (by kernel_rfl))
 t3 := Tryz.underlying3
 a3 := Tryz.isAgg3
 z3 := Tryz.sizeOf3
 v3 := Tryz.zeroValue3
 t4 := Tryz.underlying4
 a4 := Tryz.isAgg4
 z4 := Tryz.sizeOf4
 v4 := Tryz.zeroValue4
 t5 := Tryz.underlying5
 a5 := Tryz.isAgg5
 z5 := Tryz.sizeOf5
 v5 := Tryz.zeroValue5
 t9 := Tryz.underlying9
 a9 := Tryz.isAgg9
 z9 := Tryz.sizeOf9
 v9 := Tryz.zeroValue9
 t46 := Tryz.underlying380
 a46 := Tryz.isAgg380
 z46 := Tryz.sizeOf380
 v46 := Tryz.zeroValue380
 t51 := Tryz.underlying389
 a51 := Tryz.isAgg389
 z51 := Tryz.sizeOf389
 v51 := Tryz.zeroValue389
 t146 := Tryz.underlying454
 a146 := Tryz.isAgg454
 z146 := Tryz.sizeOf454
 v146 := Tryz.zeroValue454
 g1 := by kernel_rfl }
open Go.RowKit Go.Lib in
theorem Tryz.stringslite_Index_one (s : ByteArray) (c : UInt8) (w : World) :
  Calls Tryz.prog 378 #[.string s, .string ⟨#[c]⟩] w fun e w' => e = .returned (.int .i64 (Lib.indexByte s.data.toList c)) ∧ w' = w := Any.stringslite_Index_one Tryz.lays219 s c w
def Tryz.lays99_ren : Go.Shelf.Ren := ⟨fun | 99 => 122 | 206 => 243 | n => n, fun | 9 => 9 | 4 => 4 | 3 => 3 | n => n, fun | n => n⟩
theorem Tryz.lays99 : Go.Proofs.Lays.n99 Tryz.prog Tryz.lays99_ren := {
 mixed := by kernel_rfl
 f99 := Tryz.func122.trans (congrArg some (by kernel_rfl))
 f206 := Tryz.func243.trans (congrArg some (by kernel_rfl))
 t3 := Tryz.underlying3
 a3 := Tryz.isAgg3
 z3 := Tryz.sizeOf3
 v3 := Tryz.zeroValue3
 t4 := Tryz.underlying4
 a4 := Tryz.isAgg4
 z4 := Tryz.sizeOf4
 v4 := Tryz.zeroValue4
 t9 := Tryz.underlying9
 a9 := Tryz.isAgg9
 z9 := Tryz.sizeOf9
 v9 := Tryz.zeroValue9 }
open Go.RowKit Go.Lib in
theorem Tryz.strings_HasPrefix (s p : ByteArray) (w : World) :
  Calls Tryz.prog 122 #[.string s, .string p] w fun e w' => e = .returned (.bool (Lib.hasPrefix s.data.toList p.data.toList)) ∧ w' = w := Any.strings_HasPrefix Tryz.lays99 s p w
def Tryz.lays147_ren : Go.Shelf.Ren := ⟨fun | 147 => 123 | 221 => 244 | 268 => 332 | 138 => 333 | 143 => 334 | 195 => 376 | 197 => 336 | 218 => 377 | 219 => 378 | 260 => 379 | 217 => 398 | 225 => 399 | 224 => 400 | 267 => 401 | 266 => 417 | 314 => 418 | n => n, fun | 9 => 9 | 3 => 3 | 31 => 181 | 4 => 4 | 0 => 0 | 105 => 386 | 21 => 21 | 5 => 5 | 46 => 380 | 119 => 442 | 139 => 445 | 138 => 444 | 146 => 454 | 51 => 389 | n => n, fun | 1 => 0 | 3 => 1 | 4 => 2 | n => n⟩
theorem Tryz.lays147 : Go.Proofs.Lays.n147 Tryz.prog Tryz.lays147_ren := {
 mixed := by kernel_rfl
 f138 := Tryz.func333.trans (congrArg some (by kernel_rfl))
 f143 := Tryz.func334.trans (congrArg some (by kernel_rfl))
 f147 := Tryz.func123.trans (congrArg some (by kernel_rfl))
 f195 := Tryz.func376.trans (congrArg some (by kernel_rfl))
 f197 := Tryz.func336.trans (congrArg some (by kernel_rfl))
 f217 := Tryz.func398.trans (congrArg some (by kernel_rfl))
 f218 := Tryz.func377.trans (congrArg some (by kernel_rfl))
 f219 := Tryz.func378.trans (congrArg some (by kernel_rfl))
 f221 := Tryz.func244.trans (congrArg some (by kernel_rfl))
 f224 := Tryz.func400.trans (congrArg some (by kernel_rfl))
 f225 := Tryz.func399.trans (congrArg some (by kernel_rfl))
 f260 := Tryz.func379.trans (congrArg some (by kernel_rfl))
 f266 := Tryz.func417.trans (congrArg some (by kernel_rfl))
 f267 := Tryz.func401.trans (congrArg some (by kernel_rfl))
 f268 := Tryz.func332.trans (congrArg some (by kernel_rfl))
 f314 := Tryz.func418.trans (congrArg some (by kernel_rfl))
 t0 := Tryz.underlying0
 a0 := Tryz.isAgg0
 z0 := Tryz.sizeOf0
 v0 := Tryz.zeroValue0
 t3 := Tryz.underlying3
 a3 := Tryz.isAgg3
 z3 := Tryz.sizeOf3
 v3 := Tryz.zeroValue3
 t4 := Tryz.underlying4
 a4 := Tryz.isAgg4
 z4 := Tryz.sizeOf4
 v4 := Tryz.zeroValue4
 t5 := Tryz.underlying5
 a5 := Tryz.isAgg5
 z5 := Tryz.sizeOf5
 v5 := Tryz.zeroValue5
 t9 := Tryz.underlying9
 a9 := Tryz.isAgg9
 z9 := Tryz.sizeOf9
 v9 := Tryz.zeroValue9
 t21 := Tryz.underlying21
 a21 := Tryz.isAgg21
 z21 := Tryz.sizeOf21
 v21 := Tryz.zeroValue21
 t31 := Tryz.underlying181
 a31 := Tryz.isAgg181
 z31 := Tryz.sizeOf181
 v31 := Tryz.zeroValue181
 t46 := Tryz.underlying380
 a46 := Tryz.isAgg380
 z46 := Tryz.sizeOf380
 v46 := Tryz.zeroValue380
 t51 := Tryz.underlying389
 a51 := Tryz.isAgg389
 z51 := Tryz.sizeOf389
 v51 := Tryz.zeroValue389
 t105 := Tryz.underlying386
 a105 := Tryz.isAgg386
 z105 := Tryz.sizeOf386
 v105 := Tryz.zeroValue386
 t119 := Tryz.underlying442
 a119 := Tryz.isAgg442
 z119 := Tryz.sizeOf442
 t138 := Tryz.underlying444
 a138 := Tryz.isAgg444
 z138 := Tryz.sizeOf444
 v138 := Tryz.zeroValue444
 t139 := Tryz.underlying445
 a139 := Tryz.isAgg445
 z139 := Tryz.sizeOf445
 v139 := Tryz.zeroValue445
 t146 := Tryz.underlying454
 a146 := Tryz.isAgg454
 z146 := Tryz.sizeOf454
 v146 := Tryz.zeroValue454
 g1 := by kernel_rfl
 g3 := by kernel_rfl
 g4 := by kernel_rfl }
open Go.RowKit Go.Lib in
theorem Tryz.strings_SplitN (s sep : ByteArray) (n : Nat) (m : Int) (w : World) (hs : s.size < 4294967281) (hm : w.cell? ⟨0, 0, none⟩ = some (.int .i64 m)) (h1 : 1 ≤ sep.size) (hn : 1 ≤ n) (hn63 : n ≤ 9223372036854775807) :
  Calls Tryz.prog 123 #[.string s, .string sep, .int .i64 n] w fun e w' =>
   e = .returned (.slice (some ⟨w.heap.size, 0, none⟩) (Lib.splitB sep 0 (min n (s.size + 1) - 1) s).length (min n (s.size + 1))) ∧ w' = w.alloc (.cells (Lib.cellsOf (Lib.splitB sep 0 (min n (s.size + 1) - 1) s) (min n (s.size + 1))) 9) := Any.strings_SplitN Tryz.lays147 (by kernel_rfl) s sep n m w hs hm h1 hn hn63
def Tryz.laysM147_ren : Go.Shelf.Ren := ⟨fun | 147 => 123 | 221 => 244 | 268 => 332 | 138 => 333 | 143 => 334 | 195 => 376 | 197 => 336 | 218 => 377 | 219 => 378 | 260 => 379 | 217 => 398 | 225 => 399 | 224 => 400 | 267 => 401 | 266 => 417 | 314 => 418 | n => n, fun | 9 => 9 | 3 => 3 | 31 => 181 | 4 => 4 | 0 => 0 | 105 => 386 | 21 => 21 | 5 => 5 | 46 => 380 | 119 => 442 | 139 => 445 | 138 => 444 | 146 => 454 | 51 => 389 | n => n, fun | 1 => 0 | 3 => 1 | 4 => 2 | n => n⟩
theorem Tryz.laysM147 : Go.Proofs.LaysM.n147 Tryz.prog Tryz.laysM147_ren := {
 mixed := by kernel_rfl
 f138 := Tryz.func333.trans (congrArg some (by kernel_rfl))
 f143 := Tryz.func334.trans (congrArg some (by kernel_rfl))
 f147 := Tryz.func123.trans (congrArg some (by kernel_rfl))
 f195 := Tryz.func376.trans (congrArg some (by kernel_rfl))
 f197 := Tryz.func336.trans (congrArg some (by kernel_rfl))
 f217 := Tryz.func398.trans (congrArg some (by kernel_rfl))
 f218 := Tryz.func377.trans (congrArg some (by kernel_rfl))
 f219 := Tryz.func378.trans (congrArg some (by kernel_rfl))
 f221 := Tryz.func244.trans (congrArg some (by kernel_rfl))
 f224 := Tryz.func400.trans (congrArg some (by kernel_rfl))
 f225 := Tryz.func399.trans (congrArg some (by kernel_rfl))
 f260 := Tryz.func379.trans (congrArg some (by kernel_rfl))
 f266 := Tryz.func417.trans (congrArg some (by kernel_rfl))
 f267 := Tryz.func401.trans (congrArg some (by kernel_rfl))
 f268 := Tryz.func332.trans (congrArg some (by kernel_rfl))
 f314 := Tryz.func418.trans (congrArg some (by kernel_rfl))
 t0 := Tryz.underlying0
 a0 := Tryz.isAgg0
 z0 := Tryz.sizeOf0
 v0 := Tryz.zeroValue0
 t3 := Tryz.underlying3
 a3 := Tryz.isAgg3
 z3 := Tryz.sizeOf3
 v3 := Tryz.zeroValue3
 t4 := Tryz.underlying4
 a4 := Tryz.isAgg4
 z4 := Tryz.sizeOf4
 v4 := Tryz.zeroValue4
 t5 := Tryz.underlying5
 a5 := Tryz.isAgg5
 z5 := Tryz.sizeOf5
 v5 := Tryz.zeroValue5
 t9 := Tryz.underlying9
 a9 := Tryz.isAgg9
 z9 := Tryz.sizeOf9
 v9 := Tryz.zeroValue9
 t21 := Tryz.underlying21
 a21 := Tryz.isAgg21
 z21 := Tryz.sizeOf21
 v21 := Tryz.zeroValue21
 t31 := Tryz.underlying181
 a31 := Tryz.isAgg181
 z31 := Tryz.sizeOf181
 v31 := Tryz.zeroValue181
 t46 := Tryz.underlying380
 a46 := Tryz.isAgg380
 z46 := Tryz.sizeOf380
 v46 := Tryz.zeroValue380
 t51 := Tryz.underlying389
 a51 := Tryz.isAgg389
 z51 := Tryz.sizeOf389
 v51 := Tryz.zeroValue389
 t105 := Tryz.underlying386
 a105 := Tryz.isAgg386
 z105 := Tryz.sizeOf386
 v105 := Tryz.zeroValue386
 t119 := Tryz.underlying442
 a119 := Tryz.isAgg442
 z119 := Tryz.sizeOf442
 t138 := Tryz.underlying444
 a138 := Tryz.isAgg444
 z138 := Tryz.sizeOf444
 v138 := Tryz.zeroValue444
 t139 := Tryz.underlying445
 a139 := Tryz.isAgg445
 z139 := Tryz.sizeOf445
 v139 := Tryz.zeroValue445
 t146 := Tryz.underlying454
 a146 := Tryz.isAgg454
 z146 := Tryz.sizeOf454
 v146 := Tryz.zeroValue454
 g1 := by kernel_rfl
 g3 := by kernel_rfl
 g4 := by kernel_rfl
 i0 := by kernel_rfl
 i3 := by kernel_rfl
 i4 := by kernel_rfl
 i5 := by kernel_rfl
 i9 := by kernel_rfl
 i21 := by kernel_rfl
 i31 := by kernel_rfl
 i46 := by kernel_rfl
 i51 := by kernel_rfl
 i105 := by kernel_rfl
 i138 := by kernel_rfl
 i139 := by kernel_rfl
 i146 := by kernel_rfl
 m1 := by kernel_rfl
 s1_3 := fun w h => Go.Proofs.cell_of_shapedOpen_int (zero := #[.int .i64 0]) (t := 3) h (of_decide_eq_true (by kernel_rfl)) (by kernel_rfl) rfl (by kernel_rfl) (by kernel_rfl) Tryz.underlying3
 m3 := by kernel_rfl
 m4 := by kernel_rfl }
def Tryz.lays105_ren : Go.Shelf.Ren := ⟨fun | 105 => 353 | 212 => 392 | 99 => 122 | 165 => 393 | 166 => 352 | 170 => 394 | 169 => 354 | 263 => 409 | 264 => 410 | 206 => 243 | 240 => 391 | 241 => 411 | 276 => 408 | 277 => 424 | n => n, fun | 9 => 9 | 3 => 3 | 4 => 4 | 20 => 20 | 0 => 0 | 46 => 380 | 109 => 433 | 5 => 5 | 72 => 407 | 76 => 411 | 51 => 389 | 146 => 454 | 53 => 327 | 148 => 456 | 70 => 404 | 37 => 405 | 75 => 410 | 127 => 436 | 164 => 452 | 80 => 262 | n => n, fun | n => n⟩
theorem Tryz.lays105 : Go.Proofs.Lays.n105 Tryz.prog Tryz.lays105_ren := {
 mixed := by kernel_rfl
 f99 := Tryz.func122.trans (congrArg some (by kernel_rfl))
 f105 := Tryz.func353.trans (congrArg some (by kernel_rfl))
 f165 := Tryz.func393.trans (congrArg some (by kernel_rfl))
 f166 := Tryz.func352.trans (congrArg some (by kernel_rfl))
 f169 := Tryz.func354.trans (congrArg some (by kernel_rfl))
 f170 := Tryz.func394.trans (congrArg some (by kernel_rfl))
 f206 := Tryz.func243.trans (congrArg some (by kernel_rfl))
 f212 := Tryz.func392.trans (congrArg some (by kernel_rfl))
 f240 := Tryz.func391.trans (congrArg some (by kernel_rfl))
 f241 := Tryz.func411.trans (congrArg some (by kernel_rfl))
 f263 := Tryz.func409.trans (congrArg some (by kernel_rfl))
 f264 := Tryz.func410.trans (congrArg some (by kernel_rfl))
 f276 := Tryz.func408.trans (congrArg some (by kernel_rfl))
 f277 := Tryz.func424.trans (congrArg some (by kernel_rfl))
 t0 := Tryz.underlying0
 a0 := Tryz.isAgg0
 z0 := Tryz.sizeOf0
 v0 := Tryz.zeroValue0
 t3 := Tryz.underlying3
 a3 := Tryz.isAgg3
 z3 := Tryz.sizeOf3
 v3 := Tryz.zeroValue3
 t4 := Tryz.underlying4
 a4 := Tryz.isAgg4
 z4 := Tryz.sizeOf4
 v4 := Tryz.zeroValue4
 t5 := Tryz.underlying5
 a5 := Tryz.isAgg5
 z5 := Tryz.sizeOf5
 v5 := Tryz.zeroValue5
 t9 := Tryz.underlying9
 a9 := Tryz.isAgg9
 z9 := Tryz.sizeOf9
 v9 := Tryz.zeroValue9
 t20 := Tryz.underlying20
 a20 := Tryz.isAgg20
 z20 := Tryz.sizeOf20
 v20 := Tryz.zeroValue20
 t37 := Tryz.underlying405
 a37 := Tryz.isAgg405
 z37 := Tryz.sizeOf405
 v37 := Tryz.zeroValue405
 t46 := Tryz.underlying380
 a46 := Tryz.isAgg380
 z46 := Tryz.sizeOf380
 v46 := Tryz.zeroValue380
 t51 := Tryz.underlying389
 a51 := Tryz.isAgg389
 z51 := Tryz.sizeOf389
 v51 := Tryz.zeroValue389
 t53 := Tryz.underlying327
 a53 := Tryz.isAgg327
 z53 := Tryz.sizeOf327
 v53 := Tryz.zeroValue327
 t70 := Tryz.underlying404
 a70 := Tryz.isAgg404
 z70 := Tryz.sizeOf404
 v70 := Tryz.zeroValue404
 t72 := Tryz.underlying407
 a72 := Tryz.isAgg407
 z72 := Tryz.sizeOf407
 v72 := Tryz.zeroValue407
 t75 := Tryz.underlying410
 a75 := Tryz.isAgg410
 z75 := Tryz.sizeOf410
 v75 := Tryz.zeroValue410
 t76 := Tryz.underlying411
 a76 := Tryz.isAgg411
 z76 := Tryz.sizeOf411
 v76 := Tryz.zeroValue411
 t109 := Tryz.underlying433
 a109 := Tryz.isAgg433
 z109 := Tryz.sizeOf433
 v109 := Tryz.zeroValue433
 t127 := Tryz.underlying436
 a127 := Tryz.isAgg436
 z127 := Tryz.sizeOf436
 v127 := Tryz.zeroValue436
 t146 := Tryz.underlying454
 a146 := Tryz.isAgg454
 z146 := Tryz.sizeOf454
 v146 := Tryz.zeroValue454
 t148 := Tryz.underlying456
 a148 := Tryz.isAgg456
 z148 := Tryz.sizeOf456
 v148 := Tryz.zeroValue456
 t164 := Tryz.underlying452
 a164 := Tryz.isAgg452
 z164 := Tryz.sizeOf452
 v164 := Tryz.zeroValue452 }
theorem Tryz.Builder_Extra_105 : Builder.Extra Tryz.prog Tryz.lays105_ren := {
 sizeBuilder := by kernel_rfl
 liesBuilder := by kernel_rfl
 t5 := Tryz.underlying5
 a5 := Tryz.isAgg5
 z5 := Tryz.sizeOf5
 v5 := Tryz.zeroValue5
 infoByte := by kernel_rfl
 cellsByte := by kernel_rfl
 sizeByte := by kernel_rfl
 neB5 := by decide }
open Go.RowKit Go.Lib in
theorem Tryz.strings_Repeat (s : ByteArray) (c : Nat) (w : World) (hc : c ≤ 9223372036854775807) (hlen : s.size * c ≤ 140737488355328) :
  Calls Tryz.prog 353 #[.string s, .int .i64 c] w fun e w' => e = .returned (.string ⟨(Lib.repeatL s.data.toList c).toArray⟩) ∧ Below w.heap.size w w' := Any.strings_Repeat Tryz.lays105 Tryz.Builder_Extra_105 s c w hc hlen
end Go.Proofs
