/- Part 4 of the walks and of the mathematics under them: Shelf. -/
import Derived.Shelf.Strings.Builder1
import Derived.Shelf.Strings.Builder2
import Derived.Shelf.Strings.Trim
import Derived.Shelf.Small.Utf8
import Derived.Shelf.Small.Bits
import Derived.Shelf.Small.Strs
import Derived.Shelf.Small.Wraps
import Derived.Shelf.Strings.BuilderF
import Derived.Shelf.Strings.BuilderK
import Derived.Shelf.Utf8.RuneCount
import Derived.Shelf.Strings.Builder2Cap
import Derived.Shelf.Strconv.Itoa0
import Derived.Shelf.Strconv.Itoa1
import Derived.Shelf.LaysM
import Derived.Shelf.Strconv.Itoa2
import Derived.Shelf.Strings.Search1
import Derived.Shelf.Strings.Search2
import Derived.Shelf.Strings.Search3
import Derived.Shelf.Strings.Cut
import Derived.Shelf.Strings.Count
import Derived.Shelf.Strings.Shaped
import Derived.Shelf.Strings.Prefix
import Derived.Shelf.Strings.Split
import Derived.Shelf.Strings.SplitShaped
import Derived.Shelf.Unicode.Decode
import Derived.Shelf.Strings.Runes
import Derived.Shelf.Strings.RuneCount
import Derived.Shelf.Strings.AsciiSet
import Derived.Shelf.Strings.Explode
import Derived.Shelf.Bits.Mul64
import Derived.Shelf.Strings.Repeat
import Derived.Shelf.Unicode.DecodeSlow
import Derived.Shelf.Strings.BuilderCap
import Derived.Test.YtgemmepbdmbmfaaGreatDoorProg
set_option maxHeartbeats 16000000
set_option maxRecDepth 100000
/- Shelf -/
namespace Go.Proofs
open Go.Shelf
def Tryz.lays169_ren : Go.Shelf.Ren := ⟨fun | 169 => 299 | n => n,fun | 70 => 349 | 9 => 9 | 0 => 0 | 72 => 352 | 37 => 350 | 127 => 401 | 3 => 3 | 5 => 5 | n => n,fun | n => n⟩
theorem Tryz.lays169 : Go.Proofs.Lays.n169 Tryz.prog Tryz.lays169_ren := {
 mixed := by kernel_rfl
 f169 := Tryz.func299.trans (congrArg some (by kernel_rfl))
 t0 := Tryz.underlying0
 a0 := Tryz.isAgg0
 z0 := Tryz.sizeOf0
 v0 := Tryz.zeroValue0
 t3 := Tryz.underlying3
 a3 := Tryz.isAgg3
 z3 := Tryz.sizeOf3
 v3 := Tryz.zeroValue3
 t9 := Tryz.underlying9
 a9 := Tryz.isAgg9
 z9 := Tryz.sizeOf9
 v9 := Tryz.zeroValue9
 t37 := Tryz.underlying350
 a37 := Tryz.isAgg350
 z37 := Tryz.sizeOf350
 v37 := Tryz.zeroValue350
 t70 := Tryz.underlying349
 a70 := Tryz.isAgg349
 z70 := Tryz.sizeOf349
 v70 := Tryz.zeroValue349
 t72 := Tryz.underlying352
 a72 := Tryz.isAgg352
 z72 := Tryz.sizeOf352
 v72 := Tryz.zeroValue352
 t127 := Tryz.underlying401
 a127 := Tryz.isAgg401
 z127 := Tryz.sizeOf401
 v127 := Tryz.zeroValue401 }
theorem Tryz.Builder_Extra_169 : Builder.Extra Tryz.prog Tryz.lays169_ren := {
 sizeBuilder := by kernel_rfl
 liesBuilder := by kernel_rfl
 t5 := Tryz.underlying5
 a5 := Tryz.isAgg5
 z5 := Tryz.sizeOf5
 v5 := Tryz.zeroValue5
 infoByte := by kernel_rfl
 cellsByte := by kernel_rfl
 sizeByte := by kernel_rfl
 neB5 := by decide }
def Tryz.lays161_ren : Go.Shelf.Ren := ⟨fun | 161 => 346 | 231 => 244 | 227 => 246 | 233 => 247 | 235 => 249 | 228 => 319 | 197 => 320 | 151 => 321 | 260 => 352 | 152 => 353 | 137 => 376 | 119 => 377 | 224 => 374 | 225 => 373 | 217 => 372 | 266 => 387 | n => n,fun | 9 => 9 | 4 => 4 | 3 => 3 | 5 => 5 | 117 => 312 | 116 => 311 | 0 => 0 | 124 => 315 | 105 => 381 | 21 => 21 | 119 => 426 | 46 => 346 | 139 => 429 | 138 => 428 | n => n,fun | 3 => 1 | 4 => 2 | n => n⟩
theorem Tryz.lays161 : Go.Proofs.Lays.n161 Tryz.prog Tryz.lays161_ren := {
 mixed := by kernel_rfl
 f119 := Tryz.func377.trans (congrArg some (by kernel_rfl))
 f137 := Tryz.func376.trans (congrArg some (by kernel_rfl))
 f151 := Tryz.func321.trans (congrArg some (by kernel_rfl))
 f152 := Tryz.func353.trans (congrArg some (by kernel_rfl))
 f161 := Tryz.func346.trans (congrArg some (by kernel_rfl))
 f197 := Tryz.func320.trans (congrArg some (by kernel_rfl))
 f217 := Tryz.func372.trans (congrArg some (by kernel_rfl))
 f224 := Tryz.func374.trans (congrArg some (by kernel_rfl))
 f225 := Tryz.func373.trans (congrArg some (by kernel_rfl))
 f227 := Tryz.func246.trans (congrArg some (by kernel_rfl))
 f228 := Tryz.func319.trans (congrArg some (by kernel_rfl))
 f231 := Tryz.func244.trans (congrArg some (by kernel_rfl))
 f233 := Tryz.func247.trans (congrArg some (by kernel_rfl))
 f235 := Tryz.func249.trans (congrArg some (by kernel_rfl))
 f260 := Tryz.func352.trans (congrArg some (by kernel_rfl))
 f266 := Tryz.func387.trans (congrArg some (by kernel_rfl))
 t0 := Tryz.underlying0
 a0 := Tryz.isAgg0
 z0 := Tryz.sizeOf0
 v0 := Tryz.zeroValue0
 t3 := Tryz.underlying3
 a3 := Tryz.isAgg3
 z3 := Tryz.sizeOf3
 v3 := Tryz.zeroValue3
 t4 := Tryz.underlying4
 a4 := Tryz.isAgg4
 z4 := Tryz.sizeOf4
 v4 := Tryz.zeroValue4
 t5 := Tryz.underlying5
 a5 := Tryz.isAgg5
 z5 := Tryz.sizeOf5
 v5 := Tryz.zeroValue5
 t9 := Tryz.underlying9
 a9 := Tryz.isAgg9
 z9 := Tryz.sizeOf9
 v9 := Tryz.zeroValue9
 t21 := Tryz.underlying21
 a21 := Tryz.isAgg21
 z21 := Tryz.sizeOf21
 v21 := Tryz.zeroValue21
 t46 := Tryz.underlying346
 a46 := Tryz.isAgg346
 z46 := Tryz.sizeOf346
 v46 := Tryz.zeroValue346
 t105 := Tryz.underlying381
 a105 := Tryz.isAgg381
 z105 := Tryz.sizeOf381
 v105 := Tryz.zeroValue381
 t116 := Tryz.underlying311
 a116 := Tryz.isAgg311
 z116 := Tryz.sizeOf311
 t117 := Tryz.underlying312
 a117 := Tryz.isAgg312
 z117 := Tryz.sizeOf312
 v117 := Tryz.zeroValue312
 t119 := Tryz.underlying426
 a119 := Tryz.isAgg426
 z119 := Tryz.sizeOf426
 t124 := Tryz.underlying315
 a124 := Tryz.isAgg315
 z124 := Tryz.sizeOf315
 v124 := Tryz.zeroValue315
 t138 := Tryz.underlying428
 a138 := Tryz.isAgg428
 z138 := Tryz.sizeOf428
 v138 := Tryz.zeroValue428
 t139 := Tryz.underlying429
 a139 := Tryz.isAgg429
 z139 := Tryz.sizeOf429
 v139 := Tryz.zeroValue429
 g3 := by kernel_rfl
 g4 := by kernel_rfl }
open Go.RowKit in
theorem Tryz.strings_TrimLeft_one (s : ByteArray) (c : UInt8) (hc : c.toNat < 128) (w : World) :
  Calls Tryz.prog 346 #[.string s,.string ⟨#[c]⟩] w fun e w' => e=.returned (.string ⟨(Lib.trimLeftB s.data.toList c).toArray⟩)∧w'=w := Any.strings_TrimLeft_one Tryz.lays161 s c hc w
def Tryz.lays160_ren : Go.Shelf.Ren := ⟨fun | 160 => 146 | 232 => 245 | 231 => 244 | 227 => 246 | 234 => 248 | 233 => 247 | 236 => 250 | 235 => 249 | 228 => 319 | 271 => 322 | 151 => 321 | 197 => 320 | 120 => 354 | 152 => 353 | 260 => 352 | 137 => 376 | 119 => 377 | 224 => 374 | 225 => 373 | 217 => 372 | 266 => 387 | n => n,fun | 9 => 9 | 4 => 4 | 3 => 3 | 5 => 5 | 117 => 312 | 116 => 311 | 0 => 0 | 124 => 315 | 21 => 21 | 105 => 381 | 46 => 346 | 119 => 426 | 139 => 429 | 138 => 428 | n => n,fun | 3 => 1 | 4 => 2 | n => n⟩
theorem Tryz.lays160 : Go.Proofs.Lays.n160 Tryz.prog Tryz.lays160_ren := {
 mixed := by kernel_rfl
 f119 := Tryz.func377.trans (congrArg some (by kernel_rfl))
 f120 := Tryz.func354.trans (congrArg some (by kernel_rfl))
 f137 := Tryz.func376.trans (congrArg some (by kernel_rfl))
 f151 := Tryz.func321.trans (congrArg some (by kernel_rfl))
 f152 := Tryz.func353.trans (congrArg some (by kernel_rfl))
 f160 := Tryz.func146.trans (congrArg some (by kernel_rfl))
 f197 := Tryz.func320.trans (congrArg some (by kernel_rfl))
 f217 := Tryz.func372.trans (congrArg some (by kernel_rfl))
 f224 := Tryz.func374.trans (congrArg some (by kernel_rfl))
 f225 := Tryz.func373.trans (congrArg some (by kernel_rfl))
 f227 := Tryz.func246.trans (congrArg some (by kernel_rfl))
 f228 := Tryz.func319.trans (congrArg some (by kernel_rfl))
 f231 := Tryz.func244.trans (congrArg some (by kernel_rfl))
 f232 := Tryz.func245.trans (congrArg some (by kernel_rfl))
 f233 := Tryz.func247.trans (congrArg some (by kernel_rfl))
 f234 := Tryz.func248.trans (congrArg some (by kernel_rfl))
 f235 := Tryz.func249.trans (congrArg some (by kernel_rfl))
 f236 := Tryz.func250.trans (congrArg some (by kernel_rfl))
 f260 := Tryz.func352.trans (congrArg some (by kernel_rfl))
 f266 := Tryz.func387.trans (congrArg some (by kernel_rfl))
 f271 := Tryz.func322.trans (congrArg some (by kernel_rfl))
 t0 := Tryz.underlying0
 a0 := Tryz.isAgg0
 z0 := Tryz.sizeOf0
 v0 := Tryz.zeroValue0
 t3 := Tryz.underlying3
 a3 := Tryz.isAgg3
 z3 := Tryz.sizeOf3
 v3 := Tryz.zeroValue3
 t4 := Tryz.underlying4
 a4 := Tryz.isAgg4
 z4 := Tryz.sizeOf4
 v4 := Tryz.zeroValue4
 t5 := Tryz.underlying5
 a5 := Tryz.isAgg5
 z5 := Tryz.sizeOf5
 v5 := Tryz.zeroValue5
 t9 := Tryz.underlying9
 a9 := Tryz.isAgg9
 z9 := Tryz.sizeOf9
 v9 := Tryz.zeroValue9
 t21 := Tryz.underlying21
 a21 := Tryz.isAgg21
 z21 := Tryz.sizeOf21
 v21 := Tryz.zeroValue21
 t46 := Tryz.underlying346
 a46 := Tryz.isAgg346
 z46 := Tryz.sizeOf346
 v46 := Tryz.zeroValue346
 t105 := Tryz.underlying381
 a105 := Tryz.isAgg381
 z105 := Tryz.sizeOf381
 v105 := Tryz.zeroValue381
 t116 := Tryz.underlying311
 a116 := Tryz.isAgg311
 z116 := Tryz.sizeOf311
 t117 := Tryz.underlying312
 a117 := Tryz.isAgg312
 z117 := Tryz.sizeOf312
 v117 := Tryz.zeroValue312
 t119 := Tryz.underlying426
 a119 := Tryz.isAgg426
 z119 := Tryz.sizeOf426
 t124 := Tryz.underlying315
 a124 := Tryz.isAgg315
 z124 := Tryz.sizeOf315
 v124 := Tryz.zeroValue315
 t138 := Tryz.underlying428
 a138 := Tryz.isAgg428
 z138 := Tryz.sizeOf428
 v138 := Tryz.zeroValue428
 t139 := Tryz.underlying429
 a139 := Tryz.isAgg429
 z139 := Tryz.sizeOf429
 v139 := Tryz.zeroValue429
 g3 := by kernel_rfl
 g4 := by kernel_rfl }
open Go.RowKit in
theorem Tryz.strings_Trim_one (s : ByteArray) (c : UInt8) (hc : c.toNat < 128) (w : World) (hs : s.size≤9223372036854775807) :
  Calls Tryz.prog 146 #[.string s,.string ⟨#[c]⟩] w fun e w' => e=.returned (.string ⟨(Lib.trimB s.data.toList c).toArray⟩)∧(w'=w ∨ w'=w.drew) := Any.strings_Trim_one Tryz.lays160 s c hc w hs
def Tryz.lays133_ren : Go.Shelf.Ren := ⟨fun | 133 => 359 | 128 => 378 | n => n,fun | 51 => 345 | 3 => 3 | 4 => 4 | 46 => 346 | 5 => 5 | 9 => 9 | n => n,fun | n => n⟩
theorem Tryz.lays133 : Go.Proofs.Lays.n133 Tryz.prog Tryz.lays133_ren := {
 mixed := by kernel_rfl
 f128 := Tryz.func378.trans (congrArg some (by kernel_rfl))
 f133 := Tryz.func359.trans (congrArg some (by kernel_rfl))
 t3 := Tryz.underlying3
 a3 := Tryz.isAgg3
 z3 := Tryz.sizeOf3
 v3 := Tryz.zeroValue3
 t4 := Tryz.underlying4
 a4 := Tryz.isAgg4
 z4 := Tryz.sizeOf4
 v4 := Tryz.zeroValue4
 t5 := Tryz.underlying5
 a5 := Tryz.isAgg5
 z5 := Tryz.sizeOf5
 v5 := Tryz.zeroValue5
 t9 := Tryz.underlying9
 a9 := Tryz.isAgg9
 z9 := Tryz.sizeOf9
 v9 := Tryz.zeroValue9
 t46 := Tryz.underlying346
 a46 := Tryz.isAgg346
 z46 := Tryz.sizeOf346
 v46 := Tryz.zeroValue346
 t51 := Tryz.underlying345
 a51 := Tryz.isAgg345
 z51 := Tryz.sizeOf345
 v51 := Tryz.zeroValue345 }
theorem Tryz.bits_LeadingZeros32 (x : Int) (w : World) (h0 : 0≤x) (h1 : x≤4294967295) :
  Calls Tryz.prog 359 #[.int .u32 x] w fun e w' => e=.returned (.int .i64 (32 - (Lib.bitLen x.toNat : Int)))∧w'=w := Any.bits_LeadingZeros32 Tryz.lays133 x w h0 h1
def Tryz.lays103_ren : Go.Shelf.Ren := ⟨fun | 103 => 308 | 210 => 344 | 206 => 242 | n => n,fun | 9 => 9 | 4 => 4 | 24 => 369 | 3 => 3 | n => n,fun | n => n⟩
theorem Tryz.lays103 : Go.Proofs.Lays.n103 Tryz.prog Tryz.lays103_ren := {
 mixed := by kernel_rfl
 f103 := Tryz.func308.trans (congrArg some (by kernel_rfl))
 f206 := Tryz.func242.trans (congrArg some (by kernel_rfl))
 f210 := Tryz.func344.trans (congrArg some (by kernel_rfl))
 t3 := Tryz.underlying3
 a3 := Tryz.isAgg3
 z3 := Tryz.sizeOf3
 v3 := Tryz.zeroValue3
 t4 := Tryz.underlying4
 a4 := Tryz.isAgg4
 z4 := Tryz.sizeOf4
 v4 := Tryz.zeroValue4
 t9 := Tryz.underlying9
 a9 := Tryz.isAgg9
 z9 := Tryz.sizeOf9
 v9 := Tryz.zeroValue9
 t24 := Tryz.underlying369
 a24 := Tryz.isAgg369
 z24 := Tryz.sizeOf369
 v24 := Tryz.zeroValue369 }
open Go.RowKit in
theorem Tryz.strings_CutPrefix (s p : ByteArray) (w : World) :
  Calls Tryz.prog 308 #[.string s,.string p] w fun e w' => e=.returned (.tuple #[.string ⟨(Lib.trimPrefix s.data.toList p.data.toList).toArray⟩,.bool (Lib.hasPrefix s.data.toList p.data.toList)])∧w'=w := Any.strings_CutPrefix Tryz.lays103 s p w
open Go.RowKit in
theorem Tryz.Builder_String_any_f (B b : Nat) (l : List UInt8) (w : World) (h : Lib.IsBuilderF 352 5 B b (Lib.byteCells l) w) (hBw : B≤w.heap.size) :
  Calls Tryz.prog 299 #[.pointer (some ⟨b,0,none⟩)] w fun e w' => e=.returned (.string ⟨l.toArray⟩)∧(Lib.IsBuilderF 352 5 B b (Lib.byteCells l) w'∧Below B w w') := Any.Builder_String_any_f Tryz.lays169 Tryz.Builder_Extra_169 B b l w h hBw
def Tryz.lays283_ren : Go.Shelf.Ren := ⟨fun | 283 => 364 | n => n,fun | 3 => 3 | 9 => 9 | 4 => 4 | n => n,fun | n => n⟩
theorem Tryz.lays283 : Go.Proofs.Lays.n283 Tryz.prog Tryz.lays283_ren := {
 mixed := by kernel_rfl
 f283 := Tryz.func364.trans (congrArg some (by kernel_rfl))
 t3 := Tryz.underlying3
 a3 := Tryz.isAgg3
 z3 := Tryz.sizeOf3
 v3 := Tryz.zeroValue3
 t4 := Tryz.underlying4
 a4 := Tryz.isAgg4
 z4 := Tryz.sizeOf4
 v4 := Tryz.zeroValue4
 t9 := Tryz.underlying9
 a9 := Tryz.isAgg9
 z9 := Tryz.sizeOf9
 v9 := Tryz.zeroValue9 }
open Go.Lib in
theorem Tryz.internal_strconv_small (i : Nat) (h : i < 100) (w : World) :
  Calls Tryz.prog 364 #[.int .i64 i] w fun e w' => e=.returned (.string ⟨(Lib.decDigits i).toArray⟩)∧w'=w := Any.internal_strconv_small Tryz.lays283 i h w
def Tryz.laysM284_ren : Go.Shelf.Ren := ⟨fun | 284 => 365 | 129 => 382 | 317 => 381 | 318 => 383 | n => n,fun | 53 => 318 | 3 => 3 | 212 => 435 | 0 => 0 | 4 => 4 | 46 => 346 | 5 => 5 | 9 => 9 | n => n,fun | 17 => 3 | n => n⟩
theorem Tryz.laysM284 : Go.Proofs.LaysM.n284 Tryz.prog Tryz.laysM284_ren := {
 mixed := by kernel_rfl
 f129 := Tryz.func382.trans (congrArg some (by kernel_rfl))
 f284 := Tryz.func365.trans (congrArg some (by kernel_rfl))
 f317 := Tryz.func381.trans (congrArg some (by kernel_rfl))
 f318 := Tryz.func383.trans (congrArg some (by kernel_rfl))
 t0 := Tryz.underlying0
 a0 := Tryz.isAgg0
 z0 := Tryz.sizeOf0
 v0 := Tryz.zeroValue0
 t3 := Tryz.underlying3
 a3 := Tryz.isAgg3
 z3 := Tryz.sizeOf3
 v3 := Tryz.zeroValue3
 t4 := Tryz.underlying4
 a4 := Tryz.isAgg4
 z4 := Tryz.sizeOf4
 v4 := Tryz.zeroValue4
 t5 := Tryz.underlying5
 a5 := Tryz.isAgg5
 z5 := Tryz.sizeOf5
 v5 := Tryz.zeroValue5
 t9 := Tryz.underlying9
 a9 := Tryz.isAgg9
 z9 := Tryz.sizeOf9
 v9 := Tryz.zeroValue9
 t46 := Tryz.underlying346
 a46 := Tryz.isAgg346
 z46 := Tryz.sizeOf346
 v46 := Tryz.zeroValue346
 t53 := Tryz.underlying318
 a53 := Tryz.isAgg318
 z53 := Tryz.sizeOf318
 v53 := Tryz.zeroValue318
 t212 := Tryz.underlying435
 a212 := Tryz.isAgg435
 z212 := Tryz.sizeOf435
 v212 := Tryz.zeroValue435
 g17 := by kernel_rfl
 i0 := by kernel_rfl
 i3 := by kernel_rfl
 i4 := by kernel_rfl
 i5 := by kernel_rfl
 i9 := by kernel_rfl
 i46 := by kernel_rfl
 i53 := by kernel_rfl
 i212 := by kernel_rfl
 m17 := by kernel_rfl }
open Go.Lib in
theorem Tryz.internal_strconv_numDigits (u : Nat) (h1 : 1 ≤ u) (h2 : u < 18446744073709551616) (w : World) (htab : Lib.TabIs Tryz.prog w "internal/strconv.uint64pow10" .u64 Lib.pow10Tab) :
  Calls Tryz.prog 365 #[.int .u64 u] w fun e w' => e=.returned (.int .i64 (Lib.nDigits u))∧w'=w := Any.internal_strconv_numDigits Tryz.laysM284 u h1 h2 w htab
def Tryz.lays285_ren : Go.Shelf.Ren := ⟨fun | 285 => 366 | n => n,fun | 37 => 350 | 53 => 318 | 3 => 3 | 4 => 4 | 51 => 345 | 9 => 9 | 5 => 5 | 0 => 0 | n => n,fun | n => n⟩
theorem Tryz.lays285 : Go.Proofs.Lays.n285 Tryz.prog Tryz.lays285_ren := {
 mixed := by kernel_rfl
 f285 := Tryz.func366.trans (congrArg some (by kernel_rfl))
 t0 := Tryz.underlying0
 a0 := Tryz.isAgg0
 z0 := Tryz.sizeOf0
 v0 := Tryz.zeroValue0
 t3 := Tryz.underlying3
 a3 := Tryz.isAgg3
 z3 := Tryz.sizeOf3
 v3 := Tryz.zeroValue3
 t4 := Tryz.underlying4
 a4 := Tryz.isAgg4
 z4 := Tryz.sizeOf4
 v4 := Tryz.zeroValue4
 t5 := Tryz.underlying5
 a5 := Tryz.isAgg5
 z5 := Tryz.sizeOf5
 v5 := Tryz.zeroValue5
 t9 := Tryz.underlying9
 a9 := Tryz.isAgg9
 z9 := Tryz.sizeOf9
 v9 := Tryz.zeroValue9
 t37 := Tryz.underlying350
 a37 := Tryz.isAgg350
 z37 := Tryz.sizeOf350
 v37 := Tryz.zeroValue350
 t51 := Tryz.underlying345
 a51 := Tryz.isAgg345
 z51 := Tryz.sizeOf345
 v51 := Tryz.zeroValue345
 t53 := Tryz.underlying318
 a53 := Tryz.isAgg318
 z53 := Tryz.sizeOf318
 v53 := Tryz.zeroValue318 }
open Go.RowKit Go.Sort Go.Lib in
theorem Tryz.internal_strconv_formatBase10 (blk off cap : Nat) (u : Nat) (d : Array UInt8) (w : World) (hH : Holds (fun (b : UInt8) => Value.int .u8 (b.toNat : Int)) w blk off d) (hu : u < 10 ^ d.size) (hu64 : u < 18446744073709551616) (hsz : d.size < 4611686018427387904) :
  Calls Tryz.prog 366 #[.slice (some ⟨blk,off,none⟩) d.size cap,.int .u64 u] w fun e w' =>
   e=.returned (.tuple #[])∧∃ (n v' : Nat) (dk : Array UInt8),w'=(putRow (fun (b : UInt8) => Value.int .u8 (b.toNat : Int)) w blk off dk).drewN n∧FmtInv d.size u 0 v' dk := Any.internal_strconv_formatBase10 Tryz.lays285 blk off cap u d w hH hu hu64 hsz
def Tryz.lays219_ren : Go.Shelf.Ren := ⟨fun | 219 => 351 | 217 => 372 | 225 => 373 | 224 => 374 | 267 => 375 | 266 => 387 | 314 => 388 | n => n,fun | 9 => 9 | 3 => 3 | 4 => 4 | 5 => 5 | 46 => 346 | 146 => 421 | 51 => 345 | n => n,fun | 1 => 0 | n => n⟩
theorem Tryz.lays219 : Go.Proofs.Lays.n219 Tryz.prog Tryz.lays219_ren := {
 mixed := by kernel_rfl
 f217 := Tryz.func372.trans (congrArg some (by kernel_rfl))
 f219 := Tryz.func351.trans (congrArg some (by kernel_rfl))
 f224 := Tryz.func374.trans (congrArg some (by kernel_rfl))
 f225 := Tryz.func373.trans (congrArg some (by kernel_rfl))
 f266 := Tryz.func387.trans (congrArg some (by kernel_rfl))
 f267 := Tryz.func375.trans (congrArg some (by kernel_rfl))
 f314 := Tryz.func388.trans (congrArg some (by kernel_rfl))
 t3 := Tryz.underlying3
 a3 := Tryz.isAgg3
 z3 := Tryz.sizeOf3
 v3 := Tryz.zeroValue3
 t4 := Tryz.underlying4
 a4 := Tryz.isAgg4
 z4 := Tryz.sizeOf4
 v4 := Tryz.zeroValue4
 t5 := Tryz.underlying5
 a5 := Tryz.isAgg5
 z5 := Tryz.sizeOf5
 v5 := Tryz.zeroValue5
 t9 := Tryz.underlying9
 a9 := Tryz.isAgg9
 z9 := Tryz.sizeOf9
 v9 := Tryz.zeroValue9
 t46 := Tryz.underlying346
 a46 := Tryz.isAgg346
 z46 := Tryz.sizeOf346
 v46 := Tryz.zeroValue346
 t51 := Tryz.underlying345
 a51 := Tryz.isAgg345
 z51 := Tryz.sizeOf345
 v51 := Tryz.zeroValue345
 t146 := Tryz.underlying421
 a146 := Tryz.isAgg421
 z146 := Tryz.sizeOf421
 v146 := Tryz.zeroValue421
 g1 := by kernel_rfl }
open Go.RowKit Go.Lib in
theorem Tryz.stringslite_Index_one (s : ByteArray) (c : UInt8) (w : World) :
  Calls Tryz.prog 351 #[.string s,.string ⟨#[c]⟩] w fun e w' => e=.returned (.int .i64 (Lib.indexByte s.data.toList c))∧w'=w := Any.stringslite_Index_one Tryz.lays219 s c w
def Tryz.lays99_ren : Go.Shelf.Ren := ⟨fun | 99 => 143 | 206 => 242 | n => n,fun | 9 => 9 | 4 => 4 | 3 => 3 | n => n,fun | n => n⟩
theorem Tryz.lays99 : Go.Proofs.Lays.n99 Tryz.prog Tryz.lays99_ren := {
 mixed := by kernel_rfl
 f99 := Tryz.func143.trans (congrArg some (by kernel_rfl))
 f206 := Tryz.func242.trans (congrArg some (by kernel_rfl))
 t3 := Tryz.underlying3
 a3 := Tryz.isAgg3
 z3 := Tryz.sizeOf3
 v3 := Tryz.zeroValue3
 t4 := Tryz.underlying4
 a4 := Tryz.isAgg4
 z4 := Tryz.sizeOf4
 v4 := Tryz.zeroValue4
 t9 := Tryz.underlying9
 a9 := Tryz.isAgg9
 z9 := Tryz.sizeOf9
 v9 := Tryz.zeroValue9 }
open Go.RowKit Go.Lib in
theorem Tryz.strings_HasPrefix (s p : ByteArray) (w : World) :
  Calls Tryz.prog 143 #[.string s,.string p] w fun e w' => e=.returned (.bool (Lib.hasPrefix s.data.toList p.data.toList))∧w'=w := Any.strings_HasPrefix Tryz.lays99 s p w
def Tryz.lays147_ren : Go.Shelf.Ren := ⟨fun | 147 => 144 | 221 => 243 | 268 => 316 | 138 => 317 | 143 => 318 | 195 => 349 | 197 => 320 | 218 => 350 | 219 => 351 | 260 => 352 | 217 => 372 | 225 => 373 | 224 => 374 | 267 => 375 | 266 => 387 | 314 => 388 | n => n,fun | 9 => 9 | 3 => 3 | 31 => 215 | 4 => 4 | 0 => 0 | 105 => 381 | 21 => 21 | 5 => 5 | 46 => 346 | 119 => 426 | 139 => 429 | 138 => 428 | 146 => 421 | 51 => 345 | n => n,fun | 1 => 0 | 3 => 1 | 4 => 2 | n => n⟩
theorem Tryz.lays147 : Go.Proofs.Lays.n147 Tryz.prog Tryz.lays147_ren := {
 mixed := by kernel_rfl
 f138 := Tryz.func317.trans (congrArg some (by kernel_rfl))
 f143 := Tryz.func318.trans (congrArg some (by kernel_rfl))
 f147 := Tryz.func144.trans (congrArg some (by kernel_rfl))
 f195 := Tryz.func349.trans (congrArg some (by kernel_rfl))
 f197 := Tryz.func320.trans (congrArg some (by kernel_rfl))
 f217 := Tryz.func372.trans (congrArg some (by kernel_rfl))
 f218 := Tryz.func350.trans (congrArg some (by kernel_rfl))
 f219 := Tryz.func351.trans (congrArg some (by kernel_rfl))
 f221 := Tryz.func243.trans (congrArg some (by kernel_rfl))
 f224 := Tryz.func374.trans (congrArg some (by kernel_rfl))
 f225 := Tryz.func373.trans (congrArg some (by kernel_rfl))
 f260 := Tryz.func352.trans (congrArg some (by kernel_rfl))
 f266 := Tryz.func387.trans (congrArg some (by kernel_rfl))
 f267 := Tryz.func375.trans (congrArg some (by kernel_rfl))
 f268 := Tryz.func316.trans (congrArg some (by kernel_rfl))
 f314 := Tryz.func388.trans (congrArg some (by kernel_rfl))
 t0 := Tryz.underlying0
 a0 := Tryz.isAgg0
 z0 := Tryz.sizeOf0
 v0 := Tryz.zeroValue0
 t3 := Tryz.underlying3
 a3 := Tryz.isAgg3
 z3 := Tryz.sizeOf3
 v3 := Tryz.zeroValue3
 t4 := Tryz.underlying4
 a4 := Tryz.isAgg4
 z4 := Tryz.sizeOf4
 v4 := Tryz.zeroValue4
 t5 := Tryz.underlying5
 a5 := Tryz.isAgg5
 z5 := Tryz.sizeOf5
 v5 := Tryz.zeroValue5
 t9 := Tryz.underlying9
 a9 := Tryz.isAgg9
 z9 := Tryz.sizeOf9
 v9 := Tryz.zeroValue9
 t21 := Tryz.underlying21
 a21 := Tryz.isAgg21
 z21 := Tryz.sizeOf21
 v21 := Tryz.zeroValue21
 t31 := Tryz.underlying215
 a31 := Tryz.isAgg215
 z31 := Tryz.sizeOf215
 v31 := Tryz.zeroValue215
 t46 := Tryz.underlying346
 a46 := Tryz.isAgg346
 z46 := Tryz.sizeOf346
 v46 := Tryz.zeroValue346
 t51 := Tryz.underlying345
 a51 := Tryz.isAgg345
 z51 := Tryz.sizeOf345
 v51 := Tryz.zeroValue345
 t105 := Tryz.underlying381
 a105 := Tryz.isAgg381
 z105 := Tryz.sizeOf381
 v105 := Tryz.zeroValue381
 t119 := Tryz.underlying426
 a119 := Tryz.isAgg426
 z119 := Tryz.sizeOf426
 t138 := Tryz.underlying428
 a138 := Tryz.isAgg428
 z138 := Tryz.sizeOf428
 v138 := Tryz.zeroValue428
 t139 := Tryz.underlying429
 a139 := Tryz.isAgg429
 z139 := Tryz.sizeOf429
 v139 := Tryz.zeroValue429
 t146 := Tryz.underlying421
 a146 := Tryz.isAgg421
 z146 := Tryz.sizeOf421
 v146 := Tryz.zeroValue421
 g1 := by kernel_rfl
 g3 := by kernel_rfl
 g4 := by kernel_rfl }
open Go.RowKit Go.Lib in
theorem Tryz.strings_SplitN (s sep : ByteArray) (n : Nat) (m : Int) (w : World) (hs : s.size < 4294967281) (hm : w.cell? ⟨0,0,none⟩=some (.int .i64 m)) (h1 : 1≤sep.size) (hn : 1≤n) (hn63 : n≤9223372036854775807) :
  Calls Tryz.prog 144 #[.string s,.string sep,.int .i64 n] w fun e w' =>
   e=.returned (.slice (some ⟨w.heap.size,0,none⟩) (Lib.splitB sep 0 (min n (s.size+1) - 1) s).length (min n (s.size+1)))∧w'=w.alloc (.cells (Lib.cellsOf (Lib.splitB sep 0 (min n (s.size+1) - 1) s) (min n (s.size+1))) 9) := Any.strings_SplitN Tryz.lays147 (by kernel_rfl) s sep n m w hs hm h1 hn hn63
def Tryz.laysM147_ren : Go.Shelf.Ren := ⟨fun | 147 => 144 | 221 => 243 | 268 => 316 | 138 => 317 | 143 => 318 | 195 => 349 | 197 => 320 | 218 => 350 | 219 => 351 | 260 => 352 | 217 => 372 | 225 => 373 | 224 => 374 | 267 => 375 | 266 => 387 | 314 => 388 | n => n,fun | 9 => 9 | 3 => 3 | 31 => 215 | 4 => 4 | 0 => 0 | 105 => 381 | 21 => 21 | 5 => 5 | 46 => 346 | 119 => 426 | 139 => 429 | 138 => 428 | 146 => 421 | 51 => 345 | n => n,fun | 1 => 0 | 3 => 1 | 4 => 2 | n => n⟩
theorem Tryz.laysM147 : Go.Proofs.LaysM.n147 Tryz.prog Tryz.laysM147_ren := {
 mixed := by kernel_rfl
 f138 := Tryz.func317.trans (congrArg some (by kernel_rfl))
 f143 := Tryz.func318.trans (congrArg some (by kernel_rfl))
 f147 := Tryz.func144.trans (congrArg some (by kernel_rfl))
 f195 := Tryz.func349.trans (congrArg some (by kernel_rfl))
 f197 := Tryz.func320.trans (congrArg some (by kernel_rfl))
 f217 := Tryz.func372.trans (congrArg some (by kernel_rfl))
 f218 := Tryz.func350.trans (congrArg some (by kernel_rfl))
 f219 := Tryz.func351.trans (congrArg some (by kernel_rfl))
 f221 := Tryz.func243.trans (congrArg some (by kernel_rfl))
 f224 := Tryz.func374.trans (congrArg some (by kernel_rfl))
 f225 := Tryz.func373.trans (congrArg some (by kernel_rfl))
 f260 := Tryz.func352.trans (congrArg some (by kernel_rfl))
 f266 := Tryz.func387.trans (congrArg some (by kernel_rfl))
 f267 := Tryz.func375.trans (congrArg some (by kernel_rfl))
 f268 := Tryz.func316.trans (congrArg some (by kernel_rfl))
 f314 := Tryz.func388.trans (congrArg some (by kernel_rfl))
 t0 := Tryz.underlying0
 a0 := Tryz.isAgg0
 z0 := Tryz.sizeOf0
 v0 := Tryz.zeroValue0
 t3 := Tryz.underlying3
 a3 := Tryz.isAgg3
 z3 := Tryz.sizeOf3
 v3 := Tryz.zeroValue3
 t4 := Tryz.underlying4
 a4 := Tryz.isAgg4
 z4 := Tryz.sizeOf4
 v4 := Tryz.zeroValue4
 t5 := Tryz.underlying5
 a5 := Tryz.isAgg5
 z5 := Tryz.sizeOf5
 v5 := Tryz.zeroValue5
 t9 := Tryz.underlying9
 a9 := Tryz.isAgg9
 z9 := Tryz.sizeOf9
 v9 := Tryz.zeroValue9
 t21 := Tryz.underlying21
 a21 := Tryz.isAgg21
 z21 := Tryz.sizeOf21
 v21 := Tryz.zeroValue21
 t31 := Tryz.underlying215
 a31 := Tryz.isAgg215
 z31 := Tryz.sizeOf215
 v31 := Tryz.zeroValue215
 t46 := Tryz.underlying346
 a46 := Tryz.isAgg346
 z46 := Tryz.sizeOf346
 v46 := Tryz.zeroValue346
 t51 := Tryz.underlying345
 a51 := Tryz.isAgg345
 z51 := Tryz.sizeOf345
 v51 := Tryz.zeroValue345
 t105 := Tryz.underlying381
 a105 := Tryz.isAgg381
 z105 := Tryz.sizeOf381
 v105 := Tryz.zeroValue381
 t119 := Tryz.underlying426
 a119 := Tryz.isAgg426
 z119 := Tryz.sizeOf426
 t138 := Tryz.underlying428
 a138 := Tryz.isAgg428
 z138 := Tryz.sizeOf428
 v138 := Tryz.zeroValue428
 t139 := Tryz.underlying429
 a139 := Tryz.isAgg429
 z139 := Tryz.sizeOf429
 v139 := Tryz.zeroValue429
 t146 := Tryz.underlying421
 a146 := Tryz.isAgg421
 z146 := Tryz.sizeOf421
 v146 := Tryz.zeroValue421
 g1 := by kernel_rfl
 g3 := by kernel_rfl
 g4 := by kernel_rfl
 i0 := by kernel_rfl
 i3 := by kernel_rfl
 i4 := by kernel_rfl
 i5 := by kernel_rfl
 i9 := by kernel_rfl
 i21 := by kernel_rfl
 i31 := by kernel_rfl
 i46 := by kernel_rfl
 i51 := by kernel_rfl
 i105 := by kernel_rfl
 i138 := by kernel_rfl
 i139 := by kernel_rfl
 i146 := by kernel_rfl
 m1 := by kernel_rfl
 s1_3 := fun w h => Go.Proofs.cell_of_shapedOpen_int (zero := #[.int .i64 0]) (t := 3) h (of_decide_eq_true (by kernel_rfl)) (by kernel_rfl) rfl (by kernel_rfl) (by kernel_rfl) Tryz.underlying3
 m3 := by kernel_rfl
 m4 := by kernel_rfl }
def Tryz.lays105_ren : Go.Shelf.Ren := ⟨fun | 105 => 298 | 212 => 338 | 99 => 143 | 165 => 339 | 166 => 297 | 170 => 340 | 169 => 299 | 263 => 369 | 264 => 370 | 206 => 242 | 240 => 337 | 241 => 371 | 276 => 368 | 277 => 386 | n => n,fun | 9 => 9 | 3 => 3 | 4 => 4 | 20 => 20 | 0 => 0 | 46 => 346 | 109 => 398 | 5 => 5 | 72 => 352 | 76 => 356 | 51 => 345 | 146 => 421 | 53 => 318 | 148 => 423 | 70 => 349 | 37 => 350 | 75 => 355 | 127 => 401 | 164 => 419 | 80 => 262 | n => n,fun | n => n⟩
theorem Tryz.lays105 : Go.Proofs.Lays.n105 Tryz.prog Tryz.lays105_ren := {
 mixed := by kernel_rfl
 f99 := Tryz.func143.trans (congrArg some (by kernel_rfl))
 f105 := Tryz.func298.trans (congrArg some (by kernel_rfl))
 f165 := Tryz.func339.trans (congrArg some (by kernel_rfl))
 f166 := Tryz.func297.trans (congrArg some (by kernel_rfl))
 f169 := Tryz.func299.trans (congrArg some (by kernel_rfl))
 f170 := Tryz.func340.trans (congrArg some (by kernel_rfl))
 f206 := Tryz.func242.trans (congrArg some (by kernel_rfl))
 f212 := Tryz.func338.trans (congrArg some (by kernel_rfl))
 f240 := Tryz.func337.trans (congrArg some (by kernel_rfl))
 f241 := Tryz.func371.trans (congrArg some (by kernel_rfl))
 f263 := Tryz.func369.trans (congrArg some (by kernel_rfl))
 f264 := Tryz.func370.trans (congrArg some (by kernel_rfl))
 f276 := Tryz.func368.trans (congrArg some (by kernel_rfl))
 f277 := Tryz.func386.trans (congrArg some (by kernel_rfl))
 t0 := Tryz.underlying0
 a0 := Tryz.isAgg0
 z0 := Tryz.sizeOf0
 v0 := Tryz.zeroValue0
 t3 := Tryz.underlying3
 a3 := Tryz.isAgg3
 z3 := Tryz.sizeOf3
 v3 := Tryz.zeroValue3
 t4 := Tryz.underlying4
 a4 := Tryz.isAgg4
 z4 := Tryz.sizeOf4
 v4 := Tryz.zeroValue4
 t5 := Tryz.underlying5
 a5 := Tryz.isAgg5
 z5 := Tryz.sizeOf5
 v5 := Tryz.zeroValue5
 t9 := Tryz.underlying9
 a9 := Tryz.isAgg9
 z9 := Tryz.sizeOf9
 v9 := Tryz.zeroValue9
 t20 := Tryz.underlying20
 a20 := Tryz.isAgg20
 z20 := Tryz.sizeOf20
 v20 := Tryz.zeroValue20
 t37 := Tryz.underlying350
 a37 := Tryz.isAgg350
 z37 := Tryz.sizeOf350
 v37 := Tryz.zeroValue350
 t46 := Tryz.underlying346
 a46 := Tryz.isAgg346
 z46 := Tryz.sizeOf346
 v46 := Tryz.zeroValue346
 t51 := Tryz.underlying345
 a51 := Tryz.isAgg345
 z51 := Tryz.sizeOf345
 v51 := Tryz.zeroValue345
 t53 := Tryz.underlying318
 a53 := Tryz.isAgg318
 z53 := Tryz.sizeOf318
 v53 := Tryz.zeroValue318
 t70 := Tryz.underlying349
 a70 := Tryz.isAgg349
 z70 := Tryz.sizeOf349
 v70 := Tryz.zeroValue349
 t72 := Tryz.underlying352
 a72 := Tryz.isAgg352
 z72 := Tryz.sizeOf352
 v72 := Tryz.zeroValue352
 t75 := Tryz.underlying355
 a75 := Tryz.isAgg355
 z75 := Tryz.sizeOf355
 v75 := Tryz.zeroValue355
 t76 := Tryz.underlying356
 a76 := Tryz.isAgg356
 z76 := Tryz.sizeOf356
 v76 := Tryz.zeroValue356
 t109 := Tryz.underlying398
 a109 := Tryz.isAgg398
 z109 := Tryz.sizeOf398
 v109 := Tryz.zeroValue398
 t127 := Tryz.underlying401
 a127 := Tryz.isAgg401
 z127 := Tryz.sizeOf401
 v127 := Tryz.zeroValue401
 t146 := Tryz.underlying421
 a146 := Tryz.isAgg421
 z146 := Tryz.sizeOf421
 v146 := Tryz.zeroValue421
 t148 := Tryz.underlying423
 a148 := Tryz.isAgg423
 z148 := Tryz.sizeOf423
 v148 := Tryz.zeroValue423
 t164 := Tryz.underlying419
 a164 := Tryz.isAgg419
 z164 := Tryz.sizeOf419
 v164 := Tryz.zeroValue419 }
theorem Tryz.Builder_Extra_105 : Builder.Extra Tryz.prog Tryz.lays105_ren := {
 sizeBuilder := by kernel_rfl
 liesBuilder := by kernel_rfl
 t5 := Tryz.underlying5
 a5 := Tryz.isAgg5
 z5 := Tryz.sizeOf5
 v5 := Tryz.zeroValue5
 infoByte := by kernel_rfl
 cellsByte := by kernel_rfl
 sizeByte := by kernel_rfl
 neB5 := by decide }
open Go.RowKit Go.Lib in
theorem Tryz.strings_Repeat (s : ByteArray) (c : Nat) (w : World) (hc : c≤9223372036854775807) (hlen : s.size*c≤140737488355328) :
  Calls Tryz.prog 298 #[.string s,.int .i64 c] w fun e w' => e=.returned (.string ⟨(Lib.repeatL s.data.toList c).toArray⟩)∧Below w.heap.size w w' := Any.strings_Repeat Tryz.lays105 Tryz.Builder_Extra_105 s c w hc hlen
end Go.Proofs
