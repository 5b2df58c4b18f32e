/- Part 4 of the walks and of the mathematics under them: Shelf. -/
import Derived.Shelf.Strings.Builder1
import Derived.Shelf.Strings.Builder2
import Derived.Shelf.Strings.Trim
import Derived.Shelf.Small.Utf8
import Derived.Shelf.Small.Bits
import Derived.Shelf.Small.Strs
import Derived.Shelf.Small.Wraps
import Derived.Shelf.Strings.BuilderF
import Derived.Shelf.Strings.BuilderK
import Derived.Shelf.Utf8.RuneCount
import Derived.Shelf.Strings.Builder2Cap
import Derived.Shelf.Strconv.Itoa0
import Derived.Shelf.Strconv.Itoa1
import Derived.Shelf.LaysM
import Derived.Shelf.Strconv.Itoa2
import Derived.Shelf.Strings.Search1
import Derived.Shelf.Strings.Search2
import Derived.Shelf.Strings.Search3
import Derived.Shelf.Strings.Cut
import Derived.Shelf.Strings.Count
import Derived.Shelf.Strings.Shaped
import Derived.Shelf.Strings.Prefix
import Derived.Shelf.Strings.Split
import Derived.Shelf.Strings.SplitShaped
import Derived.Shelf.Unicode.Decode
import Derived.Shelf.Strings.Runes
import Derived.Shelf.Strings.RuneCount
import Derived.Shelf.Strings.AsciiSet
import Derived.Shelf.Strings.Explode
import Derived.Shelf.Bits.Mul64
import Derived.Shelf.Strings.Repeat
import Derived.Shelf.Unicode.DecodeSlow
import Derived.Shelf.Strings.BuilderCap
import Derived.Test.YtdgpmheeiaajkaaGreatDoorProg
set_option maxHeartbeats 16000000
set_option maxRecDepth 100000
/- Shelf -/
namespace Go.Proofs
open Go.Shelf
def Tryz.lays169_ren : Go.Shelf.Ren := ⟨fun | 169 => 320 | n => n,fun | 70 => 364 | 9 => 9 | 0 => 0 | 72 => 366 | 37 => 350 | 127 => 399 | 3 => 3 | 5 => 5 | n => n,fun | n => n⟩
theorem Tryz.lays169 : Go.Proofs.Lays.n169 Tryz.prog Tryz.lays169_ren := {
 mixed := by kernel_rfl
 f169 := Tryz.func320.trans (congrArg some (by kernel_rfl))
 t0 := Tryz.underlying0
 a0 := Tryz.isAgg0
 z0 := Tryz.sizeOf0
 v0 := Tryz.zeroValue0
 t3 := Tryz.underlying3
 a3 := Tryz.isAgg3
 z3 := Tryz.sizeOf3
 v3 := Tryz.zeroValue3
 t9 := Tryz.underlying9
 a9 := Tryz.isAgg9
 z9 := Tryz.sizeOf9
 v9 := Tryz.zeroValue9
 t37 := Tryz.underlying350
 a37 := Tryz.isAgg350
 z37 := Tryz.sizeOf350
 v37 := Tryz.zeroValue350
 t70 := Tryz.underlying364
 a70 := Tryz.isAgg364
 z70 := Tryz.sizeOf364
 v70 := Tryz.zeroValue364
 t72 := Tryz.underlying366
 a72 := Tryz.isAgg366
 z72 := Tryz.sizeOf366
 v72 := Tryz.zeroValue366
 t127 := Tryz.underlying399
 a127 := Tryz.isAgg399
 z127 := Tryz.sizeOf399
 v127 := Tryz.zeroValue399 }
theorem Tryz.Builder_Extra_169 : Builder.Extra Tryz.prog Tryz.lays169_ren := {
 sizeBuilder := by kernel_rfl
 liesBuilder := by kernel_rfl
 t5 := Tryz.underlying5
 a5 := Tryz.isAgg5
 z5 := Tryz.sizeOf5
 v5 := Tryz.zeroValue5
 infoByte := by kernel_rfl
 cellsByte := by kernel_rfl
 sizeByte := by kernel_rfl
 neB5 := by decide }
def Tryz.lays161_ren : Go.Shelf.Ren := ⟨fun | 161 => 350 | 231 => 216 | 227 => 218 | 233 => 219 | 235 => 221 | 228 => 293 | 197 => 294 | 151 => 295 | 260 => 342 | 152 => 343 | 137 => 371 | 119 => 372 | 224 => 369 | 225 => 368 | 217 => 367 | 266 => 386 | n => n,fun | 9 => 9 | 4 => 4 | 3 => 3 | 5 => 5 | 117 => 287 | 116 => 286 | 0 => 0 | 124 => 290 | 105 => 342 | 21 => 21 | 119 => 406 | 46 => 346 | 139 => 409 | 138 => 408 | n => n,fun | 3 => 1 | 4 => 2 | n => n⟩
theorem Tryz.lays161 : Go.Proofs.Lays.n161 Tryz.prog Tryz.lays161_ren := {
 mixed := by kernel_rfl
 f119 := Tryz.func372.trans (congrArg some (by kernel_rfl))
 f137 := Tryz.func371.trans (congrArg some (by kernel_rfl))
 f151 := Tryz.func295.trans (congrArg some (by kernel_rfl))
 f152 := Tryz.func343.trans (congrArg some (by kernel_rfl))
 f161 := Tryz.func350.trans (congrArg some (by kernel_rfl))
 f197 := Tryz.func294.trans (congrArg some (by kernel_rfl))
 f217 := Tryz.func367.trans (congrArg some (by kernel_rfl))
 f224 := Tryz.func369.trans (congrArg some (by kernel_rfl))
 f225 := Tryz.func368.trans (congrArg some (by kernel_rfl))
 f227 := Tryz.func218.trans (congrArg some (by kernel_rfl))
 f228 := Tryz.func293.trans (congrArg some (by kernel_rfl))
 f231 := Tryz.func216.trans (congrArg some (by kernel_rfl))
 f233 := Tryz.func219.trans (congrArg some (by kernel_rfl))
 f235 := Tryz.func221.trans (congrArg some (by kernel_rfl))
 f260 := Tryz.func342.trans (congrArg some (by kernel_rfl))
 f266 := Tryz.func386.trans (congrArg some (by kernel_rfl))
 t0 := Tryz.underlying0
 a0 := Tryz.isAgg0
 z0 := Tryz.sizeOf0
 v0 := Tryz.zeroValue0
 t3 := Tryz.underlying3
 a3 := Tryz.isAgg3
 z3 := Tryz.sizeOf3
 v3 := Tryz.zeroValue3
 t4 := Tryz.underlying4
 a4 := Tryz.isAgg4
 z4 := Tryz.sizeOf4
 v4 := Tryz.zeroValue4
 t5 := Tryz.underlying5
 a5 := Tryz.isAgg5
 z5 := Tryz.sizeOf5
 v5 := Tryz.zeroValue5
 t9 := Tryz.underlying9
 a9 := Tryz.isAgg9
 z9 := Tryz.sizeOf9
 v9 := Tryz.zeroValue9
 t21 := Tryz.underlying21
 a21 := Tryz.isAgg21
 z21 := Tryz.sizeOf21
 v21 := Tryz.zeroValue21
 t46 := Tryz.underlying346
 a46 := Tryz.isAgg346
 z46 := Tryz.sizeOf346
 v46 := Tryz.zeroValue346
 t105 := Tryz.underlying342
 a105 := Tryz.isAgg342
 z105 := Tryz.sizeOf342
 v105 := Tryz.zeroValue342
 t116 := Tryz.underlying286
 a116 := Tryz.isAgg286
 z116 := Tryz.sizeOf286
 t117 := Tryz.underlying287
 a117 := Tryz.isAgg287
 z117 := Tryz.sizeOf287
 v117 := Tryz.zeroValue287
 t119 := Tryz.underlying406
 a119 := Tryz.isAgg406
 z119 := Tryz.sizeOf406
 t124 := Tryz.underlying290
 a124 := Tryz.isAgg290
 z124 := Tryz.sizeOf290
 v124 := Tryz.zeroValue290
 t138 := Tryz.underlying408
 a138 := Tryz.isAgg408
 z138 := Tryz.sizeOf408
 v138 := Tryz.zeroValue408
 t139 := Tryz.underlying409
 a139 := Tryz.isAgg409
 z139 := Tryz.sizeOf409
 v139 := Tryz.zeroValue409
 g3 := by kernel_rfl
 g4 := by kernel_rfl }
open Go.RowKit in
theorem Tryz.strings_TrimLeft_one (s : ByteArray) (c : UInt8) (hc : c.toNat < 128) (w : World) :
  Calls Tryz.prog 350 #[.string s,.string ⟨#[c]⟩] w fun e w' => e=.returned (.string ⟨(Lib.trimLeftB s.data.toList c).toArray⟩)∧w'=w := Any.strings_TrimLeft_one Tryz.lays161 s c hc w
def Tryz.lays160_ren : Go.Shelf.Ren := ⟨fun | 160 => 117 | 232 => 217 | 231 => 216 | 227 => 218 | 234 => 220 | 233 => 219 | 236 => 222 | 235 => 221 | 228 => 293 | 271 => 296 | 151 => 295 | 197 => 294 | 120 => 344 | 152 => 343 | 260 => 342 | 137 => 371 | 119 => 372 | 224 => 369 | 225 => 368 | 217 => 367 | 266 => 386 | n => n,fun | 9 => 9 | 4 => 4 | 3 => 3 | 5 => 5 | 117 => 287 | 116 => 286 | 0 => 0 | 124 => 290 | 21 => 21 | 105 => 342 | 46 => 346 | 119 => 406 | 139 => 409 | 138 => 408 | n => n,fun | 3 => 1 | 4 => 2 | n => n⟩
theorem Tryz.lays160 : Go.Proofs.Lays.n160 Tryz.prog Tryz.lays160_ren := {
 mixed := by kernel_rfl
 f119 := Tryz.func372.trans (congrArg some (by kernel_rfl))
 f120 := Tryz.func344.trans (congrArg some (by kernel_rfl))
 f137 := Tryz.func371.trans (congrArg some (by kernel_rfl))
 f151 := Tryz.func295.trans (congrArg some (by kernel_rfl))
 f152 := Tryz.func343.trans (congrArg some (by kernel_rfl))
 f160 := Tryz.func117.trans (congrArg some (by kernel_rfl))
 f197 := Tryz.func294.trans (congrArg some (by kernel_rfl))
 f217 := Tryz.func367.trans (congrArg some (by kernel_rfl))
 f224 := Tryz.func369.trans (congrArg some (by kernel_rfl))
 f225 := Tryz.func368.trans (congrArg some (by kernel_rfl))
 f227 := Tryz.func218.trans (congrArg some (by kernel_rfl))
 f228 := Tryz.func293.trans (congrArg some (by kernel_rfl))
 f231 := Tryz.func216.trans (congrArg some (by kernel_rfl))
 f232 := Tryz.func217.trans (congrArg some (by kernel_rfl))
 f233 := Tryz.func219.trans (congrArg some (by kernel_rfl))
 f234 := Tryz.func220.trans (congrArg some (by kernel_rfl))
 f235 := Tryz.func221.trans (congrArg some (by kernel_rfl))
 f236 := Tryz.func222.trans (congrArg some (by kernel_rfl))
 f260 := Tryz.func342.trans (congrArg some (by kernel_rfl))
 f266 := Tryz.func386.trans (congrArg some (by kernel_rfl))
 f271 := Tryz.func296.trans (congrArg some (by kernel_rfl))
 t0 := Tryz.underlying0
 a0 := Tryz.isAgg0
 z0 := Tryz.sizeOf0
 v0 := Tryz.zeroValue0
 t3 := Tryz.underlying3
 a3 := Tryz.isAgg3
 z3 := Tryz.sizeOf3
 v3 := Tryz.zeroValue3
 t4 := Tryz.underlying4
 a4 := Tryz.isAgg4
 z4 := Tryz.sizeOf4
 v4 := Tryz.zeroValue4
 t5 := Tryz.underlying5
 a5 := Tryz.isAgg5
 z5 := Tryz.sizeOf5
 v5 := Tryz.zeroValue5
 t9 := Tryz.underlying9
 a9 := Tryz.isAgg9
 z9 := Tryz.sizeOf9
 v9 := Tryz.zeroValue9
 t21 := Tryz.underlying21
 a21 := Tryz.isAgg21
 z21 := Tryz.sizeOf21
 v21 := Tryz.zeroValue21
 t46 := Tryz.underlying346
 a46 := Tryz.isAgg346
 z46 := Tryz.sizeOf346
 v46 := Tryz.zeroValue346
 t105 := Tryz.underlying342
 a105 := Tryz.isAgg342
 z105 := Tryz.sizeOf342
 v105 := Tryz.zeroValue342
 t116 := Tryz.underlying286
 a116 := Tryz.isAgg286
 z116 := Tryz.sizeOf286
 t117 := Tryz.underlying287
 a117 := Tryz.isAgg287
 z117 := Tryz.sizeOf287
 v117 := Tryz.zeroValue287
 t119 := Tryz.underlying406
 a119 := Tryz.isAgg406
 z119 := Tryz.sizeOf406
 t124 := Tryz.underlying290
 a124 := Tryz.isAgg290
 z124 := Tryz.sizeOf290
 v124 := Tryz.zeroValue290
 t138 := Tryz.underlying408
 a138 := Tryz.isAgg408
 z138 := Tryz.sizeOf408
 v138 := Tryz.zeroValue408
 t139 := Tryz.underlying409
 a139 := Tryz.isAgg409
 z139 := Tryz.sizeOf409
 v139 := Tryz.zeroValue409
 g3 := by kernel_rfl
 g4 := by kernel_rfl }
open Go.RowKit in
theorem Tryz.strings_Trim_one (s : ByteArray) (c : UInt8) (hc : c.toNat < 128) (w : World) (hs : s.size≤9223372036854775807) :
  Calls Tryz.prog 117 #[.string s,.string ⟨#[c]⟩] w fun e w' => e=.returned (.string ⟨(Lib.trimB s.data.toList c).toArray⟩)∧(w'=w ∨ w'=w.drew) := Any.strings_Trim_one Tryz.lays160 s c hc w hs
def Tryz.lays133_ren : Go.Shelf.Ren := ⟨fun | 133 => 381 | 128 => 394 | n => n,fun | 51 => 345 | 3 => 3 | 4 => 4 | 46 => 346 | 5 => 5 | 9 => 9 | n => n,fun | n => n⟩
theorem Tryz.lays133 : Go.Proofs.Lays.n133 Tryz.prog Tryz.lays133_ren := {
 mixed := by kernel_rfl
 f128 := Tryz.func394.trans (congrArg some (by kernel_rfl))
 f133 := Tryz.func381.trans (congrArg some (by kernel_rfl))
 t3 := Tryz.underlying3
 a3 := Tryz.isAgg3
 z3 := Tryz.sizeOf3
 v3 := Tryz.zeroValue3
 t4 := Tryz.underlying4
 a4 := Tryz.isAgg4
 z4 := Tryz.sizeOf4
 v4 := Tryz.zeroValue4
 t5 := Tryz.underlying5
 a5 := Tryz.isAgg5
 z5 := Tryz.sizeOf5
 v5 := Tryz.zeroValue5
 t9 := Tryz.underlying9
 a9 := Tryz.isAgg9
 z9 := Tryz.sizeOf9
 v9 := Tryz.zeroValue9
 t46 := Tryz.underlying346
 a46 := Tryz.isAgg346
 z46 := Tryz.sizeOf346
 v46 := Tryz.zeroValue346
 t51 := Tryz.underlying345
 a51 := Tryz.isAgg345
 z51 := Tryz.sizeOf345
 v51 := Tryz.zeroValue345 }
theorem Tryz.bits_LeadingZeros32 (x : Int) (w : World) (h0 : 0≤x) (h1 : x≤4294967295) :
  Calls Tryz.prog 381 #[.int .u32 x] w fun e w' => e=.returned (.int .i64 (32 - (Lib.bitLen x.toNat : Int)))∧w'=w := Any.bits_LeadingZeros32 Tryz.lays133 x w h0 h1
def Tryz.lays103_ren : Go.Shelf.Ren := ⟨fun | 103 => 302 | 210 => 348 | 206 => 214 | n => n,fun | 9 => 9 | 4 => 4 | 24 => 353 | 3 => 3 | n => n,fun | n => n⟩
theorem Tryz.lays103 : Go.Proofs.Lays.n103 Tryz.prog Tryz.lays103_ren := {
 mixed := by kernel_rfl
 f103 := Tryz.func302.trans (congrArg some (by kernel_rfl))
 f206 := Tryz.func214.trans (congrArg some (by kernel_rfl))
 f210 := Tryz.func348.trans (congrArg some (by kernel_rfl))
 t3 := Tryz.underlying3
 a3 := Tryz.isAgg3
 z3 := Tryz.sizeOf3
 v3 := Tryz.zeroValue3
 t4 := Tryz.underlying4
 a4 := Tryz.isAgg4
 z4 := Tryz.sizeOf4
 v4 := Tryz.zeroValue4
 t9 := Tryz.underlying9
 a9 := Tryz.isAgg9
 z9 := Tryz.sizeOf9
 v9 := Tryz.zeroValue9
 t24 := Tryz.underlying353
 a24 := Tryz.isAgg353
 z24 := Tryz.sizeOf353
 v24 := Tryz.zeroValue353 }
open Go.RowKit in
theorem Tryz.strings_CutPrefix (s p : ByteArray) (w : World) :
  Calls Tryz.prog 302 #[.string s,.string p] w fun e w' => e=.returned (.tuple #[.string ⟨(Lib.trimPrefix s.data.toList p.data.toList).toArray⟩,.bool (Lib.hasPrefix s.data.toList p.data.toList)])∧w'=w := Any.strings_CutPrefix Tryz.lays103 s p w
open Go.RowKit in
theorem Tryz.Builder_String_any_f (B b : Nat) (l : List UInt8) (w : World) (h : Lib.IsBuilderF 366 5 B b (Lib.byteCells l) w) (hBw : B≤w.heap.size) :
  Calls Tryz.prog 320 #[.pointer (some ⟨b,0,none⟩)] w fun e w' => e=.returned (.string ⟨l.toArray⟩)∧(Lib.IsBuilderF 366 5 B b (Lib.byteCells l) w'∧Below B w w') := Any.Builder_String_any_f Tryz.lays169 Tryz.Builder_Extra_169 B b l w h hBw
def Tryz.lays283_ren : Go.Shelf.Ren := ⟨fun | 283 => 373 | n => n,fun | 3 => 3 | 9 => 9 | 4 => 4 | n => n,fun | n => n⟩
theorem Tryz.lays283 : Go.Proofs.Lays.n283 Tryz.prog Tryz.lays283_ren := {
 mixed := by kernel_rfl
 f283 := Tryz.func373.trans (congrArg some (by kernel_rfl))
 t3 := Tryz.underlying3
 a3 := Tryz.isAgg3
 z3 := Tryz.sizeOf3
 v3 := Tryz.zeroValue3
 t4 := Tryz.underlying4
 a4 := Tryz.isAgg4
 z4 := Tryz.sizeOf4
 v4 := Tryz.zeroValue4
 t9 := Tryz.underlying9
 a9 := Tryz.isAgg9
 z9 := Tryz.sizeOf9
 v9 := Tryz.zeroValue9 }
open Go.Lib in
theorem Tryz.internal_strconv_small (i : Nat) (h : i < 100) (w : World) :
  Calls Tryz.prog 373 #[.int .i64 i] w fun e w' => e=.returned (.string ⟨(Lib.decDigits i).toArray⟩)∧w'=w := Any.internal_strconv_small Tryz.lays283 i h w
def Tryz.laysM284_ren : Go.Shelf.Ren := ⟨fun | 284 => 374 | 129 => 389 | 317 => 388 | 318 => 390 | n => n,fun | 53 => 293 | 3 => 3 | 212 => 428 | 0 => 0 | 4 => 4 | 46 => 346 | 5 => 5 | 9 => 9 | n => n,fun | 17 => 3 | n => n⟩
theorem Tryz.laysM284 : Go.Proofs.LaysM.n284 Tryz.prog Tryz.laysM284_ren := {
 mixed := by kernel_rfl
 f129 := Tryz.func389.trans (congrArg some (by kernel_rfl))
 f284 := Tryz.func374.trans (congrArg some (by kernel_rfl))
 f317 := Tryz.func388.trans (congrArg some (by kernel_rfl))
 f318 := Tryz.func390.trans (congrArg some (by kernel_rfl))
 t0 := Tryz.underlying0
 a0 := Tryz.isAgg0
 z0 := Tryz.sizeOf0
 v0 := Tryz.zeroValue0
 t3 := Tryz.underlying3
 a3 := Tryz.isAgg3
 z3 := Tryz.sizeOf3
 v3 := Tryz.zeroValue3
 t4 := Tryz.underlying4
 a4 := Tryz.isAgg4
 z4 := Tryz.sizeOf4
 v4 := Tryz.zeroValue4
 t5 := Tryz.underlying5
 a5 := Tryz.isAgg5
 z5 := Tryz.sizeOf5
 v5 := Tryz.zeroValue5
 t9 := Tryz.underlying9
 a9 := Tryz.isAgg9
 z9 := Tryz.sizeOf9
 v9 := Tryz.zeroValue9
 t46 := Tryz.underlying346
 a46 := Tryz.isAgg346
 z46 := Tryz.sizeOf346
 v46 := Tryz.zeroValue346
 t53 := Tryz.underlying293
 a53 := Tryz.isAgg293
 z53 := Tryz.sizeOf293
 v53 := Tryz.zeroValue293
 t212 := Tryz.underlying428
 a212 := Tryz.isAgg428
 z212 := Tryz.sizeOf428
 v212 := Tryz.zeroValue428
 g17 := by kernel_rfl
 i0 := by kernel_rfl
 i3 := by kernel_rfl
 i4 := by kernel_rfl
 i5 := by kernel_rfl
 i9 := by kernel_rfl
 i46 := by kernel_rfl
 i53 := by kernel_rfl
 i212 := by kernel_rfl
 m17 := by kernel_rfl }
open Go.Lib in
theorem Tryz.internal_strconv_numDigits (u : Nat) (h1 : 1 ≤ u) (h2 : u < 18446744073709551616) (w : World) (htab : Lib.TabIs Tryz.prog w "internal/strconv.uint64pow10" .u64 Lib.pow10Tab) :
  Calls Tryz.prog 374 #[.int .u64 u] w fun e w' => e=.returned (.int .i64 (Lib.nDigits u))∧w'=w := Any.internal_strconv_numDigits Tryz.laysM284 u h1 h2 w htab
def Tryz.lays285_ren : Go.Shelf.Ren := ⟨fun | 285 => 375 | n => n,fun | 37 => 350 | 53 => 293 | 3 => 3 | 4 => 4 | 51 => 345 | 9 => 9 | 5 => 5 | 0 => 0 | n => n,fun | n => n⟩
theorem Tryz.lays285 : Go.Proofs.Lays.n285 Tryz.prog Tryz.lays285_ren := {
 mixed := by kernel_rfl
 f285 := Tryz.func375.trans (congrArg some (by kernel_rfl))
 t0 := Tryz.underlying0
 a0 := Tryz.isAgg0
 z0 := Tryz.sizeOf0
 v0 := Tryz.zeroValue0
 t3 := Tryz.underlying3
 a3 := Tryz.isAgg3
 z3 := Tryz.sizeOf3
 v3 := Tryz.zeroValue3
 t4 := Tryz.underlying4
 a4 := Tryz.isAgg4
 z4 := Tryz.sizeOf4
 v4 := Tryz.zeroValue4
 t5 := Tryz.underlying5
 a5 := Tryz.isAgg5
 z5 := Tryz.sizeOf5
 v5 := Tryz.zeroValue5
 t9 := Tryz.underlying9
 a9 := Tryz.isAgg9
 z9 := Tryz.sizeOf9
 v9 := Tryz.zeroValue9
 t37 := Tryz.underlying350
 a37 := Tryz.isAgg350
 z37 := Tryz.sizeOf350
 v37 := Tryz.zeroValue350
 t51 := Tryz.underlying345
 a51 := Tryz.isAgg345
 z51 := Tryz.sizeOf345
 v51 := Tryz.zeroValue345
 t53 := Tryz.underlying293
 a53 := Tryz.isAgg293
 z53 := Tryz.sizeOf293
 v53 := Tryz.zeroValue293 }
open Go.RowKit Go.Sort Go.Lib in
theorem Tryz.internal_strconv_formatBase10 (blk off cap : Nat) (u : Nat) (d : Array UInt8) (w : World) (hH : Holds (fun (b : UInt8) => Value.int .u8 (b.toNat : Int)) w blk off d) (hu : u < 10 ^ d.size) (hu64 : u < 18446744073709551616) (hsz : d.size < 4611686018427387904) :
  Calls Tryz.prog 375 #[.slice (some ⟨blk,off,none⟩) d.size cap,.int .u64 u] w fun e w' =>
   e=.returned (.tuple #[])∧∃ (n v' : Nat) (dk : Array UInt8),w'=(putRow (fun (b : UInt8) => Value.int .u8 (b.toNat : Int)) w blk off dk).drewN n∧FmtInv d.size u 0 v' dk := Any.internal_strconv_formatBase10 Tryz.lays285 blk off cap u d w hH hu hu64 hsz
def Tryz.lays219_ren : Go.Shelf.Ren := ⟨fun | 219 => 341 | 217 => 367 | 225 => 368 | 224 => 369 | 267 => 370 | 266 => 386 | 314 => 387 | n => n,fun | 9 => 9 | 3 => 3 | 4 => 4 | 5 => 5 | 46 => 346 | 146 => 418 | 51 => 345 | n => n,fun | 1 => 0 | n => n⟩
theorem Tryz.lays219 : Go.Proofs.Lays.n219 Tryz.prog Tryz.lays219_ren := {
 mixed := by kernel_rfl
 f217 := Tryz.func367.trans (congrArg some (by kernel_rfl))
 f219 := Tryz.func341.trans (congrArg some (by kernel_rfl))
 f224 := Tryz.func369.trans (congrArg some (by kernel_rfl))
 f225 := Tryz.func368.trans (congrArg some (by kernel_rfl))
 f266 := Tryz.func386.trans (congrArg some (by kernel_rfl))
 f267 := Tryz.func370.trans (congrArg some (by kernel_rfl))
 f314 := Tryz.func387.trans (congrArg some (by kernel_rfl))
 t3 := Tryz.underlying3
 a3 := Tryz.isAgg3
 z3 := Tryz.sizeOf3
 v3 := Tryz.zeroValue3
 t4 := Tryz.underlying4
 a4 := Tryz.isAgg4
 z4 := Tryz.sizeOf4
 v4 := Tryz.zeroValue4
 t5 := Tryz.underlying5
 a5 := Tryz.isAgg5
 z5 := Tryz.sizeOf5
 v5 := Tryz.zeroValue5
 t9 := Tryz.underlying9
 a9 := Tryz.isAgg9
 z9 := Tryz.sizeOf9
 v9 := Tryz.zeroValue9
 t46 := Tryz.underlying346
 a46 := Tryz.isAgg346
 z46 := Tryz.sizeOf346
 v46 := Tryz.zeroValue346
 t51 := Tryz.underlying345
 a51 := Tryz.isAgg345
 z51 := Tryz.sizeOf345
 v51 := Tryz.zeroValue345
 t146 := Tryz.underlying418
 a146 := Tryz.isAgg418
 z146 := Tryz.sizeOf418
 v146 := Tryz.zeroValue418
 g1 := by kernel_rfl }
open Go.RowKit Go.Lib in
theorem Tryz.stringslite_Index_one (s : ByteArray) (c : UInt8) (w : World) :
  Calls Tryz.prog 341 #[.string s,.string ⟨#[c]⟩] w fun e w' => e=.returned (.int .i64 (Lib.indexByte s.data.toList c))∧w'=w := Any.stringslite_Index_one Tryz.lays219 s c w
def Tryz.lays99_ren : Go.Shelf.Ren := ⟨fun | 99 => 114 | 206 => 214 | n => n,fun | 9 => 9 | 4 => 4 | 3 => 3 | n => n,fun | n => n⟩
theorem Tryz.lays99 : Go.Proofs.Lays.n99 Tryz.prog Tryz.lays99_ren := {
 mixed := by kernel_rfl
 f99 := Tryz.func114.trans (congrArg some (by kernel_rfl))
 f206 := Tryz.func214.trans (congrArg some (by kernel_rfl))
 t3 := Tryz.underlying3
 a3 := Tryz.isAgg3
 z3 := Tryz.sizeOf3
 v3 := Tryz.zeroValue3
 t4 := Tryz.underlying4
 a4 := Tryz.isAgg4
 z4 := Tryz.sizeOf4
 v4 := Tryz.zeroValue4
 t9 := Tryz.underlying9
 a9 := Tryz.isAgg9
 z9 := Tryz.sizeOf9
 v9 := Tryz.zeroValue9 }
open Go.RowKit Go.Lib in
theorem Tryz.strings_HasPrefix (s p : ByteArray) (w : World) :
  Calls Tryz.prog 114 #[.string s,.string p] w fun e w' => e=.returned (.bool (Lib.hasPrefix s.data.toList p.data.toList))∧w'=w := Any.strings_HasPrefix Tryz.lays99 s p w
def Tryz.lays147_ren : Go.Shelf.Ren := ⟨fun | 147 => 115 | 221 => 215 | 268 => 290 | 138 => 291 | 143 => 292 | 195 => 339 | 197 => 294 | 218 => 340 | 219 => 341 | 260 => 342 | 217 => 367 | 225 => 368 | 224 => 369 | 267 => 370 | 266 => 386 | 314 => 387 | n => n,fun | 9 => 9 | 3 => 3 | 31 => 165 | 4 => 4 | 0 => 0 | 105 => 342 | 21 => 21 | 5 => 5 | 46 => 346 | 119 => 406 | 139 => 409 | 138 => 408 | 146 => 418 | 51 => 345 | n => n,fun | 1 => 0 | 3 => 1 | 4 => 2 | n => n⟩
theorem Tryz.lays147 : Go.Proofs.Lays.n147 Tryz.prog Tryz.lays147_ren := {
 mixed := by kernel_rfl
 f138 := Tryz.func291.trans (congrArg some (by kernel_rfl))
 f143 := Tryz.func292.trans (congrArg some (by kernel_rfl))
 f147 := Tryz.func115.trans (congrArg some (by kernel_rfl))
 f195 := Tryz.func339.trans (congrArg some (by kernel_rfl))
 f197 := Tryz.func294.trans (congrArg some (by kernel_rfl))
 f217 := Tryz.func367.trans (congrArg some (by kernel_rfl))
 f218 := Tryz.func340.trans (congrArg some (by kernel_rfl))
 f219 := Tryz.func341.trans (congrArg some (by kernel_rfl))
 f221 := Tryz.func215.trans (congrArg some (by kernel_rfl))
 f224 := Tryz.func369.trans (congrArg some (by kernel_rfl))
 f225 := Tryz.func368.trans (congrArg some (by kernel_rfl))
 f260 := Tryz.func342.trans (congrArg some (by kernel_rfl))
 f266 := Tryz.func386.trans (congrArg some (by kernel_rfl))
 f267 := Tryz.func370.trans (congrArg some (by kernel_rfl))
 f268 := Tryz.func290.trans (congrArg some (by kernel_rfl))
 f314 := Tryz.func387.trans (congrArg some (by kernel_rfl))
 t0 := Tryz.underlying0
 a0 := Tryz.isAgg0
 z0 := Tryz.sizeOf0
 v0 := Tryz.zeroValue0
 t3 := Tryz.underlying3
 a3 := Tryz.isAgg3
 z3 := Tryz.sizeOf3
 v3 := Tryz.zeroValue3
 t4 := Tryz.underlying4
 a4 := Tryz.isAgg4
 z4 := Tryz.sizeOf4
 v4 := Tryz.zeroValue4
 t5 := Tryz.underlying5
 a5 := Tryz.isAgg5
 z5 := Tryz.sizeOf5
 v5 := Tryz.zeroValue5
 t9 := Tryz.underlying9
 a9 := Tryz.isAgg9
 z9 := Tryz.sizeOf9
 v9 := Tryz.zeroValue9
 t21 := Tryz.underlying21
 a21 := Tryz.isAgg21
 z21 := Tryz.sizeOf21
 v21 := Tryz.zeroValue21
 t31 := Tryz.underlying165
 a31 := Tryz.isAgg165
 z31 := Tryz.sizeOf165
 v31 := Tryz.zeroValue165
 t46 := Tryz.underlying346
 a46 := Tryz.isAgg346
 z46 := Tryz.sizeOf346
 v46 := Tryz.zeroValue346
 t51 := Tryz.underlying345
 a51 := Tryz.isAgg345
 z51 := Tryz.sizeOf345
 v51 := Tryz.zeroValue345
 t105 := Tryz.underlying342
 a105 := Tryz.isAgg342
 z105 := Tryz.sizeOf342
 v105 := Tryz.zeroValue342
 t119 := Tryz.underlying406
 a119 := Tryz.isAgg406
 z119 := Tryz.sizeOf406
 t138 := Tryz.underlying408
 a138 := Tryz.isAgg408
 z138 := Tryz.sizeOf408
 v138 := Tryz.zeroValue408
 t139 := Tryz.underlying409
 a139 := Tryz.isAgg409
 z139 := Tryz.sizeOf409
 v139 := Tryz.zeroValue409
 t146 := Tryz.underlying418
 a146 := Tryz.isAgg418
 z146 := Tryz.sizeOf418
 v146 := Tryz.zeroValue418
 g1 := by kernel_rfl
 g3 := by kernel_rfl
 g4 := by kernel_rfl }
open Go.RowKit Go.Lib in
theorem Tryz.strings_SplitN (s sep : ByteArray) (n : Nat) (m : Int) (w : World) (hs : s.size < 4294967281) (hm : w.cell? ⟨0,0,none⟩=some (.int .i64 m)) (h1 : 1≤sep.size) (hn : 1≤n) (hn63 : n≤9223372036854775807) :
  Calls Tryz.prog 115 #[.string s,.string sep,.int .i64 n] w fun e w' =>
   e=.returned (.slice (some ⟨w.heap.size,0,none⟩) (Lib.splitB sep 0 (min n (s.size+1) - 1) s).length (min n (s.size+1)))∧w'=w.alloc (.cells (Lib.cellsOf (Lib.splitB sep 0 (min n (s.size+1) - 1) s) (min n (s.size+1))) 9) := Any.strings_SplitN Tryz.lays147 (by kernel_rfl) s sep n m w hs hm h1 hn hn63
def Tryz.laysM147_ren : Go.Shelf.Ren := ⟨fun | 147 => 115 | 221 => 215 | 268 => 290 | 138 => 291 | 143 => 292 | 195 => 339 | 197 => 294 | 218 => 340 | 219 => 341 | 260 => 342 | 217 => 367 | 225 => 368 | 224 => 369 | 267 => 370 | 266 => 386 | 314 => 387 | n => n,fun | 9 => 9 | 3 => 3 | 31 => 165 | 4 => 4 | 0 => 0 | 105 => 342 | 21 => 21 | 5 => 5 | 46 => 346 | 119 => 406 | 139 => 409 | 138 => 408 | 146 => 418 | 51 => 345 | n => n,fun | 1 => 0 | 3 => 1 | 4 => 2 | n => n⟩
theorem Tryz.laysM147 : Go.Proofs.LaysM.n147 Tryz.prog Tryz.laysM147_ren := {
 mixed := by kernel_rfl
 f138 := Tryz.func291.trans (congrArg some (by kernel_rfl))
 f143 := Tryz.func292.trans (congrArg some (by kernel_rfl))
 f147 := Tryz.func115.trans (congrArg some (by kernel_rfl))
 f195 := Tryz.func339.trans (congrArg some (by kernel_rfl))
 f197 := Tryz.func294.trans (congrArg some (by kernel_rfl))
 f217 := Tryz.func367.trans (congrArg some (by kernel_rfl))
 f218 := Tryz.func340.trans (congrArg some (by kernel_rfl))
 f219 := Tryz.func341.trans (congrArg some (by kernel_rfl))
 f221 := Tryz.func215.trans (congrArg some (by kernel_rfl))
 f224 := Tryz.func369.trans (congrArg some (by kernel_rfl))
 f225 := Tryz.func368.trans (congrArg some (by kernel_rfl))
 f260 := Tryz.func342.trans (congrArg some (by kernel_rfl))
 f266 := Tryz.func386.trans (congrArg some (by kernel_rfl))
 f267 := Tryz.func370.trans (congrArg some (by kernel_rfl))
 f268 := Tryz.func290.trans (congrArg some (by kernel_rfl))
 f314 := Tryz.func387.trans (congrArg some (by kernel_rfl))
 t0 := Tryz.underlying0
 a0 := Tryz.isAgg0
 z0 := Tryz.sizeOf0
 v0 := Tryz.zeroValue0
 t3 := Tryz.underlying3
 a3 := Tryz.isAgg3
 z3 := Tryz.sizeOf3
 v3 := Tryz.zeroValue3
 t4 := Tryz.underlying4
 a4 := Tryz.isAgg4
 z4 := Tryz.sizeOf4
 v4 := Tryz.zeroValue4
 t5 := Tryz.underlying5
 a5 := Tryz.isAgg5
 z5 := Tryz.sizeOf5
 v5 := Tryz.zeroValue5
 t9 := Tryz.underlying9
 a9 := Tryz.isAgg9
 z9 := Tryz.sizeOf9
 v9 := Tryz.zeroValue9
 t21 := Tryz.underlying21
 a21 := Tryz.isAgg21
 z21 := Tryz.sizeOf21
 v21 := Tryz.zeroValue21
 t31 := Tryz.underlying165
 a31 := Tryz.isAgg165
 z31 := Tryz.sizeOf165
 v31 := Tryz.zeroValue165
 t46 := Tryz.underlying346
 a46 := Tryz.isAgg346
 z46 := Tryz.sizeOf346
 v46 := Tryz.zeroValue346
 t51 := Tryz.underlying345
 a51 := Tryz.isAgg345
 z51 := Tryz.sizeOf345
 v51 := Tryz.zeroValue345
 t105 := Tryz.underlying342
 a105 := Tryz.isAgg342
 z105 := Tryz.sizeOf342
 v105 := Tryz.zeroValue342
 t119 := Tryz.underlying406
 a119 := Tryz.isAgg406
 z119 := Tryz.sizeOf406
 t138 := Tryz.underlying408
 a138 := Tryz.isAgg408
 z138 := Tryz.sizeOf408
 v138 := Tryz.zeroValue408
 t139 := Tryz.underlying409
 a139 := Tryz.isAgg409
 z139 := Tryz.sizeOf409
 v139 := Tryz.zeroValue409
 t146 := Tryz.underlying418
 a146 := Tryz.isAgg418
 z146 := Tryz.sizeOf418
 v146 := Tryz.zeroValue418
 g1 := by kernel_rfl
 g3 := by kernel_rfl
 g4 := by kernel_rfl
 i0 := by kernel_rfl
 i3 := by kernel_rfl
 i4 := by kernel_rfl
 i5 := by kernel_rfl
 i9 := by kernel_rfl
 i21 := by kernel_rfl
 i31 := by kernel_rfl
 i46 := by kernel_rfl
 i51 := by kernel_rfl
 i105 := by kernel_rfl
 i138 := by kernel_rfl
 i139 := by kernel_rfl
 i146 := by kernel_rfl
 m1 := by kernel_rfl
 s1_3 := fun w h => Go.Proofs.cell_of_shapedOpen_int (zero := #[.int .i64 0]) (t := 3) h (of_decide_eq_true (by kernel_rfl)) (by kernel_rfl) rfl (by kernel_rfl) (by kernel_rfl) Tryz.underlying3
 m3 := by kernel_rfl
 m4 := by kernel_rfl }
def Tryz.lays105_ren : Go.Shelf.Ren := ⟨fun | 105 => 319 | 212 => 358 | 99 => 114 | 165 => 359 | 166 => 318 | 170 => 360 | 169 => 320 | 263 => 378 | 264 => 379 | 206 => 214 | 240 => 357 | 241 => 380 | 276 => 377 | 277 => 393 | n => n,fun | 9 => 9 | 3 => 3 | 4 => 4 | 20 => 20 | 0 => 0 | 46 => 346 | 109 => 396 | 5 => 5 | 72 => 366 | 76 => 370 | 51 => 345 | 146 => 418 | 53 => 293 | 148 => 420 | 70 => 364 | 37 => 350 | 75 => 369 | 127 => 399 | 164 => 416 | 80 => 175 | n => n,fun | n => n⟩
theorem Tryz.lays105 : Go.Proofs.Lays.n105 Tryz.prog Tryz.lays105_ren := {
 mixed := by kernel_rfl
 f99 := Tryz.func114.trans (congrArg some (by kernel_rfl))
 f105 := Tryz.func319.trans (congrArg some (by kernel_rfl))
 f165 := Tryz.func359.trans (congrArg some (by kernel_rfl))
 f166 := Tryz.func318.trans (congrArg some (by kernel_rfl))
 f169 := Tryz.func320.trans (congrArg some (by kernel_rfl))
 f170 := Tryz.func360.trans (congrArg some (by kernel_rfl))
 f206 := Tryz.func214.trans (congrArg some (by kernel_rfl))
 f212 := Tryz.func358.trans (congrArg some (by kernel_rfl))
 f240 := Tryz.func357.trans (congrArg some (by kernel_rfl))
 f241 := Tryz.func380.trans (congrArg some (by kernel_rfl))
 f263 := Tryz.func378.trans (congrArg some (by kernel_rfl))
 f264 := Tryz.func379.trans (congrArg some (by kernel_rfl))
 f276 := Tryz.func377.trans (congrArg some (by kernel_rfl))
 f277 := Tryz.func393.trans (congrArg some (by kernel_rfl))
 t0 := Tryz.underlying0
 a0 := Tryz.isAgg0
 z0 := Tryz.sizeOf0
 v0 := Tryz.zeroValue0
 t3 := Tryz.underlying3
 a3 := Tryz.isAgg3
 z3 := Tryz.sizeOf3
 v3 := Tryz.zeroValue3
 t4 := Tryz.underlying4
 a4 := Tryz.isAgg4
 z4 := Tryz.sizeOf4
 v4 := Tryz.zeroValue4
 t5 := Tryz.underlying5
 a5 := Tryz.isAgg5
 z5 := Tryz.sizeOf5
 v5 := Tryz.zeroValue5
 t9 := Tryz.underlying9
 a9 := Tryz.isAgg9
 z9 := Tryz.sizeOf9
 v9 := Tryz.zeroValue9
 t20 := Tryz.underlying20
 a20 := Tryz.isAgg20
 z20 := Tryz.sizeOf20
 v20 := Tryz.zeroValue20
 t37 := Tryz.underlying350
 a37 := Tryz.isAgg350
 z37 := Tryz.sizeOf350
 v37 := Tryz.zeroValue350
 t46 := Tryz.underlying346
 a46 := Tryz.isAgg346
 z46 := Tryz.sizeOf346
 v46 := Tryz.zeroValue346
 t51 := Tryz.underlying345
 a51 := Tryz.isAgg345
 z51 := Tryz.sizeOf345
 v51 := Tryz.zeroValue345
 t53 := Tryz.underlying293
 a53 := Tryz.isAgg293
 z53 := Tryz.sizeOf293
 v53 := Tryz.zeroValue293
 t70 := Tryz.underlying364
 a70 := Tryz.isAgg364
 z70 := Tryz.sizeOf364
 v70 := Tryz.zeroValue364
 t72 := Tryz.underlying366
 a72 := Tryz.isAgg366
 z72 := Tryz.sizeOf366
 v72 := Tryz.zeroValue366
 t75 := Tryz.underlying369
 a75 := Tryz.isAgg369
 z75 := Tryz.sizeOf369
 v75 := Tryz.zeroValue369
 t76 := Tryz.underlying370
 a76 := Tryz.isAgg370
 z76 := Tryz.sizeOf370
 v76 := Tryz.zeroValue370
 t109 := Tryz.underlying396
 a109 := Tryz.isAgg396
 z109 := Tryz.sizeOf396
 v109 := Tryz.zeroValue396
 t127 := Tryz.underlying399
 a127 := Tryz.isAgg399
 z127 := Tryz.sizeOf399
 v127 := Tryz.zeroValue399
 t146 := Tryz.underlying418
 a146 := Tryz.isAgg418
 z146 := Tryz.sizeOf418
 v146 := Tryz.zeroValue418
 t148 := Tryz.underlying420
 a148 := Tryz.isAgg420
 z148 := Tryz.sizeOf420
 v148 := Tryz.zeroValue420
 t164 := Tryz.underlying416
 a164 := Tryz.isAgg416
 z164 := Tryz.sizeOf416
 v164 := Tryz.zeroValue416 }
theorem Tryz.Builder_Extra_105 : Builder.Extra Tryz.prog Tryz.lays105_ren := {
 sizeBuilder := by kernel_rfl
 liesBuilder := by kernel_rfl
 t5 := Tryz.underlying5
 a5 := Tryz.isAgg5
 z5 := Tryz.sizeOf5
 v5 := Tryz.zeroValue5
 infoByte := by kernel_rfl
 cellsByte := by kernel_rfl
 sizeByte := by kernel_rfl
 neB5 := by decide }
open Go.RowKit Go.Lib in
theorem Tryz.strings_Repeat (s : ByteArray) (c : Nat) (w : World) (hc : c≤9223372036854775807) (hlen : s.size*c≤140737488355328) :
  Calls Tryz.prog 319 #[.string s,.int .i64 c] w fun e w' => e=.returned (.string ⟨(Lib.repeatL s.data.toList c).toArray⟩)∧Below w.heap.size w w' := Any.strings_Repeat Tryz.lays105 Tryz.Builder_Extra_105 s c w hc hlen
end Go.Proofs
