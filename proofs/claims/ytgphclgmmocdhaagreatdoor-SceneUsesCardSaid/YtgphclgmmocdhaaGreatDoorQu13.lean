/-
  Parts of the proof.
-/
import Derived.Shelf.Small.Utf8
import Derived.Shelf.Small.Wraps
import Derived.Shelf.Strings.BuilderK
import Derived.Shelf.Utf8.RuneCount
import Derived.Shelf.Strconv.Itoa3
import Derived.Shelf.Strconv.AtoiAll
import Derived.Shelf.Strings.Shaped
import Derived.Shelf.Strings.LastIndex
import Derived.Shelf.GgClosure.StringsIndexFuncTop
import Derived.Shelf.Strings.Split
import Derived.Shelf.Strings.IndexAnyAll
import Derived.Shelf.Unicode.DecodeAny
import Derived.Shelf.Slices.Turned
import Derived.Shelf.Slices.Clone
import Derived.Shelf.Slices.SearchI
import Derived.Shelf.Slices.Cells
import Derived.Shelf.SlicesE.Clone
import Derived.Shelf.SlicesE.DeleteFunc
import Derived.Test.YtgphclgmmocdhaaGreatDoorQu12
import Derived.Test.YtgphclgmmocdhaaGreatDoorQu11
namespace Go.Proofs
open Go.Shelf
def Tryz.lays119_ren : Go.Shelf.Ren := ⟨fun | 119 => 305 | n => n, fun | 21 => 21 | 4 => 4 | n => n, fun | n => n⟩
theorem Tryz.lays119 : Go.Proofs.Lays.n119 Tryz.prog Tryz.lays119_ren := {
  mixed := by kernel_rfl
  f119 := Tryz.func305.trans (congrArg some (by kernel_rfl))
  t4 := Tryz.underlying4
  a4 := Tryz.isAgg4
  z4 := Tryz.sizeOf4
  v4 := Tryz.zeroValue4
  t21 := Tryz.underlying21
  a21 := Tryz.isAgg21
  z21 := Tryz.sizeOf21
  v21 := Tryz.zeroValue21 }
theorem Tryz.utf8_ValidRune (r : Int) (w : World) :
    Calls Tryz.prog 305 #[.int .i32 r] w fun e w' => e = .returned (.bool (Lib.validRune r)) /\ w' = w := Any.utf8_ValidRune Tryz.lays119 r w
def Tryz.lays137_ren : Go.Shelf.Ren := ⟨fun | 137 => 184 | 217 => 229 | 266 => 273 | n => n, fun | 9 => 9 | 5 => 5 | 3 => 3 | n => n, fun | n => n⟩
theorem Tryz.lays137 : Go.Proofs.Lays.n137 Tryz.prog Tryz.lays137_ren := {
  mixed := by kernel_rfl
  f137 := Tryz.func184.trans (congrArg some (by kernel_rfl))
  f217 := Tryz.func229.trans (congrArg some (by kernel_rfl))
  f266 := Tryz.func273.trans (congrArg some (by kernel_rfl))
  t3 := Tryz.underlying3
  a3 := Tryz.isAgg3
  z3 := Tryz.sizeOf3
  v3 := Tryz.zeroValue3
  t5 := Tryz.underlying5
  a5 := Tryz.isAgg5
  z5 := Tryz.sizeOf5
  v5 := Tryz.zeroValue5
  t9 := Tryz.underlying9
  a9 := Tryz.isAgg9
  z9 := Tryz.sizeOf9
  v9 := Tryz.zeroValue9 }
open Go.RowKit in
theorem Tryz.strings_IndexByte (s : ByteArray) (c : Int) (w : World) :
    Calls Tryz.prog 184 #[.string s, .int .u8 c] w fun e w' => e = .returned (.int .i64 (Lib.indexByte s.data.toList c.toNat.toUInt8)) /\ w' = w := Any.strings_IndexByte Tryz.lays137 s c w
def Tryz.lays103_ren : Go.Shelf.Ren := ⟨fun | 103 => 182 | 210 => 228 | 206 => 232 | n => n, fun | 9 => 9 | 4 => 4 | 24 => 81 | 3 => 3 | n => n, fun | n => n⟩
theorem Tryz.lays103 : Go.Proofs.Lays.n103 Tryz.prog Tryz.lays103_ren := {
  mixed := by kernel_rfl
  f103 := Tryz.func182.trans (congrArg some (by kernel_rfl))
  f206 := Tryz.func232.trans (congrArg some (by kernel_rfl))
  f210 := Tryz.func228.trans (congrArg some (by kernel_rfl))
  t3 := Tryz.underlying3
  a3 := Tryz.isAgg3
  z3 := Tryz.sizeOf3
  v3 := Tryz.zeroValue3
  t4 := Tryz.underlying4
  a4 := Tryz.isAgg4
  z4 := Tryz.sizeOf4
  v4 := Tryz.zeroValue4
  t9 := Tryz.underlying9
  a9 := Tryz.isAgg9
  z9 := Tryz.sizeOf9
  v9 := Tryz.zeroValue9
  t24 := Tryz.underlying81
  a24 := Tryz.isAgg81
  z24 := Tryz.sizeOf81
  v24 := Tryz.zeroValue81 }
open Go.RowKit in
theorem Tryz.strings_CutPrefix (s p : ByteArray) (w : World) :
    Calls Tryz.prog 182 #[.string s, .string p] w fun e w' => e = .returned (.tuple #[.string ⟨(Lib.trimPrefix s.data.toList p.data.toList).toArray⟩, .bool (Lib.hasPrefix s.data.toList p.data.toList)]) /\ w' = w := Any.strings_CutPrefix Tryz.lays103 s p w
def Tryz.lays104_ren : Go.Shelf.Ren := ⟨fun | 104 => 136 | 211 => 189 | 207 => 236 | n => n, fun | 9 => 9 | 4 => 4 | 24 => 81 | 3 => 3 | n => n, fun | n => n⟩
theorem Tryz.lays104 : Go.Proofs.Lays.n104 Tryz.prog Tryz.lays104_ren := {
  mixed := by kernel_rfl
  f104 := Tryz.func136.trans (congrArg some (by kernel_rfl))
  f207 := Tryz.func236.trans (congrArg some (by kernel_rfl))
  f211 := Tryz.func189.trans (congrArg some (by kernel_rfl))
  t3 := Tryz.underlying3
  a3 := Tryz.isAgg3
  z3 := Tryz.sizeOf3
  v3 := Tryz.zeroValue3
  t4 := Tryz.underlying4
  a4 := Tryz.isAgg4
  z4 := Tryz.sizeOf4
  v4 := Tryz.zeroValue4
  t9 := Tryz.underlying9
  a9 := Tryz.isAgg9
  z9 := Tryz.sizeOf9
  v9 := Tryz.zeroValue9
  t24 := Tryz.underlying81
  a24 := Tryz.isAgg81
  z24 := Tryz.sizeOf81
  v24 := Tryz.zeroValue81 }
open Go.RowKit in
theorem Tryz.strings_CutSuffix (s p : ByteArray) (w : World) (hs : s.size <= 9223372036854775807) :
    Calls Tryz.prog 136 #[.string s, .string p] w fun e w' => e = .returned (.tuple #[.string ⟨(Lib.trimSuffix s.data.toList p.data.toList).toArray⟩, .bool (Lib.hasSuffix s.data.toList p.data.toList)]) /\ w' = w := Any.strings_CutSuffix Tryz.lays104 s p w hs
def Tryz.laysM171_ren : Go.Shelf.Ren := ⟨fun | 171 => 213 | 243 => 260 | 246 => 297 | 283 => 309 | 284 => 310 | 285 => 311 | 286 => 312 | 129 => 319 | 317 => 318 | 318 => 320 | 319 => 321 | 320 => 322 | 337 => 324 | 338 => 325 | n => n, fun | 3 => 3 | 9 => 9 | 2 => 2 | 4 => 4 | 171 => 401 | 0 => 0 | 53 => 370 | 37 => 170 | 5 => 5 | 173 => 404 | 212 => 413 | 51 => 357 | 20 => 20 | 213 => 414 | 46 => 262 | 232 => 421 | 233 => 422 | n => n, fun | 17 => 14 | 18 => 17 | 19 => 18 | n => n⟩
theorem Tryz.laysM171 : Go.Proofs.LaysM.n171 Tryz.prog Tryz.laysM171_ren := {
  mixed := by kernel_rfl
  f129 := Tryz.func319.trans (congrArg some (by kernel_rfl))
  f171 := Tryz.func213.trans (congrArg some (by kernel_rfl))
  f243 := Tryz.func260.trans (congrArg some (by kernel_rfl))
  f246 := Tryz.func297.trans (congrArg some (by kernel_rfl))
  f283 := Tryz.func309.trans (congrArg some (by kernel_rfl))
  f284 := Tryz.func310.trans (congrArg some (by kernel_rfl))
  f285 := Tryz.func311.trans (congrArg some (by kernel_rfl))
  f286 := Tryz.func312.trans (congrArg some (by kernel_rfl))
  f317 := Tryz.func318.trans (congrArg some (by kernel_rfl))
  f318 := Tryz.func320.trans (congrArg some (by kernel_rfl))
  f319 := Tryz.func321.trans (congrArg some (by kernel_rfl))
  f320 := Tryz.func322.trans (congrArg some (by kernel_rfl))
  f337 := Tryz.func324.trans (congrArg some (by kernel_rfl))
  f338 := Tryz.func325.trans (congrArg some (by kernel_rfl))
  t0 := Tryz.underlying0
  a0 := Tryz.isAgg0
  z0 := Tryz.sizeOf0
  v0 := Tryz.zeroValue0
  t2 := Tryz.underlying2
  a2 := Tryz.isAgg2
  z2 := Tryz.sizeOf2
  v2 := Tryz.zeroValue2
  t3 := Tryz.underlying3
  a3 := Tryz.isAgg3
  z3 := Tryz.sizeOf3
  v3 := Tryz.zeroValue3
  t4 := Tryz.underlying4
  a4 := Tryz.isAgg4
  z4 := Tryz.sizeOf4
  v4 := Tryz.zeroValue4
  t5 := Tryz.underlying5
  a5 := Tryz.isAgg5
  z5 := Tryz.sizeOf5
  v5 := Tryz.zeroValue5
  t9 := Tryz.underlying9
  a9 := Tryz.isAgg9
  z9 := Tryz.sizeOf9
  v9 := Tryz.zeroValue9
  t20 := Tryz.underlying20
  a20 := Tryz.isAgg20
  z20 := Tryz.sizeOf20
  v20 := Tryz.zeroValue20
  t37 := Tryz.underlying170
  a37 := Tryz.isAgg170
  z37 := Tryz.sizeOf170
  v37 := Tryz.zeroValue170
  t46 := Tryz.underlying262
  a46 := Tryz.isAgg262
  z46 := Tryz.sizeOf262
  v46 := Tryz.zeroValue262
  t51 := Tryz.underlying357
  a51 := Tryz.isAgg357
  z51 := Tryz.sizeOf357
  v51 := Tryz.zeroValue357
  t53 := Tryz.underlying370
  a53 := Tryz.isAgg370
  z53 := Tryz.sizeOf370
  v53 := Tryz.zeroValue370
  t171 := Tryz.underlying401
  a171 := Tryz.isAgg401
  z171 := Tryz.sizeOf401
  v171 := Tryz.zeroValue401
  t173 := Tryz.underlying404
  a173 := Tryz.isAgg404
  z173 := Tryz.sizeOf404
  v173 := Tryz.zeroValue404
  t212 := Tryz.underlying413
  a212 := Tryz.isAgg413
  z212 := Tryz.sizeOf413
  v212 := Tryz.zeroValue413
  t213 := Tryz.underlying414
  a213 := Tryz.isAgg414
  z213 := Tryz.sizeOf414
  t232 := Tryz.underlying421
  a232 := Tryz.isAgg421
  z232 := Tryz.sizeOf421
  v232 := Tryz.zeroValue421
  t233 := Tryz.underlying422
  a233 := Tryz.isAgg422
  z233 := Tryz.sizeOf422
  v233 := Tryz.zeroValue422
  g17 := by kernel_rfl
  g18 := by kernel_rfl
  g19 := by kernel_rfl
  i0 := by kernel_rfl
  i2 := by kernel_rfl
  i3 := by kernel_rfl
  i4 := by kernel_rfl
  i5 := by kernel_rfl
  i9 := by kernel_rfl
  i20 := by kernel_rfl
  i37 := by kernel_rfl
  i46 := by kernel_rfl
  i51 := by kernel_rfl
  i53 := by kernel_rfl
  i171 := by kernel_rfl
  i173 := by kernel_rfl
  i212 := by kernel_rfl
  i232 := by kernel_rfl
  i233 := by kernel_rfl
  m17 := by kernel_rfl
  m18 := by kernel_rfl
  m19 := by kernel_rfl }
open Go.RowKit Go.Sort Go.Lib in
theorem Tryz.strconv_Itoa (n : Int) (h0 : -9223372036854775808 <= n) (h1 : n <= 9223372036854775807) (w : World) (htab : Lib.TabIs Tryz.prog w "internal/strconv.uint64pow10" .u64 Lib.pow10Tab) :
    Calls Tryz.prog 213 #[.int .i64 n] w fun e w' => e = .returned (.string ⟨(Lib.itoa n).toArray⟩) /\ ∃ k os, w' = grow (w.drewN k) os := Any.strconv_Itoa Tryz.laysM171 n h0 h1 w htab
def Tryz.laysC172_ren : Go.Shelf.Ren := ⟨fun | 172 => 212 | 244 => 258 | 245 => 259 | 247 => 292 | 279 => 293 | 280 => 294 | 281 => 295 | 282 => 296 | 287 => 306 | 316 => 307 | 171 => 213 | 205 => 308 | 321 => 316 | 322 => 317 | 243 => 260 | 246 => 297 | 283 => 309 | 284 => 310 | 285 => 311 | 286 => 312 | 129 => 319 | 317 => 318 | 318 => 320 | 319 => 321 | 320 => 322 | 337 => 324 | 338 => 325 | n => n, fun | 9 => 9 | 3 => 3 | 75 => 31 | 76 => 186 | 4 => 4 | 5 => 5 | 167 => 382 | 37 => 170 | 0 => 0 | 85 => 383 | 2 => 2 | 168 => 385 | 53 => 370 | 175 => 396 | 46 => 262 | 210 => 399 | 127 => 215 | 145 => 411 | 143 => 409 | 21 => 21 | 171 => 401 | 173 => 404 | 212 => 413 | 51 => 357 | 20 => 20 | 213 => 414 | 232 => 421 | 233 => 422 | 80 => 129 | n => n, fun | 15 => 12 | 16 => 13 | 17 => 14 | 18 => 17 | 19 => 18 | n => n⟩
theorem Tryz.laysC172 : Go.Proofs.LaysC.n172 Tryz.prog Tryz.laysC172_ren := {
  mixed := by kernel_rfl
  f129 := Tryz.func319.trans (congrArg some (by kernel_rfl))
  f171 := Tryz.func213.trans (congrArg some (by kernel_rfl))
  f172 := Tryz.func212.trans (congrArg some (by kernel_rfl))
  f205 := Tryz.func308.trans (congrArg some (by kernel_rfl))
  f243 := Tryz.func260.trans (congrArg some (by kernel_rfl))
  f244 := Tryz.func258.trans (congrArg some (by kernel_rfl))
  f245 := Tryz.func259.trans (congrArg some (by kernel_rfl))
  f246 := Tryz.func297.trans (congrArg some (by kernel_rfl))
  f247 := Tryz.func292.trans (congrArg some (by kernel_rfl))
  f279 := Tryz.func293.trans (congrArg some (by kernel_rfl))
  f280 := Tryz.func294.trans (congrArg some (by kernel_rfl))
  f281 := Tryz.func295.trans (congrArg some (by kernel_rfl))
  f282 := Tryz.func296.trans (congrArg some (by kernel_rfl))
  f283 := Tryz.func309.trans (congrArg some (by kernel_rfl))
  f284 := Tryz.func310.trans (congrArg some (by kernel_rfl))
  f285 := Tryz.func311.trans (congrArg some (by kernel_rfl))
  f286 := Tryz.func312.trans (congrArg some (by kernel_rfl))
  f287 := Tryz.func306.trans (congrArg some (by kernel_rfl))
  f316 := Tryz.func307.trans (congrArg some (by kernel_rfl))
  f317 := Tryz.func318.trans (congrArg some (by kernel_rfl))
  f318 := Tryz.func320.trans (congrArg some (by kernel_rfl))
  f319 := Tryz.func321.trans (congrArg some (by kernel_rfl))
  f320 := Tryz.func322.trans (congrArg some (by kernel_rfl))
  f321 := Tryz.func316.trans (congrArg some (by kernel_rfl))
  f322 := Tryz.func317.trans (congrArg some (by kernel_rfl))
  f337 := Tryz.func324.trans (congrArg some (by kernel_rfl))
  f338 := Tryz.func325.trans (congrArg some (by kernel_rfl))
  t0 := Tryz.underlying0
  a0 := Tryz.isAgg0
  z0 := Tryz.sizeOf0
  v0 := Tryz.zeroValue0
  t2 := Tryz.underlying2
  a2 := Tryz.isAgg2
  z2 := Tryz.sizeOf2
  v2 := Tryz.zeroValue2
  t3 := Tryz.underlying3
  a3 := Tryz.isAgg3
  z3 := Tryz.sizeOf3
  v3 := Tryz.zeroValue3
  t4 := Tryz.underlying4
  a4 := Tryz.isAgg4
  z4 := Tryz.sizeOf4
  v4 := Tryz.zeroValue4
  t5 := Tryz.underlying5
  a5 := Tryz.isAgg5
  z5 := Tryz.sizeOf5
  v5 := Tryz.zeroValue5
  t9 := Tryz.underlying9
  a9 := Tryz.isAgg9
  z9 := Tryz.sizeOf9
  v9 := Tryz.zeroValue9
  t20 := Tryz.underlying20
  a20 := Tryz.isAgg20
  z20 := Tryz.sizeOf20
  v20 := Tryz.zeroValue20
  t21 := Tryz.underlying21
  a21 := Tryz.isAgg21
  z21 := Tryz.sizeOf21
  v21 := Tryz.zeroValue21
  t37 := Tryz.underlying170
  a37 := Tryz.isAgg170
  z37 := Tryz.sizeOf170
  v37 := Tryz.zeroValue170
  t46 := Tryz.underlying262
  a46 := Tryz.isAgg262
  z46 := Tryz.sizeOf262
  v46 := Tryz.zeroValue262
  t51 := Tryz.underlying357
  a51 := Tryz.isAgg357
  z51 := Tryz.sizeOf357
  v51 := Tryz.zeroValue357
  t53 := Tryz.underlying370
  a53 := Tryz.isAgg370
  z53 := Tryz.sizeOf370
  v53 := Tryz.zeroValue370
  t75 := Tryz.underlying31
  a75 := Tryz.isAgg31
  z75 := Tryz.sizeOf31
  v75 := Tryz.zeroValue31
  t76 := Tryz.underlying186
  a76 := Tryz.isAgg186
  z76 := Tryz.sizeOf186
  v76 := Tryz.zeroValue186
  t85 := Tryz.underlying383
  a85 := Tryz.isAgg383
  z85 := Tryz.sizeOf383
  v85 := Tryz.zeroValue383
  t127 := Tryz.underlying215
  a127 := Tryz.isAgg215
  z127 := Tryz.sizeOf215
  v127 := Tryz.zeroValue215
  t143 := Tryz.underlying409
  a143 := Tryz.isAgg409
  z143 := Tryz.sizeOf409
  v143 := Tryz.zeroValue409
  t145 := Tryz.underlying411
  a145 := Tryz.isAgg411
  z145 := Tryz.sizeOf411
  v145 := Tryz.zeroValue411
  t167 := Tryz.underlying382
  a167 := Tryz.isAgg382
  z167 := Tryz.sizeOf382
  v167 := Tryz.zeroValue382
  t168 := Tryz.underlying385
  a168 := Tryz.isAgg385
  z168 := Tryz.sizeOf385
  v168 := Tryz.zeroValue385
  t171 := Tryz.underlying401
  a171 := Tryz.isAgg401
  z171 := Tryz.sizeOf401
  v171 := Tryz.zeroValue401
  t173 := Tryz.underlying404
  a173 := Tryz.isAgg404
  z173 := Tryz.sizeOf404
  v173 := Tryz.zeroValue404
  t175 := Tryz.underlying396
  a175 := Tryz.isAgg396
  z175 := Tryz.sizeOf396
  v175 := Tryz.zeroValue396
  t210 := Tryz.underlying399
  a210 := Tryz.isAgg399
  z210 := Tryz.sizeOf399
  v210 := Tryz.zeroValue399
  t212 := Tryz.underlying413
  a212 := Tryz.isAgg413
  z212 := Tryz.sizeOf413
  v212 := Tryz.zeroValue413
  t213 := Tryz.underlying414
  a213 := Tryz.isAgg414
  z213 := Tryz.sizeOf414
  t232 := Tryz.underlying421
  a232 := Tryz.isAgg421
  z232 := Tryz.sizeOf421
  v232 := Tryz.zeroValue421
  t233 := Tryz.underlying422
  a233 := Tryz.isAgg422
  z233 := Tryz.sizeOf422
  v233 := Tryz.zeroValue422
  g15 := by kernel_rfl
  g16 := by kernel_rfl
  g17 := by kernel_rfl
  g18 := by kernel_rfl
  g19 := by kernel_rfl
  t80 := Tryz.underlying129
  a80 := Tryz.isAgg129
  z80 := Tryz.sizeOf129
  v80 := Tryz.zeroValue129
  i0 := by kernel_rfl
  i2 := by kernel_rfl
  i3 := by kernel_rfl
  i4 := by kernel_rfl
  i5 := by kernel_rfl
  i9 := by kernel_rfl
  i20 := by kernel_rfl
  i21 := by kernel_rfl
  i37 := by kernel_rfl
  i46 := by kernel_rfl
  i51 := by kernel_rfl
  i53 := by kernel_rfl
  i75 := by kernel_rfl
  i76 := by kernel_rfl
  i80 := by kernel_rfl
  i85 := by kernel_rfl
  i127 := by kernel_rfl
  i143 := by kernel_rfl
  i145 := by kernel_rfl
  i167 := by kernel_rfl
  i168 := by kernel_rfl
  i171 := by kernel_rfl
  i173 := by kernel_rfl
  i175 := by kernel_rfl
  i210 := by kernel_rfl
  i212 := by kernel_rfl
  i232 := by kernel_rfl
  i233 := by kernel_rfl
  m15 := by kernel_rfl
  m16 := by kernel_rfl
  m17 := by kernel_rfl
  m18 := by kernel_rfl
  m19 := by kernel_rfl
  c0 := by kernel_rfl
  c2 := by kernel_rfl
  c3 := by kernel_rfl
  c4 := by kernel_rfl
  c5 := by kernel_rfl
  c9 := by kernel_rfl
  c20 := by kernel_rfl
  c21 := by kernel_rfl
  c37 := by kernel_rfl
  c46 := by kernel_rfl
  c51 := by kernel_rfl
  c53 := by kernel_rfl
  c75 := by kernel_rfl
  c76 := by kernel_rfl
  c80 := by kernel_rfl
  c85 := by kernel_rfl
  c127 := by kernel_rfl
  c143 := by kernel_rfl
  c145 := by kernel_rfl
  c167 := by kernel_rfl
  c168 := by kernel_rfl
  c171 := by kernel_rfl
  c173 := by kernel_rfl
  c175 := by kernel_rfl
  c210 := by kernel_rfl
  c212 := by kernel_rfl
  c213 := by kernel_rfl
  c232 := by kernel_rfl
  c233 := by kernel_rfl }
open Go.RowKit in
theorem Tryz.strconv_Atoi_ok (s : ByteArray) (hmax : s.size <= 9223372036854775806) (v : Int) (h : Lib.atoiAll s.data.toList = .ok v) (w : World) :
    Calls Tryz.prog 212 #[.string s] w fun e w' => e = .returned (.tuple #[.int .i64 v, .nilIface]) /\ (w' = w \/ ∃ t, w' = Lib.bytesWorld w 5 t) := Any.strconv_Atoi_ok Tryz.laysC172 s hmax v h w
open Go.RowKit in
theorem Tryz.strconv_Atoi_syntax (s : ByteArray) (hlim : s.size <= 281474976710656) (h : Lib.atoiAll s.data.toList = .«syntax») (ev : Value) (w : World) (hv : w.cell? ⟨12, 0, none⟩ = some ev) (hev : ev = .nilIface \/ ∃ te pe, ev = .iface te pe) :
    Calls Tryz.prog 212 #[.string s] w fun e w' => ∃ N, e = .returned (.tuple #[.int .i64 (0), .iface 385 (.pointer (some ⟨N, 0, none⟩))]) /\ w.heap.size <= N /\ w'.heap[N]? = some (.cells #[.string ⟨#[65, 116, 111, 105]⟩, .string s, ev] 399 (0, 0)) /\ Below w.heap.size w w' := Any.strconv_Atoi_syntax Tryz.laysC172 s hlim h ev w hv hev
open Go.RowKit in
theorem Tryz.strconv_Atoi_range (s : ByteArray) (hlim : s.size <= 281474976710656) (h : Lib.atoiAll s.data.toList = .range) (ev : Value) (w : World) (hv : w.cell? ⟨13, 0, none⟩ = some ev) (hev : ev = .nilIface \/ ∃ te pe, ev = .iface te pe) :
    Calls Tryz.prog 212 #[.string s] w fun e w' => ∃ N, e = .returned (.tuple #[.int .i64 (Lib.atoiSat s.data.toList), .iface 385 (.pointer (some ⟨N, 0, none⟩))]) /\ w.heap.size <= N /\ w'.heap[N]? = some (.cells #[.string ⟨#[65, 116, 111, 105]⟩, .string s, ev] 399 (0, 0)) /\ Below w.heap.size w w' := Any.strconv_Atoi_range Tryz.laysC172 s hlim h ev w hv hev
def Tryz.lays219_ren : Go.Shelf.Ren := ⟨fun | 219 => 188 | 217 => 229 | 225 => 233 | 224 => 234 | 267 => 235 | 266 => 273 | 314 => 275 | n => n, fun | 9 => 9 | 3 => 3 | 4 => 4 | 5 => 5 | 46 => 262 | 146 => 358 | 51 => 357 | n => n, fun | 1 => 10 | n => n⟩
theorem Tryz.lays219 : Go.Proofs.Lays.n219 Tryz.prog Tryz.lays219_ren := {
  mixed := by kernel_rfl
  f217 := Tryz.func229.trans (congrArg some (by kernel_rfl))
  f219 := Tryz.func188.trans (congrArg some (by kernel_rfl))
  f224 := Tryz.func234.trans (congrArg some (by kernel_rfl))
  f225 := Tryz.func233.trans (congrArg some (by kernel_rfl))
  f266 := Tryz.func273.trans (congrArg some (by kernel_rfl))
  f267 := Tryz.func235.trans (congrArg some (by kernel_rfl))
  f314 := Tryz.func275.trans (congrArg some (by kernel_rfl))
  t3 := Tryz.underlying3
  a3 := Tryz.isAgg3
  z3 := Tryz.sizeOf3
  v3 := Tryz.zeroValue3
  t4 := Tryz.underlying4
  a4 := Tryz.isAgg4
  z4 := Tryz.sizeOf4
  v4 := Tryz.zeroValue4
  t5 := Tryz.underlying5
  a5 := Tryz.isAgg5
  z5 := Tryz.sizeOf5
  v5 := Tryz.zeroValue5
  t9 := Tryz.underlying9
  a9 := Tryz.isAgg9
  z9 := Tryz.sizeOf9
  v9 := Tryz.zeroValue9
  t46 := Tryz.underlying262
  a46 := Tryz.isAgg262
  z46 := Tryz.sizeOf262
  v46 := Tryz.zeroValue262
  t51 := Tryz.underlying357
  a51 := Tryz.isAgg357
  z51 := Tryz.sizeOf357
  v51 := Tryz.zeroValue357
  t146 := Tryz.underlying358
  a146 := Tryz.isAgg358
  z146 := Tryz.sizeOf358
  v146 := Tryz.zeroValue358
  g1 := by kernel_rfl }
open Go.RowKit Go.Lib in
theorem Tryz.stringslite_Index_one (s : ByteArray) (c : UInt8) (w : World) :
    Calls Tryz.prog 188 #[.string s, .string ⟨#[c]⟩] w fun e w' => e = .returned (.int .i64 (Lib.indexByte s.data.toList c)) /\ w' = w := Any.stringslite_Index_one Tryz.lays219 s c w
def Tryz.lays143_ren : Go.Shelf.Ren := ⟨fun | 143 => 300 | 219 => 188 | 217 => 229 | 225 => 233 | 224 => 234 | 267 => 235 | 266 => 273 | 314 => 275 | n => n, fun | 9 => 9 | 3 => 3 | 4 => 4 | 5 => 5 | 46 => 262 | 146 => 358 | 51 => 357 | n => n, fun | 1 => 10 | n => n⟩
theorem Tryz.lays143 : Go.Proofs.Lays.n143 Tryz.prog Tryz.lays143_ren := {
  mixed := by kernel_rfl
  f143 := Tryz.func300.trans (congrArg some (by kernel_rfl))
  f217 := Tryz.func229.trans (congrArg some (by kernel_rfl))
  f219 := Tryz.func188.trans (congrArg some (by kernel_rfl))
  f224 := Tryz.func234.trans (congrArg some (by kernel_rfl))
  f225 := Tryz.func233.trans (congrArg some (by kernel_rfl))
  f266 := Tryz.func273.trans (congrArg some (by kernel_rfl))
  f267 := Tryz.func235.trans (congrArg some (by kernel_rfl))
  f314 := Tryz.func275.trans (congrArg some (by kernel_rfl))
  t3 := Tryz.underlying3
  a3 := Tryz.isAgg3
  z3 := Tryz.sizeOf3
  v3 := Tryz.zeroValue3
  t4 := Tryz.underlying4
  a4 := Tryz.isAgg4
  z4 := Tryz.sizeOf4
  v4 := Tryz.zeroValue4
  t5 := Tryz.underlying5
  a5 := Tryz.isAgg5
  z5 := Tryz.sizeOf5
  v5 := Tryz.zeroValue5
  t9 := Tryz.underlying9
  a9 := Tryz.isAgg9
  z9 := Tryz.sizeOf9
  v9 := Tryz.zeroValue9
  t46 := Tryz.underlying262
  a46 := Tryz.isAgg262
  z46 := Tryz.sizeOf262
  v46 := Tryz.zeroValue262
  t51 := Tryz.underlying357
  a51 := Tryz.isAgg357
  z51 := Tryz.sizeOf357
  v51 := Tryz.zeroValue357
  t146 := Tryz.underlying358
  a146 := Tryz.isAgg358
  z146 := Tryz.sizeOf358
  v146 := Tryz.zeroValue358
  g1 := by kernel_rfl }
def Tryz.lays138_ren : Go.Shelf.Ren := ⟨fun | 138 => 299 | 195 => 313 | 218 => 315 | 143 => 300 | 219 => 188 | 217 => 229 | 225 => 233 | 224 => 234 | 267 => 235 | 266 => 273 | 314 => 275 | n => n, fun | 9 => 9 | 3 => 3 | 4 => 4 | 5 => 5 | 0 => 0 | 46 => 262 | 146 => 358 | 51 => 357 | n => n, fun | 1 => 10 | n => n⟩
theorem Tryz.lays138 : Go.Proofs.Lays.n138 Tryz.prog Tryz.lays138_ren := {
  mixed := by kernel_rfl
  f138 := Tryz.func299.trans (congrArg some (by kernel_rfl))
  f143 := Tryz.func300.trans (congrArg some (by kernel_rfl))
  f195 := Tryz.func313.trans (congrArg some (by kernel_rfl))
  f217 := Tryz.func229.trans (congrArg some (by kernel_rfl))
  f218 := Tryz.func315.trans (congrArg some (by kernel_rfl))
  f219 := Tryz.func188.trans (congrArg some (by kernel_rfl))
  f224 := Tryz.func234.trans (congrArg some (by kernel_rfl))
  f225 := Tryz.func233.trans (congrArg some (by kernel_rfl))
  f266 := Tryz.func273.trans (congrArg some (by kernel_rfl))
  f267 := Tryz.func235.trans (congrArg some (by kernel_rfl))
  f314 := Tryz.func275.trans (congrArg some (by kernel_rfl))
  t0 := Tryz.underlying0
  a0 := Tryz.isAgg0
  z0 := Tryz.sizeOf0
  v0 := Tryz.zeroValue0
  t3 := Tryz.underlying3
  a3 := Tryz.isAgg3
  z3 := Tryz.sizeOf3
  v3 := Tryz.zeroValue3
  t4 := Tryz.underlying4
  a4 := Tryz.isAgg4
  z4 := Tryz.sizeOf4
  v4 := Tryz.zeroValue4
  t5 := Tryz.underlying5
  a5 := Tryz.isAgg5
  z5 := Tryz.sizeOf5
  v5 := Tryz.zeroValue5
  t9 := Tryz.underlying9
  a9 := Tryz.isAgg9
  z9 := Tryz.sizeOf9
  v9 := Tryz.zeroValue9
  t46 := Tryz.underlying262
  a46 := Tryz.isAgg262
  z46 := Tryz.sizeOf262
  v46 := Tryz.zeroValue262
  t51 := Tryz.underlying357
  a51 := Tryz.isAgg357
  z51 := Tryz.sizeOf357
  v51 := Tryz.zeroValue357
  t146 := Tryz.underlying358
  a146 := Tryz.isAgg358
  z146 := Tryz.sizeOf358
  v146 := Tryz.zeroValue358
  g1 := by kernel_rfl }
def Tryz.lays149_ren : Go.Shelf.Ren := ⟨fun | 149 => 208 | 222 => 254 | n => n, fun | 9 => 9 | 5 => 5 | 3 => 3 | 4 => 4 | n => n, fun | n => n⟩
theorem Tryz.lays149 : Go.Proofs.Lays.n149 Tryz.prog Tryz.lays149_ren := {
  mixed := by kernel_rfl
  f149 := Tryz.func208.trans (congrArg some (by kernel_rfl))
  f222 := Tryz.func254.trans (congrArg some (by kernel_rfl))
  t3 := Tryz.underlying3
  a3 := Tryz.isAgg3
  z3 := Tryz.sizeOf3
  v3 := Tryz.zeroValue3
  t4 := Tryz.underlying4
  a4 := Tryz.isAgg4
  z4 := Tryz.sizeOf4
  v4 := Tryz.zeroValue4
  t5 := Tryz.underlying5
  a5 := Tryz.isAgg5
  z5 := Tryz.sizeOf5
  v5 := Tryz.zeroValue5
  t9 := Tryz.underlying9
  a9 := Tryz.isAgg9
  z9 := Tryz.sizeOf9
  v9 := Tryz.zeroValue9 }
open Go.RowKit Go.Lib in
theorem Tryz.strings_LastIndexByte (s : ByteArray) (c : Int) (hs : s.size < 4611686018427387904) (w : World) :
    Calls Tryz.prog 208 #[.string s, .int .u8 c] w fun e w' => e = .returned (.int .i64 (Lib.lastIndexByte s c)) /\ w' = w := Any.strings_LastIndexByte Tryz.lays149 s c hs w
def Tryz.lays221_ren : Go.Shelf.Ren := ⟨fun | 221 => 265 | 268 => 298 | 138 => 299 | 143 => 300 | 195 => 313 | 197 => 314 | 218 => 315 | 219 => 188 | 260 => 323 | 217 => 229 | 225 => 233 | 224 => 234 | 267 => 235 | 266 => 273 | 314 => 275 | n => n, fun | 9 => 9 | 3 => 3 | 31 => 68 | 4 => 4 | 0 => 0 | 105 => 406 | 21 => 21 | 5 => 5 | 46 => 262 | 119 => 417 | 139 => 420 | 138 => 419 | 146 => 358 | 51 => 357 | n => n, fun | 1 => 10 | 3 => 15 | 4 => 16 | n => n⟩
theorem Tryz.lays221 : Go.Proofs.Lays.n221 Tryz.prog Tryz.lays221_ren := {
  mixed := by kernel_rfl
  f138 := Tryz.func299.trans (congrArg some (by kernel_rfl))
  f143 := Tryz.func300.trans (congrArg some (by kernel_rfl))
  f195 := Tryz.func313.trans (congrArg some (by kernel_rfl))
  f197 := Tryz.func314.trans (congrArg some (by kernel_rfl))
  f217 := Tryz.func229.trans (congrArg some (by kernel_rfl))
  f218 := Tryz.func315.trans (congrArg some (by kernel_rfl))
  f219 := Tryz.func188.trans (congrArg some (by kernel_rfl))
  f221 := Tryz.func265.trans (congrArg some (by kernel_rfl))
  f224 := Tryz.func234.trans (congrArg some (by kernel_rfl))
  f225 := Tryz.func233.trans (congrArg some (by kernel_rfl))
  f260 := Tryz.func323.trans (congrArg some (by kernel_rfl))
  f266 := Tryz.func273.trans (congrArg some (by kernel_rfl))
  f267 := Tryz.func235.trans (congrArg some (by kernel_rfl))
  f268 := Tryz.func298.trans (congrArg some (by kernel_rfl))
  f314 := Tryz.func275.trans (congrArg some (by kernel_rfl))
  t0 := Tryz.underlying0
  a0 := Tryz.isAgg0
  z0 := Tryz.sizeOf0
  v0 := Tryz.zeroValue0
  t3 := Tryz.underlying3
  a3 := Tryz.isAgg3
  z3 := Tryz.sizeOf3
  v3 := Tryz.zeroValue3
  t4 := Tryz.underlying4
  a4 := Tryz.isAgg4
  z4 := Tryz.sizeOf4
  v4 := Tryz.zeroValue4
  t5 := Tryz.underlying5
  a5 := Tryz.isAgg5
  z5 := Tryz.sizeOf5
  v5 := Tryz.zeroValue5
  t9 := Tryz.underlying9
  a9 := Tryz.isAgg9
  z9 := Tryz.sizeOf9
  v9 := Tryz.zeroValue9
  t21 := Tryz.underlying21
  a21 := Tryz.isAgg21
  z21 := Tryz.sizeOf21
  v21 := Tryz.zeroValue21
  t31 := Tryz.underlying68
  a31 := Tryz.isAgg68
  z31 := Tryz.sizeOf68
  v31 := Tryz.zeroValue68
  t46 := Tryz.underlying262
  a46 := Tryz.isAgg262
  z46 := Tryz.sizeOf262
  v46 := Tryz.zeroValue262
  t51 := Tryz.underlying357
  a51 := Tryz.isAgg357
  z51 := Tryz.sizeOf357
  v51 := Tryz.zeroValue357
  t105 := Tryz.underlying406
  a105 := Tryz.isAgg406
  z105 := Tryz.sizeOf406
  v105 := Tryz.zeroValue406
  t119 := Tryz.underlying417
  a119 := Tryz.isAgg417
  z119 := Tryz.sizeOf417
  t138 := Tryz.underlying419
  a138 := Tryz.isAgg419
  z138 := Tryz.sizeOf419
  v138 := Tryz.zeroValue419
  t139 := Tryz.underlying420
  a139 := Tryz.isAgg420
  z139 := Tryz.sizeOf420
  v139 := Tryz.zeroValue420
  t146 := Tryz.underlying358
  a146 := Tryz.isAgg358
  z146 := Tryz.sizeOf358
  v146 := Tryz.zeroValue358
  g1 := by kernel_rfl
  g3 := by kernel_rfl
  g4 := by kernel_rfl }
def Tryz.lays152_ren : Go.Shelf.Ren := ⟨fun | 152 => 286 | 137 => 184 | 119 => 305 | 224 => 234 | 225 => 233 | 217 => 229 | 266 => 273 | n => n, fun | 9 => 9 | 21 => 21 | 3 => 3 | 4 => 4 | 5 => 5 | 0 => 0 | 46 => 262 | n => n, fun | n => n⟩
theorem Tryz.lays152 : Go.Proofs.Lays.n152 Tryz.prog Tryz.lays152_ren := {
  mixed := by kernel_rfl
  f119 := Tryz.func305.trans (congrArg some (by kernel_rfl))
  f137 := Tryz.func184.trans (congrArg some (by kernel_rfl))
  f152 := Tryz.func286.trans (congrArg some (by kernel_rfl))
  f217 := Tryz.func229.trans (congrArg some (by kernel_rfl))
  f224 := Tryz.func234.trans (congrArg some (by kernel_rfl))
  f225 := Tryz.func233.trans (congrArg some (by kernel_rfl))
  f266 := Tryz.func273.trans (congrArg some (by kernel_rfl))
  t0 := Tryz.underlying0
  a0 := Tryz.isAgg0
  z0 := Tryz.sizeOf0
  v0 := Tryz.zeroValue0
  t3 := Tryz.underlying3
  a3 := Tryz.isAgg3
  z3 := Tryz.sizeOf3
  v3 := Tryz.zeroValue3
  t4 := Tryz.underlying4
  a4 := Tryz.isAgg4
  z4 := Tryz.sizeOf4
  v4 := Tryz.zeroValue4
  t5 := Tryz.underlying5
  a5 := Tryz.isAgg5
  z5 := Tryz.sizeOf5
  v5 := Tryz.zeroValue5
  t9 := Tryz.underlying9
  a9 := Tryz.isAgg9
  z9 := Tryz.sizeOf9
  v9 := Tryz.zeroValue9
  t21 := Tryz.underlying21
  a21 := Tryz.isAgg21
  z21 := Tryz.sizeOf21
  v21 := Tryz.zeroValue21
  t46 := Tryz.underlying262
  a46 := Tryz.isAgg262
  z46 := Tryz.sizeOf262
  v46 := Tryz.zeroValue262 }
open Go.RowKit Go.Lib in
theorem Tryz.strings_IndexRune_ascii (s : ByteArray) (r : Int) (w : World) (h0 : 0 <= r) (h1 : r < 128) :
    Calls Tryz.prog 286 #[.string s, .int .i32 r] w fun e w' => e = .returned (.int .i64 (Lib.indexByte s.data.toList r.toNat.toUInt8)) /\ w' = w := Any.strings_IndexRune_ascii Tryz.lays152 s r w h0 h1
def Tryz.lays226_ren : Go.Shelf.Ren := ⟨fun | 226 => 287 | n => n, fun | 3 => 3 | 4 => 4 | n => n, fun | n => n⟩
theorem Tryz.lays226 : Go.Proofs.Lays.n226 Tryz.prog Tryz.lays226_ren := {
  mixed := by kernel_rfl
  f226 := Tryz.func287.trans (congrArg some (by kernel_rfl))
  t3 := Tryz.underlying3
  a3 := Tryz.isAgg3
  z3 := Tryz.sizeOf3
  v3 := Tryz.zeroValue3
  t4 := Tryz.underlying4
  a4 := Tryz.isAgg4
  z4 := Tryz.sizeOf4
  v4 := Tryz.zeroValue4 }
open Go.RowKit Go.Lib in
theorem Tryz.strings_shouldUseASCIISet (n : Int) (w : World) :
    Calls Tryz.prog 287 #[.int .i64 n] w fun e w' => e = .returned (.bool (decide (8 < n))) /\ w' = w := Any.strings_shouldUseASCIISet Tryz.lays226 n w
def Tryz.lays153_ren : Go.Shelf.Ren := ⟨fun | 153 => 251 | 152 => 286 | 226 => 287 | 227 => 288 | 228 => 289 | 137 => 184 | 119 => 305 | 224 => 234 | 225 => 233 | 217 => 229 | 266 => 273 | n => n, fun | 9 => 9 | 3 => 3 | 4 => 4 | 5 => 5 | 21 => 21 | 117 => 378 | 116 => 377 | 0 => 0 | 46 => 262 | 124 => 395 | n => n, fun | n => n⟩
theorem Tryz.lays153 : Go.Proofs.Lays.n153 Tryz.prog Tryz.lays153_ren := {
  mixed := by kernel_rfl
  f119 := Tryz.func305.trans (congrArg some (by kernel_rfl))
  f137 := Tryz.func184.trans (congrArg some (by kernel_rfl))
  f152 := Tryz.func286.trans (congrArg some (by kernel_rfl))
  f153 := Tryz.func251.trans (congrArg some (by kernel_rfl))
  f217 := Tryz.func229.trans (congrArg some (by kernel_rfl))
  f224 := Tryz.func234.trans (congrArg some (by kernel_rfl))
  f225 := Tryz.func233.trans (congrArg some (by kernel_rfl))
  f226 := Tryz.func287.trans (congrArg some (by kernel_rfl))
  f227 := Tryz.func288.trans (congrArg some (by kernel_rfl))
  f228 := Tryz.func289.trans (congrArg some (by kernel_rfl))
  f266 := Tryz.func273.trans (congrArg some (by kernel_rfl))
  t0 := Tryz.underlying0
  a0 := Tryz.isAgg0
  z0 := Tryz.sizeOf0
  v0 := Tryz.zeroValue0
  t3 := Tryz.underlying3
  a3 := Tryz.isAgg3
  z3 := Tryz.sizeOf3
  v3 := Tryz.zeroValue3
  t4 := Tryz.underlying4
  a4 := Tryz.isAgg4
  z4 := Tryz.sizeOf4
  v4 := Tryz.zeroValue4
  t5 := Tryz.underlying5
  a5 := Tryz.isAgg5
  z5 := Tryz.sizeOf5
  v5 := Tryz.zeroValue5
  t9 := Tryz.underlying9
  a9 := Tryz.isAgg9
  z9 := Tryz.sizeOf9
  v9 := Tryz.zeroValue9
  t21 := Tryz.underlying21
  a21 := Tryz.isAgg21
  z21 := Tryz.sizeOf21
  v21 := Tryz.zeroValue21
  t46 := Tryz.underlying262
  a46 := Tryz.isAgg262
  z46 := Tryz.sizeOf262
  v46 := Tryz.zeroValue262
  t116 := Tryz.underlying377
  a116 := Tryz.isAgg377
  z116 := Tryz.sizeOf377
  t117 := Tryz.underlying378
  a117 := Tryz.isAgg378
  z117 := Tryz.sizeOf378
  v117 := Tryz.zeroValue378
  t124 := Tryz.underlying395
  a124 := Tryz.isAgg395
  z124 := Tryz.sizeOf395
  v124 := Tryz.zeroValue395 }
open Go.RowKit Go.Lib in
theorem Tryz.strings_IndexAny_long (hv116 : ∀ w, (zeroValue 377).run Tryz.prog w = .ok (.agg (Array.replicate 256 (.bool false))) w) (s chars : ByteArray) (w : World) (h2 : 2 <= chars.size) (h8 : 8 < s.size) (hs : s.size < 4294967281) (hcs : chars.size < 4294967281) (hascii : ∀ (j : Nat) b, chars.data.toList[j]? = some b -> b.toNat < 128) :
    Calls Tryz.prog 251 #[.string s, .string chars] w fun e w' => e = .returned (.int .i64 (Lib.indexAny s.data.toList chars.data.toList)) /\ w' = ((w.alloc (.cells (Lib.setCells chars.data.toList) 377)).alloc (.cells (Lib.setCells chars.data.toList) 377)) := Any.strings_IndexAny_long Tryz.lays153 hv116 (by kernel_rfl) s chars w h2 h8 hs hcs hascii
def Tryz.lays110_ren : Go.Shelf.Ren := ⟨fun | 110 => 255 | 109 => 290 | n => n, fun | 31 => 68 | 9 => 9 | 4 => 4 | 3 => 3 | 0 => 0 | n => n, fun | n => n⟩
theorem Tryz.lays110 : Go.Proofs.Lays.n110 Tryz.prog Tryz.lays110_ren := {
  mixed := by kernel_rfl
  f109 := Tryz.func290.trans (congrArg some (by kernel_rfl))
  f110 := Tryz.func255.trans (congrArg some (by kernel_rfl))
  t0 := Tryz.underlying0
  a0 := Tryz.isAgg0
  z0 := Tryz.sizeOf0
  v0 := Tryz.zeroValue0
  t3 := Tryz.underlying3
  a3 := Tryz.isAgg3
  z3 := Tryz.sizeOf3
  v3 := Tryz.zeroValue3
  t4 := Tryz.underlying4
  a4 := Tryz.isAgg4
  z4 := Tryz.sizeOf4
  v4 := Tryz.zeroValue4
  t9 := Tryz.underlying9
  a9 := Tryz.isAgg9
  z9 := Tryz.sizeOf9
  v9 := Tryz.zeroValue9
  t31 := Tryz.underlying68
  a31 := Tryz.isAgg68
  z31 := Tryz.sizeOf68
  v31 := Tryz.zeroValue68 }
open Go.Lib in
theorem Tryz.slices_Contains_string (b off n c : Nat) (zs : List ByteArray) (x : ByteArray) (w : World) (hz : n <= zs.length) (hbig : n <= 9223372036854775807) (hc : ∀ j, j < zs.length -> w.cell? ⟨b, off + j, none⟩ = some (.string (zs.getD j ByteArray.empty))) :
    Calls Tryz.prog 255 #[.slice (some ⟨b, off, none⟩) n c, .string x] w fun e w' => e = .returned (.bool (Lib.containsS (zs.take n) x)) /\ w' = w := Any.slices_Contains_string Tryz.lays110 b off n c zs x w hz hbig hc
end Go.Proofs
namespace Go.Proofs.YtgphclgmmocdhaaGreatDoor
section
open Go.RowKit
set_option maxHeartbeats 1000000
def ahead (c:UInt8):List UInt8->List UInt8
 | []=>[]
 | b :: l=>if b=c then [] else b :: ahead c l
def behind (c:UInt8):List UInt8->Option (List UInt8)
 | []=>none
 | b :: l=>if b=c then some l else behind c l
theorem index_none (c:UInt8):∀ l:List UInt8,behind c l=none->Lib.indexByte l c = -1/\ahead c l=l
 | [],_=>⟨rfl,rfl⟩
 | b :: l,h=>by
  unfold behind at h
  split at h
  ·cases h
  ·rename_i hb
   obtain ⟨h1,h2⟩:=index_none c l h
   unfold Lib.indexByte ahead
   simp [hb,h1,h2]
theorem index_some (c:UInt8):∀ (l r:List UInt8),behind c l=some r->∃ i:Nat,Lib.indexByte l c=i/\i<l.length/\l.take i=ahead c l/\l.drop (i+1)=r
 | [],_,h=>by cases h
 | b :: l,r,h=>by
  unfold behind at h
  split at h
  ·rename_i hb
   subst hb
   cases h
   exact ⟨0,by unfold Lib.indexByte;simp,by simp,by unfold ahead;simp,rfl⟩
  ·rename_i hb
   obtain ⟨i,h1,h2,h3,h4⟩:=index_some c l r h
   refine ⟨i+1,?_,by simpa using h2,?_,by simpa using h4⟩
   ·unfold Lib.indexByte
    have:((i:Int) == -1)=false:=by rw [beq_eq_false_iff_ne];omega
    simp [hb,h1,this]
   ·unfold ahead
    simp [hb,h3]
theorem ext_list {s t:ByteArray} (h:s.data.toList=t.data.toList):s=t:=by
 apply ByteArray.ext;exact Array.toList_inj.1 h
theorem cut_none (s:ByteArray) (w:World) (h:behind 47 s.data.toList=none) :
  Calls Tryz.prog 135 #[.string s,.string ⟨#[47]⟩] w fun e w'=>e=.returned (.tuple #[.string s,.string ⟨#[]⟩,.bool false])/\∃ k,w'=w.drewN k:=by
 obtain ⟨hi,_⟩:=index_none 47 _ h
 have HI:=Tryz.stringslite_Index_one s 47
 rw [hi] at HI
 have HH:Hid (∀ w,Calls Tryz.prog 188 #[.string s,.string ⟨#[47]⟩] w fun e w'=>e=.returned (.int .i64 (-1))/\w'=w):=HI
 clear HI hi h
 go_enter Tryz.func135,Tryz.ntmps135
 go_wp2_with (go_at_call 188;refine (HH.out _).mono ?_;rintro e w' ⟨rfl,rfl⟩)
 go_ret3
 exact ⟨rfl,0,rfl⟩
theorem cut_some (s a b:ByteArray) (w:World) (hb:behind 47 s.data.toList=some b.data.toList) (ha:ahead 47 s.data.toList=a.data.toList) (hm:s.size<=9223372036854775807) :
  Calls Tryz.prog 135 #[.string s,.string ⟨#[47]⟩] w fun e w'=>e=.returned (.tuple #[.string a,.string b,.bool true])/\∃ k,w'=w.drewN k:=by
 obtain ⟨i,hi,hl,h3,h4⟩:=index_some 47 _ _ hb
 rw [len_eq] at hl
 have HI:=Tryz.stringslite_Index_one s 47
 rw [hi] at HI
 have HH:Hid (∀ w,Calls Tryz.prog 188 #[.string s,.string ⟨#[47]⟩] w fun e w'=>e=.returned (.int .i64 i)/\w'=w):=HI
 have e1:s.extract 0 i=a:=ext_list (by rw [Lib.extract_data];simpa [ha] using h3)
 have e2:s.extract (i+1) s.size=b:=ext_list (by rw [Lib.extract_to_end];exact h4)
 clear HI hi h3 h4 ha hb
 have hl1:(i:Int)<(s.size:Int):=by omega
 have hl2:(i:Int)+1<=(s.size:Int):=by omega
 have h0:(0:Int)<=(i:Int):=by omega
 go_enter Tryz.func135,Tryz.ntmps135
 go_wp2_with (go_at_call 188;refine (HH.out _).mono ?_;rintro e w' ⟨rfl,rfl⟩)
 go_quiet (fail)
 go_wp2
 go_ret3
 exact ⟨rfl,_,rfl⟩
theorem Cut_none (s:ByteArray) (w:World) (h:behind 47 s.data.toList=none) :
  Calls Tryz.prog 97 #[.string s,.string ⟨#[47]⟩] w fun e w'=>e=.returned (.tuple #[.string s,.string ⟨#[]⟩,.bool false])/\∃ k,w'=w.drewN k:=by
 have HB:Hid (behind 47 s.data.toList=none):=h
 clear h
 go_enter Tryz.func97,Tryz.ntmps97
 go_wp2_with (go_at_call 135;refine (cut_none s _ HB.out).mono ?_;rintro e w' ⟨rfl,k,rfl⟩)
 go_ret3
 exact ⟨rfl,_,rfl⟩
theorem Cut_some (s a b:ByteArray) (w:World) (hb:behind 47 s.data.toList=some b.data.toList) (ha:ahead 47 s.data.toList=a.data.toList) (hm:s.size<=9223372036854775807) :
  Calls Tryz.prog 97 #[.string s,.string ⟨#[47]⟩] w fun e w'=>e=.returned (.tuple #[.string a,.string b,.bool true])/\∃ k,w'=w.drewN k:=by
 have HB:Hid (behind 47 s.data.toList=some b.data.toList):=hb
 have HA:Hid (ahead 47 s.data.toList=a.data.toList):=ha
 clear ha hb
 go_enter Tryz.func97,Tryz.ntmps97
 go_wp2_with (go_at_call 135;refine (cut_some s a b _ HB.out HA.out hm).mono ?_;rintro e w' ⟨rfl,k,rfl⟩)
 go_ret3
 exact ⟨rfl,_,rfl⟩
def numTxt (l:List UInt8):Option Int:=
 if digs (Lib.trimPrefix l [45])=true/\¬ (Lib.hasPrefix l [45]=true/\val (Lib.trimPrefix l [45])=0) then some (if Lib.hasPrefix l [45]=true then -(val (Lib.trimPrefix l [45]):Int) else val (Lib.trimPrefix l [45])) else none
theorem digs_bound {l:List UInt8} (h:digs l=true):(val l:Int)<10000000000:=by
 unfold digs at h
 rw [Bool.and_eq_true] at h
 have:=val_le h.2 (fits_iff.1 h.1).2.1
 omega
theorem digits_at (s:ByteArray) (b:Bool) (v:Int) (w:World) (hb:digs s.data.toList=b) (hv:(if b=true then (val s.data.toList:Int) else 0)=v) :
  Calls Tryz.prog 262 #[.string s] w fun e w'=>e=.returned (.tuple #[.int .i64 v,.bool b])/\w'=w:=by
 subst hb;subst hv;exact readDigits_any s w
theorem CutPrefix_at (s t:ByteArray) (b:Bool) (w:World) (ht:Lib.trimPrefix s.data.toList [45]=t.data.toList) (hb:Lib.hasPrefix s.data.toList [45]=b) :
  Calls Tryz.prog 182 #[.string s,.string ⟨#[45]⟩] w fun e w'=>e=.returned (.tuple #[.string t,.bool b])/\w'=w:=by
 have:=Tryz.strings_CutPrefix s ⟨#[45]⟩ w
 have e:(⟨(Lib.trimPrefix s.data.toList [45]).toArray⟩:ByteArray)=t:=ext_list (by rw [ht])
 subst hb
 rw [<- e]
 exact this
theorem readNum_any (s:ByteArray) (b:Bool) (v:Int) (w:World) (h:numTxt s.data.toList=none/\b=false/\v=0\/numTxt s.data.toList=some v/\b=true) :
  Calls Tryz.prog 261 #[.string s] w fun e w'=>e=.returned (.tuple #[.int .i64 v,.bool b])/\w'=w:=by
 obtain ⟨t,ht⟩:∃ t:ByteArray,Lib.trimPrefix s.data.toList [45]=t.data.toList:=⟨⟨(Lib.trimPrefix s.data.toList [45]).toArray⟩,by simp⟩
 obtain ⟨neg,hn⟩:∃ neg,Lib.hasPrefix s.data.toList [45]=neg:=⟨_,rfl⟩
 obtain ⟨d,hd⟩:∃ d,digs t.data.toList=d:=⟨_,rfl⟩
 have h':=h
 unfold numTxt at h'
 rw [ht,hn,hd] at h'
 have HT:Hid (Lib.trimPrefix s.data.toList [45]=t.data.toList):=ht
 have HN:Hid (Lib.hasPrefix s.data.toList [45]=neg):=hn
 clear h ht hn
 cases d with
 | false=>
  obtain ⟨rfl,rfl⟩:b=false/\v=0:=by rcases h' with ⟨_,a,c⟩ | ⟨a,_⟩;exact ⟨a,c⟩;simp at a
  have HD:Hid (digs t.data.toList=false):=hd
  clear h' hd
  go_enter Tryz.func261,Tryz.ntmps261
  go_wp2_with (first | (go_at_call 182;refine (CutPrefix_at s t neg _ HT.out HN.out).mono ?_;rintro e w' ⟨rfl,rfl⟩) | (go_at_call 262;refine (digits_at t false 0 _ HD.out (by simp)).mono ?_;rintro e w' ⟨rfl,rfl⟩))
  go_ret2
  exact ⟨rfl,rfl⟩
 | true=>
  have hv:=digs_bound hd
  obtain ⟨m,hm⟩:∃ m:Nat,val t.data.toList=m:=⟨_,rfl⟩
  rw [hm] at h' hv
  have HD:Hid (digs t.data.toList=true):=hd
  have HM:Hid ((if true=true then (val t.data.toList:Int) else 0)=m):=by show _=_;rw [if_pos rfl,hm]
  clear hd hm
  cases neg with
  | false=>
   obtain ⟨rfl,rfl⟩:b=true/\v=m:=by
    rcases h' with ⟨a,_,_⟩ | ⟨a,c⟩
    ·simp at a
    ·simp at a;exact ⟨c,a.symm⟩
   clear h'
   go_enter Tryz.func261,Tryz.ntmps261
   go_wp2_with (first | (go_at_call 182;refine (CutPrefix_at s t false _ HT.out HN.out).mono ?_;rintro e w' ⟨rfl,rfl⟩) | (go_at_call 262;refine (digits_at t true m _ HD.out HM.out).mono ?_;rintro e w' ⟨rfl,rfl⟩))
   go_ret2
   exact ⟨rfl,rfl⟩
  | true=>
   by_cases hz:m=0
   ·subst hz
    obtain ⟨rfl,rfl⟩:b=false/\v=0:=by
     rcases h' with ⟨_,a,c⟩ | ⟨a,_⟩
     ·exact ⟨a,c⟩
     ·simp at a
    clear h'
    go_enter Tryz.func261,Tryz.ntmps261
    go_wp2_with (first | (go_at_call 182;refine (CutPrefix_at s t true _ HT.out HN.out).mono ?_;rintro e w' ⟨rfl,rfl⟩) | (go_at_call 262;refine (digits_at t true 0 _ HD.out HM.out).mono ?_;rintro e w' ⟨rfl,rfl⟩))
    go_ret2
    exact ⟨rfl,rfl⟩
   ·obtain ⟨rfl,rfl⟩:b=true/\v = -(m:Int):=by
     rcases h' with ⟨a,_,_⟩ | ⟨a,c⟩
     ·simp [hz] at a
     ·simp [hz] at a;exact ⟨c,a.symm⟩
    have hz':((m:Int)==0)=false:=by rw [beq_eq_false_iff_ne];omega
    have hw:wrap64 (-(m:Int)) = -(m:Int):=IntWalk.wrap64_in _ ⟨by omega,by omega⟩
    have hm1 : -10000000000 < -(m:Int):=by omega
    have hm2:(0:Int)<=(m:Int):=by omega
    clear h' hz
    go_enter Tryz.func261,Tryz.ntmps261
    go_wp2_with (first | (go_at_call 182;refine (CutPrefix_at s t true _ HT.out HN.out).mono ?_;rintro e w' ⟨rfl,rfl⟩) | (go_at_call 262;refine (digits_at t true m _ HD.out HM.out).mono ?_;rintro e w' ⟨rfl,rfl⟩))
    go_ret2
    exact ⟨rfl,rfl⟩
end
section
open Go.RowKit
set_option maxHeartbeats 4000000
def ck (n d:Int):R3:=if chk n d=0 then ⟨n,d,0⟩ else ⟨0,0,chk n d⟩
def rd (l:List UInt8):R3:=
  match numTxt (ahead 47 l) with
  | none=>⟨0,0,1⟩
  | some n=>match behind 47 l with
    | none=>ck n 1
    | some b=>if digs b=true/\val b≠1 then ck n (val b) else ⟨0,0,1⟩
def er4 (aT aB aS aZ:Addr) (c:Nat):Value:=if c=1 then .iface 409 (.pointer (some aT)) else er aB aS aZ c
theorem numTxt_bound {l:List UInt8} {v:Int} (h:numTxt l=some v) : -10000000000<v/\v<10000000000:=by
  unfold numTxt at h
  split at h
  · rename_i hc
    have:=digs_bound hc.1
    simp only [Option.some.injEq] at h
    split at h <;> omega
  · cases h
theorem num_none (s:ByteArray) (w:World) (h:numTxt s.data.toList=none) :
    Calls Tryz.prog 261 #[.string s] w fun e w'=>e=.returned (.tuple #[.int .i64 0,.bool false])/\w'=w:=readNum_any s false 0 w (Or.inl ⟨h,rfl,rfl⟩)
theorem num_some (s:ByteArray) (v:Int) (w:World) (h:numTxt s.data.toList=some v) :
    Calls Tryz.prog 261 #[.string s] w fun e w'=>e=.returned (.tuple #[.int .i64 v,.bool true])/\w'=w:=readNum_any s true v w (Or.inr ⟨h,rfl⟩)
theorem check_ok (aB aS aZ:Addr) (n d:Int) (w:World) (n1 : -9223372036854775808<=n) (n2:n<=9223372036854775807) (d1 : -9223372036854775808<=d) (d2:d<=9223372036854775807) (h:E3 aB aS aZ w) (hc:chk n d=0) :
    Calls Tryz.prog 247 #[.int .i64 n,.int .i64 d] w fun e w'=>e=.returned .nilIface/\∃ k,w'=w.drewN k:=by
  have:=check_any aB aS aZ n d w n1 n2 d1 d2 h
  rw [hc] at this;exact this
theorem check_no (aB aS aZ:Addr) (n d:Int) (a:Addr) (w:World) (n1 : -9223372036854775808<=n) (n2:n<=9223372036854775807) (d1 : -9223372036854775808<=d) (d2:d<=9223372036854775807) (h:E3 aB aS aZ w) (hc:er aB aS aZ (chk n d)=.iface 409 (.pointer (some a))) :
    Calls Tryz.prog 247 #[.int .i64 n,.int .i64 d] w fun e w'=>e=.returned (.iface 409 (.pointer (some a)))/\∃ k,w'=w.drewN k:=by
  rw [<- hc];exact check_any aB aS aZ n d w n1 n2 d1 d2 h
theorem er4_er (aT aB aS aZ:Addr) {c:Nat} (h:c≠1):er4 aT aB aS aZ c=er aB aS aZ c:=by unfold er4;rw [if_neg h]
theorem Read_none (aT aB aS aZ:Addr) (s:ByteArray) (w:World) (h:E3 aB aS aZ w) (hT:w.cell? ⟨7,0,none⟩=some (.iface 409 (.pointer (some aT)))) (hb:behind 47 s.data.toList=none) :
    Calls Tryz.prog 214 #[.string s] w fun e w'=>e=.returned (.tuple #[.agg #[.int .i64 (rd s.data.toList).n,.int .i64 (rd s.data.toList).d],er4 aT aB aS aZ (rd s.data.toList).c])/\Below w.heap.size w w':=by
  have ha:=(index_none 47 _ hb).2
  have HB:Hid (behind 47 s.data.toList=none):=hb
  have hlt:=cell_lt hT
  simp only at hlt
  have hne:¬ w.heap.size=7:=by omega
  have hne':¬ 7=w.heap.size:=by omega
  have hcT:∀ o,(w.alloc o).cell? ⟨7,0,none⟩=some (.iface 409 (.pointer (some aT))):=fun o=>by
    rw [World.cell?_alloc_lt _ _ ⟨7,0,none⟩ hlt];exact hT
  cases hn:numTxt s.data.toList with
  | none=>
    have hr:rd s.data.toList=⟨0,0,1⟩:=by unfold rd;rw [ha,hn]
    rw [hr]
    have HN:Hid (numTxt s.data.toList=none):=hn
    clear hn hr ha hb hT hlt
    go_enter Tryz.func214,Tryz.ntmps214
    go_wp2_with (first | (go_at_call 97;refine (Cut_none s _ HB.out).mono ?_;rintro e w' ⟨rfl,k,rfl⟩) | (go_at_call 261;refine (num_none s _ HN.out).mono ?_;rintro e w' ⟨rfl,rfl⟩))
    go_region
    go_wp2
    refine bodyPost_ret (v:=.tuple #[.agg #[.int .i64 0,.int .i64 0],.iface 409 (.pointer (some aT))]) (by simp [results,Tryz.results214,go_sem]) rfl ⟨rfl,?_⟩
    first | exact below_drewN ((Below.refl _ _).alloc Nat.le.refl _) _ | exact ((below_drewN ((Below.refl _ _).alloc Nat.le.refl _) _).setCell (by simp) _).setCell (by simp) _
  | some n=>
    have hr:rd s.data.toList=ck n 1:=by unfold rd;rw [ha,hn,hb]
    rw [hr]
    have HN:Hid (numTxt s.data.toList=some n):=hn
    obtain ⟨n1,n2⟩:=numTxt_bound hn
    clear hn hr ha hb hT hlt
    by_cases hc:chk n 1=0
    · have e:ck n 1=⟨n,1,0⟩:=by unfold ck;rw [if_pos hc]
      rw [e]
      have HC:Hid (chk n 1=0):=hc
      clear e hc
      go_enter Tryz.func214,Tryz.ntmps214
      go_wp2_with (first | (go_at_call 97;refine (Cut_none s _ HB.out).mono ?_;rintro e w' ⟨rfl,k,rfl⟩) | (go_at_call 261;refine (num_some s n _ HN.out).mono ?_;rintro e w' ⟨rfl,rfl⟩) | (go_at_call 247;refine (check_ok aB aS aZ _ _ _ (by omega) (by omega) (by omega) (by omega) ?_ HC.out).mono ?_;exact (h.alloc _).drewN _;rintro e w' ⟨rfl,k2,rfl⟩))
      refine bodyPost_ret (v:=.tuple #[.agg #[.int .i64 n,.int .i64 1],.nilIface]) (by simp [results,Tryz.results214,go_sem]) rfl ⟨rfl,?_⟩
      first | exact below_drewN ((Below.refl _ _).alloc Nat.le.refl _) _ | exact ((below_drewN ((Below.refl _ _).alloc Nat.le.refl _) _).setCell (by simp) _).setCell (by simp) _
    · have hc':chk n 1=2\/chk n 1=3:=by rcases chk_cases n 1 with e | e | e <;> simp_all
      have e:ck n 1=⟨0,0,chk n 1⟩:=by unfold ck;rw [if_neg hc]
      obtain ⟨a,hera⟩:=er_cases aB aS aZ hc'
      rw [e]
      simp only
      rw [er4_er aT aB aS aZ (show chk n 1≠1 by omega),hera]
      have HC:Hid (er aB aS aZ (chk n 1)=.iface 409 (.pointer (some a))):=hera
      clear e hc hc' hera
      go_enter Tryz.func214,Tryz.ntmps214
      go_wp2_with (first | (go_at_call 97;refine (Cut_none s _ HB.out).mono ?_;rintro e w' ⟨rfl,k,rfl⟩) | (go_at_call 261;refine (num_some s n _ HN.out).mono ?_;rintro e w' ⟨rfl,rfl⟩) | (go_at_call 247;refine (check_no aB aS aZ _ _ a _ (by omega) (by omega) (by omega) (by omega) ?_ HC.out).mono ?_;exact (h.alloc _).drewN _;rintro e w' ⟨rfl,k2,rfl⟩))
      refine bodyPost_ret (v:=.tuple #[.agg #[.int .i64 0,.int .i64 0],.iface 409 (.pointer (some a))]) (by simp [results,Tryz.results214,go_sem]) rfl ⟨rfl,?_⟩
      first | exact below_drewN ((Below.refl _ _).alloc Nat.le.refl _) _ | exact ((below_drewN ((Below.refl _ _).alloc Nat.le.refl _) _).setCell (by simp) _).setCell (by simp) _
theorem Read_some (aT aB aS aZ:Addr) (s a b:ByteArray) (w:World) (h:E3 aB aS aZ w) (hT:w.cell? ⟨7,0,none⟩=some (.iface 409 (.pointer (some aT)))) (hb:behind 47 s.data.toList=some b.data.toList) (ha:ahead 47 s.data.toList=a.data.toList) (hm:s.size<=9223372036854775807) :
    Calls Tryz.prog 214 #[.string s] w fun e w'=>e=.returned (.tuple #[.agg #[.int .i64 (rd s.data.toList).n,.int .i64 (rd s.data.toList).d],er4 aT aB aS aZ (rd s.data.toList).c])/\Below w.heap.size w w':=by
  have HB:Hid (behind 47 s.data.toList=some b.data.toList):=hb
  have HA:Hid (ahead 47 s.data.toList=a.data.toList):=ha
  have hlt:=cell_lt hT
  simp only at hlt
  have hne:¬ w.heap.size=7:=by omega
  have hne':¬ 7=w.heap.size:=by omega
  have hcT:∀ o,(w.alloc o).cell? ⟨7,0,none⟩=some (.iface 409 (.pointer (some aT))):=fun o=>by
    rw [World.cell?_alloc_lt _ _ ⟨7,0,none⟩ hlt];exact hT
  cases hn:numTxt a.data.toList with
  | none=>
    have hr:rd s.data.toList=⟨0,0,1⟩:=by unfold rd;rw [ha,hn]
    rw [hr]
    have HN:Hid (numTxt a.data.toList=none):=hn
    clear hn hr ha hb hT hlt
    go_enter Tryz.func214,Tryz.ntmps214
    go_wp2_with (first | (go_at_call 97;refine (Cut_some s a b _ HB.out HA.out hm).mono ?_;rintro e w' ⟨rfl,k,rfl⟩) | (go_at_call 261;refine (num_none a _ HN.out).mono ?_;rintro e w' ⟨rfl,rfl⟩))
    go_region
    go_wp2
    refine bodyPost_ret (v:=.tuple #[.agg #[.int .i64 0,.int .i64 0],.iface 409 (.pointer (some aT))]) (by simp [results,Tryz.results214,go_sem]) rfl ⟨rfl,?_⟩
    first | exact below_drewN ((Below.refl _ _).alloc Nat.le.refl _) _ | exact ((below_drewN ((Below.refl _ _).alloc Nat.le.refl _) _).setCell (by simp) _).setCell (by simp) _
  | some n=>
    have hr:rd s.data.toList=if digs b.data.toList=true/\val b.data.toList≠1 then ck n (val b.data.toList) else ⟨0,0,1⟩:=by unfold rd;rw [ha,hn,hb]
    rw [hr]
    have HN:Hid (numTxt a.data.toList=some n):=hn
    obtain ⟨n1,n2⟩:=numTxt_bound hn
    clear hn hr ha hb hT hlt
    cases hd:digs b.data.toList with
    | false=>
      rw [if_neg (by simp)]
      have HD:Hid (digs b.data.toList=false):=hd
      clear hd
      go_enter Tryz.func214,Tryz.ntmps214
      go_wp2_with (first | (go_at_call 97;refine (Cut_some s a b _ HB.out HA.out hm).mono ?_;rintro e w' ⟨rfl,k,rfl⟩) | (go_at_call 261;refine (num_some a n _ HN.out).mono ?_;rintro e w' ⟨rfl,rfl⟩) | (go_at_call 262;refine (digits_at b false 0 _ HD.out (by simp)).mono ?_;rintro e w' ⟨rfl,rfl⟩))
      go_region
      go_wp2
      refine bodyPost_ret (v:=.tuple #[.agg #[.int .i64 0,.int .i64 0],.iface 409 (.pointer (some aT))]) (by simp [results,Tryz.results214,go_sem]) rfl ⟨rfl,?_⟩
      first | exact below_drewN ((Below.refl _ _).alloc Nat.le.refl _) _ | exact ((below_drewN ((Below.refl _ _).alloc Nat.le.refl _) _).setCell (by simp) _).setCell (by simp) _
    | true=>
      have hv:=digs_bound hd
      obtain ⟨d,hdv⟩:∃ d:Nat,val b.data.toList=d:=⟨_,rfl⟩
      rw [hdv]
      rw [hdv] at hv
      have HD:Hid (digs b.data.toList=true):=hd
      have HV:Hid ((if true=true then (val b.data.toList:Int) else 0)=d):=by show _=_;rw [if_pos rfl,hdv]
      clear hd hdv
      by_cases hd1:d=1
      · subst hd1
        rw [if_neg (by simp)]
        go_enter Tryz.func214,Tryz.ntmps214
        go_wp2_with (first | (go_at_call 97;refine (Cut_some s a b _ HB.out HA.out hm).mono ?_;rintro e w' ⟨rfl,k,rfl⟩) | (go_at_call 261;refine (num_some a n _ HN.out).mono ?_;rintro e w' ⟨rfl,rfl⟩) | (go_at_call 262;refine (digits_at b true 1 _ HD.out HV.out).mono ?_;rintro e w' ⟨rfl,rfl⟩))
        go_region
        go_wp2
        refine bodyPost_ret (v:=.tuple #[.agg #[.int .i64 0,.int .i64 0],.iface 409 (.pointer (some aT))]) (by simp [results,Tryz.results214,go_sem]) rfl ⟨rfl,?_⟩
        first | exact below_drewN ((Below.refl _ _).alloc Nat.le.refl _) _ | exact ((below_drewN ((Below.refl _ _).alloc Nat.le.refl _) _).setCell (by simp) _).setCell (by simp) _
      · rw [if_pos ⟨rfl,hd1⟩]
        have hd2:((d:Int)==1)=false:=by rw [beq_eq_false_iff_ne];omega
        have hd3:(0:Int)<=(d:Int):=by omega
        clear hd1
        by_cases hc:chk n d=0
        · have e:ck n d=⟨n,d,0⟩:=by unfold ck;rw [if_pos hc]
          rw [e]
          have HC:Hid (chk n d=0):=hc
          clear e hc
          go_enter Tryz.func214,Tryz.ntmps214
          go_wp2_with (first | (go_at_call 97;refine (Cut_some s a b _ HB.out HA.out hm).mono ?_;rintro e w' ⟨rfl,k,rfl⟩) | (go_at_call 261;refine (num_some a n _ HN.out).mono ?_;rintro e w' ⟨rfl,rfl⟩) | (go_at_call 262;refine (digits_at b true d _ HD.out HV.out).mono ?_;rintro e w' ⟨rfl,rfl⟩) | (go_at_call 247;refine (check_ok aB aS aZ _ _ _ (by omega) (by omega) (by omega) (by omega) ?_ HC.out).mono ?_;exact (h.alloc _).drewN _;rintro e w' ⟨rfl,k2,rfl⟩))
          refine bodyPost_ret (v:=.tuple #[.agg #[.int .i64 n,.int .i64 d],.nilIface]) (by simp [results,Tryz.results214,go_sem]) rfl ⟨rfl,?_⟩
          first | exact below_drewN ((Below.refl _ _).alloc Nat.le.refl _) _ | exact ((below_drewN ((Below.refl _ _).alloc Nat.le.refl _) _).setCell (by simp) _).setCell (by simp) _
        · have hc':chk n d=2\/chk n d=3:=by rcases chk_cases n d with e | e | e <;> simp_all
          have e:ck n d=⟨0,0,chk n d⟩:=by unfold ck;rw [if_neg hc]
          obtain ⟨ae,hera⟩:=er_cases aB aS aZ hc'
          rw [e]
          simp only
          rw [er4_er aT aB aS aZ (show chk n d≠1 by omega),hera]
          have HC:Hid (er aB aS aZ (chk n d)=.iface 409 (.pointer (some ae))):=hera
          clear e hc hc' hera
          go_enter Tryz.func214,Tryz.ntmps214
          go_wp2_with (first | (go_at_call 97;refine (Cut_some s a b _ HB.out HA.out hm).mono ?_;rintro e w' ⟨rfl,k,rfl⟩) | (go_at_call 261;refine (num_some a n _ HN.out).mono ?_;rintro e w' ⟨rfl,rfl⟩) | (go_at_call 262;refine (digits_at b true d _ HD.out HV.out).mono ?_;rintro e w' ⟨rfl,rfl⟩) | (go_at_call 247;refine (check_no aB aS aZ _ _ ae _ (by omega) (by omega) (by omega) (by omega) ?_ HC.out).mono ?_;exact (h.alloc _).drewN _;rintro e w' ⟨rfl,k2,rfl⟩))
          refine bodyPost_ret (v:=.tuple #[.agg #[.int .i64 0,.int .i64 0],.iface 409 (.pointer (some ae))]) (by simp [results,Tryz.results214,go_sem]) rfl ⟨rfl,?_⟩
          first | exact below_drewN ((Below.refl _ _).alloc Nat.le.refl _) _ | exact ((below_drewN ((Below.refl _ _).alloc Nat.le.refl _) _).setCell (by simp) _).setCell (by simp) _
theorem ReadF_any (aT aB aS aZ:Addr) (s:ByteArray) (w:World) (h:E3 aB aS aZ w) (hT:w.cell? ⟨7,0,none⟩=some (.iface 409 (.pointer (some aT)))) (hm:s.size<=9223372036854775807) :
    Calls Tryz.prog 214 #[.string s] w fun e w'=>e=.returned (.tuple #[.agg #[.int .i64 (rd s.data.toList).n,.int .i64 (rd s.data.toList).d],er4 aT aB aS aZ (rd s.data.toList).c])/\Below w.heap.size w w':=by
  cases hb:behind 47 s.data.toList with
  | none=>exact Read_none aT aB aS aZ s w h hT hb
  | some b=>exact Read_some aT aB aS aZ s ⟨(ahead 47 s.data.toList).toArray⟩ ⟨b.toArray⟩ w h hT (by rw [hb]) rfl hm
end
section
open Go.RowKit
set_option maxHeartbeats 8000000
theorem ownsRow_below {w w':World} {base:Nat} {e:TypeId} {size n:Nat} {v:Value} {xs:List Value} (h:w.ownsRow base e size v n xs) (hb:Below w.heap.size w w'):w'.ownsRow base e size v n xs:=by
 obtain ⟨h1,h2⟩:=h
 refine ⟨h1,?_⟩
 rcases h2 with h2 | ⟨g,cap,cur,h3,h4,h5,h6⟩
 ·exact .inl h2
 ·exact .inr ⟨g,cap,cur,h3,h4,(hb.block g (Array.getElem?_eq_some_iff.1 h5).1).trans h5,h6⟩
theorem ownsRow_pos {w:World} {base:Nat} {e:TypeId} {size n:Nat} {v:Value} {xs:List Value} (h:w.ownsRow base e size v (n+1) xs):∃ g cap,v=.slice (some ⟨g,0,none⟩) (n+1) cap/\base<=g/\g<w.heap.size/\n+1<=cap/\cap<=maxLen/\∀ j u,xs[j]? = some u->w.cell? ⟨g,j,none⟩=some u:=by
 obtain ⟨h1,h2⟩:=h
 rcases h2 with ⟨_,h2⟩ | ⟨g,cap,cur,h3,h4,h5,h6,h7,h8,h9⟩
 ·omega
 ·refine ⟨g,cap,h3,h4,(Array.getElem?_eq_some_iff.1 h5).1,h6,h7,fun j u hj=>?_⟩
  rw [<- h9] at hj
  have hc:cur[j]? = some u:=by
   rw [List.getElem?_take] at hj
   split at hj
   ·simpa using hj
   ·cases hj
  simp [World.cell?,h5,hc]
theorem Blk.grown {w w':World} {R:Nat} {cs:Array Value} {t:TypeId} {row:Option Nat} (h:Blk w R cs t) (hg:w.grownBy w' row) (hr:row≠some R):Blk w' R cs t:=⟨(hg.block R h.lt (fun e=>hr e.symm)).trans h.h⟩
theorem own_lo {w:World} {base:Nat} {e:TypeId} {size n:Nat} {v:Value} {xs:List Value} (h:w.ownsRow base e size v n xs):∀ k,v.ownBlock=some k->base<=k:=by
 obtain ⟨_,h2⟩:=h
 rcases h2 with ⟨rfl,_⟩ | ⟨g,cap,cur,rfl,h4,_⟩
 ·intro k hk;cases hk
 ·intro k hk;simp only [Value.ownBlock] at hk;cases hk;exact h4
theorem infoFrac:(Tryz.prog.info? 52).map (fun i=>(i.zero,i.size,i.bytes))=some (some (.agg #[.int .i64 0,.int .i64 0]),2,16):=by kernel_rfl
theorem one2 {x y:Int}:∀ u ∈ [Value.int .i64 x,.int .i64 y],u.oneCell'=true:=fun u hu=>by
 simp at hu;rcases hu with rfl | rfl <;> rfl
theorem cells2 {w:World} {x y:Value} {t:TypeId} {B:Nat} (hB:B=w.heap.size):∀ (j:Nat) (u:Value),[x,y][j]? = some u->(w.alloc (.cells #[x,y] t)).cell? ((⟨B,0,none⟩:Addr).add j)=some u:=fun j u hj=>by
 match j,hj with
 | 0,hj=>simp at hj;subst hj;exact cell_at hB rfl
 | 1,hj=>simp at hj;subst hj;exact cell_at hB rfl
 | j+2,hj=>simp at hj
theorem shift2 (b o cap B:Nat) (s1 s2:ByteArray) (x1 x2:Fr) (r:Mv) (W:World) (hB:W.cell? ⟨B,0,none⟩=some (.func (.func 267) #[] #[])) (h1:W.cell? ⟨b,o,none⟩=some (.string s1)) (h2:W.cell? ⟨b,o+1,none⟩=some (.string s2))
  (R1:∀ V,Below W.heap.size W V->Calls Tryz.prog 214 #[.string s1] V fun e w'=>e=.returned (.tuple #[.agg #[.int .i64 x1.n,.int .i64 x1.d],.nilIface])/\Below V.heap.size V w')
  (R2:∀ V,Below W.heap.size W V->Calls Tryz.prog 214 #[.string s2] V fun e w'=>e=.returned (.tuple #[.agg #[.int .i64 x2.n,.int .i64 x2.d],.nilIface])/\Below V.heap.size V w')
  (HOW:∀ V g c,Below W.heap.size W V->V.cell? ⟨g,0,none⟩=some (.int .i64 x1.n)->V.cell? ⟨g,1,none⟩=some (.int .i64 x1.d)->V.cell? ⟨g,2,none⟩=some (.int .i64 x2.n)->V.cell? ⟨g,3,none⟩=some (.int .i64 x2.d)->Calls Tryz.prog 267 #[.slice (some ⟨g,0,none⟩) 2 c] V fun e w'=>e=.returned (mv r)/\Below V.heap.size V w') :
  Calls Tryz.prog 301 #[.slice (some ⟨b,o,none⟩) 2 cap,.pointer (some ⟨B,0,none⟩)] W fun e w'=>e=.returned (.tuple #[mv r,.nilIface])/\Below W.heap.size W w':=by
 have L0:=(Below.refl W.heap.size W).alloc Nat.le.refl (.cells #[.int .i64 0,.int .i64 0,.int .i64 0,.int .i64 0,.int .i64 0,.int .i64 0,.int .i64 0,.int .i64 0,.int .i64 0,.int .i64 0,.int .i64 0,.int .i64 0] 113)
 have B0:=Blk.new W #[.int .i64 0,.int .i64 0,.int .i64 0,.int .i64 0,.int .i64 0,.int .i64 0,.int .i64 0,.int .i64 0,.int .i64 0,.int .i64 0,.int .i64 0,.int .i64 0] 113
 have g1:=fun o=>cell_al o h1
 obtain ⟨i0,hi,hz0,hz1,hz2⟩:=info_parts infoFrac
 go_enter Tryz.func301,Tryz.ntmps301
 go_wp2
 refine wp_loop_rounds 3 ?_
 rw [rounds_succ]
 go_wp2_with (first | (at_builtin;refine wpList_append_own_at _ rfl _ _ 297 rfl (W.heap.size+1) 52 i0 (.agg #[.int .i64 0,.int .i64 0]) 2 16 Tryz.underlying297 hi hz0 hz1 hz2 rfl (by decide) (.slice none 0 0) 0 [] rfl O1 ⟨w1.heap.size+1,0,none⟩ 1 1 [.int .i64 x1.n,.int .i64 x1.d] rfl rfl (cells2 (by simp)) one2 (by unfold maxLen;omega) (by omega) (by simp;omega) ?_;intro v1 V1 hown1 hgrow1 _ hloc1;have L2:=((L1.alloc (by omega) _).alloc (by simp;omega) _).grown hgrow1 (by simp;omega) (fun k e=>by simp [Value.ownBlock] at e);have B2:=((B1.alloc _).alloc _).grown hgrow1 (by simp [Value.ownBlock]);have z1:=hgrow1.size;simp only [World.size_alloc] at z1;have g2:=(L2.cell (p:=⟨b,o+1,none⟩) (cell_lt h2)).trans h2) | (go_at_call_of 214 s1;refine (R1 _ L0).mono ?_;rintro e w1 ⟨rfl,hb1⟩;have sz1:=hb1.size;simp only [World.size_alloc] at sz1;have L1:=(L0.trans (hb1.mono (by simp)))  ; have B1:=B0.below hb1 Nat.le.refl;have O1:((w1.alloc (.cells #[.int .i64 x1.n,.int .i64 x1.d] 52)).alloc (.cells #[.int .i64 x1.n,.int .i64 x1.d] 52)).ownsRow (W.heap.size+1) 52 2 (.slice none 0 0) 0 []:=World.ownsRow_nil _ _ _ _))
 rw [rounds_succ]
 go_wp2_with (first | (at_builtin;refine wpList_append_own_at _ rfl _ _ 297 rfl (W.heap.size+1) 52 i0 (.agg #[.int .i64 0,.int .i64 0]) 2 16 Tryz.underlying297 hi hz0 hz1 hz2 rfl (by decide) v1 1 _ rfl O2 ⟨w2.heap.size+1,0,none⟩ 1 1 [.int .i64 x2.n,.int .i64 x2.d] rfl rfl (cells2 (by simp)) one2 (by unfold maxLen;omega) (by omega) (by simp;omega) ?_;intro v2 V2 hown2 hgrow2 _ hloc2;have lo2:=own_lo O2;have L4:=((L3.alloc (by omega) _).alloc (by simp;omega) _).grown hgrow2 (by simp;omega) (fun k e=>by have:=lo2 k e;omega);have B4:=((B3.alloc _).alloc _).grown hgrow2 (fun e=>by have:=lo2 _ e;omega);obtain ⟨g,c2,rfl,hg1,hg2,hg3,hg4,hg5⟩:=ownsRow_pos hown2;have gB:=(L4.cell (p:=⟨B,0,none⟩) (cell_lt hB)).trans hB) | (go_at_call_of 214 s2;refine (R2 _ L2).mono ?_;rintro e w2 ⟨rfl,hb2⟩;have sz2:=hb2.size;have L3:=L2.trans (hb2.mono (by omega));have B3:=B2.below hb2 Nat.le.refl;have O2:=((ownsRow_below hown1 hb2).alloc (.cells #[.int .i64 x2.n,.int .i64 x2.d] 52)).alloc (.cells #[.int .i64 x2.n,.int .i64 x2.d] 52)))
 rw [rounds_succ]
 go_wp2_with ((go_at_call 267;refine (HOW _ g c2 L4 (hg5 0 _ rfl) (hg5 1 _ rfl) (hg5 2 _ rfl) (hg5 3 _ rfl)).mono ?_;rintro e w5 ⟨rfl,hb5⟩;have sz5:=hb5.size;have B5:=B4.below hb5 Nat.le.refl;have zc0:=B5.cell 0 _ rfl;have zf0:=B5.froz 0 _ rfl;have zc1:=B5.cell 1 _ rfl;have zf1:=B5.froz 1 _ rfl;have zc2:=B5.cell 2 _ rfl;have zf2:=B5.froz 2 _ rfl;have zc3:=B5.cell 3 _ rfl;have zf3:=B5.froz 3 _ rfl;have zc4:=B5.cell 4 _ rfl;have zf4:=B5.froz 4 _ rfl;have zc5:=B5.cell 5 _ rfl;have zf5:=B5.froz 5 _ rfl;have zc6:=B5.cell 6 _ rfl;have zf6:=B5.froz 6 _ rfl;have zc7:=B5.cell 7 _ rfl;have zf7:=B5.froz 7 _ rfl;have zc8:=B5.cell 8 _ rfl;have zf8:=B5.froz 8 _ rfl;have zc9:=B5.cell 9 _ rfl;have zf9:=B5.froz 9 _ rfl;have zc10:=B5.cell 10 _ rfl;have zf10:=B5.froz 10 _ rfl;have zc11:=B5.cell 11 _ rfl;have zf11:=B5.froz 11 _ rfl))
 refine bodyPost_ret (v:=.tuple #[mv r,.nilIface]) (by simp [results,Tryz.results301,go_sem,zc0,zc1,zc2,zc3,zc4,zc5,zc6,zc7,zc8,zc9,zc10,zc11]) rfl ⟨rfl,?_⟩
 exact put_below (R:=W.heap.size) Nat.le.refl [.int .i64 r.a.n,.int .i64 r.a.d,.int .i64 r.b.n,.int .i64 r.b.d,.int .i64 r.c.n,.int .i64 r.c.d,.int .i64 r.d.n,.int .i64 r.d.d,.int .i64 r.e.n,.int .i64 r.e.d,.int .i64 r.f.n,.int .i64 r.f.d] 0 (L4.trans (hb5.mono (by omega)))
end
section
open Go.RowKit
set_option maxHeartbeats 1000000
def Mv.shift (x y:Fr):Mv:=⟨.whole 1,.whole 0,.whole 0,.whole 1,x,y⟩
def Mv.scale (x y:Fr):Mv:=⟨x,.whole 0,.whole 0,y,.whole 0,.whole 0⟩
def Mv.skew (x:Fr):Mv:=⟨.whole 1,.whole 0,x,.whole 1,.whole 0,.whole 0⟩
def Mv.turn (c s:Int):Mv:=⟨.whole c,.whole s,.whole (-s),.whole c,.whole 0,.whole 0⟩
theorem shift_any (g c:Nat) (x1 x2:Fr) (W:World) (k0:W.cell? ⟨g,0,none⟩=some (.int .i64 x1.n)) (k1:W.cell? ⟨g,1,none⟩=some (.int .i64 x1.d)) (k2:W.cell? ⟨g,2,none⟩=some (.int .i64 x2.n)) (k3:W.cell? ⟨g,3,none⟩=some (.int .i64 x2.d)) :
  Calls Tryz.prog 267 #[.slice (some ⟨g,0,none⟩) 2 c] W fun e w'=>e=.returned (mv (Mv.shift x1 x2))/\Below W.heap.size W w':=by
 have HO:=One_any
 have lt:=cell_lt k0
 simp only at lt
 have L0:=(Below.refl W.heap.size W).alloc Nat.le.refl (.cells #[.int .i64 0,.int .i64 0,.int .i64 0,.int .i64 0,.int .i64 0,.int .i64 0,.int .i64 0,.int .i64 0,.int .i64 0,.int .i64 0,.int .i64 0,.int .i64 0] 113)
 have B0:=Blk.new W #[.int .i64 0,.int .i64 0,.int .i64 0,.int .i64 0,.int .i64 0,.int .i64 0,.int .i64 0,.int .i64 0,.int .i64 0,.int .i64 0,.int .i64 0,.int .i64 0] 113
 go_enter Tryz.func267,Tryz.ntmps267
 go_wp2_with (go_at_call 45;refine (HO _).mono ?_;rintro e w1 ⟨rfl,hb1⟩;have LO:=L0.trans (hb1.mono (by simp));have sz:=hb1.size;simp only [World.size_alloc] at sz;have B1:=B0.below hb1 Nat.le.refl;have n1:¬ w1.heap.size=W.heap.size:=(by omega);have n2:¬ W.heap.size=w1.heap.size:=(by omega);have n3:¬ g=w1.heap.size:=(by omega);have n4:¬ w1.heap.size=g:=(by omega);dsimp only [Mv.one,Fr.whole];have g0:=fun o=>cell_al o ((LO.cell (p:=⟨g,0,none⟩) (cell_lt k0)).trans k0);have g1:=fun o=>cell_al o ((LO.cell (p:=⟨g,1,none⟩) (cell_lt k1)).trans k1);have g2:=fun o=>cell_al o ((LO.cell (p:=⟨g,2,none⟩) (cell_lt k2)).trans k2);have g3:=fun o=>cell_al o ((LO.cell (p:=⟨g,3,none⟩) (cell_lt k3)).trans k3);have zc0:=fun o=>cell_al o (B1.cell 0 _ rfl);have zf0:=fun o=>froz_al o (B1.cell 0 _ rfl) (B1.froz 0 _ rfl);have zc1:=fun o=>cell_al o (B1.cell 1 _ rfl);have zf1:=fun o=>froz_al o (B1.cell 1 _ rfl) (B1.froz 1 _ rfl);have zc2:=fun o=>cell_al o (B1.cell 2 _ rfl);have zf2:=fun o=>froz_al o (B1.cell 2 _ rfl) (B1.froz 2 _ rfl);have zc3:=fun o=>cell_al o (B1.cell 3 _ rfl);have zf3:=fun o=>froz_al o (B1.cell 3 _ rfl) (B1.froz 3 _ rfl);have zc4:=fun o=>cell_al o (B1.cell 4 _ rfl);have zf4:=fun o=>froz_al o (B1.cell 4 _ rfl) (B1.froz 4 _ rfl);have zc5:=fun o=>cell_al o (B1.cell 5 _ rfl);have zf5:=fun o=>froz_al o (B1.cell 5 _ rfl) (B1.froz 5 _ rfl);have zc6:=fun o=>cell_al o (B1.cell 6 _ rfl);have zf6:=fun o=>froz_al o (B1.cell 6 _ rfl) (B1.froz 6 _ rfl);have zc7:=fun o=>cell_al o (B1.cell 7 _ rfl);have zf7:=fun o=>froz_al o (B1.cell 7 _ rfl) (B1.froz 7 _ rfl);have zc8:=fun o=>cell_al o (B1.cell 8 _ rfl);have zf8:=fun o=>froz_al o (B1.cell 8 _ rfl) (B1.froz 8 _ rfl);have zc9:=fun o=>cell_al o (B1.cell 9 _ rfl);have zf9:=fun o=>froz_al o (B1.cell 9 _ rfl) (B1.froz 9 _ rfl);have zc10:=fun o=>cell_al o (B1.cell 10 _ rfl);have zf10:=fun o=>froz_al o (B1.cell 10 _ rfl) (B1.froz 10 _ rfl);have zc11:=fun o=>cell_al o (B1.cell 11 _ rfl);have zf11:=fun o=>froz_al o (B1.cell 11 _ rfl) (B1.froz 11 _ rfl))
 go_region
 go_wp2
 refine bodyPost_ret (v:=mv (Mv.shift x1 x2)) (by simp [results,Tryz.results267,go_sem,Mv.shift,Fr.whole,zc0,zc1,zc2,zc3,zc4,zc5,zc6,zc7,zc8,zc9,zc10,zc11]) rfl ⟨rfl,?_⟩
 exact below_drewN (put_below (R:=W.heap.size) Nat.le.refl [.int .i64 1,.int .i64 1,.int .i64 0,.int .i64 1,.int .i64 0,.int .i64 1,.int .i64 1,.int .i64 1,.int .i64 x1.n,.int .i64 x1.d,.int .i64 x2.n,.int .i64 x2.d] 0 (LO.alloc (by omega) (.cells #[.int .i64 1,.int .i64 1,.int .i64 0,.int .i64 1,.int .i64 0,.int .i64 1,.int .i64 1,.int .i64 1,.int .i64 x1.n,.int .i64 x1.d,.int .i64 x2.n,.int .i64 x2.d] 113))) 1
theorem scale_any (g c:Nat) (x1 x2:Fr) (W:World) (k0:W.cell? ⟨g,0,none⟩=some (.int .i64 x1.n)) (k1:W.cell? ⟨g,1,none⟩=some (.int .i64 x1.d)) (k2:W.cell? ⟨g,2,none⟩=some (.int .i64 x2.n)) (k3:W.cell? ⟨g,3,none⟩=some (.int .i64 x2.d)) :
  Calls Tryz.prog 268 #[.slice (some ⟨g,0,none⟩) 2 c] W fun e w'=>e=.returned (mv (Mv.scale x1 x2))/\Below W.heap.size W w':=by
 have HO:=One_any
 have lt:=cell_lt k0
 simp only at lt
 have L0:=(Below.refl W.heap.size W).alloc Nat.le.refl (.cells #[.int .i64 0,.int .i64 0,.int .i64 0,.int .i64 0,.int .i64 0,.int .i64 0,.int .i64 0,.int .i64 0,.int .i64 0,.int .i64 0,.int .i64 0,.int .i64 0] 113)
 have B0:=Blk.new W #[.int .i64 0,.int .i64 0,.int .i64 0,.int .i64 0,.int .i64 0,.int .i64 0,.int .i64 0,.int .i64 0,.int .i64 0,.int .i64 0,.int .i64 0,.int .i64 0] 113
 go_enter Tryz.func268,Tryz.ntmps268
 go_wp2_with (go_at_call 45;refine (HO _).mono ?_;rintro e w1 ⟨rfl,hb1⟩;have LO:=L0.trans (hb1.mono (by simp));have sz:=hb1.size;simp only [World.size_alloc] at sz;have B1:=B0.below hb1 Nat.le.refl;have n1:¬ w1.heap.size=W.heap.size:=(by omega);have n2:¬ W.heap.size=w1.heap.size:=(by omega);have n3:¬ g=w1.heap.size:=(by omega);have n4:¬ w1.heap.size=g:=(by omega);dsimp only [Mv.one,Fr.whole];have g0:=fun o=>cell_al o ((LO.cell (p:=⟨g,0,none⟩) (cell_lt k0)).trans k0);have g1:=fun o=>cell_al o ((LO.cell (p:=⟨g,1,none⟩) (cell_lt k1)).trans k1);have g2:=fun o=>cell_al o ((LO.cell (p:=⟨g,2,none⟩) (cell_lt k2)).trans k2);have g3:=fun o=>cell_al o ((LO.cell (p:=⟨g,3,none⟩) (cell_lt k3)).trans k3);have zc0:=fun o=>cell_al o (B1.cell 0 _ rfl);have zf0:=fun o=>froz_al o (B1.cell 0 _ rfl) (B1.froz 0 _ rfl);have zc1:=fun o=>cell_al o (B1.cell 1 _ rfl);have zf1:=fun o=>froz_al o (B1.cell 1 _ rfl) (B1.froz 1 _ rfl);have zc2:=fun o=>cell_al o (B1.cell 2 _ rfl);have zf2:=fun o=>froz_al o (B1.cell 2 _ rfl) (B1.froz 2 _ rfl);have zc3:=fun o=>cell_al o (B1.cell 3 _ rfl);have zf3:=fun o=>froz_al o (B1.cell 3 _ rfl) (B1.froz 3 _ rfl);have zc4:=fun o=>cell_al o (B1.cell 4 _ rfl);have zf4:=fun o=>froz_al o (B1.cell 4 _ rfl) (B1.froz 4 _ rfl);have zc5:=fun o=>cell_al o (B1.cell 5 _ rfl);have zf5:=fun o=>froz_al o (B1.cell 5 _ rfl) (B1.froz 5 _ rfl);have zc6:=fun o=>cell_al o (B1.cell 6 _ rfl);have zf6:=fun o=>froz_al o (B1.cell 6 _ rfl) (B1.froz 6 _ rfl);have zc7:=fun o=>cell_al o (B1.cell 7 _ rfl);have zf7:=fun o=>froz_al o (B1.cell 7 _ rfl) (B1.froz 7 _ rfl);have zc8:=fun o=>cell_al o (B1.cell 8 _ rfl);have zf8:=fun o=>froz_al o (B1.cell 8 _ rfl) (B1.froz 8 _ rfl);have zc9:=fun o=>cell_al o (B1.cell 9 _ rfl);have zf9:=fun o=>froz_al o (B1.cell 9 _ rfl) (B1.froz 9 _ rfl);have zc10:=fun o=>cell_al o (B1.cell 10 _ rfl);have zf10:=fun o=>froz_al o (B1.cell 10 _ rfl) (B1.froz 10 _ rfl);have zc11:=fun o=>cell_al o (B1.cell 11 _ rfl);have zf11:=fun o=>froz_al o (B1.cell 11 _ rfl) (B1.froz 11 _ rfl))
 go_region
 go_wp2
 refine bodyPost_ret (v:=mv (Mv.scale x1 x2)) (by simp [results,Tryz.results268,go_sem,Mv.scale,Fr.whole,zc0,zc1,zc2,zc3,zc4,zc5,zc6,zc7,zc8,zc9,zc10,zc11]) rfl ⟨rfl,?_⟩
 exact below_drewN (put_below (R:=W.heap.size) Nat.le.refl [.int .i64 x1.n,.int .i64 x1.d,.int .i64 0,.int .i64 1,.int .i64 0,.int .i64 1,.int .i64 x2.n,.int .i64 x2.d,.int .i64 0,.int .i64 1,.int .i64 0,.int .i64 1] 0 (LO.alloc (by omega) (.cells #[.int .i64 x1.n,.int .i64 x1.d,.int .i64 0,.int .i64 1,.int .i64 0,.int .i64 1,.int .i64 x2.n,.int .i64 x2.d,.int .i64 0,.int .i64 1,.int .i64 0,.int .i64 1] 113))) 1
end
section
inductive Kd where
  | move
  | scale
  | turn
  | skew
def Kd.n:Kd->Nat
  | .move=>2
  | .scale=>2
  | .turn=>1
  | .skew=>1
def kdOf (b:ByteArray):Option Kd:=if b=bMove then some .move else if b=bScale then some .scale else if b=bTurn then some .turn else if b=bSkew then some .skew else none
def rdF (a:ByteArray):Fr:=⟨(rd a.data.toList).n,(rd a.data.toList).d⟩
def rdC (a:ByteArray):Nat:=(rd a.data.toList).c
def rd2 (mk:Fr->Fr->Mv) (a b:ByteArray):Mv × Nat:=if rdC a≠0 then (.zero,rdC a) else if rdC b≠0 then (.zero,rdC b) else (mk (rdF a) (rdF b),0)
def rd1 (mk:Fr->Mv) (a:ByteArray):Mv × Nat:=if rdC a≠0 then (.zero,rdC a) else (mk (rdF a),0)
def turnR (a:ByteArray):Mv × Nat:=
  if a=⟨#[48]⟩ then (.turn 1 0,0) else if a=⟨#[49]⟩ then (.turn 0 1,0) else if a=⟨#[50]⟩ then (.turn (-1) 0,0) else if a=⟨#[51]⟩ then (.turn 0 (-1),0) else (.zero,1)
def kdR:Kd->List ByteArray->Mv × Nat
  | .move,a :: b :: _=>rd2 Mv.shift a b
  | .scale,a :: b :: _=>rd2 Mv.scale a b
  | .turn,a :: _=>turnR a
  | .skew,a :: _=>rd1 Mv.skew a
  | _,_=>(.zero,1)
def readL:Nat->List ByteArray->List Mv->List Mv × Nat
  | _,[],acc=>(acc,0)
  | 0,_ :: _,_=>([],1)
  | f+1,k :: ws,acc=>match kdOf k with
    | none=>([],1)
    | some kd=>if ws.length<kd.n then ([],1) else if (kdR kd ws).2=0 then readL f (ws.drop kd.n) (acc++[(kdR kd ws).1]) else ([],(kdR kd ws).2)
def foldR:Mv->List Mv->Mv × Nat
  | m,[]=>(m,0)
  | m,n :: l=>if (thenS m n).2=0 then foldR (thenS m n).1 l else (.zero,2)
def words (s:ByteArray):List ByteArray:=Lib.splitB ⟨#[32]⟩ 0 (Lib.countB s ⟨#[32]⟩) s
def listR (s:ByteArray):List Mv × Nat:=if s.size=0 then ([],0) else readL (words s).length (words s) []
def readR (s:ByteArray):Mv × Nat:=if (listR s).2=0 then foldR .one (listR s).1.reverse else (.zero,(listR s).2)
theorem rd_ok {l:List UInt8} (h:(rd l).c=0):chk (rd l).n (rd l).d=0:=by
  unfold rd at h ⊢
  cases hn:numTxt (ahead 47 l) with
  | none=>rw [hn] at h;cases h
  | some n=>
    rw [hn] at h;simp only at h ⊢
    cases hb:behind 47 l with
    | none=>
      rw [hb] at h;simp only [ck] at h ⊢
      split at h
      · rename_i hc;simp [hc]
      · rename_i hc;exact (hc h).elim
    | some b=>
      rw [hb] at h;simp only at h ⊢
      split at h
      · rename_i hd
        simp only [ck] at h ⊢
        split at h
        · rename_i hc;simp [hd,hc]
        · rename_i hc;exact (hc h).elim
      · cases h
theorem rdF_ok {a:ByteArray} (h:rdC a=0):(rdF a).ok:=rd_ok h
theorem shift_ok' {x y:Fr} (hx:x.ok) (hy:y.ok):(Mv.shift x y).ok:=⟨whole_ok (by decide),whole_ok (by decide),whole_ok (by decide),whole_ok (by decide),hx,hy⟩
theorem scale_ok' {x y:Fr} (hx:x.ok) (hy:y.ok):(Mv.scale x y).ok:=⟨hx,whole_ok (by decide),whole_ok (by decide),hy,whole_ok (by decide),whole_ok (by decide)⟩
theorem skew_ok' {x:Fr} (hx:x.ok):(Mv.skew x).ok:=⟨whole_ok (by decide),whole_ok (by decide),hx,whole_ok (by decide),whole_ok (by decide),whole_ok (by decide)⟩
theorem turn_ok' {c s:Int} (hc:c.natAbs<=1) (hs:s.natAbs<=1):(Mv.turn c s).ok:=⟨whole_ok (by omega),whole_ok (by omega),whole_ok (by omega),whole_ok (by omega),whole_ok (by decide),whole_ok (by decide)⟩
theorem rd2_ok {mk:Fr->Fr->Mv} (hm:∀ x y,x.ok->y.ok->(mk x y).ok) {a b:ByteArray} (h:(rd2 mk a b).2=0):(rd2 mk a b).1.ok:=by
  unfold rd2 at h ⊢
  by_cases h1:rdC a=0
  · rw [if_neg (by simp [h1])] at h ⊢
    by_cases h2:rdC b=0
    · rw [if_neg (by simp [h2])];exact hm _ _ (rdF_ok h1) (rdF_ok h2)
    · rw [if_pos h2] at h;exact (h2 h).elim
  · rw [if_pos h1] at h;exact (h1 h).elim
theorem kdR_ok {kd:Kd} {ws:List ByteArray} (h:(kdR kd ws).2=0):(kdR kd ws).1.ok:=by
  unfold kdR at h ⊢
  split
  · exact rd2_ok (fun _ _=>shift_ok') h
  · exact rd2_ok (fun _ _=>scale_ok') h
  · simp only [turnR] at h ⊢
    repeat' split
    all_goals first | exact turn_ok' (by decide) (by decide) | skip
    rename_i h1 h2 h3 h4
    simp [h1,h2,h3,h4] at h
  · simp only [rd1] at h ⊢
    split
    · rename_i h1;rw [if_pos h1] at h;exact (h1 h).elim
    · rename_i h1;exact skew_ok' (rdF_ok (by simpa using h1))
  · rename_i h1 h2 h3 h4
    exfalso
    revert h
    split
    · exact (h1 _ _ _ rfl rfl).elim
    · exact (h2 _ _ _ rfl rfl).elim
    · exact (h3 _ _ rfl rfl).elim
    · exact (h4 _ _ rfl rfl).elim
    · intro h;cases h
theorem readL_ok:∀ (f:Nat) (ws:List ByteArray) (acc:List Mv),(∀ m ∈ acc,m.ok)->(readL f ws acc).2=0->∀ m ∈ (readL f ws acc).1,m.ok
  | _,[],acc,h,_=>by simpa [readL] using h
  | 0,_ :: _,_,_,h=>by simp [readL] at h
  | f+1,k :: ws,acc,ha,h=>by
    unfold readL at h ⊢
    cases hk:kdOf k with
    | none=>rw [hk] at h;simp at h
    | some kd=>
      rw [hk] at h
      simp only at h ⊢
      by_cases hl:ws.length<kd.n
      · rw [if_pos hl] at h;simp at h
      · rw [if_neg hl] at h ⊢
        by_cases hc:(kdR kd ws).2=0
        · rw [if_pos hc] at h ⊢
          exact readL_ok f _ _ (fun m hm=>by rcases List.mem_append.1 hm with h | h;exact ha m h;simp at h;subst h;exact kdR_ok hc) h
        · rw [if_neg hc] at h;exact (hc h).elim
end
end Go.Proofs.YtgphclgmmocdhaaGreatDoor
