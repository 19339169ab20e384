/- Texts beneath a law of layer 1. -/
import Derived.Test.YtfgeaakhlcaibaaGreatDoorDc1
import Derived.Shelf.Strings.Builder1
import Derived.Shelf.Strings.Builder2
import Derived.Shelf.Strings.OnBuilder
import Derived.Shelf.Small.Bits
import Derived.Shelf.Small.Wraps
import Derived.Shelf.Strconv.Itoa0
import Derived.Shelf.Strconv.Itoa1
import Derived.Shelf.LaysM
import Derived.Shelf.Strconv.Itoa2
import Derived.Shelf.Strconv.Itoa3
import Derived.Shelf.Strings.Search1
import Derived.Shelf.Strings.Search2
import Derived.Shelf.Strings.Search3
import Derived.Shelf.Strings.Cut
import Derived.Shelf.Strings.Count
import Derived.Shelf.Strings.Shaped
import Derived.Shelf.Strings.Prefix
import Derived.Shelf.Strings.Split
import Derived.Shelf.Bits.Mul64
import Derived.Shelf.Unicode.DecodeSlow
import Derived.Ground.Names2Prog
import Derived.Shelf.Slices.SearchI
import Derived.Test.YtfgeaakhlcaibaaGreatDoorProg
import Derived.Laws.Bits64b
import Derived.Deep.DeepCutAuto
import Derived.Deep.CutBlock
import Derived.Shelf.Spec.TrailingZeros
import Derived.KernelRfl
set_option maxRecDepth 100000
set_option maxHeartbeats 16000000
namespace Go.Proofs
open Go.Shelf
def Tryz.lays133_ren : Go.Shelf.Ren := ⟨fun | 133 => 211 | 128 => 236 | n => n, fun | 51 => 187 | 3 => 3 | 4 => 4 | 46 => 192 | 5 => 5 | 9 => 9 | n => n, fun | n => n⟩
theorem Tryz.lays133 : Go.Proofs.Lays.n133 Tryz.prog Tryz.lays133_ren := {
 mixed := by kernel_rfl
 f128 := Tryz.func236.trans (congrArg some (by kernel_rfl))
 f133 := Tryz.func211.trans (congrArg some (by kernel_rfl))
 t3 := Tryz.underlying3
 a3 := Tryz.isAgg3
 z3 := Tryz.sizeOf3
 v3 := Tryz.zeroValue3
 t4 := Tryz.underlying4
 a4 := Tryz.isAgg4
 z4 := Tryz.sizeOf4
 v4 := Tryz.zeroValue4
 t5 := Tryz.underlying5
 a5 := Tryz.isAgg5
 z5 := Tryz.sizeOf5
 v5 := Tryz.zeroValue5
 t9 := Tryz.underlying9
 a9 := Tryz.isAgg9
 z9 := Tryz.sizeOf9
 v9 := Tryz.zeroValue9
 t46 := Tryz.underlying192
 a46 := Tryz.isAgg192
 z46 := Tryz.sizeOf192
 v46 := Tryz.zeroValue192
 t51 := Tryz.underlying187
 a51 := Tryz.isAgg187
 z51 := Tryz.sizeOf187
 v51 := Tryz.zeroValue187 }
theorem Tryz.bits_LeadingZeros32 (x : Int) (w : World) (h0 : 0 ≤ x) (h1 : x ≤ 4294967295) :
  Calls Tryz.prog 211 #[.int .u32 x] w fun e w' => e = .returned (.int .i64 (32 - (Lib.bitLen x.toNat : Int))) ∧ w' = w := Any.bits_LeadingZeros32 Tryz.lays133 x w h0 h1
def Tryz.lays134_ren : Go.Shelf.Ren := ⟨fun | 134 => 226 | 129 => 238 | n => n, fun | 53 => 157 | 3 => 3 | 4 => 4 | 46 => 192 | 5 => 5 | 9 => 9 | n => n, fun | n => n⟩
theorem Tryz.lays134 : Go.Proofs.Lays.n134 Tryz.prog Tryz.lays134_ren := {
 mixed := by kernel_rfl
 f129 := Tryz.func238.trans (congrArg some (by kernel_rfl))
 f134 := Tryz.func226.trans (congrArg some (by kernel_rfl))
 t3 := Tryz.underlying3
 a3 := Tryz.isAgg3
 z3 := Tryz.sizeOf3
 v3 := Tryz.zeroValue3
 t4 := Tryz.underlying4
 a4 := Tryz.isAgg4
 z4 := Tryz.sizeOf4
 v4 := Tryz.zeroValue4
 t5 := Tryz.underlying5
 a5 := Tryz.isAgg5
 z5 := Tryz.sizeOf5
 v5 := Tryz.zeroValue5
 t9 := Tryz.underlying9
 a9 := Tryz.isAgg9
 z9 := Tryz.sizeOf9
 v9 := Tryz.zeroValue9
 t46 := Tryz.underlying192
 a46 := Tryz.isAgg192
 z46 := Tryz.sizeOf192
 v46 := Tryz.zeroValue192
 t53 := Tryz.underlying157
 a53 := Tryz.isAgg157
 z53 := Tryz.sizeOf157
 v53 := Tryz.zeroValue157 }
theorem Tryz.bits_LeadingZeros64 (x : Int) (w : World) (h0 : 0 ≤ x) (h1 : x ≤ 18446744073709551615) :
  Calls Tryz.prog 226 #[.int .u64 x] w fun e w' => e = .returned (.int .i64 (64 - (Lib.bitLen x.toNat : Int))) ∧ w' = w := Any.bits_LeadingZeros64 Tryz.lays134 x w h0 h1
def Tryz.lays103_ren : Go.Shelf.Ren := ⟨fun | 103 => 85 | 210 => 154 | 206 => 197 | n => n, fun | 9 => 9 | 4 => 4 | 24 => 100 | 3 => 3 | n => n, fun | n => n⟩
theorem Tryz.lays103 : Go.Proofs.Lays.n103 Tryz.prog Tryz.lays103_ren := {
 mixed := by kernel_rfl
 f103 := Tryz.func85.trans (congrArg some (by kernel_rfl))
 f206 := Tryz.func197.trans (congrArg some (by kernel_rfl))
 f210 := Tryz.func154.trans (congrArg some (by kernel_rfl))
 t3 := Tryz.underlying3
 a3 := Tryz.isAgg3
 z3 := Tryz.sizeOf3
 v3 := Tryz.zeroValue3
 t4 := Tryz.underlying4
 a4 := Tryz.isAgg4
 z4 := Tryz.sizeOf4
 v4 := Tryz.zeroValue4
 t9 := Tryz.underlying9
 a9 := Tryz.isAgg9
 z9 := Tryz.sizeOf9
 v9 := Tryz.zeroValue9
 t24 := Tryz.underlying100
 a24 := Tryz.isAgg100
 z24 := Tryz.sizeOf100
 v24 := Tryz.zeroValue100 }
open Go.RowKit in
theorem Tryz.strings_CutPrefix (s p : ByteArray) (w : World) :
  Calls Tryz.prog 85 #[.string s, .string p] w fun e w' => e = .returned (.tuple #[.string ⟨(Lib.trimPrefix s.data.toList p.data.toList).toArray⟩, .bool (Lib.hasPrefix s.data.toList p.data.toList)]) ∧ w' = w := Any.strings_CutPrefix Tryz.lays103 s p w
def Tryz.lays217_ren : Go.Shelf.Ren := ⟨fun | 217 => 242 | 266 => 254 | n => n, fun | 9 => 9 | 5 => 5 | 3 => 3 | n => n, fun | n => n⟩
theorem Tryz.lays217 : Go.Proofs.Lays.n217 Tryz.prog Tryz.lays217_ren := {
 mixed := by kernel_rfl
 f217 := Tryz.func242.trans (congrArg some (by kernel_rfl))
 f266 := Tryz.func254.trans (congrArg some (by kernel_rfl))
 t3 := Tryz.underlying3
 a3 := Tryz.isAgg3
 z3 := Tryz.sizeOf3
 v3 := Tryz.zeroValue3
 t5 := Tryz.underlying5
 a5 := Tryz.isAgg5
 z5 := Tryz.sizeOf5
 v5 := Tryz.zeroValue5
 t9 := Tryz.underlying9
 a9 := Tryz.isAgg9
 z9 := Tryz.sizeOf9
 v9 := Tryz.zeroValue9 }
open Go.RowKit Go.Lib in
theorem Tryz.stringslite_IndexByte (s : ByteArray) (c : Int) (w : World) :
  Calls Tryz.prog 242 #[.string s, .int .u8 c] w fun e w' => e = .returned (.int .i64 (Lib.indexByte s.data.toList c.toNat.toUInt8)) ∧ w' = w := Any.stringslite_IndexByte Tryz.lays217 s c w
def Tryz.lays143_ren : Go.Shelf.Ren := ⟨fun | 143 => 252 | 219 => 224 | 217 => 242 | 225 => 243 | 224 => 244 | 267 => 245 | 266 => 254 | 314 => 255 | n => n, fun | 9 => 9 | 3 => 3 | 4 => 4 | 5 => 5 | 46 => 192 | 146 => 255 | 51 => 187 | n => n, fun | 1 => 3 | n => n⟩
theorem Tryz.lays143 : Go.Proofs.Lays.n143 Tryz.prog Tryz.lays143_ren := {
 mixed := by kernel_rfl
 f143 := Tryz.func252.trans (congrArg some (by kernel_rfl))
 f217 := Tryz.func242.trans (congrArg some (by kernel_rfl))
 f219 := Tryz.func224.trans (congrArg some (by kernel_rfl))
 f224 := Tryz.func244.trans (congrArg some (by kernel_rfl))
 f225 := Tryz.func243.trans (congrArg some (by kernel_rfl))
 f266 := Tryz.func254.trans (congrArg some (by kernel_rfl))
 f267 := Tryz.func245.trans (congrArg some (by kernel_rfl))
 f314 := Tryz.func255.trans (congrArg some (by kernel_rfl))
 t3 := Tryz.underlying3
 a3 := Tryz.isAgg3
 z3 := Tryz.sizeOf3
 v3 := Tryz.zeroValue3
 t4 := Tryz.underlying4
 a4 := Tryz.isAgg4
 z4 := Tryz.sizeOf4
 v4 := Tryz.zeroValue4
 t5 := Tryz.underlying5
 a5 := Tryz.isAgg5
 z5 := Tryz.sizeOf5
 v5 := Tryz.zeroValue5
 t9 := Tryz.underlying9
 a9 := Tryz.isAgg9
 z9 := Tryz.sizeOf9
 v9 := Tryz.zeroValue9
 t46 := Tryz.underlying192
 a46 := Tryz.isAgg192
 z46 := Tryz.sizeOf192
 v46 := Tryz.zeroValue192
 t51 := Tryz.underlying187
 a51 := Tryz.isAgg187
 z51 := Tryz.sizeOf187
 v51 := Tryz.zeroValue187
 t146 := Tryz.underlying255
 a146 := Tryz.isAgg255
 z146 := Tryz.sizeOf255
 v146 := Tryz.zeroValue255
 g1 := by kernel_rfl }
open Go.RowKit Go.Lib in
theorem Tryz.strings_Index_one (s : ByteArray) (c : UInt8) (w : World) :
  Calls Tryz.prog 252 #[.string s, .string ⟨#[c]⟩] w fun e w' => e = .returned (.int .i64 (Lib.indexByte s.data.toList c)) ∧ w' = w := Any.strings_Index_one Tryz.lays143 s c w
open Go.RowKit Go.Lib in
theorem Tryz.strings_Index (s sub : ByteArray) (m : Int) (w : World) (hs : s.size < 4294967281) (hm : w.cell? ⟨3, 0, none⟩ = some (.int .i64 m)) :
  Calls Tryz.prog 252 #[.string s, .string sub] w fun e w' => e = .returned (.int .i64 (Lib.index s.data.toList sub.data.toList)) ∧ w' = w := Any.strings_Index Tryz.lays143 s sub m w hs hm
def Tryz.lays138_ren : Go.Shelf.Ren := ⟨fun | 138 => 251 | 195 => 256 | 218 => 258 | 143 => 252 | 219 => 224 | 217 => 242 | 225 => 243 | 224 => 244 | 267 => 245 | 266 => 254 | 314 => 255 | n => n, fun | 9 => 9 | 3 => 3 | 4 => 4 | 5 => 5 | 0 => 0 | 46 => 192 | 146 => 255 | 51 => 187 | n => n, fun | 1 => 3 | n => n⟩
theorem Tryz.lays138 : Go.Proofs.Lays.n138 Tryz.prog Tryz.lays138_ren := {
 mixed := by kernel_rfl
 f138 := Tryz.func251.trans (congrArg some (by kernel_rfl))
 f143 := Tryz.func252.trans (congrArg some (by kernel_rfl))
 f195 := Tryz.func256.trans (congrArg some (by kernel_rfl))
 f217 := Tryz.func242.trans (congrArg some (by kernel_rfl))
 f218 := Tryz.func258.trans (congrArg some (by kernel_rfl))
 f219 := Tryz.func224.trans (congrArg some (by kernel_rfl))
 f224 := Tryz.func244.trans (congrArg some (by kernel_rfl))
 f225 := Tryz.func243.trans (congrArg some (by kernel_rfl))
 f266 := Tryz.func254.trans (congrArg some (by kernel_rfl))
 f267 := Tryz.func245.trans (congrArg some (by kernel_rfl))
 f314 := Tryz.func255.trans (congrArg some (by kernel_rfl))
 t0 := Tryz.underlying0
 a0 := Tryz.isAgg0
 z0 := Tryz.sizeOf0
 v0 := Tryz.zeroValue0
 t3 := Tryz.underlying3
 a3 := Tryz.isAgg3
 z3 := Tryz.sizeOf3
 v3 := Tryz.zeroValue3
 t4 := Tryz.underlying4
 a4 := Tryz.isAgg4
 z4 := Tryz.sizeOf4
 v4 := Tryz.zeroValue4
 t5 := Tryz.underlying5
 a5 := Tryz.isAgg5
 z5 := Tryz.sizeOf5
 v5 := Tryz.zeroValue5
 t9 := Tryz.underlying9
 a9 := Tryz.isAgg9
 z9 := Tryz.sizeOf9
 v9 := Tryz.zeroValue9
 t46 := Tryz.underlying192
 a46 := Tryz.isAgg192
 z46 := Tryz.sizeOf192
 v46 := Tryz.zeroValue192
 t51 := Tryz.underlying187
 a51 := Tryz.isAgg187
 z51 := Tryz.sizeOf187
 v51 := Tryz.zeroValue187
 t146 := Tryz.underlying255
 a146 := Tryz.isAgg255
 z146 := Tryz.sizeOf255
 v146 := Tryz.zeroValue255
 g1 := by kernel_rfl }
open Go.RowKit Go.Lib in
theorem Tryz.strings_Count_one (s : ByteArray) (c : UInt8) (w : World) :
  Calls Tryz.prog 251 #[.string s, .string ⟨#[c]⟩] w fun e w' => e = .returned (.int .i64 (Lib.countByte s.data.toList c)) ∧ w' = w := Any.strings_Count_one Tryz.lays138 s c w
open Go.RowKit Go.Lib in
theorem Tryz.strings_Count (s sub : ByteArray) (m : Int) (w : World) (hs : s.size < 4294967281) (hm : w.cell? ⟨3, 0, none⟩ = some (.int .i64 m)) (h2 : 2 ≤ sub.size) :
  Calls Tryz.prog 251 #[.string s, .string sub] w fun e w' => e = .returned (.int .i64 (Lib.countB s sub)) ∧ w' = w := Any.strings_Count Tryz.lays138 s sub m w hs hm h2
def Tryz.lays99_ren : Go.Shelf.Ren := ⟨fun | 99 => 171 | 206 => 197 | n => n, fun | 9 => 9 | 4 => 4 | 3 => 3 | n => n, fun | n => n⟩
theorem Tryz.lays99 : Go.Proofs.Lays.n99 Tryz.prog Tryz.lays99_ren := {
 mixed := by kernel_rfl
 f99 := Tryz.func171.trans (congrArg some (by kernel_rfl))
 f206 := Tryz.func197.trans (congrArg some (by kernel_rfl))
 t3 := Tryz.underlying3
 a3 := Tryz.isAgg3
 z3 := Tryz.sizeOf3
 v3 := Tryz.zeroValue3
 t4 := Tryz.underlying4
 a4 := Tryz.isAgg4
 z4 := Tryz.sizeOf4
 v4 := Tryz.zeroValue4
 t9 := Tryz.underlying9
 a9 := Tryz.isAgg9
 z9 := Tryz.sizeOf9
 v9 := Tryz.zeroValue9 }
open Go.RowKit Go.Lib in
theorem Tryz.strings_HasPrefix (s p : ByteArray) (w : World) :
  Calls Tryz.prog 171 #[.string s, .string p] w fun e w' => e = .returned (.bool (Lib.hasPrefix s.data.toList p.data.toList)) ∧ w' = w := Any.strings_HasPrefix Tryz.lays99 s p w
open Go.RowKit Go.Lib in
theorem Tryz.strings_Count_any (s sep : ByteArray) (m : Int) (w : World) (hs : s.size < 4294967281) (hm : w.cell? ⟨3, 0, none⟩ = some (.int .i64 m)) (h1 : 1 ≤ sep.size) :
  Calls Tryz.prog 251 #[.string s, .string sep] w fun e w' => e = .returned (.int .i64 (Lib.countB s sep)) ∧ w' = w := Any.strings_Count_any Tryz.lays138 s sep m w hs hm h1
def Tryz.lays221_ren : Go.Shelf.Ren := ⟨fun | 221 => 234 | 268 => 250 | 138 => 251 | 143 => 252 | 195 => 256 | 197 => 257 | 218 => 258 | 219 => 224 | 260 => 259 | 217 => 242 | 225 => 243 | 224 => 244 | 267 => 245 | 266 => 254 | 314 => 255 | n => n, fun | 9 => 9 | 3 => 3 | 31 => 175 | 4 => 4 | 0 => 0 | 105 => 258 | 21 => 21 | 5 => 5 | 46 => 192 | 119 => 261 | 139 => 264 | 138 => 263 | 146 => 255 | 51 => 187 | n => n, fun | 1 => 3 | 3 => 7 | 4 => 8 | n => n⟩
theorem Tryz.lays221 : Go.Proofs.Lays.n221 Tryz.prog Tryz.lays221_ren := {
 mixed := by kernel_rfl
 f138 := Tryz.func251.trans (congrArg some (by kernel_rfl))
 f143 := Tryz.func252.trans (congrArg some (by kernel_rfl))
 f195 := Tryz.func256.trans (congrArg some (by kernel_rfl))
 f197 := Tryz.func257.trans (congrArg some (by kernel_rfl))
 f217 := Tryz.func242.trans (congrArg some (by kernel_rfl))
 f218 := Tryz.func258.trans (congrArg some (by kernel_rfl))
 f219 := Tryz.func224.trans (congrArg some (by kernel_rfl))
 f221 := Tryz.func234.trans (congrArg some (by kernel_rfl))
 f224 := Tryz.func244.trans (congrArg some (by kernel_rfl))
 f225 := Tryz.func243.trans (congrArg some (by kernel_rfl))
 f260 := Tryz.func259.trans (congrArg some (by kernel_rfl))
 f266 := Tryz.func254.trans (congrArg some (by kernel_rfl))
 f267 := Tryz.func245.trans (congrArg some (by kernel_rfl))
 f268 := Tryz.func250.trans (congrArg some (by kernel_rfl))
 f314 := Tryz.func255.trans (congrArg some (by kernel_rfl))
 t0 := Tryz.underlying0
 a0 := Tryz.isAgg0
 z0 := Tryz.sizeOf0
 v0 := Tryz.zeroValue0
 t3 := Tryz.underlying3
 a3 := Tryz.isAgg3
 z3 := Tryz.sizeOf3
 v3 := Tryz.zeroValue3
 t4 := Tryz.underlying4
 a4 := Tryz.isAgg4
 z4 := Tryz.sizeOf4
 v4 := Tryz.zeroValue4
 t5 := Tryz.underlying5
 a5 := Tryz.isAgg5
 z5 := Tryz.sizeOf5
 v5 := Tryz.zeroValue5
 t9 := Tryz.underlying9
 a9 := Tryz.isAgg9
 z9 := Tryz.sizeOf9
 v9 := Tryz.zeroValue9
 t21 := Tryz.underlying21
 a21 := Tryz.isAgg21
 z21 := Tryz.sizeOf21
 v21 := Tryz.zeroValue21
 t31 := Tryz.underlying175
 a31 := Tryz.isAgg175
 z31 := Tryz.sizeOf175
 v31 := Tryz.zeroValue175
 t46 := Tryz.underlying192
 a46 := Tryz.isAgg192
 z46 := Tryz.sizeOf192
 v46 := Tryz.zeroValue192
 t51 := Tryz.underlying187
 a51 := Tryz.isAgg187
 z51 := Tryz.sizeOf187
 v51 := Tryz.zeroValue187
 t105 := Tryz.underlying258
 a105 := Tryz.isAgg258
 z105 := Tryz.sizeOf258
 v105 := Tryz.zeroValue258
 t119 := Tryz.underlying261
 a119 := Tryz.isAgg261
 z119 := Tryz.sizeOf261
 t138 := Tryz.underlying263
 a138 := Tryz.isAgg263
 z138 := Tryz.sizeOf263
 v138 := Tryz.zeroValue263
 t139 := Tryz.underlying264
 a139 := Tryz.isAgg264
 z139 := Tryz.sizeOf264
 v139 := Tryz.zeroValue264
 t146 := Tryz.underlying255
 a146 := Tryz.isAgg255
 z146 := Tryz.sizeOf255
 v146 := Tryz.zeroValue255
 g1 := by kernel_rfl
 g3 := by kernel_rfl
 g4 := by kernel_rfl }
open Go.RowKit Go.Lib in
theorem Tryz.strings_genSplit (s sep : ByteArray) (sv : Nat) (n : Int) (N : Nat) (m : Int) (w : World) (hs : s.size < 4294967281) (hm : w.cell? ⟨3, 0, none⟩ = some (.int .i64 m)) (h1 : 1 ≤ sep.size) (hsv : sv ≤ sep.size) (hn0 : n ≠ 0) (hn63 : n ≤ 9223372036854775807) (hN : (N : Int) = min (if n < 0 then (Lib.countB s sep : Int) + 1 else n) ((s.size : Int) + 1)) :
  Calls Tryz.prog 234 #[.string s, .string sep, .int .i64 sv, .int .i64 n] w fun e w' =>
   e = .returned (.slice (some ⟨w.heap.size, 0, none⟩) (Lib.splitB sep sv (N - 1) s).length N) ∧ w' = w.alloc (.cells (Lib.cellsOf (Lib.splitB sep sv (N - 1) s) N) 9) := Any.strings_genSplit Tryz.lays221 (by kernel_rfl) s sep sv n N m w hs hm h1 hsv hn0 hn63 hN
end Go.Proofs
namespace Go.Proofs.YtfgeaakhlcaibaaGreatDoor
open Go.RowKit
open Go.Proofs.Tryz
open Go renaming World → Wq
variable {B a b n s V k c d z v cap:Nat} {U us q:List Nat} {w:Wq} {x:Int} {A:Option Addr}

theorem bvz {k:IntKind} (h:a=c) (h':b=d):Ending.returned (.tuple #[.int k (a:Int),.int k (b:Int)]) = .returned (.tuple #[.int k (c:Int),.int k (d:Int)]):=by rw[h,h']

theorem atu (s:Nat) (hs:s≤64):2^s*2^(64-s)=eu:=by
 rw[← Hq,show s+(64-s)=64 by omega];rfl
theorem ced (hz:z<2^s):(a*2^s) ||| z=a*2^s+z:=by
 rw[og a,← Nat.two_pow_add_eq_or_of_lt hz]

theorem blo {hi lo:Nat} (hs:s<64) (hlo:lo<eu):(hi*2^s+lo/2^(64-s))*eu+lo*2^s%eu=(hi*eu+lo)*2^s∧lo/2^(64-s)<2^s:=by
 have hST:=atu s om
 have hS:0<2^s:=wz om
 have hT:0<2^(64-s):=wz om
 generalize 2^s=S at *
 generalize 2^(64-s)=T at *
 constructor
 ·
  have h1:lo*S%eu=lo%T*S:=by rw[← hST,og S,ajq]
  have h2:=Fv lo T;rw[h1];generalize lo/T=a at *;generalize lo%T=b at *;rw[← h2,← hST];simp only[xm,uo,og,Nt,uk];omega
 ·
  rw[Fu hT,hST];exact hlo

theorem bcr {p:Nat} (h:n+d=p+v) (hv:v<eu):(((n%eu+d)%eu:Nat):Int)-((p%eu:Nat):Int)=(v:Int)∨(((n%eu+d)%eu:Nat):Int)-((p%eu:Nat):Int)=(v:Int)-18446744073709551616:=by
 rw[ja]at *;omega
theorem Tc (h:x=(a:Int)):IntKind.u64.wrap x=((a%eu:Nat):Int):=by
 rw[Ct,h,ja];omega
theorem Tx (hv:v<eu) (h:x=(v:Int)∨x=(v:Int)-18446744073709551616):IntKind.u64.wrap x=(v:Int):=by
 rw[Ct];rw[ja]at hv;omega

theorem bcv (ha:a<B) (hb:b<B):a*b≤(B-1)*(B-1):=abn om om
theorem adj (h:c=a*b) (hc:c<eu):IntKind.u64.wrap ((a:Int)*(b:Int))=((c:Nat):Int):=by
 rw[Ct,h,← aaf];rw[ja,h]at hc;omega
theorem adi (h:c=a+b) (hc:c<eu):IntKind.u64.wrap ((a:Int)+(b:Int))=((c:Nat):Int):=by
 rw[Ct,h];rw[ja]at hc;omega
theorem ass (h:b≤a) (ha:a<eu):IntKind.u64.wrap ((a:Int)-(b:Int))=((a-b:Nat):Int):=by
 rw[Ct];rw[ja]at ha;omega

theorem aft : ∀ (f x:Nat),x<2^f→x<2^Lib.bitLenAux f x∧(x≠0→2^(Lib.bitLenAux f x-1)≤x∧0<Lib.bitLenAux f x):=by
 intro f
 induction f with
 | zero=>intro x h;simp at h;subst h;exact⟨by simp[Lib.bitLenAux],fun h=>absurd rfl h⟩
 | succ f ih =>
  intro x h;unfold Lib.bitLenAux
  by_cases h0:x=0
  ·
   rw[if_pos h0];subst h0;exact⟨by simp,fun h=>absurd rfl h⟩
  ·
   rw[if_neg h0];have hx2:x/2<2^f:=by rw[Be]at h;omega
   obtain⟨h1,h2⟩:=ih (x/2) hx2;refine⟨?_,fun _=>⟨?_,by omega⟩⟩
   ·
    rw[Hq,Rh];omega
   ·
    rw[asc]
    by_cases h3:x/2=0
    ·
     have:Lib.bitLenAux f (x/2)=0:=by
      rw[h3];cases f<;>simp[Lib.bitLenAux]
     rw[this];simp;omega
    ·
     obtain⟨h4,h5⟩:=h2 h3;have:Lib.bitLenAux f (x/2)=(Lib.bitLenAux f (x/2)-1)+1:=by omega
     rw[this,Be];omega

theorem bja (y:Nat) (hy:y<eu) (h0:0<y) (w:Wq) : ∃ s:Nat,s<64∧9223372036854775808≤y*2^s∧y*2^s<eu ∧
  ∀ w:Wq,Calls prog 226 #[.int .u64 ((y:Nat):Int)] w fun e w'=>e = .returned (.int .i64 ((s:Nat):Int))∧w'=w:=by
 obtain⟨h1,h2⟩:=aft 64 y hy
 have h3:=(h2 om).1
 change y<2^Lib.bitLen y at h1
 change 2^(Lib.bitLen y-1)≤y at h3
 have hle:=Lib.bitLen_le y 64 om (by rw[ja]at hy;omega)
 have hpos:0<Lib.bitLen y:=by
  apply aag
  intro h;rw[show Lib.bitLen y=0 by omega]at h1;simp at h1;omega
 have e1:2^(Lib.bitLen y-1)*2^(64-Lib.bitLen y)=9223372036854775808:=by
  rw[← Hq,show Lib.bitLen y-1+(64-Lib.bitLen y)=63 by omega]
 have e2:2^Lib.bitLen y*2^(64-Lib.bitLen y)=eu:=by
  rw[← Hq,show Lib.bitLen y+(64-Lib.bitLen y)=64 by omega];rfl
 refine⟨64-Lib.bitLen y,by omega,?_,?_,fun w => ?_⟩
 ·
  rw[← e1];exact Dc _ h3
 ·
  rw[← e2];exact arw h1 (wz om)
 ·
  refine(bits_LeadingZeros64 (y:Int) w om (by rw[ja]at hy;omega)).mono ?_
  rintro e w' ⟨rfl,rfl⟩;refine⟨Ej ?_,rfl⟩
  rw[agm];omega

theorem bfq (Y:Nat) (hY:Y<eu):Go.bits .and .u64 (Y:Int) 4294967295=((Y%4294967296:Nat):Int):=by
 have h:=bits_and_u64_nat Y 4294967295 hY om
 rw[Nat.and_two_pow_sub_one_eq_mod Y 32]at h
 exact h

theorem aza (hi lo y:Nat) (hy:y<eu) (hlo:lo<eu) (hh:hi<y) (w:Wq) :
  Calls prog 246 #[.int .u64 ((hi:Nat):Int),.int .u64 ((lo:Nat):Int),.int .u64 ((y:Nat):Int)] w fun e w'=>e = .returned (.tuple #[.int .u64 (((hi*eu+lo)/y:Nat):Int),.int .u64 (((hi*eu+lo)%y:Nat):Int)]) ∧ ∃ k,w'=w.drewN k:=by
 by_cases h0:hi=0
 ·
  subst h0;have b1:((y:Int)==0)=false:=by simp;omega
  have b2 : ¬ ((y:Int)≤0):=by omega
  go_enter func246,ntmps246
  go_wp2_with fail
  go_region
  go_wp2_with fail
  go_ret2
  refine⟨?_,1,rfl⟩
  have e1:IntKind.u64.wrap ((lo:Int)/(y:Int))=((lo/y:Nat):Int):=by
   have:lo/y≤lo:=Yg _ _;rw[ja]at hlo;rw[Ct,← Int.natCast_ediv];generalize lo/y=z at *;omega
  simp[e1]
 ·
  have b1:((y:Int)==0)=false:=by simp;omega
  have b3:((hi:Int)==0)=false:=by simp;omega
  have b2 : ¬ ((y:Int)≤(hi:Int)):=by omega
  obtain⟨s,hs,hY1,hY2,hlz⟩:=bja y hy om w;obtain⟨Y,hYY⟩ : ∃ Y,Y=y*2^s:=⟨_,rfl⟩
  rw[← hYY]at hY1 hY2;obtain⟨y1,hy1⟩ : ∃ t,t=Y/4294967296:=⟨_,rfl⟩
  obtain⟨y0,hy0⟩ : ∃ t,t=Y%4294967296:=⟨_,rfl⟩
  obtain⟨p1,hp1⟩ : ∃ t,t=hi*2^s:=⟨_,rfl⟩
  obtain⟨p2,hp2⟩ : ∃ t,t=lo/2^(64-s):=⟨_,rfl⟩
  obtain⟨u,hu⟩ : ∃ t,t=p1+p2:=⟨_,rfl⟩
  obtain⟨un,hun⟩ : ∃ t,t=lo*2^s%eu:=⟨_,rfl⟩
  obtain⟨d1,hd1⟩ : ∃ t,t=un/4294967296:=⟨_,rfl⟩
  obtain⟨d0,hd0⟩ : ∃ t,t=un%4294967296:=⟨_,rfl⟩
  have e1:IntKind.u64.wrap ((y:Int)*2^s)=(Y:Int):=Tx hY2 (.inl (by rw[hYY];simp));have hsh:=blo (hi:=hi) hs hlo;have crt:p1+2^s≤Y:=by
   rw[hp1,hYY,← Nat.succ_mul];exact Dc _ hh
  have cit:p2<2^s:=by rw[hp2];exact hsh.2
  have huY:u<Y:=by omega
  have awn:un<eu:=by rw[hun];exact Bf _ (by rw[ja];omega)
  have hY3:Y=y1*dz+y0:=by rw[hy1,hy0,fu];omega
  have e2:(Y:Int)/4294967296=(y1:Int):=by rw[hy1];simp
  have e3:Go.bits .and .u64 (Y:Int) 4294967295=(y0:Int):=by rw[bfq Y hY2,hy0]
  have e4:IntKind.u64.wrap ((hi:Int)*2^s)=(p1:Int):=Tx om (.inl (by rw[hp1];simp));have e5:(lo:Int)/2^(64-s)=(p2:Int):=by rw[hp2];simp
  have e6:Go.bits .or .u64 (p1:Int) (p2:Int)=(u:Int):=by rw[bits_or_u64_nat p1 p2 (show p1<eu by omega) (show p2<eu by omega),hu];rw[hp1,ced cit]
  have e7:IntKind.u64.wrap ((lo:Int)*2^s)=(un:Int):=by rw[hun];exact Tc mi
  have e8:(un:Int)/4294967296=(d1:Int):=by rw[hd1];simp
  have e9:Go.bits .and .u64 (un:Int) 4294967295=(d0:Int):=by rw[bfq un awn,hd0]
  obtain⟨q,hq⟩ : ∃ t,t=u/y1:=⟨_,rfl⟩
  obtain⟨t1,ht1⟩ : ∃ t,t=q*y1:=⟨_,rfl⟩
  obtain⟨r,hr⟩ : ∃ t,t=u-t1:=⟨_,rfl⟩
  have crr:q≤u:=by rw[hq];exact Yg _ _
  have ciq:t1≤u:=by rw[ht1,hq];exact Uz _ _
  have aht:0<y1:=by rw[hy1];omega
  have hr1:r<y1:=by rw[hr,ht1,hq,og,← Nat.mod_eq_sub_mul_div];exact Bf _ aht
  have e10:IntKind.u64.wrap ((u:Int)/(y1:Int))=(q:Int):=Tx om (.inl (by rw[hq];simp));have e11:IntKind.u64.wrap ((q:Int)*(y1:Int))=(t1:Int):=adj ht1 om;have e12:IntKind.u64.wrap ((u:Int)-(t1:Int))=(r:Int):=by rw[hr];exact ass ciq om
  have GY1:Hid (y1<dz):=by show y1<dz;rw[ja]at hY2;rw[fu];omega
  have Sz:Hid (0<y1*dz+y0):=by show 0<y1*dz+y0;omega
  have Gy0:Hid (y0<dz):=by show y0<dz;rw[fu];omega
  have GuY:Hid (u<y1*dz+y0):=by show u<y1*dz+y0;omega
  have Gd1:Hid (d1<dz):=by show d1<dz;rw[ja]at awn;rw[fu];omega
  have Gd0:Hid (d0<dz):=by show d0<dz;rw[fu];omega
  have GST:Hid (Ch dz y1 y0 u d1 q r):=by rw[hr,ht1,hq];exact Ch.start aht (aa Gd1)
  have GqB:Hid (q<eu):=show q<eu by omega
  have GrB:Hid (r<dz):=show r<dz by have:=aa GY1;omega
  have GY3:=bg hY3;have GSH:=ae hsh;have GuB:Hid (u<Y):=huY;have cyu:1≤(y1:Int):=by rw[hy1];omega
  have HLZ:=ae hlz;have H1:=bg hYY;have H2:=bg hy1;have H3:=bg hy0;have H4:=bg hp1;have H5:=bg hp2;have H6:=bg hu;have H7:=bg hun;have H8:=bg hd1;have H9:=bg hd0;have H10:=bg hq;have H11:=bg ht1;have H12:=bg hr;have G1:=ae hY1;have G2:=ae hY2;clear hlz hYY hy1 hy0 hp1 hp2 hu hun hd1 hd0 hY1 hY2 hq ht1 hr hsh crt cit huY awn hY3 crr ciq hr1 aht
  go_enter func246,ntmps246
  go_wp2_with fail;refine((aa HLZ) _).mono ?_
  rintro e w' ⟨rfl,rfl⟩
  go_upto_block 0 with(fail)
  go_cut [15] (fun qv wx=>w'=wx∧qv = .int .u64 (((u*dz+d1)/(y1*dz+y0):Nat):Int))
  case first =>
   go_wp2_with fail
   go_loop [15,16] (fun qv rv => ∃ q r:Nat,qv = .int .u64 ((q:Nat):Int)∧rv = .int .u64 ((r:Nat):Int)∧Hid (q<eu)∧Hid (r<dz)∧Hid (Ch dz y1 y0 u d1 q r)) (fun qv _=>(intOf qv).toNat)
   case atStart=>exact⟨q,r,rfl,rfl,GqB,GrB,GST⟩
   case round =>
    obtain⟨q2,r2,rfl,rfl,hq2,hr2,HI⟩:=hrel;obtain⟨q3,hq3⟩ : ∃ t,t=q2-1:=⟨_,rfl⟩
    obtain⟨r3,hr3⟩ : ∃ t,t=r2+y1:=⟨_,rfl⟩
    have f1:1≤q2→IntKind.u64.wrap ((q2:Int)-1)=(q3:Int):=fun h=>by
     have:=hq2.out;rw[ja]at this;rw[Ct];omega
    have f2:IntKind.u64.wrap ((r2:Int)+(y1:Int))=(r3:Int):=adi hr3 (by have h1:=hr2.out;have h2:=aa GY1;rw[fu]at h1 h2;rw[ja];omega);have hstep:(dz≤q2∨dz*r2+d1<q2*y0)→1≤q2∧Ch dz y1 y0 u d1 q3 r3:=fun h=>by
     rw[hq3,hr3];exact HI.out.step (aa Sz) (aa GuY) (aa Gd1) h
    have bbd:=ae hstep
    by_cases hb:dz≤q2
    ·
     obtain⟨hq1,Jf⟩:=hstep (.inl hb);have hbd:decide ((4294967296:Int)≤(q2:Int))=true:=by rw[fu]at hb;simp;omega
     have Rw:=f1 hq1;have HQ1:=ae hq1;have aiy:=ae Jf;have HQ3:=ae hq3
     by_cases hr:dz≤r3
     ·
      have hrd:decide ((4294967296:Int)≤(r3:Int))=true:=by rw[fu]at hr;simp;omega
      have hfin:=Jf.stop (aa Sz) (aa Gy0) (aa GuY) hr;have Nq:=bg hfin;clear hb hr hq3 hr3 f1 hstep hq1 Jf hfin HI;go_wp2_with fail
      go_meet
      exact⟨rfl,Nq.out ▸ rfl⟩
     ·
      have hrd:decide ((4294967296:Int)≤(r3:Int))=false:=by rw[fu]at hr;simp;omega
      have HR:=ae (show r3<dz by omega);clear hb hr hq3 hr3 f1 hstep hq1 Jf HI;go_wp2_with fail
      go_round
      case rel=>exact⟨q3,r3,rfl,rfl,by rw[HQ3.out];exact Dm (Yd _ _) hq2.out,HR,aiy⟩
      case measure=>have h1:=HQ1.out;have h2:=HQ3.out;simp[intOf];omega
    ·
     have hbd:decide ((4294967296:Int)≤(q2:Int))=false:=by rw[fu]at hb;simp;omega
     obtain⟨pp,Il⟩ : ∃ t,t=q2*y0:=⟨_,rfl⟩
     obtain⟨m2,hm2⟩ : ∃ t,t=dz*r2:=⟨_,rfl⟩
     obtain⟨m3,hm3⟩ : ∃ t,t=m2+d1:=⟨_,rfl⟩
     have g0:pp<eu:=by
      have h1:q2*y0≤(dz-1)*(dz-1):=bcv (by omega) (aa Gy0);rw[Il];rw[fu]at h1;rw[ja];omega
     have g1:IntKind.u64.wrap ((q2:Int)*(y0:Int))=(pp:Int):=adj Il g0;have g2:IntKind.u64.wrap (4294967296*(r2:Int))=(m2:Int):=by
      have h1:=hr2.out;rw[fu]at h1 hm2;rw[Ct,hm2];omega
     have g3:IntKind.u64.wrap ((m2:Int)+(d1:Int))=(m3:Int):=adi hm3 (by have h1:=hr2.out;have h2:=aa Gd1;rw[fu]at h1 h2 hm2;rw[ja];omega)
     by_cases ht:m3<pp
     ·
      have htd:decide ((m3:Int)<(pp:Int))=true:=by simp;omega
      have bxr:decide (m3<pp)=true:=by simp;omega
      obtain⟨hq1,Jf⟩:=hstep (.inr om);have Rw:=f1 hq1;have HQ1:=ae hq1;have aiy:=ae Jf;have HQ3:=ae hq3
      by_cases hr:dz≤r3
      ·
       have hrd:decide ((4294967296:Int)≤(r3:Int))=true:=by rw[fu]at hr;simp;omega
       have hfin:=Jf.stop (aa Sz) (aa Gy0) (aa GuY) hr;have Nq:=bg hfin;clear hb hr hq3 hr3 f1 hstep hq1 Jf hfin HI Il hm2 hm3 g0 ht;go_wp2_with fail
       go_meet
       exact⟨rfl,Nq.out ▸ rfl⟩
      ·
       have hrd:decide ((4294967296:Int)≤(r3:Int))=false:=by rw[fu]at hr;simp;omega
       have HR:=ae (show r3<dz by omega);clear hb hr hq3 hr3 f1 hstep hq1 Jf HI Il hm2 hm3 g0 ht;go_wp2_with fail
       go_round
       case rel=>exact⟨q3,r3,rfl,rfl,by rw[HQ3.out];exact Dm (Yd _ _) hq2.out,HR,aiy⟩
       case measure=>have h1:=HQ1.out;have h2:=HQ3.out;simp[intOf];omega
     ·
      have htd:decide ((m3:Int)<(pp:Int))=false:=by simp;omega
      have bxr:decide (m3<pp)=false:=by simp;omega
      have hfin:=HI.out.done (aa Sz) om;have Nq:=bg hfin;clear hb hq3 hr3 f1 hstep hfin HI Il hm2 hm3 g0 ht;go_wp2_with fail
      go_meet
      exact⟨rfl,Nq.out ▸ rfl⟩
  case rest =>
   obtain⟨rfl,rfl⟩:=hcut;obtain⟨q1,hq1⟩ : ∃ t,t=(u*dz+d1)/(y1*dz+y0):=⟨_,rfl⟩
   obtain⟨v,hv⟩ : ∃ t,t=(u*dz+d1)%(y1*dz+y0):=⟨_,rfl⟩
   rw[← hq1];have Jb:u*dz+d1=q1*Y+v:=by
    rw[hq1,hv,GY3.out,og _ (y1*dz+y0)];exact(Fv _ _).symm
   have hvY:v<Y:=by rw[hv,GY3.out];exact Bf _ (aa Sz)
   have hvB:v<eu:=Iz hvY (aa G2);have bmy:q1<dz:=by rw[hq1];exact amd (aa Sz) (aa GuY) (aa Gd1)
   have k1:IntKind.u64.wrap ((u:Int)*4294967296)=((u*dz%eu:Nat):Int):=Tc (by rw[fu];simp);have k2:IntKind.u64.wrap (((u*dz%eu:Nat):Int)+(d1:Int))=(((u*dz%eu+d1)%eu:Nat):Int):=Tc mi;have k3:IntKind.u64.wrap ((q1:Int)*(Y:Int))=((q1*Y%eu:Nat):Int):=Tc mi;have k4:=Tx hvB (bcr Jb hvB);obtain⟨a1,ha1⟩ : ∃ t,t=u*dz%eu:=⟨_,rfl⟩
   rw[← ha1]at k1 k2 k4;obtain⟨a2,ha2⟩ : ∃ t,t=(a1+d1)%eu:=⟨_,rfl⟩
   rw[← ha2]at k2 k4;obtain⟨a3,ha3⟩ : ∃ t,t=q1*Y%eu:=⟨_,rfl⟩
   rw[← ha3]at k3 k4;obtain⟨q',hq'⟩ : ∃ t,t=v/y1:=⟨_,rfl⟩
   obtain⟨t',ht'⟩ : ∃ t,t=q'*y1:=⟨_,rfl⟩
   obtain⟨r',hr'⟩ : ∃ t,t=v-t':=⟨_,rfl⟩
   have hqv:q'≤v:=by rw[hq'];exact Yg _ _
   have htv:t'≤v:=by rw[ht',hq'];exact Uz _ _
   have aht:0<y1:=by omega
   have hrv:r'<y1:=by rw[hr',ht',hq',og,← Nat.mod_eq_sub_mul_div];exact Bf _ aht
   have k5:IntKind.u64.wrap ((v:Int)/(y1:Int))=(q':Int):=Tx om (.inl (by rw[hq'];simp));have k6:IntKind.u64.wrap ((q':Int)*(y1:Int))=(t':Int):=adj ht' (by omega);have k7:IntKind.u64.wrap ((v:Int)-(t':Int))=(r':Int):=by rw[hr'];exact ass htv hvB
   have GvY:Hid (v<y1*dz+y0):=by show v<y1*dz+y0;rw[← GY3.out];exact hvY
   have cts:Hid (Ch dz y1 y0 v d0 q' r'):=by rw[hr',ht',hq'];exact Ch.start aht (aa Gd0)
   have ctr:Hid (q'<eu):=show q'<eu by omega
   have ctq:Hid (r'<dz):=show r'<dz by have:=aa GY1;omega
   have K1:=bg hq1;have K2:=bg hv;have K3:=ae hvB;have K4:=ae bmy;clear hq1 hv Jb hvY hvB bmy ha1 ha2 ha3 hq' ht' hr' hqv htv aht hrv
   go_upto_block 2 with(fail)
   go_cut [18] (fun qv wx=>w'=wx∧qv = .int .u64 (((v*dz+d0)/(y1*dz+y0):Nat):Int))
   case first =>
    go_wp2_with fail
    go_loop [18,16] (fun qv rv => ∃ q r:Nat,qv = .int .u64 ((q:Nat):Int)∧rv = .int .u64 ((r:Nat):Int)∧Hid (q<eu)∧Hid (r<dz)∧Hid (Ch dz y1 y0 v d0 q r)) (fun qv _=>(intOf qv).toNat)
    case atStart=>exact⟨q',r',rfl,rfl,ctr,ctq,cts⟩
    case round =>
     obtain⟨q2,r2,rfl,rfl,hq2,hr2,HI⟩:=hrel;obtain⟨q3,hq3⟩ : ∃ t,t=q2-1:=⟨_,rfl⟩
     obtain⟨r3,hr3⟩ : ∃ t,t=r2+y1:=⟨_,rfl⟩
     have f1:1≤q2→IntKind.u64.wrap ((q2:Int)-1)=(q3:Int):=fun h=>by
      have:=hq2.out;rw[ja]at this;rw[Ct];omega
     have f2:IntKind.u64.wrap ((r2:Int)+(y1:Int))=(r3:Int):=adi hr3 (by have h1:=hr2.out;have h2:=aa GY1;rw[fu]at h1 h2;rw[ja];omega);have hstep:(dz≤q2∨dz*r2+d0<q2*y0)→1≤q2∧Ch dz y1 y0 v d0 q3 r3:=fun h=>by
      rw[hq3,hr3];exact HI.out.step (aa Sz) (aa GvY) (aa Gd0) h
     have bbd:=ae hstep
     by_cases hb:dz≤q2
     ·
      obtain⟨hq1,Jf⟩:=hstep (.inl hb);have hbd:decide ((4294967296:Int)≤(q2:Int))=true:=by rw[fu]at hb;simp;omega
      have Rw:=f1 hq1;have HQ1:=ae hq1;have aiy:=ae Jf;have HQ3:=ae hq3
      by_cases hr:dz≤r3
      ·
       have hrd:decide ((4294967296:Int)≤(r3:Int))=true:=by rw[fu]at hr;simp;omega
       have hfin:=Jf.stop (aa Sz) (aa Gy0) (aa GvY) hr;have Nq:=bg hfin;clear hb hr hq3 hr3 f1 hstep hq1 Jf hfin HI;go_wp2_with fail
       go_meet
       exact⟨rfl,Nq.out ▸ rfl⟩
      ·
       have hrd:decide ((4294967296:Int)≤(r3:Int))=false:=by rw[fu]at hr;simp;omega
       have HR:=ae (show r3<dz by omega);clear hb hr hq3 hr3 f1 hstep hq1 Jf HI;go_wp2_with fail
       go_round
       case rel=>exact⟨q3,r3,rfl,rfl,by rw[HQ3.out];exact Dm (Yd _ _) hq2.out,HR,aiy⟩
       case measure=>have h1:=HQ1.out;have h2:=HQ3.out;simp[intOf];omega
     ·
      have hbd:decide ((4294967296:Int)≤(q2:Int))=false:=by rw[fu]at hb;simp;omega
      obtain⟨pp,Il⟩ : ∃ t,t=q2*y0:=⟨_,rfl⟩
      obtain⟨m2,hm2⟩ : ∃ t,t=dz*r2:=⟨_,rfl⟩
      obtain⟨m3,hm3⟩ : ∃ t,t=m2+d0:=⟨_,rfl⟩
      have g0:pp<eu:=by
       have h1:q2*y0≤(dz-1)*(dz-1):=bcv (by omega) (aa Gy0);rw[Il];rw[fu]at h1;rw[ja];omega
      have g1:IntKind.u64.wrap ((q2:Int)*(y0:Int))=(pp:Int):=adj Il g0;have g2:IntKind.u64.wrap (4294967296*(r2:Int))=(m2:Int):=by
       have h1:=hr2.out;rw[fu]at h1 hm2;rw[Ct,hm2];omega
      have g3:IntKind.u64.wrap ((m2:Int)+(d0:Int))=(m3:Int):=adi hm3 (by have h1:=hr2.out;have h2:=aa Gd0;rw[fu]at h1 h2 hm2;rw[ja];omega)
      by_cases ht:m3<pp
      ·
       have htd:decide ((m3:Int)<(pp:Int))=true:=by simp;omega
       have bxr:decide (m3<pp)=true:=by simp;omega
       obtain⟨hq1,Jf⟩:=hstep (.inr om);have Rw:=f1 hq1;have HQ1:=ae hq1;have aiy:=ae Jf;have HQ3:=ae hq3
       by_cases hr:dz≤r3
       ·
        have hrd:decide ((4294967296:Int)≤(r3:Int))=true:=by rw[fu]at hr;simp;omega
        have hfin:=Jf.stop (aa Sz) (aa Gy0) (aa GvY) hr;have Nq:=bg hfin;clear hb hr hq3 hr3 f1 hstep hq1 Jf hfin HI Il hm2 hm3 g0 ht;go_wp2_with fail
        go_meet
        exact⟨rfl,Nq.out ▸ rfl⟩
       ·
        have hrd:decide ((4294967296:Int)≤(r3:Int))=false:=by rw[fu]at hr;simp;omega
        have HR:=ae (show r3<dz by omega);clear hb hr hq3 hr3 f1 hstep hq1 Jf HI Il hm2 hm3 g0 ht;go_wp2_with fail
        go_round
        case rel=>exact⟨q3,r3,rfl,rfl,by rw[HQ3.out];exact Dm (Yd _ _) hq2.out,HR,aiy⟩
        case measure=>have h1:=HQ1.out;have h2:=HQ3.out;simp[intOf];omega
      ·
       have htd:decide ((m3:Int)<(pp:Int))=false:=by simp;omega
       have bxr:decide (m3<pp)=false:=by simp;omega
       have hfin:=HI.out.done (aa Sz) om;have Nq:=bg hfin;clear hb hq3 hr3 f1 hstep hfin HI Il hm2 hm3 g0 ht;go_wp2_with fail
       go_meet
       exact⟨rfl,Nq.out ▸ rfl⟩
   case rest =>
    obtain⟨rfl,rfl⟩:=hcut;obtain⟨q0,hq0⟩ : ∃ t,t=(v*dz+d0)/(y1*dz+y0):=⟨_,rfl⟩
    obtain⟨R,hR⟩ : ∃ t,t=(v*dz+d0)%(y1*dz+y0):=⟨_,rfl⟩
    rw[← hq0];have Jb:v*dz+d0=q0*Y+R:=by
     rw[hq0,hR,GY3.out,og _ (y1*dz+y0)];exact(Fv _ _).symm
    have hRY:R<Y:=by rw[hR,GY3.out];exact Bf _ (aa Sz)
    have hRB:R<eu:=Iz hRY (aa G2);have crs:q0<dz:=by rw[hq0];exact amd (aa Sz) (aa GvY) (aa Gd0)
    have bmy:=aa K4;have n1:IntKind.u64.wrap ((q1:Int)*4294967296)=((q1*dz:Nat):Int):=Tx (by rw[fu]at *;rw[ja];omega) (.inl (by rw[fu];simp));have n2:IntKind.u64.wrap (((q1*dz:Nat):Int)+(q0:Int))=((q1*dz+q0:Nat):Int):=Tx (by rw[fu]at *;rw[ja];omega) (.inl mi);have n3:IntKind.u64.wrap ((v:Int)*4294967296)=((v*dz%eu:Nat):Int):=Tc (by rw[fu];simp);have n4:IntKind.u64.wrap (((v*dz%eu:Nat):Int)+(d0:Int))=(((v*dz%eu+d0)%eu:Nat):Int):=Tc mi;have n5:IntKind.u64.wrap ((q0:Int)*(Y:Int))=((q0*Y%eu:Nat):Int):=Tc mi;have n6:=Tx hRB (bcr Jb hRB);obtain⟨b1,hb1⟩ : ∃ t,t=q1*dz:=⟨_,rfl⟩
    rw[← hb1]at n1 n2;obtain⟨Q,hQ⟩ : ∃ t,t=b1+q0:=⟨_,rfl⟩
    rw[← hQ]at n2;obtain⟨c1,hc1⟩ : ∃ t,t=v*dz%eu:=⟨_,rfl⟩
    rw[← hc1]at n3 n4 n6;obtain⟨c2,hc2⟩ : ∃ t,t=(c1+d0)%eu:=⟨_,rfl⟩
    rw[← hc2]at n4 n6;obtain⟨c3,hc3⟩ : ∃ t,t=q0*Y%eu:=⟨_,rfl⟩
    rw[← hc3]at n5 n6;obtain⟨z,hz⟩ : ∃ t,t=R/2^s:=⟨_,rfl⟩
    have n7:(R:Int)/2^s=(z:Int):=by rw[hz];simp
    have hfin:Q=(hi*eu+lo)/y∧z=(hi*eu+lo)%y:=by
     have hY0:0<Y:=zh om (aa G1);have hS:0<2^s:=wz om;have hN:u*(dz*dz)+d1*dz+d0=(hi*eu+lo)*2^s:=by
      have h1:=(aa GSH).1;rw[← H4.out,← H5.out,← H6.out,← H7.out]at h1;have h2:un=d1*dz+d0:=by rw[H8.out,H9.out,fu];omega
      rw[← h1,h2,show dz*dz=eu from rfl,Yh]
     have h3:=azx (b:=dz) (Y:=Y) (u:=u) (d1:=d1) (d0:=d0) hY0;have h4:=Zt (N:=hi*eu+lo) (Y:=y) (S:=2^s) hS;rw[hN]at h3;rw[← H1.out]at h4;rw[GY3.out]at h3 h4;rw[← K1.out,← K2.out,← hq0,← hR]at h3;rw[h3.1,h3.2]at h4;exact⟨by rw[hQ,hb1];exact h4.1,by rw[hz];exact h4.2⟩
    have HF:=ae hfin;clear hq0 hR Jb hRY hRB crs bmy hb1 hQ hc1 hc2 hc3 hz hfin;go_wp2_with fail
    go_ret2
    exact⟨bvz (aa HF).1 (aa HF).2,0,rfl⟩

theorem Yr (s:Nat) (hs:s≤64):2^s*2^(64-s)=eu:=by
 rw[← Hq,show s+(64-s)=64 by omega];rfl

theorem apf {m:Nat} (hs:s≤64):m*2^s%eu=m%2^(64-s)*2^s:=by
 rw[← Yr s hs,og (2^s),ajq]

theorem abb (hz:z<2^s):z ||| (a*2^s)=z+a*2^s:=by
 rw[Nat.or_comm,og a,← Nat.two_pow_add_eq_or_of_lt hz,asf]

def ctf (w:Wq) (xl:List Nat) (v:Nat) (e:Ending) (w':Wq):Prop :=
 ∃ zr,e = .returned (.slice (some ⟨w.heap.size,0,none⟩) (xl.length+1) (xl.length+1))∧zr.length=xl.length+1∧(∀ x∈zr,x<eu)∧bf eu zr=v∧ZB .u64 w' w.heap.size 157 zr∧Below w.heap.size w w'

theorem bwu (Ax:Option Addr) (cx:Nat) (xl:List Nat) (n s:Nat) (w:Wq) (hx:qf w Ax cx xl n) (hs:s<64) (hk:xl.length+1≤35184372088832) :
  Calls prog 227 #[.slice Ax xl.length cx,.int .u64 ((s:Nat):Int)] w fun e w'=>ctf w xl (n*2^s) e w':=by
 have hmk:=Yy (xl.length+1) hk
 simp only[adg,art]at hmk
 have hx1:=hx.Aj;have hx2:=hx.cap2
 go_enter func227,ntmps227
 go_wp2
 go_loopw [14] (fun iv wr => ∃ (i:Nat) (zr:List Nat),i≤xl.length∧iv = .int .i64 ((i:Nat):Int)∧Hid (Fg eu (2^s) xl zr i)∧ZB .u64 wr w.heap.size 157 zr∧Below w.heap.size w wr) (fun iv _=>xl.length-(intOf iv).toNat)
 case atStart=>exact⟨0,List.replicate (xl.length+1) 0,ug _,rfl,Fg.start _ _ (wz om) (by rw[ja];omega) mi (aah _),heap_alloc_new w _,(df _ _).alloc (gu _) _⟩
 case round =>
  obtain⟨i,zr,hi,rfl,HI,qh,hg⟩:=hrel;have hlen:=HI.out.len
  by_cases hlt:i<xl.length
  ·
   obtain⟨bx,ox,rfl,hbx,hcx⟩:=hx.ws om;have Lj:=(hg.cell (p:=⟨bx,ox+i,none⟩) hbx).trans (hcx i hlt);clear hcx;have hzc:=qh.cell i om;have hzf:=qh.frozen i;have crk:=qh.cell (i+1) om;have cig:=qh.frozen (i+1);obtain⟨m,hm⟩ : ∃ m,m=ik xl i:=⟨_,rfl⟩
   obtain⟨z,hz⟩ : ∃ z,z=ik zr i:=⟨_,rfl⟩
   rw[← hm]at Lj;rw[← hz]at hzc;have Wn:m<eu:=by rw[hm];exact jy (by rw[ja];omega) _ hx.lt i
   have Qz:z<eu:=by rw[hz];exact jy (by rw[ja];omega) _ HI.out.lt i
   have hzS:z<2^s:=by rw[hz];exact HI.out.low
   obtain⟨p,hp⟩ : ∃ p,p=m%2^(64-s)*2^s:=⟨_,rfl⟩
   obtain⟨r,hr⟩ : ∃ r,r=z+p:=⟨_,rfl⟩
   obtain⟨q,hq⟩ : ∃ q,q=m/2^(64-s):=⟨_,rfl⟩
   have hpB:p<eu:=by rw[hp,← apf om];exact Bf _ (by rw[ja];omega)
   have e1:IntKind.u64.wrap ((m:Int)*2^s)=(p:Int):=by
    rw[hp,← apf om,Ct,ja];simp
   have e2:Go.bits .or .u64 (z:Int) (p:Int)=(r:Int):=by
    rw[bits_or_u64_nat z p Qz hpB,hr,hp,abb hzS]
   have e3:(m:Int)/2^(64-s)=(q:Int):=by rw[hq];simp
   have hfin : ∀ W,W=(wr.setCell ⟨w.heap.size,i,none⟩ (.int .u64 (r:Int))).setCell ⟨w.heap.size,i+1,none⟩ (.int .u64 (q:Int))→Hid (Fg eu (2^s) xl ((zr.set i r).set (i+1) q) (i+1))∧ZB .u64 W w.heap.size 157 ((zr.set i r).set (i+1) q)∧Below w.heap.size w W:=by
    rintro W rfl;refine⟨?_,(qh.Jr _ _).Jr _ _,(hg.setCell mi _).setCell mi _⟩
    rw[hr,hp,hq,hm,hz];exact HI.out.step (Yr s om) (wz om) hlt (by rw[← pg,← hm];exact Wn)
   have HF:=ae hfin;clear hfin hp hr hq hm hz hzS qh hg;go_wp2_with fail
   go_roundw
   case rel =>
    obtain⟨r1,r2,r3⟩:=(aa HF) _ rfl;exact⟨i+1,_,by omega,by go_num,r1,r2,r3⟩
   case measure=>simp[intOf]<;>omega
  ·
   have e:i=xl.length:=by omega
   subst e;have hv:=HI.out.done;rw[hx.val]at hv;have HV:=bg hv;clear hv;go_wp2_with fail
   go_ret
   exact⟨zr,rfl,hlen,HI.out.lt,HV.out,qh,hg⟩

theorem bra (Ax:Option Addr) (cx:Nat) (xl:List Nat) (s:Nat) (w:Wq) (hx:Ws .u64 w w.heap.size Ax xl) (hx1:xl.length≤cx) (hx2:cx≤9223372036854775807) (hxl : ∀ x∈xl,x<eu) (hs:s<64) (hk:xl.length≤35184372088832) :
  Calls prog 229 #[.slice Ax xl.length cx,.int .u64 ((s:Nat):Int)] w fun e w'=>Qn w (bf eu xl/2^s) e w':=by
 have hmk:=Yy xl.length hk
 go_enter func229,ntmps229
 go_wp2
 go_loopw [12] (fun iv wr => ∃ (i:Nat) (zr:List Nat),i≤xl.length∧iv = .int .i64 ((i:Nat):Int)∧Hid (Eh eu (2^s) xl zr i)∧ZB .u64 wr w.heap.size 157 zr∧Below w.heap.size w wr) (fun iv _=>xl.length-(intOf iv).toNat)
 case atStart=>exact⟨0,List.replicate xl.length 0,ug _,rfl,Eh.start _ _ mi (Wu (by rw[ja];omega) _),heap_alloc_new w _,(df _ _).alloc (gu _) _⟩
 case round =>
  obtain⟨i,zr,hi,rfl,HI,qh,hg⟩:=hrel;have hlen:=HI.out.len
  by_cases hlt:i<xl.length
  ·
   obtain⟨bx,ox,hA,hbx,hcx⟩:=hx om;have hxr:Ws .u64 wr w.heap.size Ax xl:=hx.below hg;subst hA;have Lj:=(hg.cell (p:=⟨bx,ox+i,none⟩) hbx).trans (hcx i hlt);clear hcx;have hzc:=qh.cell i om;have hzf:=qh.frozen i;obtain⟨m,hm⟩ : ∃ m,m=ik xl i:=⟨_,rfl⟩
   obtain⟨m1,hm1⟩ : ∃ m1,m1=ik xl (i+1):=⟨_,rfl⟩
   rw[← hm]at Lj;have Wn:m<eu:=by rw[hm];exact jy (by rw[ja];omega) _ hxl i
   obtain⟨q,hq⟩ : ∃ q,q=m/2^s:=⟨_,rfl⟩
   obtain⟨p,hp⟩ : ∃ p,p=m1%2^s*2^(64-s):=⟨_,rfl⟩
   obtain⟨r,hr⟩ : ∃ r,r=q+p:=⟨_,rfl⟩
   have hsh:m1*2^(64-s)%eu=p:=by
    rw[apf om,hp,show 64-(64-s)=s by omega]
   have hpB:p<eu:=by rw[← hsh];exact Bf _ (by rw[ja];omega)
   have Zw:q<eu:=by rw[hq];exact Dm (Yg _ _) Wn
   have hqT:q<2^(64-s):=by
    rw[hq,Fu (wz om),og,Yr s om];exact Wn
   have e0:(m:Int)/2^s=(q:Int):=by rw[hq];simp
   have e1:IntKind.u64.wrap ((m1:Int)*2^(64-s))=(p:Int):=by
    rw[← hsh,Ct,ja];simp
   have e1':IntKind.u64.wrap ((m1:Int)*2^min (64-s) 64)=(p:Int):=by rw[Ce om];exact e1
   have e2:Go.bits .or .u64 (q:Int) (p:Int)=(r:Int):=by
    rw[bits_or_u64_nat q p Zw hpB,hr,hp,abb hqT]
   have hfin : ∀ W,W=wr.drew.setCell ⟨w.heap.size,i,none⟩ (.int .u64 (r:Int))→Hid (Eh eu (2^s) xl (zr.set i r) (i+1))∧ZB .u64 W w.heap.size 157 (zr.set i r)∧Below w.heap.size w W:=by
    rintro W rfl;refine⟨?_,(qh.drew).Jr _ _,hg.drew.setCell mi _⟩
    rw[hr,hp,hq,hm,hm1];exact HI.out.step (Yr s om) (wz om) hlt (by rw[← pg,← hm];exact Wn)
   have HF:=ae hfin;have hlim : ∀ W,Ws .u64 W w.heap.size (some ⟨bx,ox,none⟩) xl→Calls prog 214 #[.slice (some ⟨bx,ox,none⟩) xl.length cx,.int .i64 ((i:Int)+1)] W fun e w'=>e = .returned (.int .u64 ((m1:Nat):Int))∧w'=W:=fun W h=>by
    rw[hm1];exact Xd _ cx xl w.heap.size (i+1) W h hx1 hx2 om
   have ctm:=ae hlim;have hwi:IntKind.i64.wrap ((i:Int)+1)=(i:Int)+1:=Es _ om;clear hfin hp hr hq hm hm1 hqT hsh qh hg hlim;go_wp2_with fail
   go_region_with (go_at_call 214;refine((aa ctm) _ (by exact hxr)).mono ?_;rintro e w' ⟨rfl,rfl⟩)
   all_goals
    go_wp2
    go_roundw
    case rel =>
     simp only[e1',e2];obtain⟨r1,r2,r3⟩:=(aa HF) _ rfl;exact⟨i+1,_,by omega,by go_num,r1,r2,r3⟩
    case measure=>simp[intOf]<;>omega
  ·
   have e:i=xl.length:=by omega
   subst e;have hv:=HI.out.done (Yr s om) (wz om);have HV:=bg hv;clear hv;go_wp2_with fail;have htr:=Nc (some ⟨w.heap.size,0,none⟩) zr.length zr (wr.heap.size) wr (qh.Mk _ qh.lt) (gu _) om;rw[hlen]at htr;refine htr.mono ?_
   rintro e w' ⟨⟨k,rfl,ht,hk2⟩,rfl⟩;go_wp2_with fail
   go_ret
   have hk3:k=(zr.take k).length:=by simp;omega
   refine⟨some ⟨w.heap.size,0,none⟩,xl.length,zr.take k,Mm hk3,?_,hg⟩
   have:=qf.Ij (cap:=xl.length) qh HI.out.lt ht om om om;rwa[HV.out]at this

theorem cgl (hB:0<B) (l:List Nat) (n:Nat) (hn:1≤n) (hl:l.length=n+1) (hlt : ∀ x∈l,x<B):bf B l<(l.getD n 0*B+l.getD (n-1) 0+1)*B^(n-1):=by
 have h1:=rz B l n om
 rw[jk _ _ _ om]at h1
 have h2:=rz B l (n-1) om
 rw[show n-1+1=n by omega]at h2
 have h3:=Bi (B:=B) (l.take (n-1)) (fun x hx=>hlt x (Dn hx))
 rw[uy,Ce om]at h3
 have e:B^n=B^(n-1)*B:=by rw[← Be,show(n-1).succ=n by omega]
 rw[h1,h2,e]
 generalize B^(n-1)=P at *
 rw[xm,xm,Iy,og (l.getD (n-1) 0) P,show l.getD n 0*B*P=P*B*l.getD n 0 by simp only[og,Nt,uk]]
 omega

theorem buw (l:List Nat) (n:Nat) (hn:1≤n) (hl:l.length=n):l.getD (n-1) 0*B^(n-1)≤bf B l:=by
 have h2:=rz B l (n-1) om
 rw[show n-1+1=n by omega,jk _ _ _ om]at h2
 rw[h2,og];omega

theorem azu (us:List Nat) (off:Nat) (zc:List Nat) (h:off+zc.length≤us.length):zc=((win us off zc).drop off).take zc.length:=by
 have h1:(us.take off).length=off:=by simp;omega
 simp only[win,Lm]
 rw[bac om,Sg om,Pm,bou (gu _),Fb (gu _)]

structure bga (ul vl zr:List Nat) (q:Nat):Prop where
 len:zr.length=ul.length
 lt : ∀ x∈zr,x<eu
 quo:q=bf eu ul/bf eu vl
 rem:bf eu zr=bf eu ul%bf eu vl

theorem bhp (b off cap T n:Nat) (us ul vl:List Nat) (Av:Option Addr) (cv:Nat) (B:Nat) (w:Wq)
  (hz:ZB .u64 w b T us) (hoff:off+ul.length≤us.length) (Zf:ul=(us.drop off).take ul.length) (hcz:ul.length≤cap) (beo:cap≤9223372036854775807)
  (hv:Ws .u64 w B Av vl) (hB:B≤b) (hcv:vl.length≤cv) (bng:cv≤9223372036854775807) (hn:1≤n) (Qd:vl.length=n) (huv:ul.length=n+1)
  (hlu : ∀ x∈ul,x<eu) (hlv : ∀ x∈vl,x<eu) (hpre:bf eu ul<eu*bf eu vl) :
  Calls prog 228 #[.slice (some ⟨b,off,none⟩) (n+1) cap,.slice Av n cv] w fun e w' =>
   ∃ zr q,e = .returned (.int .u64 ((q:Nat):Int))∧bga ul vl zr q∧q<eu∧ZB .u64 w' b T (win us off zr)∧w.grownBy w' (some b):=by
 have hB0:0<eu:=by rw[ja];omega
 have Uk:0<bf eu vl:=by
  rcases Fs (bf eu vl)with h|h
  ·
   rw[h]at hpre;omega
  ·
   exact h
 obtain⟨bv,ov,hA,hbv,bep⟩:=hv om
 subst hA
 have hv0:=hv
 have hvt:=bep (n-1) om
 clear bep
 have hu0:=hz.cell (off+n) om
 have hu1:=hz.cell (off+(n-1)) om
 have hgw : ∀ i,i<ul.length→ik us (off+i)=ik ul i:=fun i hi=>by
  have h:=Xt us off ul hoff i hi;rwa[show win us off ul=us by rw[Zf];exact Ww us off _ hoff]at h
 rw[hgw n om]at hu0
 rw[hgw (n-1) om]at hu1
 obtain⟨un,hun⟩ : ∃ t,t=ik ul n:=⟨_,rfl⟩
 obtain⟨um,hum⟩ : ∃ t,t=ik ul (n-1):=⟨_,rfl⟩
 obtain⟨vt,bdz⟩ : ∃ t,t=ik vl (n-1):=⟨_,rfl⟩
 rw[← hun]at hu0
 rw[← hum]at hu1
 rw[← bdz]at hvt
 have awn:un<eu:=by rw[hun];exact jy hB0 _ hlu _
 have bmx:um<eu:=by rw[hum];exact jy hB0 _ hlu _
 have bxm:vt<eu:=by rw[bdz];exact jy hB0 _ hlv _
 obtain⟨Q,hQ⟩ : ∃ t,t=bf eu ul/bf eu vl:=⟨_,rfl⟩
 have hQB:Q<eu:=by rw[hQ,Fu Uk];exact hpre
 have hQt:Q*vt≤un*eu+um:=by
  refine aen (V:=bf eu vl) (U:=bf eu ul) (B:=eu) (k:=n-1) ?_ ?_ ?_
  ·
   rw[bdz];exact buw vl n hn Qd
  ·
   rw[hun,hum];exact cgl hB0 ul n hn huv hlu
  ·
   rw[hQ];exact Uz _ _
 have e1:IntKind.i64.wrap ((n:Int)-1)=(n:Int)-1:=Es _ om
 have e2:(0:Int)≤(n:Int)-1:=by omega
 have e3:((n:Int)-1).toNat=n-1:=by omega
 have hvW:Ws .u64 w B (some ⟨bv,ov,none⟩) vl:=hv0
 obtain⟨g,hg⟩ : ∃ t,t=if un<vt then(un*eu+um)/vt else 18446744073709551615:=⟨_,rfl⟩
 have bmw:un<vt→0<vt:=fun h=>by omega
 have hgB:g<eu:=by
  rw[hg];split
  ·
   rename_i h;exact amd (bmw h) h bmx
  ·
   rw[ja];omega
 have hgQ:Q≤g:=by
  rw[hg];split
  ·
   rename_i h;rw[abo (bmw h)];exact hQt
  ·
   rw[ja]at hQB;omega
 have hsub : ∀ W,ZB .u64 W b T us→Ws .u64 W B (some ⟨bv,ov,none⟩) vl→Calls prog 247 #[.slice (some ⟨b,off,none⟩) (n+1) cap,.slice (some ⟨bv,ov,none⟩) n cv,.int .u64 ((g:Nat):Int)] W fun e w' =>
   ∃ zr c,e = .returned (.bool (decide (c=1)))∧zr.length=ul.length∧(∀ x∈zr,x<eu)∧bf eu zr+g*bf eu vl=bf eu ul+eu^ul.length*c∧c≤1∧ZB .u64 w' b T (win us off zr)∧W.grownBy w' (some b):=fun W h1 h2=>by
  have:=avv b off cap T us ul vl (some ⟨bv,ov,none⟩) cv B g W h1 hoff Zf hcz beo h2 hB hcv bng (by omega) hlu hlv hgB;rw[huv,Qd]at this;rw[huv];exact this
 have hadd : ∀ W zc,zc.length=n+1→(∀ x∈zc,x<eu)→ZB .u64 W b T (win us off zc)→Ws .u64 W B (some ⟨bv,ov,none⟩) vl→Calls prog 230 #[.slice (some ⟨b,off,none⟩) (n+1) cap,.slice (some ⟨bv,ov,none⟩) n cv] W fun e w' =>
   ∃ zr c,e = .returned (.int .u64 ((c:Nat):Int))∧bor eu zc vl zr c∧ZB .u64 w' b T (win us off zr)∧W.grownBy w' (some b):=fun W zc hl h0 h1 h2=>by
  have:=aei b off cap T (win us off zc) zc vl (some ⟨bv,ov,none⟩) cv B W h1 (by rw[win_length _ _ _ om];omega) (azu _ _ _ om) om beo h2 hB hcv bng (by omega) h0 hlv;rw[hl,Qd]at this;refine this.mono ?_
  rintro e w' ⟨zr,c,h3,h4,h5,h6⟩;refine⟨zr,c,h3,h4,?_,h6⟩
  rwa[ccm _ _ _ _ om h4.len]at h5
 have hdone : ∀ g' zr,zr.length=ul.length→(∀ x∈zr,x<eu)→Q≤g'→bf eu zr+g'*bf eu vl=bf eu ul→bga ul vl zr g':=fun g' zr h1 h2 h3 h4=>by
  have hle:g'≤Q:=by rw[hQ,abo Uk];omega
  have:g'=Q:=by omega
  subst this;refine⟨h1,h2,hQ,?_⟩
  have Jb:=Fv (bf eu ul) (bf eu vl);rw[← hQ,og]at Jb;omega
 have hpos : ∀ g' zr,zr.length=ul.length→(∀ x∈zr,x<eu)→bf eu zr+g'*bf eu vl=bf eu ul+eu^ul.length*1→1≤g':=fun g' zr h1 h2 h4=>by
  have hlt:=Bi zr h2;rw[h1]at hlt
  rcases Fs g' with h|h
  ·
   subst h;simp at h4;omega
  ·
   exact h
 have Wj:=ae hpos
 have hstep : ∀ g' zr zr' c',zr.length=ul.length→(∀ x∈zr,x<eu)→Q≤g'→bf eu zr+g'*bf eu vl=bf eu ul+eu^ul.length*1→bor eu zr vl zr' c' →
   1≤g'∧Q≤g'-1∧zr'.length=ul.length∧bf eu zr'+(g'-1)*bf eu vl=bf eu ul+eu^ul.length*(1-c'):=fun g' zr zr' c' h1 h2 h3 h4 h5=>by
  have hlt:=Bi zr h2;rw[h1]at hlt;have hgV:bf eu ul<g'*bf eu vl:=by omega
  have hQg:Q<g':=by rw[hQ,Fu Uk];exact hgV
  have he:=h5.eq;rw[h1]at he;have hc:=h5.c1;obtain⟨p,rfl⟩ : ∃ p,g'=p+1:=⟨g'-1,by omega⟩
  rw[xm,Iy]at h4;refine⟨by omega,by omega,h5.len.trans h1,?_⟩
  rw[ase]
  rcases(show c'=0∨c'=1 by omega)with rfl|rfl
  ·
   simp only[Nr,Ns,Nat.sub_zero,Hr]at *;omega
  ·
   simp only[Nr,Ns,Nat.sub_self,Hr]at *;omega
 have clj:=ae hsub;have cma:=ae hadd;have cca:=ae hdone;have bbd:=ae hstep
 have Wi:=bg huv;have HGB:=ae hgB;have HGQ:=ae hgQ
 obtain⟨rr,hrr⟩ : ∃ t,t=(un*eu+um)%vt:=⟨_,rfl⟩
 have hdiv:un<vt → ∀ W,Calls prog 246 #[.int .u64 ((un:Nat):Int),.int .u64 ((um:Nat):Int),.int .u64 ((vt:Nat):Int)] W fun e w'=>e = .returned (.tuple #[.int .u64 ((g:Nat):Int),.int .u64 ((rr:Nat):Int)]) ∧ ∃ k,w'=W.drewN k:=fun h W=>by
  rw[hg,if_pos h,hrr];exact aza un um vt bxm bmx h W
 have ctp:=ae hdiv
 have hlen1:n+1≤cap:=by omega
 have ahx:n≤cv:=by omega
 have hbw:=hz.lt
 by_cases hlt:un<vt
 ·
  have b1:decide ((un:Int)<(vt:Int))=true:=by simp;omega
  have b2:decide (un<vt)=true:=by simp;omega
  have qp:=ae hlt;clear Zf Qd huv hun hum bdz hQ hQB hQt awn bmx bxm hpre hgw Uk hB0 hlu hlv hg bmw hgB hgQ hsub hadd hdone hstep hdiv hrr hpos hlt hoff hcz hcv
  go_enter func228,ntmps228
  go_wp2_with fail
  go_quiet (fail)
  go_wp2_with fail
  go_quiet ((go_at_call 246;exact brm ((aa ctp) (aa qp) _)))
  go_wp2_with fail;refine((aa clj) _ (by exact hz) (by exact hvW)).mono ?_
  rintro e w1 ⟨zr,c,rfl,h1,h2,h3,h4,h5,h6⟩;have h6':w.grownBy w1 (some b):=⟨h6.os,h6.tape,h6.output,h6.size,h6.block⟩
  have HZL:=bg (h1.trans Wi.out);have H2:=ae h2;have H3:=bg h3;clear h1 h2 h3 h6;go_wp2_with fail
  go_loopw [6,7] (fun gv bv wr => ∃ (g' c':Nat) (zc:List Nat),gv = .int .u64 ((g':Nat):Int)∧bv = .bool (decide (c'=1))∧c'≤1∧Hid (zc.length=n+1)∧Hid (∀ x∈zc,x<eu)∧Hid (Q≤g')∧Hid (g'<eu)∧Hid (bf eu zc+g'*bf eu vl=bf eu ul+eu^ul.length*c')∧ZB .u64 wr b T (win us off zc)∧w.grownBy wr (some b)) (fun gv _ _=>(intOf gv).toNat)
  case atStart=>exact⟨g,c,zr,rfl,rfl,h4,HZL,H2,HGQ,HGB,H3,h5,h6'⟩
  case round =>
   obtain⟨g',c',zc,rfl,rfl,hc,hl,hlt',hq',hb',heq,qh,hgr⟩:=hrel;have hvr:Ws .u64 wr B (some ⟨bv,ov,none⟩) vl:=hvW.grown hgr om (fun g e=>by injection e with e;omega)
   rcases(show c'=0∨c'=1 by omega)with rfl|rfl
   ·
    have hok:=(aa cca) g' zc (hl.out.trans Wi.out.symm) hlt'.out hq'.out (by have:=heq.out;omega);have Mw:=ae hok;clear hok;go_wp2_with fail
    go_ret
    exact⟨zc,g',rfl,aa Mw,hb'.out,qh,hgr⟩
   ·
    have hpos:=(aa Wj) g' zc (hl.out.trans Wi.out.symm) hlt'.out heq.out;have f1:IntKind.u64.wrap ((g':Int)-1)=((g'-1:Nat):Int):=by
     have:=hb'.out;rw[ja]at this;rw[Ct];omega
    obtain⟨g2,hg2⟩ : ∃ t,t=g'-1:=⟨_,rfl⟩
    rw[← hg2]at f1;have HG2:=bg hg2;have HP:=ae hpos;clear hg2 hpos;go_wp2_with fail;refine((aa cma) _ zc hl.out hlt'.out qh hvr).mono ?_
    rintro e w2 ⟨zr',c2,rfl,aam,hz',hg'⟩;obtain⟨k1,k2,k3,k4⟩:=(aa bbd) g' zc zr' c2 (hl.out.trans Wi.out.symm) hlt'.out hq'.out heq.out aam;have hc2:=aam.c1;have K0:=ae aam.lt;have K2:=ae k2;have K3:=bg (k3.trans Wi.out);have K4:=bg k4;have bej:=aln hgr hg';clear k1 k2 k3 k4 aam hg'
    rcases(show c2=0∨c2=1 by omega)with rfl|rfl
    ·
     go_wp2_with fail
     go_roundw
     case rel=>exact⟨g2,1,zr',rfl,rfl,by omega,K3,K0,by rw[HG2.out];exact K2,by rw[HG2.out];exact Dm (Yd _ _) hb'.out,by rw[HG2.out];exact K4,hz',bej⟩
     case measure=>have h1:=HG2.out;have h2:=HP.out;simp[intOf];omega
    ·
     go_wp2_with fail
     go_roundw
     case rel=>exact⟨g2,0,zr',rfl,rfl,by omega,K3,K0,by rw[HG2.out];exact K2,by rw[HG2.out];exact Dm (Yd _ _) hb'.out,by rw[HG2.out];exact K4,hz',bej⟩
     case measure=>have h1:=HG2.out;have h2:=HP.out;simp[intOf];omega
 ·
  have b1:decide ((un:Int)<(vt:Int))=false:=by simp;omega
  have b2:decide (un<vt)=false:=by simp;omega
  have qp:=ae hlt;have cjf:(18446744073709551615:Int)=((g:Nat):Int):=by rw[hg,if_neg hlt];rfl
  have cto:=bg cjf;clear Zf Qd huv hun hum bdz hQ hQB hQt awn bmx bxm hpre hgw Uk hB0 hlu hlv hg bmw hgB hgQ hsub hadd hdone hstep hdiv hrr hpos hlt hoff hcz hcv cjf
  go_enter func228,ntmps228
  go_wp2_with fail
  go_quiet (fail)
  go_wp2_with fail;rw[cto.out];refine((aa clj) _ (by exact hz) (by exact hvW)).mono ?_
  rintro e w1 ⟨zr,c,rfl,h1,h2,h3,h4,h5,h6⟩;have h6':w.grownBy w1 (some b):=⟨h6.os,h6.tape,h6.output,h6.size,h6.block⟩
  have HZL:=bg (h1.trans Wi.out);have H2:=ae h2;have H3:=bg h3;clear h1 h2 h3 h6;go_wp2_with fail
  go_loopw [6,7] (fun gv bv wr => ∃ (g' c':Nat) (zc:List Nat),gv = .int .u64 ((g':Nat):Int)∧bv = .bool (decide (c'=1))∧c'≤1∧Hid (zc.length=n+1)∧Hid (∀ x∈zc,x<eu)∧Hid (Q≤g')∧Hid (g'<eu)∧Hid (bf eu zc+g'*bf eu vl=bf eu ul+eu^ul.length*c')∧ZB .u64 wr b T (win us off zc)∧w.grownBy wr (some b)) (fun gv _ _=>(intOf gv).toNat)
  case atStart=>exact⟨g,c,zr,rfl,rfl,h4,HZL,H2,HGQ,HGB,H3,h5,h6'⟩
  case round =>
   obtain⟨g',c',zc,rfl,rfl,hc,hl,hlt',hq',hb',heq,qh,hgr⟩:=hrel;have hvr:Ws .u64 wr B (some ⟨bv,ov,none⟩) vl:=hvW.grown hgr om (fun g e=>by injection e with e;omega)
   rcases(show c'=0∨c'=1 by omega)with rfl|rfl
   ·
    have hok:=(aa cca) g' zc (hl.out.trans Wi.out.symm) hlt'.out hq'.out (by have:=heq.out;omega);have Mw:=ae hok;clear hok;go_wp2_with fail
    go_ret
    exact⟨zc,g',rfl,aa Mw,hb'.out,qh,hgr⟩
   ·
    have hpos:=(aa Wj) g' zc (hl.out.trans Wi.out.symm) hlt'.out heq.out;have f1:IntKind.u64.wrap ((g':Int)-1)=((g'-1:Nat):Int):=by
     have:=hb'.out;rw[ja]at this;rw[Ct];omega
    obtain⟨g2,hg2⟩ : ∃ t,t=g'-1:=⟨_,rfl⟩
    rw[← hg2]at f1;have HG2:=bg hg2;have HP:=ae hpos;clear hg2 hpos;go_wp2_with fail;refine((aa cma) _ zc hl.out hlt'.out qh hvr).mono ?_
    rintro e w2 ⟨zr',c2,rfl,aam,hz',hg'⟩;obtain⟨k1,k2,k3,k4⟩:=(aa bbd) g' zc zr' c2 (hl.out.trans Wi.out.symm) hlt'.out hq'.out heq.out aam;have hc2:=aam.c1;have K0:=ae aam.lt;have K2:=ae k2;have K3:=bg (k3.trans Wi.out);have K4:=bg k4;have bej:=aln hgr hg';clear k1 k2 k3 k4 aam hg'
    rcases(show c2=0∨c2=1 by omega)with rfl|rfl
    ·
     go_wp2_with fail
     go_roundw
     case rel=>exact⟨g2,1,zr',rfl,rfl,by omega,K3,K0,by rw[HG2.out];exact K2,by rw[HG2.out];exact Dm (Yd _ _) hb'.out,by rw[HG2.out];exact K4,hz',bej⟩
     case measure=>have h1:=HG2.out;have h2:=HP.out;simp[intOf];omega
    ·
     go_wp2_with fail
     go_roundw
     case rel=>exact⟨g2,0,zr',rfl,rfl,by omega,K3,K0,by rw[HG2.out];exact K2,by rw[HG2.out];exact Dm (Yd _ _) hb'.out,by rw[HG2.out];exact K4,hz',bej⟩
     case measure=>have h1:=HG2.out;have h2:=HP.out;simp[intOf];omega

theorem akx (x:Nat) (hx:x<eu) (w:Wq):Calls prog 215 #[.int .u64 ((x:Nat):Int)] w fun e w'=>Qn w x e w':=by
 by_cases h:x=0
 ·
  subst h
  go_enter func215,ntmps215
  go_wp2
  go_ret
  exact⟨none,0,[],rfl,qf.aeg _ _ om,df _ _⟩
 ·
  have hb:((x:Int)==0)=false:=by simp;omega
  go_enter func215,ntmps215
  go_wp2
  go_ret
  refine⟨some ⟨w.heap.size,0,none⟩,1,[x],rfl,?_,(df _ _).alloc (gu _) _⟩
  have hz:ZB .u64 (w.alloc (.cells #[.int .u64 (x:Int)] 157)) w.heap.size 157 [x]:=heap_alloc_new w _;exact⟨hz.Mk _ hz.lt,by simp,by omega,by simpa using hx,.inr (by simpa using h),by simp[bf]⟩

def Dh (n m:Nat):Int:=if n<m then -1 else if m<n then 1 else 0

theorem afr (Ax Ay:Option Addr) (cx cy:Nat) (xl yl:List Nat) (n m:Nat) (w:Wq) (hx:qf w Ax cx xl n) (hy:qf w Ay cy yl m) :
  Calls prog 195 #[.slice Ax xl.length cx,.slice Ay yl.length cy] w fun e w'=>e = .returned (.int .i64 (Dh n m)) ∧ ∃ k,w'=w.drewN k:=by
 have hx1:=hx.Aj;have hx2:=hx.cap2;have hy1:=hy.Aj;have hy2:=hy.cap2
 by_cases hl:xl.length=yl.length
 ·
  have hb:(((xl.length:Nat):Int) != ((yl.length:Nat):Int))=false:=by simp;omega
  go_enter func195,ntmps195
  go_wp2
  go_loopw [5] (fun iv wr => ∃ i:Int,-1≤i∧i<xl.length∧iv = .int .i64 i∧Hid (∀ j:Nat,i<j→j<xl.length→xl.getD j 0=yl.getD j 0)∧Hid (∃ t,wr=w.drewN t)) (fun iv _=>(intOf iv+1).toNat)
  case atStart=>exact⟨(yl.length:Int)-1,by omega,by omega,rfl,fun j h1 h2=>by omega,⟨0,rfl⟩⟩
  case round =>
   obtain⟨i,hi1,hi2,rfl,hall,ht⟩:=hrel
   by_cases h0:i<0
   ·
    have hv:Dh n m=0:=by
     have:xl=yl:=Tv xl yl hl (fun j hj=>hall.out j om hj);rw[← hx.val,← hy.val,this];unfold Dh;rw[if_neg om,if_neg om]
    have HV:=bg hv;clear hv hl
    go_wp2
    go_ret
    exact⟨Ej HV.out.symm,ht.out⟩
   ·
    obtain⟨j,rfl⟩:=amz (show 0≤i by omega);have hjx:j<xl.length:=by omega
    have hjy:j<yl.length:=by omega
    obtain⟨bx,ox,rfl,hbx,hcx⟩:=hx.ws om;obtain⟨by',oy,rfl,hby,hcy⟩:=hy.ws om;have hsame : ∀ p,wr.cell? p=w.cell? p:=fun p=>by obtain⟨t,rfl⟩:=ht.out;rfl
    have Lj:=(hsame _).trans (hcx j hjx);have hyc:=(hsame _).trans (hcy j hjy);clear hcx hcy hsame;obtain⟨xj,hxj⟩ : ∃ xj,xj=ik xl j:=⟨_,rfl⟩
    obtain⟨yj,hyj⟩ : ∃ yj,yj=ik yl j:=⟨_,rfl⟩
    rw[← hxj]at Lj;rw[← hyj]at hyc
    by_cases he:xj=yj
    ·
     have hb:((xj:Int) != (yj:Int))=false:=by simp;omega
     have hnext : ∀ t:Nat,((j:Int)-1<t)→t<xl.length→xl.getD t 0=yl.getD t 0:=fun t h1 h2=>by
      by_cases ht:t=j
      ·
       subst ht;exact hxj.symm.trans (he.trans hyj)
      ·
       exact hall.out t om h2
     have HN:=ae hnext;clear hnext hxj hyj he hl;go_wp2_with fail
     go_region
     go_wp2_with fail
     go_roundw
     case rel=>exact⟨(j:Int)-1,by omega,by omega,rfl,HN,by obtain⟨t,rfl⟩:=ht.out;exact⟨t+1,rfl⟩⟩
     case measure=>simp[intOf]<;>omega
    ·
     have hb:((xj:Int) != (yj:Int))=true:=by simp;omega
     have hv:Dh n m=if xj<yj then -1 else 1:=by
      rw[← hx.val,← hy.val];unfold Dh
      by_cases h:xj<yj
      ·
       rw[if_pos h,if_pos (Ls xl yl hx.lt hl j hjx (fun t h1 h2=>hall.out t om h2) (by show ik xl j<ik yl j;omega))]
      ·
       have:=Ls yl xl hy.lt hl.symm j hjy (fun t h1 h2=>(hall.out t om om).symm) (by show ik yl j<ik xl j;omega);rw[if_neg h,if_neg om,if_pos this]
     have HV:=bg hv;clear hv hxj hyj hl
     by_cases hlt:xj<yj
     ·
      have hv2:=HV.out;rw[if_pos hlt]at hv2;have HV2:=bg hv2;clear hv2;go_wp2_with fail
      go_region
      go_wp2_with fail
      go_region_with (go_at_call 199;refine(adq _ _).mono ?_;rintro e w' ⟨rfl,rfl⟩)
      all_goals
       go_wp2_with fail
       go_ret
       exact⟨Ej HV2.out.symm,by obtain⟨t,rfl⟩:=ht.out;exact⟨t+2,rfl⟩⟩
     ·
      have hv2:=HV.out;rw[if_neg hlt]at hv2;have HV2:=bg hv2;clear hv2;go_wp2_with fail
      go_region
      go_wp2_with fail
      go_region_with (go_at_call 199;refine(adq _ _).mono ?_;rintro e w' ⟨rfl,rfl⟩)
      all_goals
       go_wp2_with fail
       go_ret
       exact⟨Ej HV2.out.symm,by obtain⟨t,rfl⟩:=ht.out;exact⟨t+2,rfl⟩⟩
 ·
  have hb:(((xl.length:Nat):Int) != ((yl.length:Nat):Int))=true:=by simp;omega
  have ho:Dh n m=if xl.length<yl.length then -1 else 1:=by
   unfold Dh;rw[← hx.val,← hy.val]
   by_cases h:xl.length<yl.length
   ·
    rw[if_pos h,if_pos (Bh zg xl yl hx.lt hy.norm h)]
   ·
    have:=Bh zg yl xl hy.lt hx.norm om;rw[if_neg h,if_neg om,if_pos this]
  have HO:=bg ho;clear ho
  go_enter func195,ntmps195
  go_wp2_with (go_at_call 199;refine(adq _ _).mono ?_;rintro e w' ⟨rfl,rfl⟩)
  all_goals
   go_ret
   refine⟨Ej ?_,⟨0,rfl⟩⟩
   rw[HO.out]
  ·
   rw[if_pos om]
  ·
   rw[if_neg om]
end Go.Proofs.YtfgeaakhlcaibaaGreatDoor
namespace Go.Proofs.YtfgeaakhlcaibaaGreatDoor
open Go.Proofs.Tryz
open Go renaming World → Wq
variable {B a b n s V k c d z v cap:Nat} {U us q:List Nat} {w:Wq} {x:Int} {A:Option Addr}

structure Ag (B V:Nat) (U us q:List Nat) (k:Nat):Prop where
 Ip:us.length=U.length
 lt : ∀ x∈us,x<B
 ltq : ∀ x∈q,x<B
 low : ∀ j,j<k→us.getD j 0=U.getD j 0
 eq:bf B (U.drop k)=bf B (q.drop k)*V+bf B (us.drop k)
 rest:bf B (us.drop k)<V

theorem alz (hB:0<B) (l:List Nat) (n:Nat) (h:bf B l<B^n) (i:Nat) (hi:n≤i):l.getD i 0=0:=by
 apply aag
 intro hne
 have hlt:i<l.length:=by
  apply aag
  intro h2;exact hne (by simp[List.getD,Ha (by omega:l.length≤i)])
 have h1:=Vu B l (i+1)
 rw[nz B l i]at h1
 have h2:B^i*1≤B^i*l.getD i 0:=Bo _ om
 have h3:B^n≤B^i:=Ho hB hi
 omega

theorem aap (B:Nat) (l:List Nat) (n:Nat) (h : ∀ i,n≤i→l.getD i 0=0):bf B (l.take n)=bf B l:=by
 by_cases hn:n≤l.length
 ·
  exact Vt B l n hn (fun i h1 _=>h i h1)
 ·
  rw[Fb om]

theorem bfy (l:List Nat) (k i:Nat):(l.drop k).getD i 0=l.getD (k+i) 0:=by
 simp[List.getD,Sd]

theorem Ag.window (hB:1<B) (h:Ag B V U us q (k+1)) (hV:V<B^n) :
  bf B ((us.drop k).take (n+1))=U.getD k 0+B*bf B (us.drop (k+1))∧bf B ((us.drop k).take (n+1))<B*V∧bf B ((us.drop k).take (n+1))=bf B (us.drop k):=by
 have hz : ∀ i,n+1≤i→(us.drop k).getD i 0=0:=fun i hi=>by
  have:=alz om (us.drop (k+1)) n (Iz h.rest hV) (i-1) om;rw[bfy]at this ⊢;rwa[show k+1+(i-1)=k+i by omega]at this
 have e:=aap B (us.drop k) (n+1) hz
 have e2:=Rx B us k
 rw[h.low k om]at e2
 refine⟨e.trans e2,?_,e⟩
 rw[e,e2]
 have hx:U.getD k 0<B:=by
  rw[← h.low k om];exact jy om us h.lt k
 have:=h.rest
 have h2:B*(bf B (us.drop (k+1))+1)≤B*V:=Bo _ this
 rw[uo,Ns]at h2
 omega

theorem Ag.step {us':List Nat} {qk:Nat} (hB:1<B) (h:Ag B V U us q (k+1)) (hV:V<B^n) (Uk:0<V) (hq:k<q.length)
  (hqk:qk=bf B ((us.drop k).take (n+1))/V) (hr:bf B (us'.drop k)=bf B ((us.drop k).take (n+1))%V) (hlen:us'.length=us.length) (hlt : ∀ x∈us',x<B)
  (hlow : ∀ j,j<k→us'.getD j 0=us.getD j 0):Ag B V U us' (q.set k qk) k:=by
 obtain⟨w1,w2,w3⟩:=h.window hB hV
 refine⟨hlen.trans h.Ip,hlt,Bl _ _ _ h.ltq ?_,fun j hj=>(hlow j hj).trans (h.low j om),?_,?_⟩
 ·
  rw[hqk,Fu Uk];exact w2
 ·
  rw[Rx,Rx B (q.set _ _),afx,Tt _ _ _ hq,h.eq,hr];have Jb:=Fv (bf B ((us.drop k).take (n+1))) V;rw[← hqk]at Jb;rw[w1]at Jb ⊢;generalize (U.getD k 0+B*bf B (us.drop (k+1)))%V=r at *;have e1:B*(bf B (q.drop (k+1))*V)=B*bf B (q.drop (k+1))*V:=by rw[uk]
  have e2:qk*V=V*qk:=og _ _;rw[uo,xm,e1,e2];omega
 ·
  rw[hr];exact Bf _ Uk

theorem Ag.done (h:Ag B V U us q 0):bf B q=bf B U/V∧bf B us=bf B U%V:=by
 have e:=h.eq
 have hr:=h.rest
 simp only[agk]at e hr
 rw[e]
 constructor
 ·
  rw[og,Nat.mul_add_div om,ajv hr];omega
 ·
  rw[og,Nat.mul_add_mod,aew hr]

theorem Ag.start (U q:List Nat) (k:Nat) (hU : ∀ x∈U,x<B) (hq : ∀ x∈q,x<B) (hql:q.length=k) (htop:bf B U<V*B^k):Ag B V U U q k:=by
 refine⟨rfl,hU,hq,fun _ _=>rfl,?_,?_⟩
 ·
  rw[Sg (by omega:q.length≤k)];simp[bf]
 ·
  have h1:=Vu B U k
  by_cases hk:k≤U.length
  ·
   rw[Ce hk]at h1;have h2:B^k*bf B (U.drop k)<B^k*V:=by rw[og _ V];omega
   exact Nat.lt_of_mul_lt_mul_left h2
  ·
   rw[Sg om]
   rcases Fs V with h0|h0
   ·
    subst h0;simp at htop
   ·
    exact h0
end Go.Proofs.YtfgeaakhlcaibaaGreatDoor
namespace Go.Proofs.YtfgeaakhlcaibaaGreatDoor
open Go.RowKit
open Go.Proofs.Tryz
open Go renaming World → Wq
variable {B a b n s V k c d z v cap:Nat} {U us q:List Nat} {w:Wq} {x:Int} {A:Option Addr}

theorem ky {a:Wq} (h:Below B a w) (n:Nat):Below B a (w.drewN n):=⟨h.os,h.tape,h.output,h.size,h.block⟩
theorem ben {P:Prop} (h:P:=by(first|with_reducible assumption|(repeat (first|with_reducible exact df _ _|with_reducible assumption|with_reducible refine ny ?_|(refine qz ?_ zx _)|refine ky ?_ _)))):P:=h

theorem ahk (B:Nat) (l:List Nat) (h:l.length=1):ik l 0=bf B l:=by
 match l,h with
 | [a],_=>simp[bf,ik]

def clc (w:Wq) (q r:Nat) (e:Ending) (w':Wq):Prop :=
 ∃ A cap l A' cap' l',e = .returned (.tuple #[.slice A l.length cap,.slice A' l'.length cap'])∧qf w' A cap l q∧qf w' A' cap' l' r∧Below w.heap.size w w'
theorem azs {r s:Int} (h:k=n) (h':r=s):Ending.returned (.tuple #[.slice A k cap,.int .u64 r]) = .returned (.tuple #[.slice A n cap,.int .u64 s]):=by rw[h,h']
theorem ahg {A':Option Addr} {cap' k' n':Nat} (h:k=n) (h':k'=n'):Ending.returned (.tuple #[.slice A k cap,.slice A' k' cap']) = .returned (.tuple #[.slice A n cap,.slice A' n' cap']):=by rw[h,h']

theorem bho (Ax:Option Addr) (cx:Nat) (xl:List Nat) (n y:Nat) (w:Wq) (hx:qf w Ax cx xl n) (hy:y<eu) (hy0:0<y) (hk:xl.length≤35184372088832) :
  Calls prog 225 #[.slice Ax xl.length cx,.int .u64 ((y:Nat):Int)] w fun e w' =>
   ∃ A cap l,e = .returned (.tuple #[.slice A l.length cap,.int .u64 ((n%y:Nat):Int)])∧qf w' A cap l (n/y)∧Below w.heap.size w w':=by
 have hmk:=Yy xl.length hk
 have hx1:=hx.Aj;have hx2:=hx.cap2
 go_enter func225,ntmps225
 go_wp2
 go_loopw [7,8] (fun rv iv wr => ∃ (i:Int) (r:Nat) (qc:List Nat),-1≤i∧i<xl.length∧iv = .int .i64 i∧rv = .int .u64 ((r:Nat):Int)∧Hid (Dx eu xl qc y (i+1).toNat r)∧ZB .u64 wr w.heap.size 157 qc∧Below w.heap.size w wr) (fun _ iv _=>(intOf iv+1).toNat)
 case atStart =>
  refine⟨(xl.length:Int)-1,0,List.replicate xl.length 0,by omega,by omega,rfl,rfl,?_,heap_alloc_new w _,(df _ _).alloc (gu _) _⟩
  rw[show((xl.length:Int)-1+1).toNat=xl.length by omega];exact Dx.start _ _ _ mi hy0 (Wu (by rw[ja];omega) _)
 case round =>
  obtain⟨i,r,qc,hi1,hi2,rfl,rfl,HI,qh,hg⟩:=hrel;have hlen:=HI.out.len
  by_cases h0:i<0
  ·
   have e:i = -1:=by omega
   subst e;obtain⟨v1,v2⟩:=HI.out.done;rw[hx.val]at v1 v2;have V1:=bg v1;have V2:=bg v2;clear v1 v2;go_wp2_with fail;have htr:=Nc (some ⟨w.heap.size,0,none⟩) qc.length qc (wr.heap.size) wr (qh.Mk _ qh.lt) (gu _) om;rw[hlen]at htr;refine htr.mono ?_
   rintro e w' ⟨⟨k,rfl,ht,hk2⟩,rfl⟩;go_wp2_with fail
   go_ret2
   have hk3:k=(qc.take k).length:=by simp;omega
   refine⟨some ⟨w.heap.size,0,none⟩,xl.length,qc.take k,azs hk3 (by rw[V2.out]),?_,hg⟩
   have:=qf.Ij (cap:=xl.length) qh HI.out.lt ht om om om;rwa[V1.out]at this
  ·
   obtain⟨j,rfl⟩:=amz (show 0≤i by omega);have hjx:j<xl.length:=by omega
   obtain⟨bx,ox,rfl,hbx,hcx⟩:=hx.ws om;have Lj:=(hg.cell (p:=⟨bx,ox+j,none⟩) hbx).trans (hcx j hjx);clear hcx;have hzc:=qh.cell j om;have hzf:=qh.frozen j;obtain⟨xj,hxj⟩ : ∃ t,t=ik xl j:=⟨_,rfl⟩
   rw[← hxj]at Lj;have Cf:xj<eu:=by rw[hxj];exact jy (by rw[ja];omega) _ hx.lt _
   have hinv:Dx eu xl qc y (j+1) r:=by have:=HI.out;rwa[show((j:Int)+1).toNat=j+1 by omega]at this
   have hry:=hinv.r1;obtain⟨q,hq⟩ : ∃ t,t=(r*eu+xj)/y:=⟨_,rfl⟩
   obtain⟨s,hs⟩ : ∃ t,t=(r*eu+xj)%y:=⟨_,rfl⟩
   have hdiv:=aza r xj y hy Cf hry;rw[← hq,← hs]at hdiv;have hfin : ∀ W k,W=(wr.drewN k).setCell ⟨w.heap.size,j,none⟩ (.int .u64 (q:Int))→Hid (Dx eu xl (qc.set j q) y j s)∧ZB .u64 W w.heap.size 157 (qc.set j q)∧Below w.heap.size w W:=by
    rintro W k rfl;refine⟨?_,(qh.drewN k).Jr _ _,(ky hg k).setCell (p:=⟨w.heap.size,j,none⟩) (gu _) _⟩
    rw[hq,hs,hxj];exact hinv.step hjx (by rw[← pg,← hxj];exact Cf)
   have HF:=ae hfin;have HD:=ae hdiv;clear hfin hdiv hq hs hxj Cf hinv hry qh hg HI;go_wp2_with fail;refine((aa HD) _).mono ?_
   rintro e w' ⟨rfl,k,rfl⟩;go_wp2_with fail
   go_roundw
   case rel =>
    obtain⟨r1,r2,r3⟩:=(aa HF) _ k rfl;exact⟨(j:Int)-1,s,qc.set j q,by omega,by omega,rfl,rfl,by rw[show((j:Int)-1+1).toNat=j by omega];exact r1,r2,r3⟩
   case measure=>simp[intOf]<;>omega

theorem cal (Ax:Option Addr) (cx:Nat) (xl:List Nat) (n s:Nat) (w:Wq) (hx:qf w Ax cx xl n) (hs:s<64) (hk:xl.length+1≤35184372088832) :
  Calls prog 227 #[.slice Ax xl.length cx,.int .u64 ((s:Nat):Int)] w fun e w' =>
   ∃ b zr,e = .returned (.slice (some ⟨b,0,none⟩) (xl.length+1) (xl.length+1))∧w.heap.size≤b∧zr.length=xl.length+1∧(∀ x∈zr,x<eu)∧bf eu zr=n*2^s∧ZB .u64 w' b 157 zr∧Below w.heap.size w w' :=
 (bwu Ax cx xl n s w hx hs hk).mono fun e w' ⟨zr,h1,h2,h3,h4,h5,h6⟩=>⟨w.heap.size,zr,h1,gu _,h2,h3,h4,h5,h6⟩

theorem aok (hB:1<B) (l:List Nat) (hn:Ur l) (hl : ∀ x∈l,x<B) (k:Nat) (hk:0<k) (h1:B^(k-1)≤bf B l) (h2:bf B l<B^k):l.length=k:=by
 have a1:=ael hB l hn k h2
 have a2:=Bi l hl
 apply aag
 intro h
 have:B^l.length≤B^(k-1):=Ho om om
 omega

theorem bch (yl:List Nat) (m s:Nat) (bxu:s≤64) (hn:1≤yl.length) (hlt : ∀ x∈yl,x<eu) (hv:bf eu yl=m) (hs1:yl.getD (yl.length-1) 0*2^s<eu) (ht:yl.getD (yl.length-1) 0≠0) :
  eu^(yl.length-1)*2^s≤m*2^s∧m*2^s<eu^yl.length:=by
 have h2:=rz eu yl (yl.length-1) om
 rw[show yl.length-1+1=yl.length by omega,jk _ _ _ (gu _),hv]at h2
 have h3:=Bi (B:=eu) (yl.take (yl.length-1)) (fun x hx=>hlt x (Dn hx))
 rw[uy,Ce om]at h3
 have e:eu^yl.length=eu^(yl.length-1)*eu:=by rw[← Be,show(yl.length-1).succ=yl.length by omega]
 rw[e]
 generalize hP:eu^(yl.length-1)=P at *
 generalize yl.getD (yl.length-1) 0=t at *
 have hS:0<2^s:=wz om
 have hsp:=atu s bxu
 generalize 2^s=S at *
 generalize 2^(64-s)=T at *
 have h6:t*S+S≤eu:=by
  rw[← hsp,og S]at hs1 ⊢;have:=arz hs1;have h7:(t+1)*S≤T*S:=Dc _ this;rwa[xm,Iy]at h7
 constructor
 ·
  refine Dc _ ?_
  have:P*1≤P*t:=Bo _ om;omega
 ·
  have h4:m+1≤P*(t+1):=by rw[uo,Ns];omega
  have h5:(m+1)*S≤P*(t+1)*S:=Dc _ h4;rw[xm,Iy,uk,xm,Iy]at h5;have:P*(t*S+S)≤P*eu:=Bo _ h6;omega

theorem byl (Ax Ay:Option Addr) (cx cy:Nat) (xl yl:List Nat) (n m:Nat) (w:Wq) (hx:qf w Ax cx xl n) (hy:qf w Ay cy yl m) (hm:0<m) (hk:xl.length+1≤35184372088832) (hk2:yl.length+1≤35184372088832)
  (hn2:2≤yl.length) (hny:yl.length≤xl.length) (o3:Int) (HC:Hid (Calls prog 195 #[.slice Ax xl.length cx,.slice Ay yl.length cy] w fun e w'=>e = .returned (.int .i64 o3) ∧ ∃ k,w'=w.drewN k)) (ho:decide (o3<0)=false) :
  Calls prog 201 #[.slice Ax xl.length cx,.slice Ay yl.length cy] w fun e w'=>clc w (n/m) (n%m) e w':=by
 have hx1:=hx.Aj;have hx2:=hx.cap2;have hy1:=hy.Aj;have hy2:=hy.cap2
 have hb1:((yl.length:Int)==1)=false:=by simp;omega
 obtain⟨by',oy,hA,hby,hcy⟩:=hy.ws om
 subst hA
 have hyt:=hcy (yl.length-1) om
 obtain⟨yt,Rc⟩ : ∃ t,t=ik yl (yl.length-1):=⟨_,rfl⟩
 rw[← Rc]at hyt
 have Gz:yt<eu:=by rw[Rc];exact jy (by rw[ja];omega) _ hy.lt _
 have hy0:yt≠0:=by
  rw[Rc]
  rcases hy.norm with h|h
  ·
   rw[h]at hn2;simp at hn2
  ·
   exact h
 obtain⟨s,hs,hs1,hs2,hlz⟩:=bja yt Gz om w
 obtain⟨vb1,vb2⟩:=bch yl m s om om hy.lt hy.val (by rw[← pg,← Rc];exact hs2) (by rw[← pg,← Rc];exact hy0)
 obtain⟨lq,hlq⟩ : ∃ t,t=xl.length+1-yl.length:=⟨_,rfl⟩
 have apz:((lq:Nat):Int)=(xl.length:Int)+1-(yl.length:Int):=by omega
 have hmk:=Yy lq om
 rw[apz]at hmk
 have crv:lq+yl.length=xl.length+1:=by omega
 have HLZ:=ae hlz
 have HLQ:=bg apz
 have HYT:=bg Rc
 have HV1:=ae vb1;have HV2:=ae vb2
 clear hlz Rc hcy vb1 vb2 hs1 hs2 apz hlq
 go_enter func201,ntmps201
 go_wp2_with fail
 refine(aa HC).mono ?_
 rintro e w' ⟨rfl,k,rfl⟩
 go_wp2_with fail
 refine((aa HLZ) _).mono ?_
 rintro e w1 ⟨rfl,hw1⟩
 have Tn:Below w.heap.size w w1:=by rw[hw1];exact ky (df _ _) k
 clear hw1
 go_wp2_with fail
 refine(cal _ cy yl m s w1 (hy.below Tn) hs hk2).mono ?_
 rintro e w2 ⟨bv,vz,rfl,hbv,hvl,apy,hvv,hvz,hb2⟩
 have HVL:=bg hvl;have HVV:=bg hvv
 clear hvl hvv
 go_wp2_with fail
 have htr:=Nc (some ⟨bv,0,none⟩) vz.length vz w2.heap.size w2 (hvz.Mk _ hvz.lt) (gu _) (by have:=HVL.out;omega)
 rw[HVL.out]at htr
 refine htr.mono ?_
 rintro e w3 ⟨⟨kv,rfl,ht,hkv⟩,hw3⟩
 obtain rfl:w2=w3:=hw3.symm
 clear hw3
 have Qd:(vz.take kv).length=yl.length:=by
  refine aok zg _ ht.norm (fun x hx=>apy x (Dn hx)) _ om ?_ ?_
  ·
   rw[ht.val,HVV.out];exact xy (bbk _ (wz om)) (aa HV1)
  ·
   rw[ht.val,HVV.out];exact aa HV2
 have bxx:kv=yl.length:=by have:=HVL.out;rw[uy]at Qd;omega
 subst bxx
 have crn:qf w2 Ax cx xl n:=(hx.below Tn).below hb2
 go_wp2_with fail
 refine(cal Ax cx xl n s w2 crn hs hk).mono ?_
 rintro e w4 ⟨bu,uz,rfl,hbu,Zf,bxo,huv,huz,hb3⟩
 have cro:=hvz.below hb3 hvz.lt
 have czh:bv<bu:=zh hvz.lt hbu
 have HUL:=bg Zf;have Wi:=bg huv
 have HT:=ae ht;have HVN:=bg Qd
 have aqb:Below w.heap.size w w4:=Tn.trans ((hb2.mono Tn.size).trans (hb3.mono (xy Tn.size hb2.size)))
 clear Zf huv ht Qd
 obtain⟨V,hV⟩ : ∃ t,t=m*2^s:=⟨_,rfl⟩
 have auk:bf eu (vz.take yl.length)=V:=by rw[(aa HT).val,HVV.out,hV]
 have bev:V<eu^yl.length:=by rw[hV];exact aa HV2
 have Uk:0<V:=by rw[hV];exact Ye hm (wz om)
 have htop:bf eu uz<V*eu^lq:=by
  rw[Wi.out,hV];have h1:=hx.Za;have h2:=aa HV1;have h3:eu^(yl.length-1)*eu^lq=eu^xl.length:=by rw[← Hq,show yl.length-1+lq=xl.length by omega]
  have h4:eu^(yl.length-1)*2^s*eu^lq≤m*2^s*eu^lq:=Dc _ h2;have h5:n*2^s<eu^xl.length*2^s:=arw h1 (wz om);have h6:eu^(yl.length-1)*2^s*eu^lq=eu^xl.length*2^s:=by
   rw[← h3];simp only[og,Nt,uk]
  omega
 have hstart:Ag eu V uz uz (List.replicate lq 0) lq:=Ag.start _ _ _ bxo (Wu (by rw[ja];omega) _) mi htop
 have czj:bu<w4.heap.size:=huz.lt
 have bmv:Ws .u64 w4 (bv+1) (some ⟨bv,0,none⟩) (vz.take yl.length):=(cro.Mk _ (ary _)).adk _
 have aix:=bg auk;have bgf:=ae bev;have HV0:=ae Uk;have byz:=bg hV;have HST:=ae hstart
 have crw:0<lq:=by omega
 clear auk bev hV hstart htop hyt hy0
 go_wp2_with fail
 go_loopw [12] (fun iv wr => ∃ (i:Int) (us qs:List Nat),-1≤i∧i<lq∧iv = .int .i64 i∧Hid (Ag eu V uz us qs (i+1).toNat)∧Hid (qs.length=lq)∧ZB .u64 wr bu 157 us∧ZB .u64 wr w4.heap.size 157 qs∧Ws .u64 wr (bv+1) (some ⟨bv,0,none⟩) (vz.take yl.length)∧Below w.heap.size w wr∧w4.heap.size<wr.heap.size) (fun iv _=>(intOf iv+1).toNat)
 case atStart =>
  refine⟨(lq:Int)-1,uz,List.replicate lq 0,by omega,by omega,rfl,?_,by show _=_;simp,huz.alloc _,heap_alloc_new w4 _,bmv.alloc om _,aqb.alloc aqb.size _,by simp⟩
  rw[show((lq:Int)-1+1).toNat=lq by omega];exact HST
 case round =>
  obtain⟨i,us,qs,hi1,hi2,rfl,HI,Zl,ach,hqz,hvr,hbr,bxs⟩:=hrel;obtain⟨wo,rfl⟩ : ∃ wo:Wq,wo=wr:=⟨_,rfl⟩
  by_cases h0:i<0
  ·
   have e:i = -1:=by omega
   subst e;obtain⟨v1,v2⟩:=HI.out.done;have hS:0<2^s:=wz om;obtain⟨sd1,sd2⟩:=Zt (N:=n) (Y:=m) (S:=2^s) hS;rw[Wi.out,byz.out]at v1 v2;rw[sd1]at v1;have v3:bf eu us/2^s=n%m:=by rw[v2];exact sd2
   have V1:=bg v1;have V3:=bg v3;have Xf:us.length=xl.length+1:=HI.out.Ip.trans HUL.out;have bzf:=ae HI.out.lt;have bze:=ae HI.out.ltq;have bxq:=Nc (some ⟨w4.heap.size,0,none⟩) qs.length qs wo.heap.size wo (hqz.Mk _ hqz.lt) (gu _) (by have:=Zl.out;omega);have Xg:=Nc (some ⟨bu,0,none⟩) us.length us wo.heap.size wo (ach.Mk _ ach.lt) (gu _) om;rw[Zl.out]at bxq;rw[Xf]at Xg;have T1:=ae bxq;have T2:=ae Xg;have aep:=bg Xf;clear v1 v2 sd1 sd2 v3 bxq Xg Xf HI;go_wp2_with fail;refine(aa T1).mono ?_
   rintro e w5 ⟨⟨k1,rfl,ht1,hk1⟩,hw5⟩;obtain rfl:wo=w5:=hw5.symm;clear hw5;go_wp2_with fail;refine(aa T2).mono ?_
   rintro e w6 ⟨⟨k2,rfl,ht2,hk2⟩,hw6⟩;obtain rfl:wo=w6:=hw6.symm;clear hw6;go_wp2_with fail;have e1:(us.take k2).length=k2:=by have:=aep.out;rw[uy];omega
   have hrt:=bra (some ⟨bu,0,none⟩) (xl.length+1) (us.take k2) s wo ((ach.Mk _ ach.lt).adk _) (by have:=aep.out;omega) om (fun x hx=>(aa bzf) x (Dn hx)) hs (by have:=aep.out;omega);rw[e1,ht2.val,V3.out]at hrt;refine hrt.mono ?_
   rintro e w7 ⟨A',cap',l',rfl,hr',hb'⟩;go_wp2_with fail
   go_ret2
   have e2:k1=(qs.take k1).length:=by have:=Zl.out;rw[uy];omega
   have hq':=qf.Ij (cap:=lq) hqz (aa bze) ht1 (by rw[Zl.out];exact hk1) (by rw[Zl.out];exact gu _) om;rw[V1.out]at hq';exact⟨some ⟨w4.heap.size,0,none⟩,lq,qs.take k1,A',cap',l',ahg e2 rfl,hq'.below hb',hr',hbr.trans (hb'.mono hbr.size)⟩
  ·
   obtain⟨j,rfl⟩:=amz (show 0≤i by omega);have hinv:Ag eu V uz us qs (j+1):=by have:=HI.out;rwa[show((j:Int)+1).toNat=j+1 by omega]at this
   have Xf:us.length=xl.length+1:=hinv.Ip.trans HUL.out;have hql:=Zl.out;have hqc:=hqz.cell j om;have hqf:=hqz.frozen j;have aiy:=ae hinv;have aep:=bg Xf;obtain⟨wd1,wd2,wd3⟩:=hinv.window zg (aa bgf);have hwl:((us.drop j).take (yl.length+1)).length=yl.length+1:=by rw[uy,Kv];omega
   have hds:=bhp bu j (xl.length+1-j) 157 yl.length us ((us.drop j).take (yl.length+1)) (vz.take yl.length) (some ⟨bv,0,none⟩) (yl.length+1) (bv+1) wo ach om (by rw[hwl]) om om hvr om (by simp;omega) om om HVN.out hwl
    (fun x hx=>hinv.lt x (aso (Dn hx))) (fun x hx=>apy x (Dn hx)) (by rw[aix.out];exact wd2)
   have HDS:=ae hds;clear hds;have hfin : ∀ (W:Wq) (zr:List Nat) (q:Nat),bga ((us.drop j).take (yl.length+1)) (vz.take yl.length) zr q→Hid (Ag eu V uz (win us j zr) (qs.set j q) j):=fun W zr q hok=>by
    have hzl:zr.length=yl.length+1:=hok.len.trans hwl;refine hinv.step (n:=yl.length) zg (aa bgf) (aa HV0) om ?_ ?_ ?_ ?_ ?_
    ·
     rw[hok.quo,aix.out]
    ·
     have e1:(win us j zr).drop j=zr++us.drop (j+zr.length):=by
      simp only[win,Lm];rw[bac (by simp;omega),Sg (by simp;omega),Pm]
     have e2:bf eu (us.drop (j+zr.length))=0:=by
      have h1:=Vu eu (us.drop j) (yl.length+1);rw[wd3,arj]at h1;have h2:0<eu^min (yl.length+1) (us.drop j).length:=wz (by rw[ja];omega);rw[hzl]
      rcases Fs (bf eu (us.drop (j+(yl.length+1))))with h|h
      ·
       exact h
      ·
       have:=Ye h2 h;omega
     rw[e1,Og,e2,Nr,Hr,hok.rem,aix.out]
    ·
     rw[win_length _ _ _ om]
    ·
     intro x hx;simp only[win,Lm,Ku]at hx
     rcases hx with h|h|h
     ·
      exact hinv.lt x (Dn h)
     ·
      exact hok.lt x h
     ·
      exact hinv.lt x (aso h)
    ·
     intro t ht;simp only[win,Lm,List.getD];rw[arh (by simp;omega),bkl,if_pos ht]
   have Nq:=ae hfin;clear hinv Xf hql HI wd1 wd2 wd3 hfin;go_wp2_with fail;rw[show j+yl.length+1-j=yl.length+1 by omega];refine(aa HDS).mono ?_
   rintro e w5 ⟨zr,q,rfl,hok,Zw,bea,hg5⟩;have bnf:=(aa Nq) w5 zr q hok;have ahu:=hqz.grown hg5 (by intro h;injection h with h;omega);have crq:=ahu.cell j (by have:=Zl.out;omega);have crp:=ahu.frozen j;have hv5:Ws .u64 w5 (bv+1) (some ⟨bv,0,none⟩) (vz.take yl.length):=hvr.grown hg5 om (fun g e=>by injection e with e;omega);have hb5:Below w.heap.size w w5:=hbr.grown hg5 hbr.size (fun g e=>by injection e with e;subst e;exact xy Tn.size (xy hb2.size hbu));have hs5:w4.heap.size<w5.heap.size:=zh bxs hg5.size;have bxl:w.heap.size≤w4.heap.size:=aqb.size;have aun : ∀ W,W=w5.setCell ⟨w4.heap.size,j,none⟩ (.int .u64 (q:Int))→ZB .u64 W bu 157 (win us j zr)∧ZB .u64 W w4.heap.size 157 (qs.set j q)∧Ws .u64 W (bv+1) (some ⟨bv,0,none⟩) (vz.take yl.length)∧Below w.heap.size w W∧w4.heap.size<W.heap.size:=by
    rintro W rfl;exact⟨(anc w5 _ _ bu (by show bu≠w4.heap.size;omega)).trans bea,ahu.Jr _ _,hv5.setCell (p:=⟨w4.heap.size,j,none⟩) (by show bv+1≤w4.heap.size;omega) _,hb5.setCell (p:=⟨w4.heap.size,j,none⟩) bxl _,by simp[World.setCell];omega⟩
   have HF2:=ae aun;clear hok hg5 aun bea ahu hv5 hb5;go_wp2_with fail
   go_roundw
   case rel =>
    obtain⟨f1,f2,f3,f4,f5⟩:=(aa HF2) _ rfl;exact⟨(j:Int)-1,win us j zr,qs.set j q,by omega,by omega,rfl,by rw[show((j:Int)-1+1).toNat=j by omega];exact bnf,by show _=_;rw[Pn];exact Zl.out,f1,f2,f3,f4,f5⟩
   case measure=>simp[intOf]<;>omega

theorem awr (Ax Ay:Option Addr) (cx cy:Nat) (xl yl:List Nat) (n m:Nat) (w:Wq) (hx:qf w Ax cx xl n) (hy:qf w Ay cy yl m) (hm:0<m) (hk:xl.length+1≤35184372088832) (hk2:yl.length+1≤35184372088832) :
  Calls prog 201 #[.slice Ax xl.length cx,.slice Ay yl.length cy] w fun e w'=>clc w (n/m) (n%m) e w':=by
 have hx1:=hx.Aj;have hx2:=hx.cap2;have hy1:=hy.Aj;have hy2:=hy.cap2
 have hyl:0<yl.length:=by
  rcases Fs yl.length with h|h
  ·
   have:=ari h;subst this;have:=hy.val;simp[bf]at this;omega
  ·
   exact h
 have hcmp:=afr Ax Ay cx cy xl yl n m w hx hy
 have HC:=ae hcmp
 clear hcmp
 by_cases hlt:n<m
 ·
  have ho:Dh n m = -1:=by unfold Dh;rw[if_pos hlt]
  rw[ho]at HC;have hq:n/m=0:=ajv hlt;have hr:n%m=n:=aew hlt;rw[hq,hr];clear ho hq hr
  go_enter func201,ntmps201
  go_wp2_with fail;refine(aa HC).mono ?_
  rintro e w' ⟨rfl,k,rfl⟩;go_wp2_with fail
  go_ret2
  exact⟨none,0,[],Ax,cx,xl,rfl,qf.aeg _ _ om,hx.below (ky (df _ _) k),ky (df _ _) k⟩
 ·
  have ho:decide (Dh n m<0)=false:=by unfold Dh;rw[if_neg hlt];split<;>rfl
  obtain⟨o3,ho3⟩ : ∃ t,t=Dh n m:=⟨_,rfl⟩
  rw[← ho3]at HC ho;have hny:yl.length≤xl.length:=by
   apply aag
   intro h;have:=Bh zg xl yl hx.lt hy.norm om;rw[hx.val,hy.val]at this;omega
  clear ho3
  by_cases h1:yl.length=1
  ·
   have hb1:((yl.length:Int)==1)=true:=by simp;omega
   obtain⟨by',oy,hA,hby,hcy⟩:=hy.ws om;subst hA;have hy0:=hcy 0 om;rw[Hr]at hy0;have hm0:ik yl 0=m:=by rw[ahk eu yl h1];exact hy.val
   rw[hm0]at hy0;have Wn:m<eu:=by rw[← hm0];exact jy (by rw[ja];omega) _ hy.lt _
   have HDW : ∀ k,Hid (Calls prog 225 #[.slice Ax xl.length cx,.int .u64 ((m:Nat):Int)] (w.drewN k) fun e w' =>
    ∃ A cap l,e = .returned (.tuple #[.slice A l.length cap,.int .u64 ((n%m:Nat):Int)])∧qf w' A cap l (n/m)∧Below w.heap.size w w'):=fun k =>
    (bho Ax cx xl n m (w.drewN k) (hx.below (ky (df _ _) k)) Wn hm om).mono fun e w' ⟨A,cap,l,h1,h2,h3⟩=>⟨A,cap,l,h1,h2,(ky (df _ _) k).trans h3⟩
   have hrB:n%m<eu:=Iz (Bf _ hm) Wn;have HRB:=ae hrB;obtain⟨r,hr⟩ : ∃ t,t=n%m:=⟨_,rfl⟩
   rw[← hr]at HDW HRB ⊢;clear hm0 h1 hcy hr hrB
   go_enter func201,ntmps201
   go_wp2_with fail;refine(aa HC).mono ?_
   rintro e w' ⟨rfl,k,rfl⟩;go_wp2_with fail;refine(aa (HDW k)).mono ?_
   rintro e w1 ⟨A,cap,l,rfl,hq,hb⟩;go_wp2_with fail;refine(akx r HRB.out w1).mono ?_
   rintro e w2 ⟨A',cap',l',rfl,hr',hb'⟩;go_wp2_with fail
   go_ret2
   exact⟨A,cap,l,A',cap',l',rfl,hq.below hb',hr',hb.trans (hb'.mono hb.size)⟩
  ·
   have hb1:((yl.length:Int)==1)=false:=by simp;omega
   exact byl Ax Ay cx cy xl yl n m w hx hy hm hk hk2 om hny o3 HC ho
end Go.Proofs.YtfgeaakhlcaibaaGreatDoor
namespace Go.Proofs.YtfgeaakhlcaibaaGreatDoor
open Go.Shelf
open Go.Proofs.Tryz
open Go renaming World → Wq
variable {B a b n s V k c d z v cap:Nat} {U us q:List Nat} {w:Wq} {x:Int} {A:Option Addr}
def cmn:Go.Shelf.Ren:=⟨fun|29=>187|n=>n,fun|0=>0|3=>3|4=>4|5=>5|22=>157|25=>192|54=>229|n=>n,fun|1=>1|n=>n⟩
theorem cgh:Go.Proofs.Lays7.n29 prog cmn:={
 mixed:=by kernel_rfl
 f29:=func187.trans (Ez some kr)
 t0:=by kernel_rfl
 a0:=fun _=>by kernel_rfl
 z0:=fun _=>by kernel_rfl
 v0:=fun _=>by kernel_rfl
 i0:=by kernel_rfl
 t3:=by kernel_rfl
 a3:=fun _=>by kernel_rfl
 z3:=fun _=>by kernel_rfl
 v3:=fun _=>by kernel_rfl
 i3:=by kernel_rfl
 t4:=by kernel_rfl
 a4:=fun _=>by kernel_rfl
 z4:=fun _=>by kernel_rfl
 v4:=fun _=>by kernel_rfl
 i4:=by kernel_rfl
 t5:=by kernel_rfl
 a5:=fun _=>by kernel_rfl
 z5:=fun _=>by kernel_rfl
 v5:=fun _=>by kernel_rfl
 i5:=by kernel_rfl
 t22:=by kernel_rfl
 a22:=fun _=>by kernel_rfl
 z22:=fun _=>by kernel_rfl
 v22:=fun _=>by kernel_rfl
 i22:=by kernel_rfl
 t25:=by kernel_rfl
 a25:=fun _=>by kernel_rfl
 z25:=fun _=>by kernel_rfl
 v25:=fun _=>by kernel_rfl
 i25:=by kernel_rfl
 t54:=by kernel_rfl
 a54:=fun _=>by kernel_rfl
 z54:=fun _=>by kernel_rfl
 g1:=by kernel_rfl}
theorem apa (x:Nat) (hx:x<18446744073709551616) (w:Wq) (hT:TabAt 1 Lib.deBruijn64tab w) :
  Calls prog 187 #[.int .u64 ((x:Nat):Int)] w fun e w'=>e = .returned (.int .i64 (Lib.ctz 64 x:Int))∧w'=w :=
 Any7.bits_TrailingZeros64 cgh x hx w (fun _=>hT)
end Go.Proofs.YtfgeaakhlcaibaaGreatDoor
namespace Go.Proofs.YtfgeaakhlcaibaaGreatDoor
open Go.RowKit
open Go.Proofs.Tryz
open Go renaming World → Wq
variable {B a b n s V k c d z v cap:Nat} {U us q:List Nat} {w:Wq} {x:Int} {A:Option Addr}

def yg (w:Wq):Prop:=TabAt 1 Lib.deBruijn64tab w∧1<w.heap.size
theorem yg.below {w':Wq} (h:yg w) (hb:Below w.heap.size w w'):yg w' :=
 ⟨fun j hj=>(hb.cell (p:=⟨1,j,none⟩) h.2).trans (h.1 j hj),zh h.2 hb.size⟩
theorem yg.drew {w:Wq} (h:yg w):yg w.drew:=h
theorem yg.drewN (h:yg w) (n:Nat):yg (w.drewN n):=h
theorem yg.alloc {w:Wq} (h:yg w) (o:Obj):yg (w.alloc o):=h.below ((df _ _).alloc (gu _) _)

theorem aie (x:Nat) (h0:x≠0) (hx:x<18446744073709551616) : ∃ u,Gy x (Lib.ctz 64 x) u∧Lib.ctz 64 x<64:=by
 unfold Lib.ctz
 rw[if_neg h0]
 obtain⟨m,hm,hlt⟩:=Lib.ctzFrom_spec 64 x om (by simpa using hx)
 exact⟨2*m+1,⟨hm,by omega⟩,hlt⟩

theorem axh (h:b≤a) (ha:a<eu):IntKind.u64.wrap ((a:Int)-(b:Int))=((a-b:Nat):Int):=by
 rw[Ct];rw[ja]at ha;omega

theorem ayr (x y:Nat) (hx:x<eu) (hy:y<eu) (w:Wq) (hT:yg w) :
  Calls prog 138 #[.int .u64 ((x:Nat):Int),.int .u64 ((y:Nat):Int)] w fun e w'=>e = .returned (.int .u64 ((x.gcd y:Nat):Int))∧w'=w:=by
 by_cases h0:x=0∨y=0
 ·
  have hor:Go.bits .or .u64 (x:Int) (y:Int)=((x.gcd y:Nat):Int):=by
   rw[bits_or_u64_nat x y hx hy]
   rcases h0 with rfl|rfl<;>simp
  rcases h0 with rfl|rfl
  all_goals
   go_enter func138,ntmps138
   go_wp2
   all_goals
    go_ret
    exact⟨Ej (by first|exact hor|simp_all),rfl⟩
 ·
  have b1:((x:Int)==0)=false:=by simp;omega
  have b2:((y:Int)==0)=false:=by simp;omega
  obtain⟨o,ho⟩ : ∃ o,o=x ||| y:=⟨_,rfl⟩
  have hor:Go.bits .or .u64 (x:Int) (y:Int)=((o:Nat):Int):=by rw[bits_or_u64_nat x y hx hy,ho]
  obtain⟨u,hu,cjt⟩:=aie x om hx;obtain⟨v,hv,byd⟩:=aie y om hy;have ho0:o≠0:=by rw[ho];intro h;rw[Nat.or_eq_zero_iff]at h;omega
  have hoB:o<eu:=by rw[ho];exact Nat.or_lt_two_pow (n:=64) hx hy
  obtain⟨ow,how,cru⟩:=aie o ho0 hoB;have hstart:=Gn.start hu hv ⟨ow,by rw[← ho];exact how⟩;obtain⟨t,ht⟩ : ∃ t,t=Lib.ctz 64 o:=⟨_,rfl⟩
  obtain⟨a,ha⟩ : ∃ a,a=Lib.ctz 64 x:=⟨_,rfl⟩
  have c1:=apa o hoB w hT.1;have c2:=apa x hx w hT.1;rw[← ht]at c1 hstart cru;rw[← ha]at c2 hu cjt;have hdx:(x:Int)/2^a=(u:Int):=by
   have:=aos hu;rw[← this];simp
  have hub:=avc hu;have Fj:=ae c1;have Wt:=ae c2;have HST:=ae hstart;have hG:0<x.gcd y∧x.gcd y<eu:=⟨ajs _ om,Dm (asb _ om) hx⟩
  obtain⟨G,hGG⟩ : ∃ G,G=x.gcd y:=⟨_,rfl⟩
  rw[← hGG]at hstart hG;have HST:=ae hstart;have HGG:=bg hGG;have HG:=ae hG;clear h0 ho hv byd how hstart hu c1 c2 ht ha hGG hG
  go_enter func138,ntmps138
  go_wp2_with fail;refine(aa Fj).mono ?_
  rintro e w' ⟨rfl,rfl⟩;go_wp2_with fail;refine(aa Wt).mono ?_
  rintro e w' ⟨rfl,rfl⟩;go_wp2_with fail;have HT:=ae hT;clear hT Fj Wt b1 b2 hor hdx cjt
  go_loop [0,1] (fun xv yv => ∃ p q:Nat,xv = .int .u64 ((p:Nat):Int)∧yv = .int .u64 ((q:Nat):Int)∧p<eu∧q<eu∧Hid (Gn G t p q)) (fun xv yv=>(intOf xv).toNat+(intOf yv).toNat)
  case atStart=>exact⟨u,y,rfl,rfl,by omega,hy,HST⟩
  case round =>
   obtain⟨p,q,rfl,rfl,hp,hq,HI⟩:=hrel
   by_cases hq0:q=0
   ·
    subst hq0;have e1:=HI.out.done;have hs:IntKind.u64.wrap ((p:Int)*2^t)=(G:Int):=by
     have h2:=(aa HG).2;rw[ja]at h2;rw[Ct,show(p:Int)*2^t=((p*2^t:Nat):Int)by simp,← e1];omega
    clear e1;have hb0:(((0:Nat):Int) != 0)=false:=rfl;go_wp2_with fail
    go_ret
    exact⟨Ej (by rw[HGG.out]),rfl⟩
   ·
    have hb0:((q:Int) != 0)=true:=by simp;omega
    obtain⟨v,hv,byd⟩:=aie q hq0 hq;obtain⟨b,hb⟩ : ∃ b,b=Lib.ctz 64 q:=⟨_,rfl⟩
    have c3:=apa q hq w' (aa HT).1;rw[← hb]at c3 hv byd;have HC3:=ae c3;have hvb:=avc hv;have hdy:(q:Int)/2^b=(v:Int):=by
     have:=aos hv;rw[← this];simp
    have hp1:=HI.out.1
    by_cases hlt:v<p
    ·
     have hn:=HI.out.ccu hv hlt;have HN:=bg hn;have hw:=axh (Lt hlt) hp;clear hn c3 hb hv;go_wp2_with fail;refine(aa HC3).mono ?_
     rintro e w2 ⟨rfl,rfl⟩;go_wp2_with fail
     go_round
     case rel=>exact⟨v,p-v,rfl,by go_num,by omega,by omega,HN⟩
     case measure=>simp[intOf]<;>omega
    ·
     have hn:=HI.out.cct hv om;have HN:=bg hn;have hw:=axh (show p≤v by omega) (show v<eu by omega);clear hn c3 hb hv;go_wp2_with fail;refine(aa HC3).mono ?_
     rintro e w2 ⟨rfl,rfl⟩;go_wp2_with fail
     go_round
     case rel=>exact⟨p,v-p,rfl,by go_num,by omega,by omega,HN⟩
     case measure=>simp[intOf]<;>omega
end Go.Proofs.YtfgeaakhlcaibaaGreatDoor
