/- Texts beneath a law of layer 1. -/
import Derived.Test.YtfgeaakhlcaibaaGreatDoorCy14
import Derived.MapKept
import Derived.Lib.Strings
import Derived.Lib.IndexLaws
import Derived.Lib.CutLaws
set_option maxRecDepth 100000
set_option maxHeartbeats 16000000
namespace Go.Proofs.YtfgeaakhlcaibaaGreatDoor
open Go.RowKit

namespace Sb
abbrev ToT (t : Wd.Told) : World → Value → Prop := kz [ax [iv t.n, iv t.d], Rg.au (.int .i64 t.e)]
open Classical in
theorem aik {x : Rat} (t : Wd.Told) (w : World) (u0 : Value) (h0 : ax [.r x] w u0) (hr : (¬ Wd.fits x → t = ⟨0, 0, 3⟩) ∧ (Wd.fits x → t = ⟨x.num, x.den, 0⟩)) :
  Calls Tryz.prog 110 #[u0] w (ib (ToT t) w) := by
 have HR := hide hr
 clear hr
 obtain ⟨Cu, c0a, Cr, Ym, B0a, d0a, k0a, Ee, rfl, f0a⟩ := Rp h0
 go_enter Tryz.func110, Tryz.ntmps110
 go_upto_region 1 with fail
 have hO := (Own.push (T := 23) (ls := zR) (Own.push (T := 68) (ls := [.r x]) (Own.nil w) (fo.r f0a rfl) (w.heap.size) rfl) (fo.below (by repeat (first | exact Below.refl _ _ | refine gy ?_ _)) (fo.vs w [.int .i64 0, .int .i64 0] rfl)) (w.heap.size + 1) (by simp only [World.size_alloc]))
 generalize (w.alloc (.cells #[.slice Cu (List.length Cr) c0a, .bool Ym, .slice B0a (List.length k0a) d0a, .bool Ee] 68)).alloc (.cells #[.int .i64 0, .int .i64 0] 23) = W0 at *
 have HO := hide hO
 clear hO
 by_cases g0 : Wd.fits x
 ·
  have hr : t = ⟨x.num, x.den, 0⟩ := (aa HR).2 g0
  subst hr
  clear HR
  have HF := hide g0
  clear g0
  go_upto_region 1 with fail
  refine Rg.dh 6 15 (Rg.pick [ax [.r x], kz [ax [iv x.num, iv (x.den : Int)], Rg.au (.bool true)], kz [ax [iv x.num, iv (x.den : Int)], Rg.au (.bool true)], ax [iv x.num, iv (x.den : Int)], Rg.au (.bool true), nk 23 zR W0.heap.size]) (ay w _ W0) eu [5] kr rfl (Rg.dw.pick ⟨az _, jf ⟨(az _), (Rg.ae _), trivial⟩, jf ⟨(az _), (Rg.ae _), trivial⟩, az _, Rg.ae _, ny _ _ _, trivial⟩) (ay.begin (aa HO))
   (ah (ic Ef qg aF [] [.r x] [])
   (ah (sc1 Tryz.func125 (aT 0) (fun W v0 hG h0 => atl (aa HF) h0))
   (ah (di rfl (aT 1))
   (ah (ky (ts := [ax [iv x.num, iv (x.den : Int)], Rg.au (.bool true)]) rfl (aT 2) (of_decide_eq_true rfl) rfl)
   (ah (ky (ts := [ax [iv x.num, iv (x.den : Int)], Rg.au (.bool true)]) rfl (aT 2) (of_decide_eq_true rfl) rfl)
   (ah (oq Gc rfl ay.step ay.size rfl (qp (by intro j hj; simp at hj; (repeat' (first | (rcases hj with rfl | hj))) <;> first | (subst hj; exact ⟨_, _, _, rfl⟩) | exact ⟨_, _, _, rfl⟩)))
   Rg.bf)))))) ?_
  intro v1 V1 hG1 hv1 hne1
  simp only [Rg.puts, Act.put, tA]
  have e4 : v1 4 = .bool true := hv1 4 de
  obtain ⟨anc, e5, Fq, Ki⟩ := (show nk 23 zR W0.heap.size V1 (v1 5) from hv1 5 de)
  simp only [e4, e5]
  have hO := hG1.1
  replace hO := Own.add (aa HO) hG1.2 Fq Ki
  clear Fq Ki
  refine jq hO 0 [] zR [iv x.num, iv (x.den : Int)] [] rfl qz rfl (show ax [iv x.num, iv (x.den : Int)] V1 (v1 3) from hv1 3 de) rfl rfl rfl ?_
  intro za gm hk0
  replace hO := gm
  clear gm
  clear HO
  have HO := hide hO
  clear hO hG1 hv1 hne1 hk0
  try clear e4 e5
  go_upto_region 2 with fail
  refine Rg.dh 2 15 (Rg.pick [Rg.au (.bool true), Rg.au (.bool false)]) (ay w _ za) eu [] kr rfl (Rg.dw.pick ⟨Rg.ae _, Rg.ae _, trivial⟩) (ay.begin (aa HO))
   (ah (di rfl aF)
   (ah (zb rfl (aT 0) rfl rfl)
   Rg.bf)) ?_
  intro v2 V2 hG2 hv2 hne2
  simp only [Rg.puts, Act.put, tA]
  have e1 : v2 1 = .bool false := hv2 1 de
  simp only [e1]
  have hO := hG2.1
  clear HO
  have HO := hide hO
  clear hO hG2 hv2 hne2
  try clear e1
  go_upto_region 4 with fail
  refine Rg.dh 1 15 (Rg.pick [ax [iv x.num, iv (x.den : Int)]]) (ay w _ V2) eu [] kr rfl (Rg.dw.pick ⟨az _, trivial⟩) (ay.begin (aa HO))
   (ah (ic uf me0 aF [] [iv x.num, iv (x.den : Int)] [])
   Rg.bf) ?_
  intro v3 V3 hG3 hv3 ma
  simp only [Rg.puts, Act.put, tA]
  have hO := hG3.1
  refine jq hO 1 [] zR [iv x.num, iv (x.den : Int)] [] rfl qz rfl (show ax [iv x.num, iv (x.den : Int)] V3 (v3 0) from hv3 0 de) rfl rfl rfl ?_
  intro Gl gm hk0
  replace hO := gm
  clear gm
  clear HO
  have HO := hide hO
  clear hO hG3 hv3 ma hk0
  go_wp2_with fail
  exact uo Tryz.results110 Cj rfl rfl (aa HO) qg rfl rfl
 ·
  have hr : t = ⟨0, 0, 3⟩ := (aa HR).1 g0
  subst hr
  clear HR
  have HF := hide g0
  clear g0
  go_upto_region 1 with fail
  refine Rg.dh 6 15 (Rg.pick [ax [.r x], kz [Uu, Rg.au (.bool false)], kz [Uu, Rg.au (.bool false)], Uu, Rg.au (.bool false), nk 23 zR W0.heap.size]) (ay w _ W0) eu [5] kr rfl (Rg.dw.pick ⟨az _, jf ⟨(Wy), (Rg.ae _), trivial⟩, jf ⟨(Wy), (Rg.ae _), trivial⟩, Wy, Rg.ae _, ny _ _ _, trivial⟩) (ay.begin (aa HO))
   (ah (ic Ef qg aF [] [.r x] [])
   (ah (sc1 Tryz.func125 (aT 0) (fun W v0 hG h0 => atm (aa HF) h0))
   (ah (di rfl (aT 1))
   (ah (ky (ts := [Uu, Rg.au (.bool false)]) rfl (aT 2) (of_decide_eq_true rfl) rfl)
   (ah (ky (ts := [Uu, Rg.au (.bool false)]) rfl (aT 2) (of_decide_eq_true rfl) rfl)
   (ah (oq Gc rfl ay.step ay.size rfl (qp (by intro j hj; simp at hj; (repeat' (first | (rcases hj with rfl | hj))) <;> first | (subst hj; exact ⟨_, _, _, rfl⟩) | exact ⟨_, _, _, rfl⟩)))
   Rg.bf)))))) ?_
  intro v1 V1 hG1 hv1 hne1
  simp only [Rg.puts, Act.put, tA]
  have e4 : v1 4 = .bool false := hv1 4 de
  obtain ⟨anc, e5, Fq, Ki⟩ := (show nk 23 zR W0.heap.size V1 (v1 5) from hv1 5 de)
  simp only [e4, e5]
  have hO := hG1.1
  replace hO := Own.add (aa HO) hG1.2 Fq Ki
  clear Fq Ki
  obtain ⟨awi, awj, hy3⟩ := (show Uu V1 (v1 3) from hv1 3 de)
  refine jq hO 0 [] zR [iv awi, iv awj] [] rfl qz rfl (show ax [iv awi, iv awj] V1 (v1 3) from hy3) rfl rfl rfl ?_
  intro za gm hk0
  replace hO := gm
  clear gm
  clear HO
  have HO := hide hO
  clear hO hG1 hv1 hne1 hk0
  try clear e4 e5
  go_upto_region 2 with fail
  refine Rg.dh 2 15 (Rg.pick [Rg.au (.bool false), Rg.au (.bool true)]) (ay w _ za) eu [] kr rfl (Rg.dw.pick ⟨Rg.ae _, Rg.ae _, trivial⟩) (ay.begin (aa HO))
   (ah (di rfl aF)
   (ah (zb rfl (aT 0) rfl rfl)
   Rg.bf)) ?_
  intro v2 V2 hG2 hv2 hne2
  simp only [Rg.puts, Act.put, tA]
  have e1 : v2 1 = .bool true := hv2 1 de
  simp only [e1]
  have hO := hG2.1
  clear HO
  have HO := hide hO
  clear hO hG2 hv2 hne2
  try clear e1
  go_upto_region 3 with fail
  refine Rg.dh 1 15 (Rg.pick [ax zR]) (ay w _ V2) eu [] kr rfl (Rg.dw.pick ⟨az _, trivial⟩) (ay.begin (aa HO))
   (ah (Cy Dz rfl rfl rfl)
   Rg.bf) ?_
  intro v3 V3 hG3 hv3 ma
  simp only [Rg.puts, Act.put, tA]
  have hO := hG3.1
  refine jq hO 1 [] zR zR [] rfl qz rfl (show ax zR V3 (v3 0) from hv3 0 de) rfl rfl rfl ?_
  intro Gl gm hk0
  replace hO := gm
  clear gm
  clear HO
  have HO := hide hO
  clear hO hG3 hv3 ma hk0
  go_wp2_with fail
  exact uo Tryz.results110 Cj rfl rfl (aa HO) qg rfl rfl
theorem avt {x : Rat} (w : World) (u0 : Value) (h0 : ax [.r x] w u0) : Calls Tryz.prog 110 #[u0] w (ib (ToT (Wd.told x)) w) :=
 aik _ w u0 h0 ⟨fun h => if_neg h, fun h => if_pos h⟩
end Sb


namespace Sb
theorem avj (d : Nat) (f : Nat → Int) (w : World) : (Op.equalIn (d + 2) 42 (.agg #[Value.int .i64 (f 0), Value.int .i64 (f 1), Value.int .i64 (f 2), Value.int .i64 (f 3), Value.int .i64 (f 4), Value.int .i64 (f 5), Value.int .i64 (f 6)]) (.agg #[Value.int .i64 (f 0), Value.int .i64 (f 1), Value.int .i64 (f 2), Value.int .i64 (f 3), Value.int .i64 (f 4), Value.int .i64 (f 5), Value.int .i64 (f 6)])).run Tryz.prog w = .ok true w := by
 obtain ⟨i, hi⟩ : ∃ i, Tryz.prog.info? 3 = some i := by
  have := aud
  cases h : Tryz.prog.info? 3 with
  | none => rw [h] at this; cases this
  | some i => exact ⟨i, rfl⟩
 have hc : Tryz.prog.cellsOf 3 = 1 := by kernel_rfl
 have key := fun w => run_equalIn_array (P := Tryz.prog) (w := w) (d + 1) (t := 42) (e := 3) (n := 7) #[Value.int .i64 (f 0), Value.int .i64 (f 1), Value.int .i64 (f 2), Value.int .i64 (f 3), Value.int .i64 (f 4), Value.int .i64 (f 5), Value.int .i64 (f 6)] #[Value.int .i64 (f 0), Value.int .i64 (f 1), Value.int .i64 (f 2), Value.int .i64 (f 3), Value.int .i64 (f 4), Value.int .i64 (f 5), Value.int .i64 (f 6)] Tryz.underlying42 hi
 rw [hc, show List.range 7 = [0, 1, 2, 3, 4, 5, 6] by rfl] at key
 have step : ∀ (a : Int) (w : World), (Op.equalIn (d + 1) 3 (.int .i64 a) (.int .i64 a)).run Tryz.prog w = .ok true w := fun a w => by
  unfold Op.equalIn
  simp [go_sem]
 have hp : ∀ (i : Nat) (w : World), i < 7 → (part 3 #[Value.int .i64 (f 0), Value.int .i64 (f 1), Value.int .i64 (f 2), Value.int .i64 (f 3), Value.int .i64 (f 4), Value.int .i64 (f 5), Value.int .i64 (f 6)] (i * 1)).run Tryz.prog w = .ok (.int .i64 (f i)) w := fun i w hi => by
  have hc : i = 0 ∨ i = 1 ∨ i = 2 ∨ i = 3 ∨ i = 4 ∨ i = 5 ∨ i = 6 := by omega
  rcases hc with rfl | rfl | rfl | rfl | rfl | rfl | rfl <;> simp [go_sem]
 have it : ∀ (i : Nat) (is : List Nat) (w : World), i < 7 → (Op.eqItems (d + 1) 3 1 #[Value.int .i64 (f 0), Value.int .i64 (f 1), Value.int .i64 (f 2), Value.int .i64 (f 3), Value.int .i64 (f 4), Value.int .i64 (f 5), Value.int .i64 (f 6)] #[Value.int .i64 (f 0), Value.int .i64 (f 1), Value.int .i64 (f 2), Value.int .i64 (f 3), Value.int .i64 (f 4), Value.int .i64 (f 5), Value.int .i64 (f 6)] (i :: is)).run Tryz.prog w = (Op.eqItems (d + 1) 3 1 #[Value.int .i64 (f 0), Value.int .i64 (f 1), Value.int .i64 (f 2), Value.int .i64 (f 3), Value.int .i64 (f 4), Value.int .i64 (f 5), Value.int .i64 (f 6)] #[Value.int .i64 (f 0), Value.int .i64 (f 1), Value.int .i64 (f 2), Value.int .i64 (f 3), Value.int .i64 (f 4), Value.int .i64 (f 5), Value.int .i64 (f 6)] is).run Tryz.prog w := fun i is w hi => by
  simp only [Op.eqItems, Sem.run_bind, hp _ _ hi, Result.andThen_ok, step]
  simp
 refine (key w).trans ?_
 rw [it 0 _ _ om, it 1 _ _ om, it 2 _ _ om, it 3 _ _ om, it 4 _ _ om, it 5 _ _ om, it 6 _ _ om]
 simp [Op.eqItems]
abbrev Cv (f : Nat → Int) (n d : Int) : Value := .agg #[.int .i64 (f 0), .int .i64 (f 1), .int .i64 (f 2), .int .i64 (f 3), .int .i64 (f 4), .int .i64 (f 5), .int .i64 (f 6), .int .i64 n, .int .i64 d]
theorem avi (k : Nat) (n d : Int) (w : World) : (Op.equalIn (k + 2) 23 (.agg #[.int .i64 n, .int .i64 d]) (.agg #[.int .i64 n, .int .i64 d])).run Tryz.prog w = .ok true w := by
 unfold Op.equalIn
 simp [go_sem]
theorem avh (k : Nat) (f : Nat → Int) (n d : Int) (w : World) : (Op.equalIn (k + 3) 44 (Cv f n d) (Cv f n d)).run Tryz.prog w = .ok true w := by
 have h1 := fun w => avj k f w
 have h2 := fun w => avi k n d w
 unfold Op.equalIn
 simp [go_sem, h1, h2]
theorem azm {Q : Exit → Act → World → Prop} {l : List Oper} {n : Nat} {T : Nat → World → Value → Prop} {G : World → Prop} {al : List Nat} {a0 : Act} {k d : Nat} {ty : TypeId} {pos : String} {af : Array Edge} {gd : Option (Nat × Bool)} {x y : Operand} {f : Nat → Int} {u v : Int} (hal : al.contains k = false) (hx : Rg.ig l n T a0 k x (ax [.k (eK f), iv u, iv v])) (hy : Rg.ig l n T a0 k y (ax [.k (eK f), iv u, iv v])) (hT : T k = Rg.au (.bool true)) :
  Rg.Step Tryz.prog Q l n T G eu al a0 k { dst := some d, op := .binOp .eql 44 x y 44, type := ty, pos := pos, after := af, guard := gd } := by
 intro a w hG hO hN
 have h1 := Ah (hx a w hO hN)
 have h2 := Ah (hy a w hO hN)
 have key := fun w => avh 9997 f u v w
 have hr : (execOp a.eval { dst := some d, op := .binOp .eql 44 x y 44, type := ty, pos := pos, after := af, guard := gd }).run Tryz.prog w = .ok (.value (.bool true)) w := by
  simp only [execOp, h1, h2]
  simp [go_sem, key]
 exact je (P := Tryz.prog) hr ⟨_, rfl, hG, Below.refl _ _, by rw [hT]; rfl, fun h => by rw [hal] at h; cases h⟩
end Sb


namespace Sb
end Sb

namespace Sb
def ents : List (ByteArray × Value) → Nat → List MapEntry
 | [], _ => []
 | (k, v) :: l, j => { key := .string k, val := v, born := j } :: ents l (j + 1)
def ze (W : World) (r : Nat) (l : List (ByteArray × Value)) : Prop := W.heap[r]? = some (.map (ents l 0).toArray l.length)
def findT (s : ByteArray) : List (ByteArray × Value) → Option Value
 | [] => none
 | (k, v) :: l => if s = k then some v else findT s l
theorem ze.below {W W' : World} {r : Nat} {l : List (ByteArray × Value)} (h : ze W r l) (hb : Below W.heap.size W W') : ze W' r l := (hb.block _ (lt_of_block h)).trans h
theorem acb : ∀ (l : List (ByteArray × Value)) (k : ByteArray) (v : Value) (j : Nat), ents (l ++ [(k, v)]) j = ents l j ++ [{ key := .string k, val := v, born := j + l.length }]
 | [], _, _, _ => rfl
 | (k', v') :: l, k, v, j => by
  rw [List.cons_append, ents, acb l k v (j + 1), ents, List.length_cons, show j + 1 + l.length = j + (l.length + 1) by omega]
  rfl
theorem Ud (s : ByteArray) : ∀ (l : List (ByteArray × Value)) (i j : Nat), ∃ o, Instr.findNow .string (.string s) (ents l j) i = some o ∧ o.map (·.2) = findT s l
 | [], _, _ => ⟨none, rfl, rfl⟩
 | (k, v) :: l, i, j => by
  by_cases h : s = k
  ·
   subst h
   refine ⟨some (i, v), ?_, ?_⟩
   ·
    have hb : (s == s) = true := (MapKept.bytes_beq s s).2 rfl
    rw [ents, Instr.findNow]
    simp only [Instr.sameNow, hb]
   ·
    rw [findT, if_pos rfl]; rfl
  ·
   obtain ⟨o, h1, h2⟩ := Ud s l (i + 1) (j + 1)
   refine ⟨o, ?_, ?_⟩
   ·
    have hb : (s == k) = false := by rw [Bool.eq_false_iff]; exact fun e => h ((MapKept.bytes_beq s k).1 e)
    rw [ents, Instr.findNow]
    simp only [Instr.sameNow, hb, h1]
   ·
    rw [findT, if_neg h, h2]
theorem afe (k : ByteArray) (e : Bool) (w : World) : (Instr.checkKey e 10000 9 (.string k)).run Tryz.prog w = .ok () w :=
 MapKept.run_checkKey (n := 9999) Tryz.underlying9 (show MapKept.IsKey .string (.string k) by simp [MapKept.IsKey]) e
theorem ald {w : World} {r : Nat} {l : List (ByteArray × Value)} {k : ByteArray} {v : Value} (h : ze w r l) (hk : findT k l = none) :
  (Instr.mapUpdate 136 (.map (some r)) (.string k) v).run Tryz.prog w = .ok () { w with heap := w.heap.setIfInBounds r (.map (ents (l ++ [(k, v)]) 0).toArray (l.length + 1)) } := by
 obtain ⟨o, h1, h2⟩ := Ud k l 0 0
 have ho : o = none := by
  cases o with
  | none => rfl
  | some p => rw [hk] at h2; cases h2
 subst ho
 have hf := MapKept.run_findKey (P := Tryz.prog) (w := w) Tryz.underlying9 h1
 have hg := MapKept.run_getObj_map (P := Tryz.prog) h
 have hs := MapKept.run_setObj_map (P := Tryz.prog) (.map (ents (l ++ [(k, v)]) 0).toArray (l.length + 1)) h
 have hc := afe k false w
 have he : (ents l 0).toArray.push { key := .string k, val := v, born := l.length } = (ents (l ++ [(k, v)]) 0).toArray := by rw [acb]; simp
 unfold Instr.mapUpdate
 simp only [Sem.run_bind, run_underlying Tryz.underlying136, Result.andThen, hg, hc, hf, he, hs]
theorem atc {w : World} {r : Nat} {l : List (ByteArray × Value)} {s : ByteArray} (h : ze w r l) :
  (Instr.lookup 136 (.map (some r)) (.string s) true).run Tryz.prog w = .ok (.tuple #[(findT s l).getD (Cv z7 0 0), .bool (findT s l).isSome]) w := by
 obtain ⟨o, h1, h2⟩ := Ud s l 0 0
 have hf := MapKept.run_findKey (P := Tryz.prog) (w := w) Tryz.underlying9 h1
 have hg := MapKept.run_getObj_map (P := Tryz.prog) h
 have hc := afe s (ents l 0).toArray.isEmpty w
 have hz : (zeroValue 44).run Tryz.prog w = .ok (Cv z7 0 0) w := by simp [go_sem, Cv, z7]
 unfold Instr.lookup
 simp only [Sem.run_bind, run_underlying Tryz.underlying136, Result.andThen, hg, hc, hf, Sem.run_pure]
 rw [← h2]
 cases o with
 | none => simp [Result.andThen, hz]
 | some p => simp
theorem ze.set {w : World} {r : Nat} {l : List (ByteArray × Value)} {k : ByteArray} {v : Value} (h : ze w r l) : ze { w with heap := w.heap.setIfInBounds r (.map (ents (l ++ [(k, v)]) 0).toArray (l.length + 1)) } r (l ++ [(k, v)]) := by
 have := (MapKept.heap_set (o' := .map (ents (l ++ [(k, v)]) 0).toArray (l.length + 1)) h).1
 unfold ze
 rw [this, List.length_append]; rfl
end Sb

namespace Sb
theorem acg {w W : World} {r : Nat} {o : Obj} (h : Below w.heap.size w W) (hr : w.heap.size ≤ r) : Below w.heap.size w { W with heap := W.heap.setIfInBounds r o } :=
 ⟨h.os, h.tape, h.output, by simpa using h.size, fun k hk => by simpa [Array.getElem?_setIfInBounds, show r ≠ k by omega] using h.block k hk⟩
def Df : List (ByteArray × Value) := [(⟨#[109]⟩, .agg #[.int .i64 1, .int .i64 0, .int .i64 0, .int .i64 0, .int .i64 0, .int .i64 0, .int .i64 0, .int .i64 1, .int .i64 1]), (⟨#[107, 103]⟩, .agg #[.int .i64 0, .int .i64 1, .int .i64 0, .int .i64 0, .int .i64 0, .int .i64 0, .int .i64 0, .int .i64 1, .int .i64 1]), (⟨#[115]⟩, .agg #[.int .i64 0, .int .i64 0, .int .i64 1, .int .i64 0, .int .i64 0, .int .i64 0, .int .i64 0, .int .i64 1, .int .i64 1]), (⟨#[65]⟩, .agg #[.int .i64 0, .int .i64 0, .int .i64 0, .int .i64 1, .int .i64 0, .int .i64 0, .int .i64 0, .int .i64 1, .int .i64 1]), (⟨#[75]⟩, .agg #[.int .i64 0, .int .i64 0, .int .i64 0, .int .i64 0, .int .i64 1, .int .i64 0, .int .i64 0, .int .i64 1, .int .i64 1]), (⟨#[109, 111, 108]⟩, .agg #[.int .i64 0, .int .i64 0, .int .i64 0, .int .i64 0, .int .i64 0, .int .i64 1, .int .i64 0, .int .i64 1, .int .i64 1]), (⟨#[99, 100]⟩, .agg #[.int .i64 0, .int .i64 0, .int .i64 0, .int .i64 0, .int .i64 0, .int .i64 0, .int .i64 1, .int .i64 1, .int .i64 1]), (⟨#[103]⟩, .agg #[.int .i64 0, .int .i64 1, .int .i64 0, .int .i64 0, .int .i64 0, .int .i64 0, .int .i64 0, .int .i64 1, .int .i64 1000]), (⟨#[72, 122]⟩, .agg #[.int .i64 0, .int .i64 0, .int .i64 (-1), .int .i64 0, .int .i64 0, .int .i64 0, .int .i64 0, .int .i64 1, .int .i64 1]), (⟨#[78]⟩, .agg #[.int .i64 1, .int .i64 1, .int .i64 (-2), .int .i64 0, .int .i64 0, .int .i64 0, .int .i64 0, .int .i64 1, .int .i64 1]), (⟨#[80, 97]⟩, .agg #[.int .i64 (-1), .int .i64 1, .int .i64 (-2), .int .i64 0, .int .i64 0, .int .i64 0, .int .i64 0, .int .i64 1, .int .i64 1]), (⟨#[74]⟩, .agg #[.int .i64 2, .int .i64 1, .int .i64 (-2), .int .i64 0, .int .i64 0, .int .i64 0, .int .i64 0, .int .i64 1, .int .i64 1]), (⟨#[87]⟩, .agg #[.int .i64 2, .int .i64 1, .int .i64 (-3), .int .i64 0, .int .i64 0, .int .i64 0, .int .i64 0, .int .i64 1, .int .i64 1]), (⟨#[67]⟩, .agg #[.int .i64 0, .int .i64 0, .int .i64 1, .int .i64 1, .int .i64 0, .int .i64 0, .int .i64 0, .int .i64 1, .int .i64 1]), (⟨#[86]⟩, .agg #[.int .i64 2, .int .i64 1, .int .i64 (-3), .int .i64 (-1), .int .i64 0, .int .i64 0, .int .i64 0, .int .i64 1, .int .i64 1]), (⟨#[79, 104, 109]⟩, .agg #[.int .i64 2, .int .i64 1, .int .i64 (-3), .int .i64 (-2), .int .i64 0, .int .i64 0, .int .i64 0, .int .i64 1, .int .i64 1]), (⟨#[83]⟩, .agg #[.int .i64 (-2), .int .i64 (-1), .int .i64 3, .int .i64 2, .int .i64 0, .int .i64 0, .int .i64 0, .int .i64 1, .int .i64 1]), (⟨#[70]⟩, .agg #[.int .i64 (-2), .int .i64 (-1), .int .i64 4, .int .i64 2, .int .i64 0, .int .i64 0, .int .i64 0, .int .i64 1, .int .i64 1]), (⟨#[87, 98]⟩, .agg #[.int .i64 2, .int .i64 1, .int .i64 (-2), .int .i64 (-1), .int .i64 0, .int .i64 0, .int .i64 0, .int .i64 1, .int .i64 1]), (⟨#[72]⟩, .agg #[.int .i64 2, .int .i64 1, .int .i64 (-2), .int .i64 (-2), .int .i64 0, .int .i64 0, .int .i64 0, .int .i64 1, .int .i64 1]), (⟨#[109, 105, 110]⟩, .agg #[.int .i64 0, .int .i64 0, .int .i64 1, .int .i64 0, .int .i64 0, .int .i64 0, .int .i64 0, .int .i64 60, .int .i64 1]), (⟨#[104]⟩, .agg #[.int .i64 0, .int .i64 0, .int .i64 1, .int .i64 0, .int .i64 0, .int .i64 0, .int .i64 0, .int .i64 3600, .int .i64 1]), (⟨#[76]⟩, .agg #[.int .i64 3, .int .i64 0, .int .i64 0, .int .i64 0, .int .i64 0, .int .i64 0, .int .i64 0, .int .i64 1, .int .i64 1000]), (⟨#[98, 97, 114]⟩, .agg #[.int .i64 (-1), .int .i64 1, .int .i64 (-2), .int .i64 0, .int .i64 0, .int .i64 0, .int .i64 0, .int .i64 100000, .int .i64 1]), (⟨#[114, 97, 100]⟩, .agg #[.int .i64 0, .int .i64 0, .int .i64 0, .int .i64 0, .int .i64 0, .int .i64 0, .int .i64 0, .int .i64 1, .int .i64 1])]
structure Uh (w W : World) (l : List (ByteArray × Value)) : Prop where
 below : Below w.heap.size w W
 map : ze W (w.heap.size + 1) l
 one : W.heap[w.heap.size]? = some (.cells #[.int .i64 1, .int .i64 1] 23 (0, 0))
theorem Uh.ins {w W : World} {l : List (ByteArray × Value)} (h : Uh w W l) (k : ByteArray) (v : Value) (hk : findT k l = none) :
  ∃ W', (Instr.mapUpdate 136 (.map (some (w.heap.size + 1))) (.string k) v).run Tryz.prog W = .ok () W' ∧ Uh w W' (l ++ [(k, v)]) := by
 refine ⟨_, ald h.map hk, ?_, h.map.set, ?_⟩
 ·
  exact acg h.below om
 ·
  exact ((MapKept.heap_set h.map).2 _ om).trans h.one
theorem Uh.c0 {w W : World} {l : List (ByteArray × Value)} (h : Uh w W l) : W.cell? ⟨w.heap.size, 0, none⟩ = some (.int .i64 1) := by simp [World.cell?, h.one]
theorem Uh.c1 {w W : World} {l : List (ByteArray × Value)} (h : Uh w W l) : W.cell? ⟨w.heap.size, 1, none⟩ = some (.int .i64 1) := by simp [World.cell?, h.one]
theorem bbd (w : World) : Calls Tryz.prog 120 #[] w (fun e w' => ∃ r, e = .returned (.map (some r)) ∧ Below w.heap.size w w' ∧ ze w' r Df) := by
 have hmm := @run_makeMap Tryz.prog
 go_enter Tryz.func120, Tryz.ntmps120
 go_wp2_with fail
 have h0 : Uh w ((w.alloc (.cells #[.int .i64 1, .int .i64 1] 23)).alloc (.map #[] 0)) [] := by
  have n1 := heap_alloc_new w (.cells #[.int .i64 1, .int .i64 1] 23)
  have hb := gy (Below.refl w.heap.size w) (.cells #[.int .i64 1, .int .i64 1] 23)
  have sz : (w.alloc (.cells #[.int .i64 1, .int .i64 1] 23)).heap.size = w.heap.size + 1 := by simp only [World.size_alloc]
  generalize w.alloc (.cells #[.int .i64 1, .int .i64 1] 23) = W1 at *
  have n2 := heap_alloc_new W1 (.map #[] 0)
  have hb2 := gy (Below.refl W1.heap.size W1) (.map #[] 0)
  rw [sz] at n2
  exact ⟨bg hb hb2, n2, (hb2.block _ (lt_of_block n1)).trans n1⟩
 generalize (w.alloc (.cells #[.int .i64 1, .int .i64 1] 23)).alloc (.map #[] 0) = W0 at *
 obtain ⟨W1, e, h1⟩ := h0.ins ⟨#[109]⟩ (.agg #[.int .i64 1, .int .i64 0, .int .i64 0, .int .i64 0, .int .i64 0, .int .i64 0, .int .i64 0, .int .i64 1, .int .i64 1]) kr
 rw [e]
 have o1 := h1.c0
 have p1 := h1.c1
 clear e h0
 go_wp2_with fail
 obtain ⟨W2, e, h2⟩ := h1.ins ⟨#[107, 103]⟩ (.agg #[.int .i64 0, .int .i64 1, .int .i64 0, .int .i64 0, .int .i64 0, .int .i64 0, .int .i64 0, .int .i64 1, .int .i64 1]) kr
 rw [e]
 have o2 := h2.c0
 have p2 := h2.c1
 clear e h1 o1 p1
 go_wp2_with fail
 obtain ⟨W3, e, h3⟩ := h2.ins ⟨#[115]⟩ (.agg #[.int .i64 0, .int .i64 0, .int .i64 1, .int .i64 0, .int .i64 0, .int .i64 0, .int .i64 0, .int .i64 1, .int .i64 1]) kr
 rw [e]
 have o3 := h3.c0
 have p3 := h3.c1
 clear e h2 o2 p2
 go_wp2_with fail
 obtain ⟨W4, e, h4⟩ := h3.ins ⟨#[65]⟩ (.agg #[.int .i64 0, .int .i64 0, .int .i64 0, .int .i64 1, .int .i64 0, .int .i64 0, .int .i64 0, .int .i64 1, .int .i64 1]) kr
 rw [e]
 have o4 := h4.c0
 have p4 := h4.c1
 clear e h3 o3 p3
 go_wp2_with fail
 obtain ⟨W5, e, h5⟩ := h4.ins ⟨#[75]⟩ (.agg #[.int .i64 0, .int .i64 0, .int .i64 0, .int .i64 0, .int .i64 1, .int .i64 0, .int .i64 0, .int .i64 1, .int .i64 1]) kr
 rw [e]
 have o5 := h5.c0
 have p5 := h5.c1
 clear e h4 o4 p4
 go_wp2_with fail
 obtain ⟨W6, e, h6⟩ := h5.ins ⟨#[109, 111, 108]⟩ (.agg #[.int .i64 0, .int .i64 0, .int .i64 0, .int .i64 0, .int .i64 0, .int .i64 1, .int .i64 0, .int .i64 1, .int .i64 1]) kr
 rw [e]
 have o6 := h6.c0
 have p6 := h6.c1
 clear e h5 o5 p5
 go_wp2_with fail
 obtain ⟨W7, e, h7⟩ := h6.ins ⟨#[99, 100]⟩ (.agg #[.int .i64 0, .int .i64 0, .int .i64 0, .int .i64 0, .int .i64 0, .int .i64 0, .int .i64 1, .int .i64 1, .int .i64 1]) kr
 rw [e]
 have o7 := h7.c0
 have p7 := h7.c1
 clear e h6 o6 p6
 go_wp2_with fail
 obtain ⟨W8, e, h8⟩ := h7.ins ⟨#[103]⟩ (.agg #[.int .i64 0, .int .i64 1, .int .i64 0, .int .i64 0, .int .i64 0, .int .i64 0, .int .i64 0, .int .i64 1, .int .i64 1000]) kr
 rw [e]
 have o8 := h8.c0
 have p8 := h8.c1
 clear e h7 o7 p7
 go_wp2_with fail
 obtain ⟨W9, e, h9⟩ := h8.ins ⟨#[72, 122]⟩ (.agg #[.int .i64 0, .int .i64 0, .int .i64 (-1), .int .i64 0, .int .i64 0, .int .i64 0, .int .i64 0, .int .i64 1, .int .i64 1]) kr
 rw [e]
 have o9 := h9.c0
 have p9 := h9.c1
 clear e h8 o8 p8
 go_wp2_with fail
 obtain ⟨W10, e, h10⟩ := h9.ins ⟨#[78]⟩ (.agg #[.int .i64 1, .int .i64 1, .int .i64 (-2), .int .i64 0, .int .i64 0, .int .i64 0, .int .i64 0, .int .i64 1, .int .i64 1]) kr
 rw [e]
 have o10 := h10.c0
 have p10 := h10.c1
 clear e h9 o9 p9
 go_wp2_with fail
 obtain ⟨W11, e, h11⟩ := h10.ins ⟨#[80, 97]⟩ (.agg #[.int .i64 (-1), .int .i64 1, .int .i64 (-2), .int .i64 0, .int .i64 0, .int .i64 0, .int .i64 0, .int .i64 1, .int .i64 1]) kr
 rw [e]
 have o11 := h11.c0
 have p11 := h11.c1
 clear e h10 o10 p10
 go_wp2_with fail
 obtain ⟨W12, e, h12⟩ := h11.ins ⟨#[74]⟩ (.agg #[.int .i64 2, .int .i64 1, .int .i64 (-2), .int .i64 0, .int .i64 0, .int .i64 0, .int .i64 0, .int .i64 1, .int .i64 1]) kr
 rw [e]
 have o12 := h12.c0
 have p12 := h12.c1
 clear e h11 o11 p11
 go_wp2_with fail
 obtain ⟨W13, e, h13⟩ := h12.ins ⟨#[87]⟩ (.agg #[.int .i64 2, .int .i64 1, .int .i64 (-3), .int .i64 0, .int .i64 0, .int .i64 0, .int .i64 0, .int .i64 1, .int .i64 1]) kr
 rw [e]
 have o13 := h13.c0
 have p13 := h13.c1
 clear e h12 o12 p12
 go_wp2_with fail
 obtain ⟨W14, e, h14⟩ := h13.ins ⟨#[67]⟩ (.agg #[.int .i64 0, .int .i64 0, .int .i64 1, .int .i64 1, .int .i64 0, .int .i64 0, .int .i64 0, .int .i64 1, .int .i64 1]) kr
 rw [e]
 have o14 := h14.c0
 have p14 := h14.c1
 clear e h13 o13 p13
 go_wp2_with fail
 obtain ⟨W15, e, h15⟩ := h14.ins ⟨#[86]⟩ (.agg #[.int .i64 2, .int .i64 1, .int .i64 (-3), .int .i64 (-1), .int .i64 0, .int .i64 0, .int .i64 0, .int .i64 1, .int .i64 1]) kr
 rw [e]
 have o15 := h15.c0
 have p15 := h15.c1
 clear e h14 o14 p14
 go_wp2_with fail
 obtain ⟨W16, e, h16⟩ := h15.ins ⟨#[79, 104, 109]⟩ (.agg #[.int .i64 2, .int .i64 1, .int .i64 (-3), .int .i64 (-2), .int .i64 0, .int .i64 0, .int .i64 0, .int .i64 1, .int .i64 1]) kr
 rw [e]
 have o16 := h16.c0
 have p16 := h16.c1
 clear e h15 o15 p15
 go_wp2_with fail
 obtain ⟨W17, e, h17⟩ := h16.ins ⟨#[83]⟩ (.agg #[.int .i64 (-2), .int .i64 (-1), .int .i64 3, .int .i64 2, .int .i64 0, .int .i64 0, .int .i64 0, .int .i64 1, .int .i64 1]) kr
 rw [e]
 have o17 := h17.c0
 have p17 := h17.c1
 clear e h16 o16 p16
 go_wp2_with fail
 obtain ⟨W18, e, h18⟩ := h17.ins ⟨#[70]⟩ (.agg #[.int .i64 (-2), .int .i64 (-1), .int .i64 4, .int .i64 2, .int .i64 0, .int .i64 0, .int .i64 0, .int .i64 1, .int .i64 1]) kr
 rw [e]
 have o18 := h18.c0
 have p18 := h18.c1
 clear e h17 o17 p17
 go_wp2_with fail
 obtain ⟨W19, e, h19⟩ := h18.ins ⟨#[87, 98]⟩ (.agg #[.int .i64 2, .int .i64 1, .int .i64 (-2), .int .i64 (-1), .int .i64 0, .int .i64 0, .int .i64 0, .int .i64 1, .int .i64 1]) kr
 rw [e]
 have o19 := h19.c0
 have p19 := h19.c1
 clear e h18 o18 p18
 go_wp2_with fail
 obtain ⟨W20, e, h20⟩ := h19.ins ⟨#[72]⟩ (.agg #[.int .i64 2, .int .i64 1, .int .i64 (-2), .int .i64 (-2), .int .i64 0, .int .i64 0, .int .i64 0, .int .i64 1, .int .i64 1]) kr
 rw [e]
 have o20 := h20.c0
 have p20 := h20.c1
 clear e h19 o19 p19
 go_wp2_with fail
 obtain ⟨W21, e, h21⟩ := h20.ins ⟨#[109, 105, 110]⟩ (.agg #[.int .i64 0, .int .i64 0, .int .i64 1, .int .i64 0, .int .i64 0, .int .i64 0, .int .i64 0, .int .i64 60, .int .i64 1]) kr
 rw [e]
 have o21 := h21.c0
 have p21 := h21.c1
 clear e h20 o20 p20
 go_wp2_with fail
 obtain ⟨W22, e, h22⟩ := h21.ins ⟨#[104]⟩ (.agg #[.int .i64 0, .int .i64 0, .int .i64 1, .int .i64 0, .int .i64 0, .int .i64 0, .int .i64 0, .int .i64 3600, .int .i64 1]) kr
 rw [e]
 have o22 := h22.c0
 have p22 := h22.c1
 clear e h21 o21 p21
 go_wp2_with fail
 obtain ⟨W23, e, h23⟩ := h22.ins ⟨#[76]⟩ (.agg #[.int .i64 3, .int .i64 0, .int .i64 0, .int .i64 0, .int .i64 0, .int .i64 0, .int .i64 0, .int .i64 1, .int .i64 1000]) kr
 rw [e]
 have o23 := h23.c0
 have p23 := h23.c1
 clear e h22 o22 p22
 go_wp2_with fail
 obtain ⟨W24, e, h24⟩ := h23.ins ⟨#[98, 97, 114]⟩ (.agg #[.int .i64 (-1), .int .i64 1, .int .i64 (-2), .int .i64 0, .int .i64 0, .int .i64 0, .int .i64 0, .int .i64 100000, .int .i64 1]) kr
 rw [e]
 have o24 := h24.c0
 have p24 := h24.c1
 clear e h23 o23 p23
 go_wp2_with fail
 obtain ⟨W25, e, h25⟩ := h24.ins ⟨#[114, 97, 100]⟩ (.agg #[.int .i64 0, .int .i64 0, .int .i64 0, .int .i64 0, .int .i64 0, .int .i64 0, .int .i64 0, .int .i64 1, .int .i64 1]) kr
 rw [e]
 have o25 := h25.c0
 have p25 := h25.c1
 clear e h24 o24 p24
 go_wp2_with fail
 exact bodyPost_ret (v := .map (some (w.heap.size + 1))) (by simp [results, Tryz.results120, go_sem]) rfl ⟨_, rfl, h25.below, h25.map⟩
end Sb


namespace Sb
def Ji (b : Int) : Bool := (decide (97 ≤ b) && decide (b ≤ 122)) || (decide (65 ≤ b) && decide (b ≤ 90))
def Np (b : Int) : Int × Int × Bool := if b = 110 then (1, 1000000000, true) else if b = 117 then (1, 1000000, true) else if b = 109 then (1, 1000, true) else if b = 107 then (1000, 1, true) else if b = 77 then (1000000, 1, true) else if b = 71 then (1000000000, 1, true) else (0, 0, false)
theorem avr (b : Int) (w : World) : Calls Tryz.prog 172 #[.int .u8 b] w (ib (kz [ax [iv (Np b).1, iv (Np b).2.1], Rg.au (.bool (Np b).2.2)]) w) := by
 obtain ⟨v, hv⟩ : ∃ v, v = Np b := ⟨_, rfl⟩
 rw [← hv]
 unfold Np at hv
 by_cases g0 : b = 110
 ·
  rw [if_pos g0] at hv
  subst g0
  subst hv
  go_enter Tryz.func172, Tryz.ntmps172
  go_wp2_with fail
  exact bodyPost_ret (v := .tuple #[.agg #[.int .i64 1, .int .i64 1000000000], .bool true]) (by simp [results, Tryz.results172, go_sem]) rfl ⟨_, rfl, gy (Below.refl _ _) _, [_, _], rfl, _, _, rfl, Ba _ _ _, _, _, rfl, rfl, rfl⟩
 rw [if_neg g0] at hv
 by_cases g1 : b = 117
 ·
  rw [if_pos g1] at hv
  subst g1
  subst hv
  go_enter Tryz.func172, Tryz.ntmps172
  go_wp2_with fail
  exact bodyPost_ret (v := .tuple #[.agg #[.int .i64 1, .int .i64 1000000], .bool true]) (by simp [results, Tryz.results172, go_sem]) rfl ⟨_, rfl, gy (Below.refl _ _) _, [_, _], rfl, _, _, rfl, Ba _ _ _, _, _, rfl, rfl, rfl⟩
 rw [if_neg g1] at hv
 by_cases g2 : b = 109
 ·
  rw [if_pos g2] at hv
  subst g2
  subst hv
  go_enter Tryz.func172, Tryz.ntmps172
  go_wp2_with fail
  exact bodyPost_ret (v := .tuple #[.agg #[.int .i64 1, .int .i64 1000], .bool true]) (by simp [results, Tryz.results172, go_sem]) rfl ⟨_, rfl, gy (Below.refl _ _) _, [_, _], rfl, _, _, rfl, Ba _ _ _, _, _, rfl, rfl, rfl⟩
 rw [if_neg g2] at hv
 by_cases g3 : b = 107
 ·
  rw [if_pos g3] at hv
  subst g3
  subst hv
  go_enter Tryz.func172, Tryz.ntmps172
  go_wp2_with fail
  exact bodyPost_ret (v := .tuple #[.agg #[.int .i64 1000, .int .i64 1], .bool true]) (by simp [results, Tryz.results172, go_sem]) rfl ⟨_, rfl, gy (Below.refl _ _) _, [_, _], rfl, _, _, rfl, Ba _ _ _, _, _, rfl, rfl, rfl⟩
 rw [if_neg g3] at hv
 by_cases g4 : b = 77
 ·
  rw [if_pos g4] at hv
  subst g4
  subst hv
  go_enter Tryz.func172, Tryz.ntmps172
  go_wp2_with fail
  exact bodyPost_ret (v := .tuple #[.agg #[.int .i64 1000000, .int .i64 1], .bool true]) (by simp [results, Tryz.results172, go_sem]) rfl ⟨_, rfl, gy (Below.refl _ _) _, [_, _], rfl, _, _, rfl, Ba _ _ _, _, _, rfl, rfl, rfl⟩
 rw [if_neg g4] at hv
 by_cases g5 : b = 71
 ·
  rw [if_pos g5] at hv
  subst g5
  subst hv
  go_enter Tryz.func172, Tryz.ntmps172
  go_wp2_with fail
  exact bodyPost_ret (v := .tuple #[.agg #[.int .i64 1000000000, .int .i64 1], .bool true]) (by simp [results, Tryz.results172, go_sem]) rfl ⟨_, rfl, gy (Below.refl _ _) _, [_, _], rfl, _, _, rfl, Ba _ _ _, _, _, rfl, rfl, rfl⟩
 rw [if_neg g5] at hv
 subst hv
 go_enter Tryz.func172, Tryz.ntmps172
 go_wp2_with fail
 exact bodyPost_ret (v := .tuple #[.agg #[.int .i64 0, .int .i64 0], .bool false]) (by simp [results, Tryz.results172, go_sem]) rfl ⟨_, rfl, gy (Below.refl _ _) _, [_, _], rfl, _, _, rfl, Ba _ _ _, _, _, rfl, rfl, rfl⟩
theorem Ot {s : ByteArray} {l : List UInt8} (h : ¬ s = ⟨l.toArray⟩) : (s.toList == l) = false := by
 rw [Bool.eq_false_iff]
 intro e
 apply h
 have e2 := eq_of_beq e
 rw [ByteArray.toList_eq] at e2
 cases s
 rw [← e2]
def Zl (s : ByteArray) : Bool := if s = ⟨#[107, 103]⟩ then true else if s = ⟨#[109, 105, 110]⟩ then true else if s = ⟨#[104]⟩ then true else if s = ⟨#[114, 97, 100]⟩ then true else false
theorem ari (s : ByteArray) (w : World) : Calls Tryz.prog 173 #[.string s] w (ib (Rg.au (.bool (Zl s))) w) := by
 obtain ⟨v, hv⟩ : ∃ v, v = Zl s := ⟨_, rfl⟩
 rw [← hv]
 unfold Zl at hv
 by_cases g0 : s = ⟨#[107, 103]⟩
 ·
  rw [if_pos g0] at hv
  subst g0
  subst hv
  go_enter Tryz.func173, Tryz.ntmps173
  go_wp2_with fail
  exact bodyPost_ret (v := .bool true) (by simp [results, Tryz.results173, go_sem]) rfl ⟨_, rfl, Below.refl _ _, rfl⟩
 rw [if_neg g0] at hv
 have q0 := Ot g0
 by_cases g1 : s = ⟨#[109, 105, 110]⟩
 ·
  rw [if_pos g1] at hv
  subst g1
  subst hv
  go_enter Tryz.func173, Tryz.ntmps173
  go_wp2_with fail
  exact bodyPost_ret (v := .bool true) (by simp [results, Tryz.results173, go_sem]) rfl ⟨_, rfl, Below.refl _ _, rfl⟩
 rw [if_neg g1] at hv
 have q1 := Ot g1
 by_cases g2 : s = ⟨#[104]⟩
 ·
  rw [if_pos g2] at hv
  subst g2
  subst hv
  go_enter Tryz.func173, Tryz.ntmps173
  go_wp2_with fail
  exact bodyPost_ret (v := .bool true) (by simp [results, Tryz.results173, go_sem]) rfl ⟨_, rfl, Below.refl _ _, rfl⟩
 rw [if_neg g2] at hv
 have q2 := Ot g2
 by_cases g3 : s = ⟨#[114, 97, 100]⟩
 ·
  rw [if_pos g3] at hv
  subst g3
  subst hv
  go_enter Tryz.func173, Tryz.ntmps173
  go_wp2_with fail
  exact bodyPost_ret (v := .bool true) (by simp [results, Tryz.results173, go_sem]) rfl ⟨_, rfl, Below.refl _ _, rfl⟩
 rw [if_neg g3] at hv
 have q3 := Ot g3
 subst hv
 go_enter Tryz.func173, Tryz.ntmps173
 go_wp2_with fail
 exact bodyPost_ret (v := .bool false) (by simp [results, Tryz.results173, go_sem]) rfl ⟨_, rfl, Below.refl _ _, rfl⟩
end Sb


namespace Sb
theorem bcx {ρ : Operand → Value} {w : World} {d : Option Tmp} {x : Operand} {u0 u1 u2 u3 u4 u5 : Value} {ty : TypeId} {pos : String} {af : Array Edge} {gd : Option (Nat × Bool)} (h : ρ x = .agg #[u0, u1, u2, u3, u4, u5]) :
  (execOp ρ { dst := d, op := .build 118 #[(1, x)], type := ty, pos := pos, after := af, guard := gd }).run Tryz.prog w = .ok (.value (.agg #[.int .i64 0, .int .i64 0, .int .i64 0, .int .i64 0, .int .i64 0, .int .i64 0, .int .i64 0, u0, u1, u2, u3, u4, u5])) w := by
 simp only [execOp]
 simp [go_sem, h]
 try rfl
theorem blz {Q : Exit → Act → World → Prop} {l : List Oper} {n : Nat} {T : Nat → World → Value → Prop} {G : World → Prop} {al : List Nat} {a0 : Act} {k d : Nat} {ty : TypeId} {pos : String} {af : Array Edge} {gd : Option (Nat × Bool)} {x : Operand} {q : Rat} (hal : al.contains k = false) (hx : Rg.ig l n T a0 k x (ax [.q q])) (hT : T k = ax [.k (eK z7), .q q]) :
  Rg.Step Tryz.prog Q l n T G eu al a0 k { dst := some d, op := .build 118 #[(1, x)], type := ty, pos := pos, after := af, guard := gd } := by
 intro a w hG hO hN
 obtain ⟨s1, n1, A1, c1, l1, s2, n2, A2, c2, l2, e1, f1, f2⟩ := Ew (hx a w hO hN)
 have hr := bcx (w := w) (d := some d) (ty := ty) (pos := pos) (af := af) (gd := gd) e1
 exact je (P := Tryz.prog) hr ⟨_, rfl, hG, Below.refl _ _, by rw [hT]; exact ⟨_, rfl, fo.e (f := z7) (fo.q f1 f2 rfl)⟩, fun h => by rw [hal] at h; cases h⟩
theorem ahg {a c : Int} (ok : Wd.oo a c) (w : World) (u0 : Value) (h0 : ax [iv a, iv c] w u0) : Calls Tryz.prog 118 #[u0] w (ib (ax [.k (eK z7), .q (Wd.qR a c)]) w) := by
 have HA := hide ok
 clear ok
 have hu0 := Fs h0
 subst hu0
 go_enter Tryz.func118, Tryz.ntmps118
 go_upto_region 1 with fail
 have hO := (Own.push (T := 118) (ls := zM) (Own.push (T := 23) (ls := [iv a, iv c]) (Own.nil w) (fo.v (kg _) (fo.v (kg _) rfl)) (w.heap.size) rfl) (fo.below (by repeat (first | exact Below.refl _ _ | refine gy ?_ _)) (fo.vs w [.int .i64 0, .int .i64 0, .int .i64 0, .int .i64 0, .int .i64 0, .int .i64 0, .int .i64 0, .int .i64 0, .bool false, .slice none 0 0, .int .i64 0, .bool false, .slice none 0 0] rfl)) (w.heap.size + 1) (by simp only [World.size_alloc]))
 generalize (w.alloc (.cells #[.int .i64 a, .int .i64 c] 23)).alloc (.cells #[.int .i64 0, .int .i64 0, .int .i64 0, .int .i64 0, .int .i64 0, .int .i64 0, .int .i64 0, .int .i64 0, .bool false, .slice none 0 0, .int .i64 0, .bool false, .slice none 0 0] 118) = W0 at *
 have HO := hide hO
 clear hO
 go_upto_region 1 with fail
 refine Rg.dh 3 6 (Rg.pick [ax [iv a, iv c], ax [.q (Wd.qR a c)], ax [.k (eK z7), .q (Wd.qR a c)]]) (ay w _ W0) eu [] kr rfl (Rg.dw.pick ⟨az _, az _, az _, trivial⟩) (ay.begin (aa HO))
  (ah (ic uf qg aF [] [iv a, iv c] [])
  (ah (sc1 Tryz.func67 (aT 0) (fun W v0 hG h0 => avs (aa HA) h0))
  (ah (blz rfl (aT 1) rfl)
  Rg.bf))) ?_
 intro v1 V1 hG1 hv1 hne1
 simp only [Rg.puts, Act.put, tA]
 have hO := hG1.1
 refine jq hO 0 [] zM [.k (eK z7), .q (Wd.qR a c)] [] rfl Bn rfl (show ax [.k (eK z7), .q (Wd.qR a c)] V1 (v1 2) from hv1 2 de) rfl rfl rfl ?_
 intro za gm hk0
 replace hO := gm
 clear gm
 clear HO
 have HO := hide hO
 clear hO hG1 hv1 hne1 hk0
 go_wp2_with fail
 exact Cs Tryz.results118 Ia rfl (aa HO) me0 rfl rfl
end Sb


namespace Sb
theorem bcd (s : ByteArray) (b : UInt8) (l : List UInt8) (h : s = ⟨(b :: l).toArray⟩) (w : World) : (Instr.index 9 (.string s) (.int .i64 0)).run Tryz.prog w = .ok (.int .u8 b.toNat) w := by
 subst h
 simp [go_sem]
 rfl
theorem azb (s : ByteArray) (b : UInt8) (l : List UInt8) (h : s = ⟨(b :: l).toArray⟩) (w : World) : (Instr.sliceAt 9 (.string s) (some (.int .i64 1)) none none).run Tryz.prog w = .ok (.string ⟨l.toArray⟩) w := by
 subst h
 simp [go_sem]
 rw [if_pos om]
 have e : (⟨(b :: l).toArray⟩ : ByteArray).extract 1 (l.length + 1) = ⟨l.toArray⟩ := by
  apply ByteArray.ext
  simp [ByteArray.data_extract]
 rw [e]
theorem awt {Q : Exit → Act → World → Prop} {l : List Oper} {n : Nat} {T : Nat → World → Value → Prop} {G : World → Prop} {al : List Nat} {a0 : Act} {k d : Nat} {ty : TypeId} {pos : String} {af : Array Edge} {gd : Option (Nat × Bool)} {x : Operand} {s : ByteArray} {b : UInt8} {ls : List UInt8} (hal : al.contains k = false) (hx : Rg.ig l n T a0 k x (Rg.au (.string s))) (hs : s = ⟨(b :: ls).toArray⟩) (hT : T k = Rg.au (.int .u8 b.toNat)) :
  Rg.Step Tryz.prog Q l n T G eu al a0 k { dst := some d, op := .index 9 x (.const (.int .i64 0)), type := ty, pos := pos, after := af, guard := gd } := by
 intro a w hG hO hN
 have h1 : a.eval x = .string s := hx a w hO hN
 have h3 : a.eval (.const (.int .i64 0)) = .int .i64 0 := rfl
 have key := fun w => bcd s b ls hs w
 have hr : (execOp a.eval { dst := some d, op := .index 9 x (.const (.int .i64 0)), type := ty, pos := pos, after := af, guard := gd }).run Tryz.prog w = .ok (.value (.int .u8 b.toNat)) w := by
  simp only [execOp, h1, h3]
  simp [key, Result.andThen]
 exact je (P := Tryz.prog) hr ⟨_, rfl, hG, Below.refl _ _, by rw [hT]; rfl, fun h => by rw [hal] at h; cases h⟩
theorem Yg {Q : Exit → Act → World → Prop} {l : List Oper} {n : Nat} {T : Nat → World → Value → Prop} {G : World → Prop} {al : List Nat} {a0 : Act} {k d : Nat} {ty : TypeId} {pos : String} {af : Array Edge} {gd : Option (Nat × Bool)} {x : Operand} {s : ByteArray} {b : UInt8} {ls : List UInt8} (hal : al.contains k = false) (hx : Rg.ig l n T a0 k x (Rg.au (.string s))) (hs : s = ⟨(b :: ls).toArray⟩) (hT : T k = Rg.au (.string ⟨ls.toArray⟩)) :
  Rg.Step Tryz.prog Q l n T G eu al a0 k { dst := some d, op := .slice 9 x (some (.const (.int .i64 1))) none none, type := ty, pos := pos, after := af, guard := gd } := by
 intro a w hG hO hN
 have h1 : a.eval x = .string s := hx a w hO hN
 have h3 : a.eval (.const (.int .i64 1)) = .int .i64 1 := rfl
 have key := fun w => azb s b ls hs w
 have hr : (execOp a.eval { dst := some d, op := .slice 9 x (some (.const (.int .i64 1))) none none, type := ty, pos := pos, after := af, guard := gd }).run Tryz.prog w = .ok (.value (.string ⟨ls.toArray⟩)) w := by
  simp only [execOp, h1, h3, Option.map]
  simp [key, Result.andThen]
 exact je (P := Tryz.prog) hr ⟨_, rfl, hG, Below.refl _ _, by rw [hT]; rfl, fun h => by rw [hal] at h; cases h⟩
theorem Ta {Q : Exit → Act → World → Prop} {l : List Oper} {n : Nat} {T : Nat → World → Value → Prop} {G : World → Prop} {al : List Nat} {a0 : Act} {k d : Nat} {ty : TypeId} {pos : String} {af : Array Edge} {gd : Option (Nat × Bool)} {x y : Operand} {s : ByteArray} {r : Nat} {L : List (ByteArray × Value)} {f : Nat → Int} {u v : Int} {c : Bool} (hal : al.contains k = false) (hx : Rg.ig l n T a0 k x (Rg.au (.map (some r)))) (hy : Rg.ig l n T a0 k y (Rg.au (.string s))) (hm : ∀ W, G W → ze W r L) (hu : (findT s L).getD (Cv z7 0 0) = Cv f u v) (hc : (findT s L).isSome = c) (hT : T k = kz [ax [.k (eK f), iv u, iv v], Rg.au (.bool c)]) :
  Rg.Step Tryz.prog Q l n T G eu al a0 k { dst := some d, op := .lookup 136 x y true, type := ty, pos := pos, after := af, guard := gd } := by
 intro a w hG hO hN
 have h1 : a.eval x = .map (some r) := hx a w hO hN
 have h2 : a.eval y = .string s := hy a w hO hN
 have key := atc (s := s) (hm w hG)
 rw [hu, hc] at key
 have hr : (execOp a.eval { dst := some d, op := .lookup 136 x y true, type := ty, pos := pos, after := af, guard := gd }).run Tryz.prog w = .ok (.value (.tuple #[Cv f u v, .bool c])) w := by
  simp only [execOp, h1, h2]
  simp [key, Result.andThen]
 exact je (P := Tryz.prog) hr ⟨_, rfl, hG, Below.refl _ _, by rw [hT]; exact ⟨[_, _], rfl, _, _, rfl, ⟨_, rfl, fo.e (fo.v (kg _) (fo.v (kg _) rfl))⟩, _, _, rfl, rfl, rfl⟩, fun h => by rw [hal] at h; cases h⟩
end Sb


namespace Sb
theorem aws {Q : Exit → Act → World → Prop} {l : List Oper} {n : Nat} {T : Nat → World → Value → Prop} {G : World → Prop} {al : List Nat} {a0 : Act} {k d : Nat} {ty : TypeId} {pos : String} {af : Array Edge} {gd : Option (Nat × Bool)} {x : Operand} {s : ByteArray} {b : UInt8} {ls : List UInt8} (hal : al.contains k = false) (hx : Rg.ig l n T a0 k x (Rg.au (.string s))) (hs : s = ⟨(b :: ls).toArray⟩) (hT : T k = Rg.au (.bool false)) :
  Rg.Step Tryz.prog Q l n T G eu al a0 k { dst := some d, op := .binOp .eql 9 x (.const (.string ⟨#[]⟩)) 9, type := ty, pos := pos, after := af, guard := gd } := by
 intro a w hG hO hN
 have h1 : a.eval x = .string s := hx a w hO hN
 have h3 : a.eval (.const (.string ⟨#[]⟩)) = .string ⟨#[]⟩ := rfl
 have q : (s.toList == []) = false := Ot (l := []) (by rw [hs]; intro h; injection h with h; simp at h)
 have hr : (execOp a.eval { dst := some d, op := .binOp .eql 9 x (.const (.string ⟨#[]⟩)) 9, type := ty, pos := pos, after := af, guard := gd }).run Tryz.prog w = .ok (.value (.bool false)) w := by
  simp only [execOp, h1, h3]
  simp [go_sem, q]
 exact je (P := Tryz.prog) hr ⟨_, rfl, hG, Below.refl _ _, by rw [hT]; rfl, fun h => by rw [hal] at h; cases h⟩
theorem avw : Zx Tryz.prog 118 [.int .i64 0, .int .i64 0, .int .i64 0, .int .i64 0, .int .i64 0, .int .i64 0, .int .i64 0, .int .i64 0, .bool false, .slice none 0 0, .int .i64 0, .bool false, .slice none 0 0] := by
 intro ρ w d ty pos af gd
 simp only [execOp]
 simp [go_sem]
 try rfl
theorem acf {b : Int} {v : Int × Int × Bool} (h : Np b = v) (w : World) : Calls Tryz.prog 172 #[.int .u8 b] w (ib (kz [ax [iv v.1, iv v.2.1], Rg.au (.bool v.2.2)]) w) := h ▸ avr b w
theorem agn {L : List (ByteArray × Value)} {s : ByteArray} {r : Nat} {f : Nat → Int} {n d : Int} (w : World) (hm : ze w r L) (hu : findT s L = some (Cv f n d)) (ok : Wd.oo n d) :
  Calls Tryz.prog 121 #[.map (some r), .string s] w (ib (kz [ax [.k (eK f), .q (Wd.qR n d)], Rg.au (.bool true)]) w) := by
 have HM := hide hm
 have HU := hide (And.intro (show (findT s L).getD (Cv z7 0 0) = Cv f n d by rw [hu]; rfl) (show (findT s L).isSome = true by rw [hu]; rfl))
 have HA := hide ok
 clear hm hu ok
 go_enter Tryz.func121, Tryz.ntmps121
 go_upto_region 1 with fail
 have hO := (Own.push (T := 118) (ls := zM) (Own.nil w) (fo.vs w [.int .i64 0, .int .i64 0, .int .i64 0, .int .i64 0, .int .i64 0, .int .i64 0, .int .i64 0, .int .i64 0, .bool false, .slice none 0 0, .int .i64 0, .bool false, .slice none 0 0] rfl) (w.heap.size) rfl)
 generalize w.alloc (.cells #[.int .i64 0, .int .i64 0, .int .i64 0, .int .i64 0, .int .i64 0, .int .i64 0, .int .i64 0, .int .i64 0, .bool false, .slice none 0 0, .int .i64 0, .bool false, .slice none 0 0] 118) = W0 at *
 have HO := hide hO
 clear hO
 go_upto_region 1 with fail
 refine Rg.dh 7 54 (Rg.pick [Rg.au (.map (some r)), Rg.au (.string s), kz [ax [.k (eK f), iv n, iv d], Rg.au (.bool true)], kz [ax [.k (eK f), iv n, iv d], Rg.au (.bool true)], ax [.k (eK f), iv n, iv d], Rg.au (.bool true), nk 44 zU W0.heap.size]) (ay w _ W0) eu [6] kr rfl (Rg.dw.pick ⟨Rg.ae _, Rg.ae _, jf ⟨(az _), (Rg.ae _), trivial⟩, jf ⟨(az _), (Rg.ae _), trivial⟩, az _, Rg.ae _, ny _ _ _, trivial⟩) (ay.begin (aa HO))
  (ah (di rfl aF)
  (ah (di rfl aF)
  (ah (Ta rfl (aT 0) (aT 1) (fun W h => (aa HM).below h.1.bel) (aa HU).1 (aa HU).2 rfl)
  (ah (di rfl (aT 2))
  (ah (ky (ts := [ax [.k (eK f), iv n, iv d], Rg.au (.bool true)]) rfl (aT 3) (of_decide_eq_true rfl) rfl)
  (ah (ky (ts := [ax [.k (eK f), iv n, iv d], Rg.au (.bool true)]) rfl (aT 3) (of_decide_eq_true rfl) rfl)
  (ah (oq Ns rfl ay.step ay.size rfl (qp (by intro j hj; simp at hj; (repeat' (first | (rcases hj with rfl | hj))) <;> first | (subst hj; exact ⟨_, _, _, rfl⟩) | exact ⟨_, _, _, rfl⟩)))
  Rg.bf))))))) ?_
 intro v1 V1 hG1 hv1 hne1
 simp only [Rg.puts, Act.put, tA]
 have e5 : v1 5 = .bool true := hv1 5 de
 obtain ⟨anb, e6, ui, zy⟩ := (show nk 44 zU W0.heap.size V1 (v1 6) from hv1 6 de)
 simp only [e5, e6]
 have hO := hG1.1
 replace hO := Own.add (aa HO) hG1.2 ui zy
 clear ui zy
 refine jq hO 0 [] zU [.k (eK f), iv n, iv d] [] rfl zo rfl (show ax [.k (eK f), iv n, iv d] V1 (v1 4) from hv1 4 de) rfl rfl rfl ?_
 intro za gm hk0
 replace hO := gm
 clear gm
 clear HO
 have HO := hide hO
 clear hO hG1 hv1 hne1 hk0
 try clear e5 e6
 go_upto_region 2 with fail
 refine Rg.dh 1 54 (Rg.pick [Rg.au (.bool true)]) (ay w _ za) eu [] kr rfl (Rg.dw.pick ⟨Rg.ae _, trivial⟩) (ay.begin (aa HO))
  (ah (di rfl aF)
  Rg.bf) ?_
 intro v2 V2 hG2 hv2 hne2
 simp only [Rg.puts, Act.put, tA]
 have e0 : v2 0 = .bool true := hv2 0 de
 simp only [e0]
 have hO := hG2.1
 clear HO
 have HO := hide hO
 clear hO hG2 hv2 hne2
 try clear e0
 go_upto_region 3 with fail
 refine Rg.dh 2 54 (Rg.pick [ax [.k (eK f), iv n, iv d], ax [.k (eK f), .q (Wd.qR n d)]]) (ay w _ V2) eu [] kr rfl (Rg.dw.pick ⟨az _, az _, trivial⟩) (ay.begin (aa HO))
  (ah (ic wy me0 aF [] [.k (eK f), iv n, iv d] [])
  (ah (sc1 Tryz.func103 (aT 0) (fun W v0 hG h0 => adg (aa HA) W _ h0))
  Rg.bf)) ?_
 intro v3 V3 hG3 hv3 ma
 simp only [Rg.puts, Act.put, tA]
 have hO := hG3.1
 refine jq hO 1 [] zM [.k (eK f), .q (Wd.qR n d)] [] rfl Bn rfl (show ax [.k (eK f), .q (Wd.qR n d)] V3 (v3 1) from hv3 1 de) rfl rfl rfl ?_
 intro Gl gm hk0
 replace hO := gm
 clear gm
 clear HO
 have HO := hide hO
 clear hO hG3 hv3 ma hk0
 go_wp2_with fail
 exact uo Tryz.results121 Ia rfl rfl (aa HO) qg rfl rfl
theorem avd {L : List (ByteArray × Value)} {s : ByteArray} {b : UInt8} {ls : List UInt8} {r : Nat} {f : Nat → Int} {n d p q : Int} (w : World) (hm : ze w r L) (hs : s = ⟨(b :: ls).toArray⟩) (h0 : findT s L = none) (hp : Np b.toNat = (p, q, true)) (hu : findT ⟨ls.toArray⟩ L = some (Cv f n d)) (hz : Zl ⟨ls.toArray⟩ = false) (hT : qm w) (okp : Wd.oo p q) (ok : Wd.oo n d) (hf : ∀ j, j < 7 → wrap64 (z7 j + f j) = f j) :
  Calls Tryz.prog 121 #[.map (some r), .string s] w (ib (kz [ax [.k (eK f), .q (Wd.qR p q * Wd.qR n d)], Rg.au (.bool true)]) w) := by
 have HT := hide hT
 have Rz := hide (And.intro okp ok)
 have HF := hide hf
 clear hT okp ok hf
 have HM := hide hm
 have HS := hide hs
 have HU := hide (And.intro (show (findT s L).getD (Cv z7 0 0) = Cv z7 0 0 by rw [h0]; rfl) (show (findT s L).isSome = false by rw [h0]; rfl))
 have HV := hide (And.intro (show (findT ⟨ls.toArray⟩ L).getD (Cv z7 0 0) = Cv f n d by rw [hu]; rfl) (show (findT ⟨ls.toArray⟩ L).isSome = true by rw [hu]; rfl))
 have HP := hide hp
 have HZ := hide hz
 clear hm hs h0 hu hp hz
 go_enter Tryz.func121, Tryz.ntmps121
 go_upto_region 1 with fail
 have hO := (Own.push (T := 118) (ls := zM) (Own.nil w) (fo.vs w [.int .i64 0, .int .i64 0, .int .i64 0, .int .i64 0, .int .i64 0, .int .i64 0, .int .i64 0, .int .i64 0, .bool false, .slice none 0 0, .int .i64 0, .bool false, .slice none 0 0] rfl) (w.heap.size) rfl)
 generalize w.alloc (.cells #[.int .i64 0, .int .i64 0, .int .i64 0, .int .i64 0, .int .i64 0, .int .i64 0, .int .i64 0, .int .i64 0, .bool false, .slice none 0 0, .int .i64 0, .bool false, .slice none 0 0] 118) = W0 at *
 have HO := hide hO
 clear hO
 go_upto_region 1 with fail
 refine Rg.dh 7 54 (Rg.pick [Rg.au (.map (some r)), Rg.au (.string s), kz [ax [.k (eK z7), iv 0, iv 0], Rg.au (.bool false)], kz [ax [.k (eK z7), iv 0, iv 0], Rg.au (.bool false)], ax [.k (eK z7), iv 0, iv 0], Rg.au (.bool false), nk 44 zU W0.heap.size]) (ay w _ W0) eu [6] kr rfl (Rg.dw.pick ⟨Rg.ae _, Rg.ae _, jf ⟨(az _), (Rg.ae _), trivial⟩, jf ⟨(az _), (Rg.ae _), trivial⟩, az _, Rg.ae _, ny _ _ _, trivial⟩) (ay.begin (aa HO))
  (ah (di rfl aF)
  (ah (di rfl aF)
  (ah (Ta rfl (aT 0) (aT 1) (fun W h => (aa HM).below h.1.bel) (aa HU).1 (aa HU).2 rfl)
  (ah (di rfl (aT 2))
  (ah (ky (ts := [ax [.k (eK z7), iv 0, iv 0], Rg.au (.bool false)]) rfl (aT 3) (of_decide_eq_true rfl) rfl)
  (ah (ky (ts := [ax [.k (eK z7), iv 0, iv 0], Rg.au (.bool false)]) rfl (aT 3) (of_decide_eq_true rfl) rfl)
  (ah (oq Ns rfl ay.step ay.size rfl (qp (by intro j hj; simp at hj; (repeat' (first | (rcases hj with rfl | hj))) <;> first | (subst hj; exact ⟨_, _, _, rfl⟩) | exact ⟨_, _, _, rfl⟩)))
  Rg.bf))))))) ?_
 intro v1 V1 hG1 hv1 hne1
 simp only [Rg.puts, Act.put, tA]
 have e5 : v1 5 = .bool false := hv1 5 de
 obtain ⟨anb, e6, ui, zy⟩ := (show nk 44 zU W0.heap.size V1 (v1 6) from hv1 6 de)
 simp only [e5, e6]
 have hO := hG1.1
 replace hO := Own.add (aa HO) hG1.2 ui zy
 clear ui zy
 refine jq hO 0 [] zU [.k (eK z7), iv 0, iv 0] [] rfl zo rfl (show ax [.k (eK z7), iv 0, iv 0] V1 (v1 4) from hv1 4 de) rfl rfl rfl ?_
 intro za gm hk0
 replace hO := gm
 clear gm
 clear HO
 have HO := hide hO
 clear hO hG1 hv1 hne1 hk0
 try clear e5 e6
 go_upto_region 2 with fail
 refine Rg.dh 1 54 (Rg.pick [Rg.au (.bool false)]) (ay w _ za) eu [] kr rfl (Rg.dw.pick ⟨Rg.ae _, trivial⟩) (ay.begin (aa HO))
  (ah (di rfl aF)
  Rg.bf) ?_
 intro v2 V2 hG2 hv2 hne2
 simp only [Rg.puts, Act.put, tA]
 have e0 : v2 0 = .bool false := hv2 0 de
 simp only [e0]
 have hO := hG2.1
 clear HO
 have HO := hide hO
 clear hO hG2 hv2 hne2
 try clear e0
 go_upto_region 4 with fail
 refine Rg.dh 2 54 (Rg.pick [Rg.au (.string s), Rg.au (.bool false)]) (ay w _ V2) eu [] kr rfl (Rg.dw.pick ⟨Rg.ae _, Rg.ae _, trivial⟩) (ay.begin (aa HO))
  (ah (di rfl aF)
  (ah (aws rfl (aT 0) (aa HS) rfl)
  Rg.bf)) ?_
 intro v3 V3 hG3 hv3 ma
 simp only [Rg.puts, Act.put, tA]
 have e1 : v3 1 = .bool false := hv3 1 de
 simp only [e1]
 have hO := hG3.1
 clear HO
 have HO := hide hO
 clear hO hG3 hv3 ma
 try clear e1
 go_upto_region 6 with fail
 refine Rg.dh 7 54 (Rg.pick [Rg.au (.string s), Rg.au (.int .u8 b.toNat), kz [ax [iv p, iv q], Rg.au (.bool true)], kz [ax [iv p, iv q], Rg.au (.bool true)], ax [iv p, iv q], Rg.au (.bool true), nk 23 zR V3.heap.size]) (ay w _ V3) eu [6] kr rfl (Rg.dw.pick ⟨Rg.ae _, Rg.ae _, jf ⟨(az _), (Rg.ae _), trivial⟩, jf ⟨(az _), (Rg.ae _), trivial⟩, az _, Rg.ae _, ny _ _ _, trivial⟩) (ay.begin (aa HO))
  (ah (di rfl aF)
  (ah (awt rfl (aT 0) (aa HS) rfl)
  (ah (sc1 Tryz.func172 (aT 1) (fun W v0 hG h0 => by cases h0; exact acf (aa HP) W))
  (ah (di rfl (aT 2))
  (ah (ky (ts := [ax [iv p, iv q], Rg.au (.bool true)]) rfl (aT 3) (of_decide_eq_true rfl) rfl)
  (ah (ky (ts := [ax [iv p, iv q], Rg.au (.bool true)]) rfl (aT 3) (of_decide_eq_true rfl) rfl)
  (ah (oq Gc rfl ay.step ay.size rfl (qp (by intro j hj; simp at hj; (repeat' (first | (rcases hj with rfl | hj))) <;> first | (subst hj; exact ⟨_, _, _, rfl⟩) | exact ⟨_, _, _, rfl⟩)))
  Rg.bf))))))) ?_
 intro v4 V4 hG4 hv4 sw
 simp only [Rg.puts, Act.put, tA]
 have e5 : v4 5 = .bool true := hv4 5 de
 obtain ⟨bfz, e6, ui, zy⟩ := (show nk 23 zR V3.heap.size V4 (v4 6) from hv4 6 de)
 simp only [e5, e6]
 have hO := hG4.1
 replace hO := Own.add (aa HO) hG4.2 ui zy
 clear ui zy
 refine jq hO 0 [] zR [iv p, iv q] [] rfl qz rfl (show ax [iv p, iv q] V4 (v4 4) from hv4 4 de) rfl rfl rfl ?_
 intro Dk gm hk0
 replace hO := gm
 clear gm
 clear HO
 have HO := hide hO
 clear hO hG4 hv4 sw hk0
 try clear e5 e6
 go_upto_region 7 with fail
 refine Rg.dh 8 54 (Rg.pick [Rg.au (.map (some r)), Rg.au (.string s), Rg.au (.string ⟨ls.toArray⟩), kz [ax [.k (eK f), iv n, iv d], Rg.au (.bool true)], kz [ax [.k (eK f), iv n, iv d], Rg.au (.bool true)], ax [.k (eK f), iv n, iv d], Rg.au (.bool true), nk 44 zU Dk.heap.size]) (ay w _ Dk) eu [7] kr rfl (Rg.dw.pick ⟨Rg.ae _, Rg.ae _, Rg.ae _, jf ⟨(az _), (Rg.ae _), trivial⟩, jf ⟨(az _), (Rg.ae _), trivial⟩, az _, Rg.ae _, ny _ _ _, trivial⟩) (ay.begin (aa HO))
  (ah (di rfl aF)
  (ah (di rfl aF)
  (ah (Yg rfl (aT 1) (aa HS) rfl)
  (ah (Ta rfl (aT 0) (aT 2) (fun W h => (aa HM).below h.1.bel) (aa HV).1 (aa HV).2 rfl)
  (ah (di rfl (aT 3))
  (ah (ky (ts := [ax [.k (eK f), iv n, iv d], Rg.au (.bool true)]) rfl (aT 4) (of_decide_eq_true rfl) rfl)
  (ah (ky (ts := [ax [.k (eK f), iv n, iv d], Rg.au (.bool true)]) rfl (aT 4) (of_decide_eq_true rfl) rfl)
  (ah (oq Ns rfl ay.step ay.size rfl (qp (by intro j hj; simp at hj; (repeat' (first | (rcases hj with rfl | hj))) <;> first | (subst hj; exact ⟨_, _, _, rfl⟩) | exact ⟨_, _, _, rfl⟩)))
  Rg.bf)))))))) ?_
 intro v5 V5 uk hv5 hne5
 simp only [Rg.puts, Act.put, tA]
 have e6 : v5 6 = .bool true := hv5 6 de
 obtain ⟨bno, e7, Ty, hz7⟩ := (show nk 44 zU Dk.heap.size V5 (v5 7) from hv5 7 de)
 simp only [e6, e7]
 have hO := uk.1
 replace hO := Own.add (aa HO) uk.2 Ty hz7
 clear Ty hz7
 refine jq hO 0 [] zU [.k (eK f), iv n, iv d] [] rfl zo rfl (show ax [.k (eK f), iv n, iv d] V5 (v5 5) from hv5 5 de) rfl rfl rfl ?_
 intro Da gm hk0
 replace hO := gm
 clear gm
 clear HO
 have HO := hide hO
 clear hO uk hv5 hne5 hk0
 try clear e6 e7
 go_upto_region 8 with fail
 refine Rg.dh 11 54 (Rg.pick [Rg.au (.bool true), Rg.au (.bool false), Rg.au (.bool false), Rg.au (.bool true), Rg.au (.bool false), Rg.au (.bool false), Rg.au (.bool false), Rg.au (.string s), Rg.au (.string ⟨ls.toArray⟩), Rg.au (.bool false), Rg.au (.bool false)]) (ay w _ Da) eu [] kr rfl (Rg.dw.pick ⟨Rg.ae _, Rg.ae _, Rg.ae _, Rg.ae _, Rg.ae _, Rg.ae _, Rg.ae _, Rg.ae _, Rg.ae _, Rg.ae _, Rg.ae _, trivial⟩) (ay.begin (aa HO))
  (ah (di rfl aF)
  (ah (zb rfl (aT 0) rfl rfl)
  (ah (di rfl (aT 1))
  (Rg.df (Rg.fu (d := 39) rfl kr rfl (di rfl aF))
  (Rg.df (Rg.fu (d := 39) rfl kr rfl (zb rfl (aT 3) rfl rfl))
  (ah (pg rfl (aT 2) (aT 4))
  (ah (di rfl (aT 5))
  (Rg.df (Rg.fu (d := 43) rfl kr rfl (di rfl aF))
  (Rg.df (Rg.fu (d := 43) rfl kr rfl (Yg rfl (aT 7) (aa HS) rfl))
  (Rg.df (Rg.fu (d := 43) rfl kr rfl (Bo Tryz.func173 kr rfl ay.step (aT 8) (fun W v0 hG h0 => by cases h0; exact (aa HZ) ▸ ari _ W)))
  (ah (pg rfl (aT 6) (aT 9))
  Rg.bf))))))))))) ?_
 intro v6 V6 Ap hv6 Dx
 simp only [Rg.puts, Act.put, tA]
 have e10 : v6 10 = .bool false := hv6 10 de
 simp only [e10]
 have hO := Ap.1
 clear HO
 have HO := hide hO
 clear hO Ap hv6 Dx
 try clear e10
 go_upto_region 10 with fail
 refine Rg.region 5 54 (Rg.pick [ax [iv p, iv q], ax [.k (eK z7), .q (Wd.qR p q)], ax [.k (eK f), iv n, iv d], ax [.k (eK f), .q (Wd.qR n d)], ax [.k (eK f), .q (Wd.qR p q * Wd.qR n d)]]) (ay w _ V6) eu [] kr kr rfl (Rg.dw.pick ⟨az _, az _, az _, az _, az _, trivial⟩) (ay.start (aa HO))
  (ah (ic uf qg aF [] [iv p, iv q] [])
  (ah (sc1 Tryz.func118 (aT 0) (fun W v0 hG h0 => ahg (aa Rz).1 W _ h0))
  (ah (ic wy me0 aF [] [.k (eK f), iv n, iv d] [])
  (ah (sc1 Tryz.func103 (aT 2) (fun W v0 hG h0 => adg (aa Rz).2 W _ h0))
  (ah (sc2 Tryz.func119 (aT 1) (aT 3) (fun W v0 v1 hG h0 h1 => Nj W _ h0 _ h1 (aa HF) (fun W' v0 v1 hb h0 h1 => Rm ((aa HT).below (bg hG.bel hb)) (Dg (aa Rz).1) (Dg (aa Rz).2) h0 h1)))
  Rg.bf))))) ?_
 intro v7 V7 yw hv7 Ag
 simp only [Rg.puts, Act.put, tA]
 have hO := yw.1
 refine jq hO 3 [] zM [.k (eK f), .q (Wd.qR p q * Wd.qR n d)] [] rfl Bn rfl (show ax [.k (eK f), .q (Wd.qR p q * Wd.qR n d)] V7 (v7 4) from hv7 4 de) rfl rfl rfl ?_
 intro bnw gm hk0
 replace hO := gm
 clear gm
 clear HO
 have HO := hide hO
 clear hO yw hv7 Ag hk0
 go_wp2_with fail
 exact uo Tryz.results121 Ia rfl rfl (aa HO) Nt rfl rfl
theorem aqv {L : List (ByteArray × Value)} {s : ByteArray} {b : UInt8} {ls : List UInt8} {r : Nat} {f : Nat → Int} {n d p q : Int} (w : World) (hm : ze w r L) (hs : s = ⟨(b :: ls).toArray⟩) (h0 : findT s L = none) (hp : Np b.toNat = (p, q, true)) (hu : findT ⟨ls.toArray⟩ L = some (Cv f n d)) (hz : Zl ⟨ls.toArray⟩ = true) :
  Calls Tryz.prog 121 #[.map (some r), .string s] w (ib (kz [ax zM, Rg.au (.bool false)]) w) := by
 have HM := hide hm
 have HS := hide hs
 have HU := hide (And.intro (show (findT s L).getD (Cv z7 0 0) = Cv z7 0 0 by rw [h0]; rfl) (show (findT s L).isSome = false by rw [h0]; rfl))
 have HV := hide (And.intro (show (findT ⟨ls.toArray⟩ L).getD (Cv z7 0 0) = Cv f n d by rw [hu]; rfl) (show (findT ⟨ls.toArray⟩ L).isSome = true by rw [hu]; rfl))
 have HP := hide hp
 have HZ := hide hz
 clear hm hs h0 hu hp hz
 go_enter Tryz.func121, Tryz.ntmps121
 go_upto_region 1 with fail
 have hO := (Own.push (T := 118) (ls := zM) (Own.nil w) (fo.vs w [.int .i64 0, .int .i64 0, .int .i64 0, .int .i64 0, .int .i64 0, .int .i64 0, .int .i64 0, .int .i64 0, .bool false, .slice none 0 0, .int .i64 0, .bool false, .slice none 0 0] rfl) (w.heap.size) rfl)
 generalize w.alloc (.cells #[.int .i64 0, .int .i64 0, .int .i64 0, .int .i64 0, .int .i64 0, .int .i64 0, .int .i64 0, .int .i64 0, .bool false, .slice none 0 0, .int .i64 0, .bool false, .slice none 0 0] 118) = W0 at *
 have HO := hide hO
 clear hO
 go_upto_region 1 with fail
 refine Rg.dh 7 54 (Rg.pick [Rg.au (.map (some r)), Rg.au (.string s), kz [ax [.k (eK z7), iv 0, iv 0], Rg.au (.bool false)], kz [ax [.k (eK z7), iv 0, iv 0], Rg.au (.bool false)], ax [.k (eK z7), iv 0, iv 0], Rg.au (.bool false), nk 44 zU W0.heap.size]) (ay w _ W0) eu [6] kr rfl (Rg.dw.pick ⟨Rg.ae _, Rg.ae _, jf ⟨(az _), (Rg.ae _), trivial⟩, jf ⟨(az _), (Rg.ae _), trivial⟩, az _, Rg.ae _, ny _ _ _, trivial⟩) (ay.begin (aa HO))
  (ah (di rfl aF)
  (ah (di rfl aF)
  (ah (Ta rfl (aT 0) (aT 1) (fun W h => (aa HM).below h.1.bel) (aa HU).1 (aa HU).2 rfl)
  (ah (di rfl (aT 2))
  (ah (ky (ts := [ax [.k (eK z7), iv 0, iv 0], Rg.au (.bool false)]) rfl (aT 3) (of_decide_eq_true rfl) rfl)
  (ah (ky (ts := [ax [.k (eK z7), iv 0, iv 0], Rg.au (.bool false)]) rfl (aT 3) (of_decide_eq_true rfl) rfl)
  (ah (oq Ns rfl ay.step ay.size rfl (qp (by intro j hj; simp at hj; (repeat' (first | (rcases hj with rfl | hj))) <;> first | (subst hj; exact ⟨_, _, _, rfl⟩) | exact ⟨_, _, _, rfl⟩)))
  Rg.bf))))))) ?_
 intro v1 V1 hG1 hv1 hne1
 simp only [Rg.puts, Act.put, tA]
 have e5 : v1 5 = .bool false := hv1 5 de
 obtain ⟨anb, e6, ui, zy⟩ := (show nk 44 zU W0.heap.size V1 (v1 6) from hv1 6 de)
 simp only [e5, e6]
 have hO := hG1.1
 replace hO := Own.add (aa HO) hG1.2 ui zy
 clear ui zy
 refine jq hO 0 [] zU [.k (eK z7), iv 0, iv 0] [] rfl zo rfl (show ax [.k (eK z7), iv 0, iv 0] V1 (v1 4) from hv1 4 de) rfl rfl rfl ?_
 intro za gm hk0
 replace hO := gm
 clear gm
 clear HO
 have HO := hide hO
 clear hO hG1 hv1 hne1 hk0
 try clear e5 e6
 go_upto_region 2 with fail
 refine Rg.dh 1 54 (Rg.pick [Rg.au (.bool false)]) (ay w _ za) eu [] kr rfl (Rg.dw.pick ⟨Rg.ae _, trivial⟩) (ay.begin (aa HO))
  (ah (di rfl aF)
  Rg.bf) ?_
 intro v2 V2 hG2 hv2 hne2
 simp only [Rg.puts, Act.put, tA]
 have e0 : v2 0 = .bool false := hv2 0 de
 simp only [e0]
 have hO := hG2.1
 clear HO
 have HO := hide hO
 clear hO hG2 hv2 hne2
 try clear e0
 go_upto_region 4 with fail
 refine Rg.dh 2 54 (Rg.pick [Rg.au (.string s), Rg.au (.bool false)]) (ay w _ V2) eu [] kr rfl (Rg.dw.pick ⟨Rg.ae _, Rg.ae _, trivial⟩) (ay.begin (aa HO))
  (ah (di rfl aF)
  (ah (aws rfl (aT 0) (aa HS) rfl)
  Rg.bf)) ?_
 intro v3 V3 hG3 hv3 ma
 simp only [Rg.puts, Act.put, tA]
 have e1 : v3 1 = .bool false := hv3 1 de
 simp only [e1]
 have hO := hG3.1
 clear HO
 have HO := hide hO
 clear hO hG3 hv3 ma
 try clear e1
 go_upto_region 6 with fail
 refine Rg.dh 7 54 (Rg.pick [Rg.au (.string s), Rg.au (.int .u8 b.toNat), kz [ax [iv p, iv q], Rg.au (.bool true)], kz [ax [iv p, iv q], Rg.au (.bool true)], ax [iv p, iv q], Rg.au (.bool true), nk 23 zR V3.heap.size]) (ay w _ V3) eu [6] kr rfl (Rg.dw.pick ⟨Rg.ae _, Rg.ae _, jf ⟨(az _), (Rg.ae _), trivial⟩, jf ⟨(az _), (Rg.ae _), trivial⟩, az _, Rg.ae _, ny _ _ _, trivial⟩) (ay.begin (aa HO))
  (ah (di rfl aF)
  (ah (awt rfl (aT 0) (aa HS) rfl)
  (ah (sc1 Tryz.func172 (aT 1) (fun W v0 hG h0 => by cases h0; exact acf (aa HP) W))
  (ah (di rfl (aT 2))
  (ah (ky (ts := [ax [iv p, iv q], Rg.au (.bool true)]) rfl (aT 3) (of_decide_eq_true rfl) rfl)
  (ah (ky (ts := [ax [iv p, iv q], Rg.au (.bool true)]) rfl (aT 3) (of_decide_eq_true rfl) rfl)
  (ah (oq Gc rfl ay.step ay.size rfl (qp (by intro j hj; simp at hj; (repeat' (first | (rcases hj with rfl | hj))) <;> first | (subst hj; exact ⟨_, _, _, rfl⟩) | exact ⟨_, _, _, rfl⟩)))
  Rg.bf))))))) ?_
 intro v4 V4 hG4 hv4 sw
 simp only [Rg.puts, Act.put, tA]
 have e5 : v4 5 = .bool true := hv4 5 de
 obtain ⟨bfz, e6, ui, zy⟩ := (show nk 23 zR V3.heap.size V4 (v4 6) from hv4 6 de)
 simp only [e5, e6]
 have hO := hG4.1
 replace hO := Own.add (aa HO) hG4.2 ui zy
 clear ui zy
 refine jq hO 0 [] zR [iv p, iv q] [] rfl qz rfl (show ax [iv p, iv q] V4 (v4 4) from hv4 4 de) rfl rfl rfl ?_
 intro Dk gm hk0
 replace hO := gm
 clear gm
 clear HO
 have HO := hide hO
 clear hO hG4 hv4 sw hk0
 try clear e5 e6
 go_upto_region 7 with fail
 refine Rg.dh 8 54 (Rg.pick [Rg.au (.map (some r)), Rg.au (.string s), Rg.au (.string ⟨ls.toArray⟩), kz [ax [.k (eK f), iv n, iv d], Rg.au (.bool true)], kz [ax [.k (eK f), iv n, iv d], Rg.au (.bool true)], ax [.k (eK f), iv n, iv d], Rg.au (.bool true), nk 44 zU Dk.heap.size]) (ay w _ Dk) eu [7] kr rfl (Rg.dw.pick ⟨Rg.ae _, Rg.ae _, Rg.ae _, jf ⟨(az _), (Rg.ae _), trivial⟩, jf ⟨(az _), (Rg.ae _), trivial⟩, az _, Rg.ae _, ny _ _ _, trivial⟩) (ay.begin (aa HO))
  (ah (di rfl aF)
  (ah (di rfl aF)
  (ah (Yg rfl (aT 1) (aa HS) rfl)
  (ah (Ta rfl (aT 0) (aT 2) (fun W h => (aa HM).below h.1.bel) (aa HV).1 (aa HV).2 rfl)
  (ah (di rfl (aT 3))
  (ah (ky (ts := [ax [.k (eK f), iv n, iv d], Rg.au (.bool true)]) rfl (aT 4) (of_decide_eq_true rfl) rfl)
  (ah (ky (ts := [ax [.k (eK f), iv n, iv d], Rg.au (.bool true)]) rfl (aT 4) (of_decide_eq_true rfl) rfl)
  (ah (oq Ns rfl ay.step ay.size rfl (qp (by intro j hj; simp at hj; (repeat' (first | (rcases hj with rfl | hj))) <;> first | (subst hj; exact ⟨_, _, _, rfl⟩) | exact ⟨_, _, _, rfl⟩)))
  Rg.bf)))))))) ?_
 intro v5 V5 uk hv5 hne5
 simp only [Rg.puts, Act.put, tA]
 have e6 : v5 6 = .bool true := hv5 6 de
 obtain ⟨bno, e7, Ty, hz7⟩ := (show nk 44 zU Dk.heap.size V5 (v5 7) from hv5 7 de)
 simp only [e6, e7]
 have hO := uk.1
 replace hO := Own.add (aa HO) uk.2 Ty hz7
 clear Ty hz7
 refine jq hO 0 [] zU [.k (eK f), iv n, iv d] [] rfl zo rfl (show ax [.k (eK f), iv n, iv d] V5 (v5 5) from hv5 5 de) rfl rfl rfl ?_
 intro Da gm hk0
 replace hO := gm
 clear gm
 clear HO
 have HO := hide hO
 clear hO uk hv5 hne5 hk0
 try clear e6 e7
 go_upto_region 8 with fail
 refine Rg.dh 11 54 (Rg.pick [Rg.au (.bool true), Rg.au (.bool false), Rg.au (.bool false), Rg.au (.bool true), Rg.au (.bool false), Rg.au (.bool false), Rg.au (.bool false), Rg.au (.string s), Rg.au (.string ⟨ls.toArray⟩), Rg.au (.bool true), Rg.au (.bool true)]) (ay w _ Da) eu [] kr rfl (Rg.dw.pick ⟨Rg.ae _, Rg.ae _, Rg.ae _, Rg.ae _, Rg.ae _, Rg.ae _, Rg.ae _, Rg.ae _, Rg.ae _, Rg.ae _, Rg.ae _, trivial⟩) (ay.begin (aa HO))
  (ah (di rfl aF)
  (ah (zb rfl (aT 0) rfl rfl)
  (ah (di rfl (aT 1))
  (Rg.df (Rg.fu (d := 39) rfl kr rfl (di rfl aF))
  (Rg.df (Rg.fu (d := 39) rfl kr rfl (zb rfl (aT 3) rfl rfl))
  (ah (pg rfl (aT 2) (aT 4))
  (ah (di rfl (aT 5))
  (Rg.df (Rg.fu (d := 43) rfl kr rfl (di rfl aF))
  (Rg.df (Rg.fu (d := 43) rfl kr rfl (Yg rfl (aT 7) (aa HS) rfl))
  (Rg.df (Rg.fu (d := 43) rfl kr rfl (Bo Tryz.func173 kr rfl ay.step (aT 8) (fun W v0 hG h0 => by cases h0; exact (aa HZ) ▸ ari _ W)))
  (ah (pg rfl (aT 6) (aT 9))
  Rg.bf))))))))))) ?_
 intro v6 V6 Ap hv6 Dx
 simp only [Rg.puts, Act.put, tA]
 have e10 : v6 10 = .bool true := hv6 10 de
 simp only [e10]
 have hO := Ap.1
 clear HO
 have HO := hide hO
 clear hO Ap hv6 Dx
 try clear e10
 go_upto_region 9 with fail
 refine Rg.dh 1 54 (Rg.pick [ax zM]) (ay w _ V6) eu [] kr rfl (Rg.dw.pick ⟨az _, trivial⟩) (ay.begin (aa HO))
  (ah (Cy avw rfl rfl rfl)
  Rg.bf) ?_
 intro v7 V7 yw hv7 Ag
 simp only [Rg.puts, Act.put, tA]
 have hO := yw.1
 refine jq hO 3 [] zM zM [] rfl Bn rfl (show ax zM V7 (v7 0) from hv7 0 de) rfl rfl rfl ?_
 intro bnw gm hk0
 replace hO := gm
 clear gm
 clear HO
 have HO := hide hO
 clear hO yw hv7 Ag hk0
 go_wp2_with fail
 exact uo Tryz.results121 Ia rfl rfl (aa HO) Nt rfl rfl
end Sb


namespace Sb
def aaw (L : List (ByteArray × Value)) : World → Value → Prop := fun W v => ∃ r, v = .map (some r) ∧ ze W r L
theorem Wx {L : List (ByteArray × Value)} : Rg.Fu eu (aaw L) := by
 rintro w w' v hb ⟨r, rfl, h⟩
 exact ⟨r, rfl, h.below hb⟩
theorem ahd (w : World) : Calls Tryz.prog 120 #[] w (ib (aaw Df) w) :=
 (bbd w).mono fun e w' ⟨r, h1, h2, h3⟩ => ⟨_, h1, h2, r, rfl, h3⟩
theorem apy {s : ByteArray} (w : World) (hf : ∀ W r, ze W r Df → Calls Tryz.prog 121 #[.map (some r), .string s] W (ib (kz [ax zM, Rg.au (.bool false)]) W)) :
  Calls Tryz.prog 50 #[.string s] w (ib (Zo ⟨z7, 0, 0, 4⟩) w) := by
 have HF := hide hf
 clear hf
 go_enter Tryz.func50, Tryz.ntmps50
 go_upto_region 1 with fail
 have hO := (Own.push (T := 44) (ls := zU) (Own.nil w) (fo.vs w [.int .i64 0, .int .i64 0, .int .i64 0, .int .i64 0, .int .i64 0, .int .i64 0, .int .i64 0, .int .i64 0, .int .i64 0] rfl) (w.heap.size) rfl)
 generalize w.alloc (.cells #[.int .i64 0, .int .i64 0, .int .i64 0, .int .i64 0, .int .i64 0, .int .i64 0, .int .i64 0, .int .i64 0, .int .i64 0] 44) = W0 at *
 have HO := hide hO
 clear hO
 go_upto_region 1 with fail
 refine Rg.dh 7 19 (Rg.pick [aaw Df, Rg.au (.string s), kz [ax zM, Rg.au (.bool false)], kz [ax zM, Rg.au (.bool false)], ax zM, Rg.au (.bool false), nk 118 zM W0.heap.size]) (ay w _ W0) eu [6] kr rfl (Rg.dw.pick ⟨Wx, Rg.ae _, jf ⟨(az _), (Rg.ae _), trivial⟩, jf ⟨(az _), (Rg.ae _), trivial⟩, az _, Rg.ae _, ny _ _ _, trivial⟩) (ay.begin (aa HO))
  (ah (Hu Tryz.func120 kr rfl ay.step  (fun W  hG  => ahd W))
  (ah (di rfl aF)
  (ah (sc2 Tryz.func121 (aT 0) (aT 1) (fun W v0 v1 hG h0 h1 => by obtain ⟨r, rfl, hm⟩ := h0; cases h1; exact (aa HF) W r hm))
  (ah (di rfl (aT 2))
  (ah (ky (ts := [ax zM, Rg.au (.bool false)]) rfl (aT 3) (of_decide_eq_true rfl) rfl)
  (ah (ky (ts := [ax zM, Rg.au (.bool false)]) rfl (aT 3) (of_decide_eq_true rfl) rfl)
  (ah (oq ada rfl ay.step ay.size rfl (qp (by intro j hj; simp at hj; (repeat' (first | (rcases hj with rfl | hj))) <;> first | (subst hj; exact ⟨_, _, _, rfl⟩) | exact ⟨_, _, _, rfl⟩)))
  Rg.bf))))))) ?_
 intro v1 V1 hG1 hv1 hne1
 simp only [Rg.puts, Act.put, tA]
 have e5 : v1 5 = .bool false := hv1 5 de
 obtain ⟨anb, e6, ui, zy⟩ := (show nk 118 zM W0.heap.size V1 (v1 6) from hv1 6 de)
 simp only [e5, e6]
 have hO := hG1.1
 replace hO := Own.add (aa HO) hG1.2 ui zy
 clear ui zy
 refine jq hO 0 [] zM zM [] rfl Bn rfl (show ax zM V1 (v1 4) from hv1 4 de) rfl rfl rfl ?_
 intro za gm hk0
 replace hO := gm
 clear gm
 clear HO
 have HO := hide hO
 clear hO hG1 hv1 hne1 hk0
 try clear e5 e6
 go_upto_region 2 with fail
 refine Rg.dh 2 19 (Rg.pick [Rg.au (.bool false), Rg.au (.bool true)]) (ay w _ za) eu [] kr rfl (Rg.dw.pick ⟨Rg.ae _, Rg.ae _, trivial⟩) (ay.begin (aa HO))
  (ah (di rfl aF)
  (ah (zb rfl (aT 0) rfl rfl)
  Rg.bf)) ?_
 intro v2 V2 hG2 hv2 hne2
 simp only [Rg.puts, Act.put, tA]
 have e1 : v2 1 = .bool true := hv2 1 de
 simp only [e1]
 have hO := hG2.1
 clear HO
 have HO := hide hO
 clear hO hG2 hv2 hne2
 try clear e1
 go_upto_region 3 with fail
 refine Rg.dh 1 19 (Rg.pick [ax [.k (eK z7), iv 0, iv 0]]) (ay w _ V2) eu [] kr rfl (Rg.dw.pick ⟨az _, trivial⟩) (ay.begin (aa HO))
  (ah (ala rfl rfl)
  Rg.bf) ?_
 intro v3 V3 hG3 hv3 ma
 simp only [Rg.puts, Act.put, tA]
 have hO := hG3.1
 refine jq hO 1 [] zU [.k (eK z7), iv 0, iv 0] [] rfl zo rfl (show ax [.k (eK z7), iv 0, iv 0] V3 (v3 0) from hv3 0 de) rfl rfl rfl ?_
 intro Gl gm hk0
 replace hO := gm
 clear gm
 clear HO
 have HO := hide hO
 clear hO hG3 hv3 ma hk0
 go_wp2_with fail
 exact uo Tryz.results50 Hz rfl rfl (aa HO) qg rfl rfl
theorem apz (w : World) : Calls Tryz.prog 50 #[.string ⟨#[109, 109, 105, 110]⟩] w (ib (Zo ⟨z7, 0, 0, 4⟩) w) :=
 apy w fun W r hm => aqv (b := 109) (ls := [109, 105, 110]) (f := fun j => if j = 2 then 1 else 0) (n := 60) (d := 1) (p := 1) (q := 1000) W hm rfl kr kr kr kr
end Sb


namespace Sb
theorem bde {s : ByteArray} {n d : Int} {c : Bool} (w : World) (u1 : Value) (h1 : ax [iv n, iv d] w u1) (hc : decide (n > 0) = c) :
  Calls Tryz.prog 116 #[.string s, u1, .int .i64 0] w (ib (Rg.au (.bool c)) w) := by
 have HC := hide hc
 clear hc
 have hu1 := Fs h1
 subst hu1
 go_enter Tryz.func116, Tryz.ntmps116
 go_upto_region 1 with fail
 have hO := (Own.push (T := 23) (ls := [iv n, iv d]) (Own.nil w) (fo.v (kg _) (fo.v (kg _) rfl)) (w.heap.size) rfl)
 generalize w.alloc (.cells #[.int .i64 n, .int .i64 d] 23) = W0 at *
 have HO := hide hO
 clear hO
 go_upto_region 1 with fail
 refine Rg.dh 2 19 (Rg.pick [Rg.au (.int .i64 0), Rg.au (.bool true)]) (ay w _ W0) eu [] kr rfl (Rg.dw.pick ⟨Rg.ae _, Rg.ae _, trivial⟩) (ay.begin (aa HO))
  (ah (di rfl aF)
  (ah (aeg rfl (aT 0) (Rg.iy _) rfl rfl)
  Rg.bf)) ?_
 intro v1 V1 hG1 hv1 hne1
 simp only [Rg.puts, Act.put, tA]
 have e1 : v1 1 = .bool true := hv1 1 de
 simp only [e1]
 have hO := hG1.1
 clear HO
 have HO := hide hO
 clear hO hG1 hv1 hne1
 try clear e1
 go_upto_region 2 with fail
 refine Rg.dh 4 19 (Rg.pick [Rg.au (.pointer (some ⟨w.heap.size, 0, none⟩)), Rg.au (.int .i64 n), Rg.au (.bool c), Rg.au (.bool c)]) (ay w _ V1) eu [] kr rfl (Rg.dw.pick ⟨Rg.ae _, Rg.ae _, Rg.ae _, Rg.ae _, trivial⟩) (ay.begin (aa HO))
  (ah (Co (b := w.heap.size) (off := 0) rfl aF rfl rfl)
  (ah (Lg Di me0 (aT 0) [] [iv d] rfl)
  (ah (Va rfl (aT 1) (Rg.iy _) rfl (aa HC))
  (ah (jk rfl (aT 2))
  Rg.bf)))) ?_
 intro v2 V2 hG2 hv2 hne2
 simp only [Rg.puts, Act.put, tA]
 have e2 : v2 2 = .bool c := hv2 2 de
 have e3 : v2 3 = .bool c := hv2 3 de
 simp only [e2, e3]
 have hO := hG2.1
 clear HO
 have HO := hide hO
 clear hO hG2 hv2 hne2
 try clear e2 e3
 go_wp2_with fail
 exact xw Tryz.results116 rfl (aa HO).bel rfl
end Sb


namespace Wd
def Ac (c : UInt8) : Bool := decide (48 ≤ (c.toNat : Int)) && decide ((c.toNat : Int) ≤ 57)
def Dj (l : List UInt8) (m : Int) : Bool := decide (1 ≤ (l.length : Int)) && decide ((l.length : Int) ≤ m) && l.all Ac
def Bt (l : List UInt8) : Bool := Dj l 20 && (l == [48] || !(l.head? == some 48))
end Wd
theorem Yd (s : ByteArray) (k : Nat) (h : k < s.size) : s.data.toList.take (k + 1) = s.data.toList.take k ++ [s[k]] := by
 rw [List.take_succ_eq_append_getElem (by simpa using h)]; rfl
theorem ry (s : ByteArray) : s.data.toList.length = s.size := Array.length_toList
theorem arj (s : ByteArray) (k : Nat) (h : k < s.size) (hd : Wd.Ac s[k] = false) : s.data.toList.all Wd.Ac = false := by
 rw [List.all_eq_false]
 refine ⟨s[k], ?_, by rw [hd]; decide⟩
 have h1 : k < s.data.toList.length := by rw [ry]; exact h
 have h2 : s[k] = s.data.toList[k] := rfl
 rw [h2]
 exact List.getElem_mem h1
theorem Tm (s : ByteArray) (m : Int) (w : World) (hs : s.size ≤ 9223372036854775807) :
  Calls Tryz.prog 158 #[.string s, .int .i64 m] w fun e w' => e = .returned (.bool (Wd.Dj s.data.toList m)) ∧ w' = w := by
 unfold Wd.Dj
 rw [ry]
 by_cases h1 : (s.size : Int) < 1
 ·
  have e : (decide (1 ≤ (s.size : Int)) && decide ((s.size : Int) ≤ m) && s.data.toList.all Wd.Ac) = false := by rw [decide_eq_false (show ¬ 1 ≤ (s.size : Int) by omega)]; rfl
  rw [e]
  have d1 : decide ((s.size : Int) < 1) = true := decide_eq_true h1
  clear h1 hs e
  go_enter Tryz.func158, Tryz.ntmps158
  go_wp2
  go_ret
  exact ⟨rfl, rfl⟩
 ·
  have d1 : decide ((s.size : Int) < 1) = false := decide_eq_false h1
  by_cases h2 : m < s.size
  ·
   have e : (decide (1 ≤ (s.size : Int)) && decide ((s.size : Int) ≤ m) && s.data.toList.all Wd.Ac) = false := by rw [decide_eq_false (show ¬ (s.size : Int) ≤ m by omega), Bool.and_false]; rfl
   rw [e]
   have d2 : decide (m < (s.size : Int)) = true := decide_eq_true h2
   clear h1 h2 hs e
   go_enter Tryz.func158, Tryz.ntmps158
   go_wp2
   go_ret
   exact ⟨rfl, rfl⟩
  ·
   have d2 : decide (m < (s.size : Int)) = false := decide_eq_false h2
   have e : (decide (1 ≤ (s.size : Int)) && decide ((s.size : Int) ≤ m)) = true := by rw [decide_eq_true (show 1 ≤ (s.size : Int) by omega), decide_eq_true (show (s.size : Int) ≤ m by omega)]; rfl
   rw [e, Bool.true_and]
   obtain ⟨r, hr⟩ : ∃ r, r = s.data.toList.all Wd.Ac := ⟨_, rfl⟩
   rw [← hr]
   have HR := Lib.hid hr
   clear h1 h2 e hr
   go_enter Tryz.func158, Tryz.ntmps158
   go_wp2
   go_loop [17] (fun i => ∃ k : Nat, k ≤ s.size ∧ i = .int .i64 k ∧ (s.data.toList.take k).all Wd.Ac = true) (fun i => s.size - (intOf i).toNat)
   case atStart => exact ⟨0, Nat.zero_le _, rfl, rfl⟩
   case round =>
    obtain ⟨k, hk, rfl, hall⟩ := hrel
    have bhe := Lib.hid hall
    clear hall
    by_cases hlt : k < s.size
    ·
     have hts := Yd s k hlt
     have hf := arj s k hlt
     obtain ⟨c, hc⟩ : ∃ c, c = s[k] := ⟨_, rfl⟩
     by_cases c1 : (s[k].toNat : Int) < 48
     ·
      have e1 : decide ((s[k].toNat : Int) < 48) = true := decide_eq_true c1
      have HF := Lib.hid (HR.out.trans (hf (by unfold Wd.Ac; rw [decide_eq_false (show ¬ 48 ≤ (s[k].toNat : Int) by omega)]; rfl)))
      clear hf hts hc
      go_wp2
      go_ret
      exact ⟨by rw [HF.out]; rfl, rfl⟩
     ·
      have e1 : decide ((s[k].toNat : Int) < 48) = false := decide_eq_false c1
      by_cases c2 : 57 < (s[k].toNat : Int)
      ·
       have e2 : decide (57 < (s[k].toNat : Int)) = true := decide_eq_true c2
       have HF := Lib.hid (HR.out.trans (hf (by unfold Wd.Ac; rw [decide_eq_false (show ¬ (s[k].toNat : Int) ≤ 57 by omega), Bool.and_false])))
       clear hf hts hc
       go_wp2
       go_ret
       exact ⟨by rw [HF.out]; rfl, rfl⟩
      ·
       have e2 : decide (57 < (s[k].toNat : Int)) = false := decide_eq_false c2
       have HS := Lib.hid (show (s.data.toList.take (k + 1)).all Wd.Ac = true by
        rw [hts, List.all_append, bhe.out, List.all_cons, List.all_nil]
        unfold Wd.Ac
        rw [decide_eq_true (show 48 ≤ (s[k].toNat : Int) by omega), decide_eq_true (show (s[k].toNat : Int) ≤ 57 by omega)]; rfl)
       clear hf hts hc
       go_wp2
       go_round
       case rel => exact ⟨k + 1, by omega, by go_num, HS.out⟩
       case measure => simp [intOf]; omega
    ·
     have HA := Lib.hid (show s.data.toList.all Wd.Ac = true by
      have h := bhe.out
      rwa [List.take_of_length_le (by rw [ry]; omega)] at h)
     have HA2 := Lib.hid (HR.out.trans HA.out)
     clear HA
     go_wp2
     go_ret
     exact ⟨by rw [HA2.out]; rfl, rfl⟩
theorem Gy (s : ByteArray) (w : World) (hs : s.size ≤ 9223372036854775807) :
  Calls Tryz.prog 156 #[.string s] w fun e w' => e = .returned (.bool (Wd.Bt s.data.toList)) ∧ w' = w := by
 have HD := hide (fun W => Tm s 20 W hs)
 unfold Wd.Bt
 by_cases hd : Wd.Dj s.data.toList 20 = true
 ·
  have hl : 0 < s.size := by
   unfold Wd.Dj at hd
   rw [ry] at hd
   rcases Nat.eq_zero_or_pos s.size with h | h
   ·
    rw [h] at hd; simp at hd
   ·
    exact h
  rw [hd] at HD ⊢
  rw [Bool.true_and]
  have hh : s.data.toList.head? = some s[0] := by
   have h1 : 0 < s.data.toList.length := by rw [ry]; exact hl
   rw [List.head?_eq_getElem?, List.getElem?_eq_getElem h1]; rfl
  have hs0 : s.toList = s.data.toList := Lib.toList_data s
  obtain ⟨r, hr⟩ : ∃ r, r = (s.data.toList == [48] || !(s.data.toList.head? == some 48)) := ⟨_, rfl⟩
  rw [← hr]
  by_cases h0 : s.data.toList = [48]
  ·
   have HR := Lib.hid (show r = true by rw [hr, h0]; rfl)
   have e1 : (s.toList == [48]) = true := by rw [hs0, h0]; rfl
   clear hd hr hh hs0 h0
   go_enter Tryz.func156, Tryz.ntmps156
   go_wp2_with (go_at_call 158; refine ((aa HD) _).mono ?_; rintro e w' ⟨rfl, rfl⟩)
   all_goals first | go_ret | skip
   all_goals exact ⟨by rw [HR.out]; rfl, rfl⟩
  ·
   have e1 : (s.toList == [48]) = false := by rw [hs0]; exact beq_eq_false_iff_ne.2 h0
   by_cases h1 : (s[0].toNat : Int) = 48
   ·
    have e2 : ((s[0].toNat : Int) != 48) = false := by rw [h1]; rfl
    have h2 : s[0] = 48 := UInt8.toNat_inj.1 (by show s[0].toNat = 48; omega)
    have HR := Lib.hid (show r = false by rw [hr, hh, h2, beq_eq_false_iff_ne.2 h0]; rfl)
    clear hd hr hh hs0 h0 h2
    go_enter Tryz.func156, Tryz.ntmps156
    go_wp2_with (go_at_call 158; refine ((aa HD) _).mono ?_; rintro e w' ⟨rfl, rfl⟩)
    all_goals first | go_ret | skip
    all_goals exact ⟨by rw [HR.out]; rfl, rfl⟩
   ·
    have e2 : ((s[0].toNat : Int) != 48) = true := by simp [h1]
    have h2 : ¬ s[0] = 48 := fun h => h1 (by rw [h]; rfl)
    have HR := Lib.hid (show r = true by
     have h3 : (some s[0] == some (48 : UInt8)) = false := beq_eq_false_iff_ne.2 (fun h => h2 (Option.some.inj h))
     rw [hr, hh, h3, beq_eq_false_iff_ne.2 h0]; rfl)
    clear hd hr hh hs0 h0 h2
    go_enter Tryz.func156, Tryz.ntmps156
    go_wp2_with (go_at_call 158; refine ((aa HD) _).mono ?_; rintro e w' ⟨rfl, rfl⟩)
    all_goals first | go_ret | skip
    all_goals exact ⟨by rw [HR.out]; rfl, rfl⟩
 ·
  have hd' : Wd.Dj s.data.toList 20 = false := by cases h : Wd.Dj s.data.toList 20 with
   | true => exact absurd h hd
   | false => rfl
  rw [hd'] at HD ⊢
  rw [Bool.false_and]
  clear hd hd'
  go_enter Tryz.func156, Tryz.ntmps156
  go_wp2_with (go_at_call 158; refine ((aa HD) _).mono ?_; rintro e w' ⟨rfl, rfl⟩)
  all_goals first | go_ret | skip
  all_goals exact ⟨rfl, rfl⟩

theorem ama (s sub : ByteArray) (c : UInt8) (hc : sub.data.toList = [c]) (w : World) :
  Calls Tryz.prog 224 #[.string s, .string sub] w fun e w' => e = .returned (.int .i64 (Lib.indexByte s.data.toList c)) ∧ w' = w := by
 have h1 : sub.size = 1 := by rw [← ry, hc]; rfl
 have hg : sub[0] = c := by
  have h2 : sub[0] = sub.data.toList[0]'(by rw [hc]; exact Nat.zero_lt_one) := rfl
  rw [h2]; simp only [hc, List.getElem_cons_zero]
 have hs0 : s.toList = s.data.toList := Lib.toList_data s
 have hs1 : sub.toList = [c] := (Lib.toList_data sub).trans hc
 obtain ⟨i, hi⟩ : ∃ i, i = Lib.indexByte s.data.toList c := ⟨_, rfl⟩
 have HB := hide (fun W => Tryz.stringslite_IndexByte s (sub[0].toNat : Int) W)
 have hcc : ((sub[0].toNat : Int)).toNat.toUInt8 = c := by rw [hg, Int.toNat_natCast]; exact UInt8.ofNat_toNat
 rw [hcc] at HB
 rw [← hi] at HB ⊢
 have e1 : ((sub.size : Int) == 0) = false := by rw [h1]; rfl
 have e2 : ((sub.size : Int) == 1) = true := by rw [h1]; rfl
 by_cases h0 : s.data.toList = [c]
 ·
  have HI := Lib.hid (show i = 0 by rw [hi, h0]; simp [Lib.indexByte])
  have e3 : (sub.toList == s.toList) = true := by rw [hs1, hs0, h0]; exact beq_self_eq_true _
  clear hc hg hs0 hs1 hi hcc h0
  go_enter Tryz.func224, Tryz.ntmps224
  go_wp2
  all_goals first | go_ret | skip
  all_goals exact ⟨by rw [HI.out]; rfl, rfl⟩
 ·
  have e3 : (sub.toList == s.toList) = false := by rw [hs1, hs0]; exact beq_eq_false_iff_ne.2 (fun h => h0 h.symm)
  have h2 : (0 : Int) < sub.size := by omega
  clear hc hg hs0 hs1 hi hcc h0
  go_enter Tryz.func224, Tryz.ntmps224
  go_wp2_with (go_at_call 242; refine ((aa HB) _).mono ?_; rintro e w' ⟨rfl, rfl⟩)
  all_goals first | go_ret | skip
  all_goals exact ⟨rfl, rfl⟩
def bhg (w : World) (s : ByteArray) (c : UInt8) (e : Ending) (w' : World) : Prop := ∃ (a b : ByteArray) (f : Bool), e = .returned (.tuple #[.string a, .string b, .bool f]) ∧ Below w.heap.size w w' ∧
 ((f = true ∧ s.data.toList = a.data.toList ++ c :: b.data.toList ∧ c ∉ a.data.toList) ∨ (f = false ∧ a = s ∧ b.data.toList = [] ∧ c ∉ s.data.toList))
theorem avo (s sub : ByteArray) (c : UInt8) (hc : sub.data.toList = [c]) (w : World) (hs : s.size ≤ 9223372036854775806) :
  Calls Tryz.prog 198 #[.string s, .string sub] w fun e w' => bhg w s c e w' := by
 have HI := hide (fun W => ama s sub c hc W)
 have h1 : sub.size = 1 := by rw [← ry, hc]; rfl
 rcases Int.lt_or_le (Lib.indexByte s.data.toList c) 0 with hn | hn
 ·
  have e0 : Lib.indexByte s.data.toList c = -1 := by have := Lib.indexByte_ge s.data.toList c; omega
  have hno : c ∉ s.data.toList := fun h => by
   obtain ⟨k, hk⟩ := List.getElem?_of_mem h
   exact Lib.indexByte_none e0 k hk
  rw [e0] at HI
  clear hn e0 hs
  go_enter Tryz.func198, Tryz.ntmps198
  go_wp2_with (go_at_call 224; refine ((aa HI) _).mono ?_; rintro e w' ⟨rfl, rfl⟩)
  all_goals first | go_ret3 | skip
  exact ⟨s, ⟨#[]⟩, false, rfl, Below.refl _ _, .inr ⟨rfl, rfl, rfl, hno⟩⟩
 ·
  obtain ⟨o, ho⟩ : ∃ o : Nat, Lib.indexByte s.data.toList c = o := ⟨_, (Int.toNat_of_nonneg hn).symm⟩
  obtain ⟨g1, g2⟩ := Lib.indexByte_some ho
  have hlt : o < s.data.toList.length := by
   rcases Nat.lt_or_ge o s.data.toList.length with h | h
   ·
    exact h
   ·
    rw [List.getElem?_eq_none h] at g1; cases g1
  have hlt2 : o < s.size := by rw [← ry]; exact hlt
  rw [ho] at HI
  have k1 : (s.extract 0 o).data.toList = s.data.toList.take o := by rw [Lib.extract_eq]; simp
  have k2 : (s.extract (o + sub.size) s.size).data.toList = s.data.toList.drop (o + 1) := by
   rw [Lib.extract_eq, h1]
   show List.take (s.size - (o + 1)) (List.drop (o + 1) s.data.toList) = _
   exact List.take_of_length_le (by rw [List.length_drop, ry]; exact Nat.le_refl _)
  have k3 : s.data.toList = (s.extract 0 o).data.toList ++ c :: (s.extract (o + sub.size) s.size).data.toList := by
   rw [k1, k2]
   have h2 : s.data.toList[o] = c := by rw [List.getElem?_eq_getElem hlt] at g1; exact Option.some.inj g1
   rw [← h2, ← List.drop_eq_getElem_cons hlt, List.take_append_drop]
  have k4 : c ∉ (s.extract 0 o).data.toList := fun h => by
   rw [k1] at h
   obtain ⟨k, hk⟩ := List.getElem?_of_mem h
   have hko : k < o := by
    rcases Nat.lt_or_ge k o with h | h
    ·
     exact h
    ·
     rw [List.getElem?_eq_none (by rw [List.length_take]; omega)] at hk; cases hk
   rw [List.getElem?_take_of_lt hko] at hk
   exact g2 k hko hk
  have c1 : (0 : Int) ≤ ↑o := by omega
  have c2 : (↑o : Int) ≤ ↑s.size := by omega
  have c3 : (0 : Int) ≤ ↑o + ↑sub.size := by omega
  have c4 : (↑o + ↑sub.size : Int) ≤ ↑s.size := by omega
  have K3 := Lib.hid k3
  have K4 := Lib.hid k4
  have H1 := Lib.hid h1
  clear k1 k2 k3 k4 g1 g2 hlt hlt2 hn ho hc h1
  go_enter Tryz.func198, Tryz.ntmps198
  go_wp2_with (go_at_call 224; refine ((aa HI) _).mono ?_; rintro e w' ⟨rfl, rfl⟩)
  go_region
  all_goals go_wp2
  all_goals first | go_ret3 | skip
  all_goals exact ⟨_, _, true, rfl, by first | exact Below.refl _ _ | exact (Below.refl _ _).drew, .inl ⟨rfl, K3.out, K4.out⟩⟩
theorem Nk (s sub : ByteArray) (c : UInt8) (hc : sub.data.toList = [c]) (w : World) (hs : s.size ≤ 9223372036854775806) :
  Calls Tryz.prog 155 #[.string s, .string sub] w fun e w' => bhg w s c e w' := by
 have HI := hide (fun W => avo s sub c hc W hs)
 clear hc hs
 go_enter Tryz.func155, Tryz.ntmps155
 go_wp2_with (go_at_call 198; refine ((aa HI) _).mono ?_; rintro e w' ⟨a, b, f, rfl, hb, hf⟩)
 all_goals first | go_ret3 | skip
 exact ⟨a, b, f, rfl, hb, hf⟩
end Go.Proofs.YtfgeaakhlcaibaaGreatDoor
