/- Texts beneath a law of layer 1. -/
import Derived.Test.YtfgeaakhlcaibaaGreatDoorCy10
set_option maxRecDepth 100000
set_option maxHeartbeats 16000000
namespace Go.Proofs.YtfgeaakhlcaibaaGreatDoor
open Go.RowKit

namespace Sb
def z7 : Nat → Int := fun _ => 0
abbrev zU : List ji := [iv 0, iv 0, iv 0, iv 0, iv 0, iv 0, iv 0, iv 0, iv 0]
abbrev zM : List ji := [iv 0, iv 0, iv 0, iv 0, iv 0, iv 0, iv 0, iv 0, .v (.bool false), .v (.slice none 0 0), iv 0, .v (.bool false), .v (.slice none 0 0)]
def aV (f : Nat → Int) : Value := .agg #[.int .i64 (f 0), .int .i64 (f 1), .int .i64 (f 2), .int .i64 (f 3), .int .i64 (f 4), .int .i64 (f 5), .int .i64 (f 6)]
theorem Dt {W : World} {f : Nat → Int} {ls : List ji} {cs : List Value} : fo W (.k (eK f) :: ls) cs ↔ fo W ((L7 f).map iv ++ ls) cs := by
 constructor
 ·
  intro h
  obtain ⟨r, rfl, h1⟩ := h.ade
  exact fo.v (kg _) (fo.v (kg _) (fo.v (kg _) (fo.v (kg _) (fo.v (kg _) (fo.v (kg _) (fo.v (kg _) h1))))))
 ·
  intro h
  obtain ⟨r1, rfl, _, h1⟩ := fo.Ev h
  obtain ⟨r2, rfl, _, h2⟩ := fo.Ev h1
  obtain ⟨r3, rfl, _, h3⟩ := fo.Ev h2
  obtain ⟨r4, rfl, _, h4⟩ := fo.Ev h3
  obtain ⟨r5, rfl, _, h5⟩ := fo.Ev h4
  obtain ⟨r6, rfl, _, h6⟩ := fo.Ev h5
  obtain ⟨r7, rfl, _, h7⟩ := fo.Ev h6
  exact fo.e h7
theorem Own.conv {w W : World} {xs ys : List xh} {b : Nat} {T : TypeId} {ls ls' : List ji} (h : Own w (xs ++ (b, T, ls) :: ys) W) (hc : ∀ cs, fo W ls cs → fo W ls' cs) : Own w (xs ++ (b, T, ls') :: ys) W := by
 refine ⟨h.bel, by have := h.nd; rw [List.map_append, List.map_cons] at this ⊢; exact this, fun b' T' l' hm => ?_⟩
 rcases List.mem_append.1 hm with hm | hm
 ·
  exact h.box _ _ _ (List.mem_append_left _ hm)
 ·
  rcases List.mem_cons.1 hm with e | hm
  ·
   cases e
   obtain ⟨g, cs, h1, h2⟩ := h.box b T ls (List.mem_append_right _ List.mem_cons_self)
   exact ⟨g, cs, h1, hc cs h2⟩
  ·
   exact h.box _ _ _ (List.mem_append_right _ (List.mem_cons_of_mem _ hm))
theorem Own.bly {w W : World} {xs ys : List xh} {b k : Nat} {T : TypeId} {f g : Nat → Int} {post : List ji} {v : Int} (h : Own w (xs ++ (b, T, .k (eK f) :: post) :: ys) W) (hk : k < 7) (hg : ∀ j, j < 7 → (if j = k then v else f j) = g j) :
  Own w (xs ++ (b, T, .k (eK g) :: post) :: ys) (setM W b k [.int .i64 v]) := by
 have h1 := h.conv (fun cs => Dt.1)
 have e : L7 g = (L7 f).set k v := by rw [bdp f hk]; exact (axk hg).symm
 have hv : ∀ W' : World, fo W' [iv v] [.int .i64 v] := fun W' => fo.v (kg _) rfl
 clear hg
 have hc : k = 0 ∨ k = 1 ∨ k = 2 ∨ k = 3 ∨ k = 4 ∨ k = 5 ∨ k = 6 := by omega
 rcases hc with rfl | rfl | rfl | rfl | rfl | rfl | rfl
 ·
  exact (Own.set (pre := []) (old := [iv (f 0)]) (new := [iv v]) (post := [iv (f 1), iv (f 2), iv (f 3), iv (f 4), iv (f 5), iv (f 6)] ++ post) (off := 0) h1 (hv _) rfl rfl).conv (fun cs hc => Dt.2 (by rw [e]; exact hc))
 ·
  exact (Own.set (pre := [iv (f 0)]) (old := [iv (f 1)]) (new := [iv v]) (post := [iv (f 2), iv (f 3), iv (f 4), iv (f 5), iv (f 6)] ++ post) (off := 1) h1 (hv _) rfl rfl).conv (fun cs hc => Dt.2 (by rw [e]; exact hc))
 ·
  exact (Own.set (pre := [iv (f 0), iv (f 1)]) (old := [iv (f 2)]) (new := [iv v]) (post := [iv (f 3), iv (f 4), iv (f 5), iv (f 6)] ++ post) (off := 2) h1 (hv _) rfl rfl).conv (fun cs hc => Dt.2 (by rw [e]; exact hc))
 ·
  exact (Own.set (pre := [iv (f 0), iv (f 1), iv (f 2)]) (old := [iv (f 3)]) (new := [iv v]) (post := [iv (f 4), iv (f 5), iv (f 6)] ++ post) (off := 3) h1 (hv _) rfl rfl).conv (fun cs hc => Dt.2 (by rw [e]; exact hc))
 ·
  exact (Own.set (pre := [iv (f 0), iv (f 1), iv (f 2), iv (f 3)]) (old := [iv (f 4)]) (new := [iv v]) (post := [iv (f 5), iv (f 6)] ++ post) (off := 4) h1 (hv _) rfl rfl).conv (fun cs hc => Dt.2 (by rw [e]; exact hc))
 ·
  exact (Own.set (pre := [iv (f 0), iv (f 1), iv (f 2), iv (f 3), iv (f 4)]) (old := [iv (f 5)]) (new := [iv v]) (post := [iv (f 6)] ++ post) (off := 5) h1 (hv _) rfl rfl).conv (fun cs hc => Dt.2 (by rw [e]; exact hc))
 ·
  exact (Own.set (pre := [iv (f 0), iv (f 1), iv (f 2), iv (f 3), iv (f 4), iv (f 5)]) (old := [iv (f 6)]) (new := [iv v]) (post := [] ++ post) (off := 6) h1 (hv _) rfl rfl).conv (fun cs hc => Dt.2 (by rw [e]; exact hc))
theorem Di : adh Tryz.prog 3 := by
 intro ρ w d x b off u ty pos af gd hc hx
 simp only [execOp, hx]
 simp [go_sem, hc]
theorem Lg {P : Program} {Q : Exit → Act → World → Prop} {l : List Oper} {n : Nat} {T : Nat → World → Value → Prop} {w V : World} {bs : List xh} {al : List Nat} {a0 : Act} {k d b off : Nat} {x : Operand} {TB TL : TypeId} {ls : List ji} {u : Value} {ty : TypeId} {pos : String} {af : Array Edge} {gd : Option (Nat × Bool)}
  (hL : adh P TL) (hm : (b, TB, ls) ∈ bs) (hx : Rg.ig l n T a0 k x (Rg.au (.pointer (some ⟨b, off, none⟩)))) (pre post : List ji) (hT : T k = Rg.au u) (he : ls = pre ++ (.v u :: post) := by rfl) (ho : qd pre = off := by rfl) (hal : al.contains k = false := by rfl) :
  Rg.Step P Q l n T (ay w bs V) eu al a0 k { dst := some d, op := .load TL x, type := ty, pos := pos, after := af, guard := gd } := azk hL hal hx (fun W h => he ▸ ay.box hm h) ho hT
theorem Lf {Q : Exit → Act → World → Prop} {l : List Oper} {n : Nat} {T : Nat → World → Value → Prop} {w V : World} {bs : List xh} {al : List Nat} {a0 : Act} {i d b k : Nat} {x : Operand} {TB : TypeId} {post : List ji} {f : Nat → Int} {c : Int} {ty : TypeId} {pos : String} {af : Array Edge} {gd : Option (Nat × Bool)}
  (hm : (b, TB, .k (eK f) :: post) ∈ bs) (hal : al.contains i = false) (hx : Rg.ig l n T a0 i x (Rg.au (.pointer (some ⟨b, k, none⟩)))) (hk : k < 7) (hv : f k = c) (hT : T i = Rg.au (.int .i64 c)) :
  Rg.Step Tryz.prog Q l n T (ay w bs V) eu al a0 i { dst := some d, op := .load 3 x, type := ty, pos := pos, after := af, guard := gd } := by
 intro a w' hG hO hN
 have h1 := yf.amw (pre := []) (ay.box hm hG) hk
 rw [show qd [] + k = k from Nat.zero_add k, hv] at h1
 exact je (P := Tryz.prog) (Di a.eval w' (some d) x b k _ ty pos af gd h1 (hx a w' hO hN)) ⟨_, rfl, hG, Below.refl _ _, by rw [hT]; rfl, fun h => by rw [hal] at h; cases h⟩
theorem bhk {Q : Exit → Act → World → Prop} {l : List Oper} {n : Nat} {T : Nat → World → Value → Prop} {w V : World} {bs : List xh} {al : List Nat} {a0 : Act} {i d b : Nat} {x : Operand} {TB : TypeId} {post : List ji} {f : Nat → Int} {ty : TypeId} {pos : String} {af : Array Edge} {gd : Option (Nat × Bool)}
  (hL : Em Tryz.prog 42 7) (hm : (b, TB, .k (eK f) :: post) ∈ bs) (hal : al.contains i = false) (hx : Rg.ig l n T a0 i x (Rg.au (.pointer (some ⟨b, 0, none⟩)))) (hT : T i = Rg.au (aV f)) :
  Rg.Step Tryz.prog Q l n T (ay w bs V) eu al a0 i { dst := some d, op := .load 42 x, type := ty, pos := pos, after := af, guard := gd } := by
 intro a w' hG hO hN
 have h1 := fun j (hj : j < 7) => yf.amw (pre := []) (k := j) (ay.box hm hG) hj
 have hr := hL a.eval w' (some d) x b 0 ((L7 f).map (fun n => .int .i64 n)) ty pos af gd rfl (fun j hj => by
  have h2 := h1 j hj
  rw [show qd [] + j = 0 + j from rfl] at h2
  rw [h2, List.getElem?_map, aqd f hj]; rfl) (hx a w' hO hN)
 exact je (P := Tryz.prog) hr ⟨_, rfl, hG, Below.refl _ _, by rw [hT]; rfl, fun h => by rw [hal] at h; cases h⟩
theorem atd {a : Act} {w : World} {d : Option Tmp} {x y : Operand} {b k : Nat} {ty : TypeId} {pos : String} {af : Array Edge} {gd : Option (Nat × Bool)} (hk : k < 7) (hx : a.eval x = .pointer (some ⟨b, 0, none⟩)) (hy : a.eval y = .int .i64 (k : Int)) :
  (execOp a.eval { dst := d, op := .indexAddr 42 x y, type := ty, pos := pos, after := af, guard := gd }).run Tryz.prog w = .ok (.value (.pointer (some ⟨b, k, none⟩))) w := by
 have hc : k = 0 ∨ k = 1 ∨ k = 2 ∨ k = 3 ∨ k = 4 ∨ k = 5 ∨ k = 6 := by omega
 rcases hc with rfl | rfl | rfl | rfl | rfl | rfl | rfl <;> (simp only [execOp, hx, hy]; simp [go_sem])
theorem Fe {Q : Exit → Act → World → Prop} {l : List Oper} {n : Nat} {T : Nat → World → Value → Prop} {G : World → Prop} {al : List Nat} {a0 : Act} {k d : Nat} {ty : TypeId} {pos : String} {af : Array Edge} {gd : Option (Nat × Bool)} {x y : Operand} {b : Nat} {i : Nat} (hal : al.contains i = false) (hx : Rg.ig l n T a0 i x (Rg.au (.pointer (some ⟨b, 0, none⟩)))) (hy : Rg.ig l n T a0 i y (Rg.au (.int .i64 (k : Int)))) (hk : k < 7) (hT : T i = Rg.au (.pointer (some ⟨b, k, none⟩))) :
  Rg.Step Tryz.prog Q l n T G eu al a0 i { dst := some d, op := .indexAddr 42 x y, type := ty, pos := pos, after := af, guard := gd } := by
 intro a w hG hO hN
 exact je (P := Tryz.prog) (atd hk (hx a w hO hN) (hy a w hO hN)) ⟨_, rfl, hG, Below.refl _ _, by rw [hT]; rfl, fun h => by rw [hal] at h; cases h⟩
theorem azs {ρ : Operand → Value} {w : World} {d : Option Tmp} {x y : Operand} {f : Nat → Int} {k : Nat} {ty : TypeId} {pos : String} {af : Array Edge} {gd : Option (Nat × Bool)} (hk : k < 7) (hx : ρ x = aV f) (hy : ρ y = .int .i64 (k : Int)) :
  (execOp ρ { dst := d, op := .index 42 x y, type := ty, pos := pos, after := af, guard := gd }).run Tryz.prog w = .ok (.value (.int .i64 (f k))) w := by
 unfold aV at hx
 have hc : k = 0 ∨ k = 1 ∨ k = 2 ∨ k = 3 ∨ k = 4 ∨ k = 5 ∨ k = 6 := by omega
 rcases hc with rfl | rfl | rfl | rfl | rfl | rfl | rfl <;> (simp only [execOp, hx, hy]; simp [go_sem, Instr.index])
theorem bhl {Q : Exit → Act → World → Prop} {l : List Oper} {n : Nat} {T : Nat → World → Value → Prop} {G : World → Prop} {al : List Nat} {a0 : Act} {k d : Nat} {ty : TypeId} {pos : String} {af : Array Edge} {gd : Option (Nat × Bool)} {x y : Operand} {f : Nat → Int} {i : Nat} (hal : al.contains i = false) (hx : Rg.ig l n T a0 i x (Rg.au (aV f))) (hy : Rg.ig l n T a0 i y (Rg.au (.int .i64 (k : Int)))) (hk : k < 7) (hT : T i = Rg.au (.int .i64 (f k))) :
  Rg.Step Tryz.prog Q l n T G eu al a0 i { dst := some d, op := .index 42 x y, type := ty, pos := pos, after := af, guard := gd } := by
 intro a w hG hO hN
 exact je (P := Tryz.prog) (azs hk (hx a w hO hN) (hy a w hO hN)) ⟨_, rfl, hG, Below.refl _ _, by rw [hT]; rfl, fun h => by rw [hal] at h; cases h⟩
theorem atf {ρ : Operand → Value} {w : World} {d : Option Tmp} {x y : Operand} {o z c : Int} {ty : TypeId} {pos : String} {af : Array Edge} {gd : Option (Nat × Bool)} (hx : ρ x = .int .i64 o) (hy : ρ y = .int .i64 z) (hw : wrap64 (o + z) = c) :
  (execOp ρ { dst := d, op := .binOp .add 3 x y 3, type := ty, pos := pos, after := af, guard := gd }).run Tryz.prog w = .ok (.value (.int .i64 c)) w := by
 have hw2 : IntKind.i64.wrap (o + z) = c := (IntWalk.i64_left _).trans hw
 simp only [execOp, hx, hy]
 simp [go_sem, Tryz.underlying3, hw, hw2]
theorem bcv {Q : Exit → Act → World → Prop} {l : List Oper} {n : Nat} {T : Nat → World → Value → Prop} {G : World → Prop} {al : List Nat} {a0 : Act} {k d : Nat} {ty : TypeId} {pos : String} {af : Array Edge} {gd : Option (Nat × Bool)} {x y : Operand} {o z c : Int} (hal : al.contains k = false) (hx : Rg.ig l n T a0 k x (Rg.au (.int .i64 o))) (hy : Rg.ig l n T a0 k y (Rg.au (.int .i64 z))) (hw : wrap64 (o + z) = c) (hT : T k = Rg.au (.int .i64 c)) :
  Rg.Step Tryz.prog Q l n T G eu al a0 k { dst := some d, op := .binOp .add 3 x y 3, type := ty, pos := pos, after := af, guard := gd } := by
 intro a w hG hO hN
 exact je (P := Tryz.prog) (atf (hx a w hO hN) (hy a w hO hN) hw) ⟨_, rfl, hG, Below.refl _ _, by rw [hT]; rfl, fun h => by rw [hal] at h; cases h⟩
theorem atb {ρ : Operand → Value} {w : World} {d : Option Tmp} {x y : Operand} {o z c : Int} {ty : TypeId} {pos : String} {af : Array Edge} {gd : Option (Nat × Bool)} (hx : ρ x = .int .i64 o) (hy : ρ y = .int .i64 z) (hw : wrap64 (o * z) = c) :
  (execOp ρ { dst := d, op := .binOp .mul 3 x y 3, type := ty, pos := pos, after := af, guard := gd }).run Tryz.prog w = .ok (.value (.int .i64 c)) w := by
 have hw2 : IntKind.i64.wrap (o * z) = c := (IntWalk.i64_left _).trans hw
 simp only [execOp, hx, hy]
 simp [go_sem, Tryz.underlying3, hw, hw2]
theorem bcq {Q : Exit → Act → World → Prop} {l : List Oper} {n : Nat} {T : Nat → World → Value → Prop} {G : World → Prop} {al : List Nat} {a0 : Act} {k d : Nat} {ty : TypeId} {pos : String} {af : Array Edge} {gd : Option (Nat × Bool)} {x y : Operand} {o z c : Int} (hal : al.contains k = false) (hx : Rg.ig l n T a0 k x (Rg.au (.int .i64 o))) (hy : Rg.ig l n T a0 k y (Rg.au (.int .i64 z))) (hw : wrap64 (o * z) = c) (hT : T k = Rg.au (.int .i64 c)) :
  Rg.Step Tryz.prog Q l n T G eu al a0 k { dst := some d, op := .binOp .mul 3 x y 3, type := ty, pos := pos, after := af, guard := gd } := by
 intro a w hG hO hN
 exact je (P := Tryz.prog) (atb (hx a w hO hN) (hy a w hO hN) hw) ⟨_, rfl, hG, Below.refl _ _, by rw [hT]; rfl, fun h => by rw [hal] at h; cases h⟩
theorem wy : Em Tryz.prog 44 9 := by
 intro ρ w d x b off us ty pos af gd hl hc hx
 match us, hl with
 | [u0, u1, u2, u3, u4, u5, u6, u7, u8], _ =>
 have k0 : w.cell? ⟨b, off, none⟩ = some u0 := hc 0 om
 have k1 : w.cell? ⟨b, off + 1, none⟩ = some u1 := hc 1 om
 have k2 : w.cell? ⟨b, off + 2, none⟩ = some u2 := hc 2 om
 have k3 : w.cell? ⟨b, off + 3, none⟩ = some u3 := hc 3 om
 have k4 : w.cell? ⟨b, off + 4, none⟩ = some u4 := hc 4 om
 have k5 : w.cell? ⟨b, off + 5, none⟩ = some u5 := hc 5 om
 have k6 : w.cell? ⟨b, off + 6, none⟩ = some u6 := hc 6 om
 have k7 : w.cell? ⟨b, off + 7, none⟩ = some u7 := hc 7 om
 have k8 : w.cell? ⟨b, off + 8, none⟩ = some u8 := hc 8 om
 clear hc
 simp only [execOp, hx]
 simp [go_sem, k0, k1, k2, k3, k4, k5, k6, k7, k8]
theorem zo : Ai Tryz.prog 44 9 := by
 intro ρ w d p x b off cs TB us ty pos af gd hl hu hb ho hp hx
 match us, hl with
 | [u0, u1, u2, u3, u4, u5, u6, u7, u8], _ =>
 have o0 := hu u0 (by simp)
 have o1 := hu u1 (by simp)
 have o2 := hu u2 (by simp)
 have o3 := hu u3 (by simp)
 have o4 := hu u4 (by simp)
 have o5 := hu u5 (by simp)
 have o6 := hu u6 (by simp)
 have o7 := hu u7 (by simp)
 have o8 := hu u8 (by simp)
 have f0 : w.frozen? ⟨b, off, none⟩ = false := ai hb _
 have f1 : w.frozen? ⟨b, off + 1, none⟩ = false := ai hb _
 have f2 : w.frozen? ⟨b, off + 2, none⟩ = false := ai hb _
 have f3 : w.frozen? ⟨b, off + 3, none⟩ = false := ai hb _
 have f4 : w.frozen? ⟨b, off + 4, none⟩ = false := ai hb _
 have f5 : w.frozen? ⟨b, off + 5, none⟩ = false := ai hb _
 have f6 : w.frozen? ⟨b, off + 6, none⟩ = false := ai hb _
 have f7 : w.frozen? ⟨b, off + 7, none⟩ = false := ai hb _
 have f8 : w.frozen? ⟨b, off + 8, none⟩ = false := ai hb _
 obtain ⟨c0, k0⟩ : ∃ c, w.cell? ⟨b, off, none⟩ = some c := jm hb om
 obtain ⟨c1, k1⟩ : ∃ c, w.cell? ⟨b, off + 1, none⟩ = some c := jm hb om
 obtain ⟨c2, k2⟩ : ∃ c, w.cell? ⟨b, off + 2, none⟩ = some c := jm hb om
 obtain ⟨c3, k3⟩ : ∃ c, w.cell? ⟨b, off + 3, none⟩ = some c := jm hb om
 obtain ⟨c4, k4⟩ : ∃ c, w.cell? ⟨b, off + 4, none⟩ = some c := jm hb om
 obtain ⟨c5, k5⟩ : ∃ c, w.cell? ⟨b, off + 5, none⟩ = some c := jm hb om
 obtain ⟨c6, k6⟩ : ∃ c, w.cell? ⟨b, off + 6, none⟩ = some c := jm hb om
 obtain ⟨c7, k7⟩ : ∃ c, w.cell? ⟨b, off + 7, none⟩ = some c := jm hb om
 obtain ⟨c8, k8⟩ : ∃ c, w.cell? ⟨b, off + 8, none⟩ = some c := jm hb om
 have hlt := lt_of_block hb
 clear hb ho hu
 simp only [execOp, hp, hx, setM]
 simp [go_sem, hlt, run_store _ _ _ _ _ o0, o0, run_store _ _ _ _ _ o1, o1, run_store _ _ _ _ _ o2, o2, run_store _ _ _ _ _ o3, o3, run_store _ _ _ _ _ o4, o4, run_store _ _ _ _ _ o5, o5, run_store _ _ _ _ _ o6, o6, run_store _ _ _ _ _ o7, o7, run_store _ _ _ _ _ o8, o8, k0, k1, k2, k3, k4, k5, k6, k7, k8, f0, f1, f2, f3, f4, f5, f6, f7, f8]
theorem Ns : Gz Tryz.prog 44 [.int .i64 0, .int .i64 0, .int .i64 0, .int .i64 0, .int .i64 0, .int .i64 0, .int .i64 0, .int .i64 0, .int .i64 0] := by
 intro ρ w d ty pos af gd
 simp only [execOp]
 simp [go_sem]
theorem Hz : Ls Tryz.prog 44 9 := by
 intro w b off us hl hc
 match us, hl with
 | [u0, u1, u2, u3, u4, u5, u6, u7, u8], _ =>
 have k0 : w.cell? ⟨b, off, none⟩ = some u0 := hc 0 om
 have k1 : w.cell? ⟨b, off + 1, none⟩ = some u1 := hc 1 om
 have k2 : w.cell? ⟨b, off + 2, none⟩ = some u2 := hc 2 om
 have k3 : w.cell? ⟨b, off + 3, none⟩ = some u3 := hc 3 om
 have k4 : w.cell? ⟨b, off + 4, none⟩ = some u4 := hc 4 om
 have k5 : w.cell? ⟨b, off + 5, none⟩ = some u5 := hc 5 om
 have k6 : w.cell? ⟨b, off + 6, none⟩ = some u6 := hc 6 om
 have k7 : w.cell? ⟨b, off + 7, none⟩ = some u7 := hc 7 om
 have k8 : w.cell? ⟨b, off + 8, none⟩ = some u8 := hc 8 om
 clear hc
 simp [go_sem, k0, k1, k2, k3, k4, k5, k6, k7, k8]
theorem Oz : Em Tryz.prog 118 13 := by
 intro ρ w d x b off us ty pos af gd hl hc hx
 match us, hl with
 | [u0, u1, u2, u3, u4, u5, u6, u7, u8, u9, u10, u11, u12], _ =>
 have k0 : w.cell? ⟨b, off, none⟩ = some u0 := hc 0 om
 have k1 : w.cell? ⟨b, off + 1, none⟩ = some u1 := hc 1 om
 have k2 : w.cell? ⟨b, off + 2, none⟩ = some u2 := hc 2 om
 have k3 : w.cell? ⟨b, off + 3, none⟩ = some u3 := hc 3 om
 have k4 : w.cell? ⟨b, off + 4, none⟩ = some u4 := hc 4 om
 have k5 : w.cell? ⟨b, off + 5, none⟩ = some u5 := hc 5 om
 have k6 : w.cell? ⟨b, off + 6, none⟩ = some u6 := hc 6 om
 have k7 : w.cell? ⟨b, off + 7, none⟩ = some u7 := hc 7 om
 have k8 : w.cell? ⟨b, off + 8, none⟩ = some u8 := hc 8 om
 have k9 : w.cell? ⟨b, off + 9, none⟩ = some u9 := hc 9 om
 have k10 : w.cell? ⟨b, off + 10, none⟩ = some u10 := hc 10 om
 have k11 : w.cell? ⟨b, off + 11, none⟩ = some u11 := hc 11 om
 have k12 : w.cell? ⟨b, off + 12, none⟩ = some u12 := hc 12 om
 clear hc
 simp only [execOp, hx]
 simp [go_sem, k0, k1, k2, k3, k4, k5, k6, k7, k8, k9, k10, k11, k12]
theorem Bn : Ai Tryz.prog 118 13 := by
 intro ρ w d p x b off cs TB us ty pos af gd hl hu hb ho hp hx
 match us, hl with
 | [u0, u1, u2, u3, u4, u5, u6, u7, u8, u9, u10, u11, u12], _ =>
 have o0 := hu u0 (by simp)
 have o1 := hu u1 (by simp)
 have o2 := hu u2 (by simp)
 have o3 := hu u3 (by simp)
 have o4 := hu u4 (by simp)
 have o5 := hu u5 (by simp)
 have o6 := hu u6 (by simp)
 have o7 := hu u7 (by simp)
 have o8 := hu u8 (by simp)
 have o9 := hu u9 (by simp)
 have o10 := hu u10 (by simp)
 have o11 := hu u11 (by simp)
 have o12 := hu u12 (by simp)
 have f0 : w.frozen? ⟨b, off, none⟩ = false := ai hb _
 have f1 : w.frozen? ⟨b, off + 1, none⟩ = false := ai hb _
 have f2 : w.frozen? ⟨b, off + 2, none⟩ = false := ai hb _
 have f3 : w.frozen? ⟨b, off + 3, none⟩ = false := ai hb _
 have f4 : w.frozen? ⟨b, off + 4, none⟩ = false := ai hb _
 have f5 : w.frozen? ⟨b, off + 5, none⟩ = false := ai hb _
 have f6 : w.frozen? ⟨b, off + 6, none⟩ = false := ai hb _
 have f7 : w.frozen? ⟨b, off + 7, none⟩ = false := ai hb _
 have f8 : w.frozen? ⟨b, off + 8, none⟩ = false := ai hb _
 have f9 : w.frozen? ⟨b, off + 9, none⟩ = false := ai hb _
 have f10 : w.frozen? ⟨b, off + 10, none⟩ = false := ai hb _
 have f11 : w.frozen? ⟨b, off + 11, none⟩ = false := ai hb _
 have f12 : w.frozen? ⟨b, off + 12, none⟩ = false := ai hb _
 obtain ⟨c0, k0⟩ : ∃ c, w.cell? ⟨b, off, none⟩ = some c := jm hb om
 obtain ⟨c1, k1⟩ : ∃ c, w.cell? ⟨b, off + 1, none⟩ = some c := jm hb om
 obtain ⟨c2, k2⟩ : ∃ c, w.cell? ⟨b, off + 2, none⟩ = some c := jm hb om
 obtain ⟨c3, k3⟩ : ∃ c, w.cell? ⟨b, off + 3, none⟩ = some c := jm hb om
 obtain ⟨c4, k4⟩ : ∃ c, w.cell? ⟨b, off + 4, none⟩ = some c := jm hb om
 obtain ⟨c5, k5⟩ : ∃ c, w.cell? ⟨b, off + 5, none⟩ = some c := jm hb om
 obtain ⟨c6, k6⟩ : ∃ c, w.cell? ⟨b, off + 6, none⟩ = some c := jm hb om
 obtain ⟨c7, k7⟩ : ∃ c, w.cell? ⟨b, off + 7, none⟩ = some c := jm hb om
 obtain ⟨c8, k8⟩ : ∃ c, w.cell? ⟨b, off + 8, none⟩ = some c := jm hb om
 obtain ⟨c9, k9⟩ : ∃ c, w.cell? ⟨b, off + 9, none⟩ = some c := jm hb om
 obtain ⟨c10, k10⟩ : ∃ c, w.cell? ⟨b, off + 10, none⟩ = some c := jm hb om
 obtain ⟨c11, k11⟩ : ∃ c, w.cell? ⟨b, off + 11, none⟩ = some c := jm hb om
 obtain ⟨c12, k12⟩ : ∃ c, w.cell? ⟨b, off + 12, none⟩ = some c := jm hb om
 have hlt := lt_of_block hb
 clear hb ho hu
 simp only [execOp, hp, hx, setM]
 simp [go_sem, hlt, run_store _ _ _ _ _ o0, o0, run_store _ _ _ _ _ o1, o1, run_store _ _ _ _ _ o2, o2, run_store _ _ _ _ _ o3, o3, run_store _ _ _ _ _ o4, o4, run_store _ _ _ _ _ o5, o5, run_store _ _ _ _ _ o6, o6, run_store _ _ _ _ _ o7, o7, run_store _ _ _ _ _ o8, o8, run_store _ _ _ _ _ o9, o9, run_store _ _ _ _ _ o10, o10, run_store _ _ _ _ _ o11, o11, run_store _ _ _ _ _ o12, o12, k0, k1, k2, k3, k4, k5, k6, k7, k8, k9, k10, k11, k12, f0, f1, f2, f3, f4, f5, f6, f7, f8, f9, f10, f11, f12]
theorem ada : Gz Tryz.prog 118 [.int .i64 0, .int .i64 0, .int .i64 0, .int .i64 0, .int .i64 0, .int .i64 0, .int .i64 0, .int .i64 0, .bool false, .slice none 0 0, .int .i64 0, .bool false, .slice none 0 0] := by
 intro ρ w d ty pos af gd
 simp only [execOp]
 simp [go_sem]
theorem Ia : Ls Tryz.prog 118 13 := by
 intro w b off us hl hc
 match us, hl with
 | [u0, u1, u2, u3, u4, u5, u6, u7, u8, u9, u10, u11, u12], _ =>
 have k0 : w.cell? ⟨b, off, none⟩ = some u0 := hc 0 om
 have k1 : w.cell? ⟨b, off + 1, none⟩ = some u1 := hc 1 om
 have k2 : w.cell? ⟨b, off + 2, none⟩ = some u2 := hc 2 om
 have k3 : w.cell? ⟨b, off + 3, none⟩ = some u3 := hc 3 om
 have k4 : w.cell? ⟨b, off + 4, none⟩ = some u4 := hc 4 om
 have k5 : w.cell? ⟨b, off + 5, none⟩ = some u5 := hc 5 om
 have k6 : w.cell? ⟨b, off + 6, none⟩ = some u6 := hc 6 om
 have k7 : w.cell? ⟨b, off + 7, none⟩ = some u7 := hc 7 om
 have k8 : w.cell? ⟨b, off + 8, none⟩ = some u8 := hc 8 om
 have k9 : w.cell? ⟨b, off + 9, none⟩ = some u9 := hc 9 om
 have k10 : w.cell? ⟨b, off + 10, none⟩ = some u10 := hc 10 om
 have k11 : w.cell? ⟨b, off + 11, none⟩ = some u11 := hc 11 om
 have k12 : w.cell? ⟨b, off + 12, none⟩ = some u12 := hc 12 om
 clear hc
 simp [go_sem, k0, k1, k2, k3, k4, k5, k6, k7, k8, k9, k10, k11, k12]
theorem Gn : Em Tryz.prog 42 7 := by
 intro ρ w d x b off us ty pos af gd hl hc hx
 match us, hl with
 | [u0, u1, u2, u3, u4, u5, u6], _ =>
 have k0 : w.cell? ⟨b, off, none⟩ = some u0 := hc 0 om
 have k1 : w.cell? ⟨b, off + 1, none⟩ = some u1 := hc 1 om
 have k2 : w.cell? ⟨b, off + 2, none⟩ = some u2 := hc 2 om
 have k3 : w.cell? ⟨b, off + 3, none⟩ = some u3 := hc 3 om
 have k4 : w.cell? ⟨b, off + 4, none⟩ = some u4 := hc 4 om
 have k5 : w.cell? ⟨b, off + 5, none⟩ = some u5 := hc 5 om
 have k6 : w.cell? ⟨b, off + 6, none⟩ = some u6 := hc 6 om
 clear hc
 simp only [execOp, hx]
 simp [go_sem, k0, k1, k2, k3, k4, k5, k6]
theorem avv : Zx Tryz.prog 44 [.int .i64 0, .int .i64 0, .int .i64 0, .int .i64 0, .int .i64 0, .int .i64 0, .int .i64 0, .int .i64 0, .int .i64 0] := by
 intro ρ w d ty pos af gd
 simp only [execOp]
 simp [go_sem]
 try rfl
theorem ajz : Ut Tryz.prog 44 7 2 := by
 intro ρ w d x y us vs ty pos af gd h1 h2 e1 e2
 match us, h1, vs, h2 with
 | [u0, u1, u2, u3, u4, u5, u6], _, [v0, v1], _ =>
 simp only [execOp]
 simp [go_sem, e1, e2]
 try rfl
theorem bbg : Ut Tryz.prog 118 7 6 := by
 intro ρ w d x y us vs ty pos af gd h1 h2 e1 e2
 match us, h1, vs, h2 with
 | [u0, u1, u2, u3, u4, u5, u6], _, [v0, v1, v2, v3, v4, v5], _ =>
 simp only [execOp]
 simp [go_sem, e1, e2]
 try rfl
theorem bbn : Fy Tryz.prog (fun x => .fieldAddr 44 x 0) 0 := by
 intro a w d x b off ty pos af gd hx
 have hc : ∀ v, a.eval (.const v) = v := fun _ => rfl
 simp only [execOp, hx, hc]
 simp [go_sem]
theorem zw {Q : Exit → Act → World → Prop} {l : List Oper} {n : Nat} {T : Nat → World → Value → Prop} {G : World → Prop} {al : List Nat} {a0 : Act} {k d : Nat} {ty : TypeId} {pos : String} {af : Array Edge} {gd : Option (Nat × Bool)} {b off off' : Nat} {x : Operand} (hal : al.contains k = false) (hx : Rg.ig l n T a0 k x (Rg.au (.pointer (some ⟨b, off, none⟩)))) (ho : off + 0 = off') (hT : T k = Rg.au (.pointer (some ⟨b, off', none⟩))) :
  Rg.Step Tryz.prog Q l n T G eu al a0 k { dst := some d, op := .fieldAddr 44 x 0, type := ty, pos := pos, after := af, guard := gd } := by
 exact Gm (P := Tryz.prog) (o := fun x => .fieldAddr 44 x 0) bbn hal hx ho hT
theorem bbm : Fy Tryz.prog (fun x => .fieldAddr 44 x 1) 7 := by
 intro a w d x b off ty pos af gd hx
 have hc : ∀ v, a.eval (.const v) = v := fun _ => rfl
 simp only [execOp, hx, hc]
 simp [go_sem]
theorem Ak {Q : Exit → Act → World → Prop} {l : List Oper} {n : Nat} {T : Nat → World → Value → Prop} {G : World → Prop} {al : List Nat} {a0 : Act} {k d : Nat} {ty : TypeId} {pos : String} {af : Array Edge} {gd : Option (Nat × Bool)} {b off off' : Nat} {x : Operand} (hal : al.contains k = false) (hx : Rg.ig l n T a0 k x (Rg.au (.pointer (some ⟨b, off, none⟩)))) (ho : off + 7 = off') (hT : T k = Rg.au (.pointer (some ⟨b, off', none⟩))) :
  Rg.Step Tryz.prog Q l n T G eu al a0 k { dst := some d, op := .fieldAddr 44 x 1, type := ty, pos := pos, after := af, guard := gd } := by
 exact Gm (P := Tryz.prog) (o := fun x => .fieldAddr 44 x 1) bbm hal hx ho hT
theorem bbs : Fy Tryz.prog (fun x => .fieldAddr 118 x 0) 0 := by
 intro a w d x b off ty pos af gd hx
 have hc : ∀ v, a.eval (.const v) = v := fun _ => rfl
 simp only [execOp, hx, hc]
 simp [go_sem]
theorem Cq {Q : Exit → Act → World → Prop} {l : List Oper} {n : Nat} {T : Nat → World → Value → Prop} {G : World → Prop} {al : List Nat} {a0 : Act} {k d : Nat} {ty : TypeId} {pos : String} {af : Array Edge} {gd : Option (Nat × Bool)} {b off off' : Nat} {x : Operand} (hal : al.contains k = false) (hx : Rg.ig l n T a0 k x (Rg.au (.pointer (some ⟨b, off, none⟩)))) (ho : off + 0 = off') (hT : T k = Rg.au (.pointer (some ⟨b, off', none⟩))) :
  Rg.Step Tryz.prog Q l n T G eu al a0 k { dst := some d, op := .fieldAddr 118 x 0, type := ty, pos := pos, after := af, guard := gd } := by
 exact Gm (P := Tryz.prog) (o := fun x => .fieldAddr 118 x 0) bbs hal hx ho hT
theorem bbr : Fy Tryz.prog (fun x => .fieldAddr 118 x 1) 7 := by
 intro a w d x b off ty pos af gd hx
 have hc : ∀ v, a.eval (.const v) = v := fun _ => rfl
 simp only [execOp, hx, hc]
 simp [go_sem]
theorem Fg {Q : Exit → Act → World → Prop} {l : List Oper} {n : Nat} {T : Nat → World → Value → Prop} {G : World → Prop} {al : List Nat} {a0 : Act} {k d : Nat} {ty : TypeId} {pos : String} {af : Array Edge} {gd : Option (Nat × Bool)} {b off off' : Nat} {x : Operand} (hal : al.contains k = false) (hx : Rg.ig l n T a0 k x (Rg.au (.pointer (some ⟨b, off, none⟩)))) (ho : off + 7 = off') (hT : T k = Rg.au (.pointer (some ⟨b, off', none⟩))) :
  Rg.Step Tryz.prog Q l n T G eu al a0 k { dst := some d, op := .fieldAddr 118 x 1, type := ty, pos := pos, after := af, guard := gd } := by
 exact Gm (P := Tryz.prog) (o := fun x => .fieldAddr 118 x 1) bbr hal hx ho hT
theorem azn {ρ : Operand → Value} {w : World} {d : Option Tmp} {p x : Operand} {b off : Nat} {cs : List Value} {TB : TypeId} {v : Int} {ty : TypeId} {pos : String} {af : Array Edge} {gd : Option (Nat × Bool)} (hb : w.heap[b]? = some (.cells cs.toArray TB (0, 0))) (ho : off < cs.length) (hp : ρ p = .pointer (some ⟨b, off, none⟩)) (hx : ρ x = .int .i64 v) :
  (execOp ρ { dst := d, op := .store 3 p x, type := ty, pos := pos, after := af, guard := gd }).run Tryz.prog w = .ok .skip (setM w b off [.int .i64 v]) := by
 have f0 : w.frozen? ⟨b, off, none⟩ = false := ai hb _
 obtain ⟨c0, k0⟩ : ∃ c, w.cell? ⟨b, off, none⟩ = some c := jm hb ho
 have hlt := lt_of_block hb
 clear hb ho
 simp only [execOp, hp, hx, setM]
 simp [go_sem, hlt, k0, f0]
theorem aob {ops : Array Oper} {Q : Exit → Act → World → Prop} {rest : List Oper} {a : Act} {w0 w : World} {TB : TypeId} {p x : Operand} {b k : Nat} {f g : Nat → Int} {v : Int} {bs : List xh} {ty : TypeId} {pos : String} {af : Array Edge} (hO : Own w0 bs w) (i : Nat) (post : List ji)
  (hi : bs[i]? = some (b, TB, .k (eK f) :: post)) (hk : k < 7) (hp : a.eval p = .pointer (some ⟨b, k, none⟩)) (hv : a.eval x = .int .i64 v) (hg : ∀ j, j < 7 → (if j = k then v else f j) = g j)
  (hk2 : ∀ w', Own w0 (bs.set i (b, TB, .k (eK g) :: post)) w' → (∀ ks u, ax ks w u → ax ks w' u) → wpList Tryz.prog ops Q rest a w') :
  wpList Tryz.prog ops Q ({ dst := none, op := .store 3 p x, type := ty, pos := pos, after := af, guard := none } :: rest) a w := by
 obtain ⟨hlt, he⟩ := List.getElem?_eq_some_iff.1 hi
 have hbs : bs = bs.take i ++ (b, TB, .k (eK f) :: post) :: bs.drop (i + 1) := by
  rw [← he, ← List.drop_eq_getElem_cons hlt, List.take_append_drop]
 have hset : bs.set i (b, TB, .k (eK g) :: post) = bs.take i ++ (b, TB, .k (eK g) :: post) :: bs.drop (i + 1) := List.set_eq_take_append_cons_drop .. |>.trans (if_pos hlt)
 rw [hset] at hk2
 rw [hbs] at hO
 have hbx := hO.box b TB _ (List.mem_append_right _ List.mem_cons_self)
 obtain ⟨hge, cs, hb, hls⟩ := hbx
 have hlen : 7 ≤ cs.length := by
  have h1 := hls.len
  rw [h1]
  show 7 ≤ 7 + qd post
  omega
 unfold wpList
 rw [if_pos (by simp [Region.wanted])]
 refine .inl ?_
 unfold Oper.wp
 rw [azn hb om hp hv]
 exact hk2 _ (hO.bly hk hg) (fun ks u h => aas ⟨cs, hb, hls⟩ h)
theorem ala {Q : Exit → Act → World → Prop} {l : List Oper} {n : Nat} {T : Nat → World → Value → Prop} {G : World → Prop} {al : List Nat} {a0 : Act} {k d : Nat} {ty : TypeId} {pos : String} {af : Array Edge} {gd : Option (Nat × Bool)} (hal : al.contains k = false) (hT : T k = ax [.k (eK z7), .v (.int .i64 0), .v (.int .i64 0)]) :
  Rg.Step Tryz.prog Q l n T G eu al a0 k { dst := some d, op := .build 44 #[], type := ty, pos := pos, after := af, guard := gd } := by
 intro a w hG hO hN
 exact je (P := Tryz.prog) (avv a.eval w (some d) ty pos af gd) ⟨_, rfl, hG, Below.refl _ _, by rw [hT]; exact ⟨_, rfl, fo.e (f := z7) (fo.v (kg _) (fo.v (kg _) rfl))⟩, fun h => by rw [hal] at h; cases h⟩
theorem aor {Q : Exit → Act → World → Prop} {l : List Oper} {n : Nat} {T : Nat → World → Value → Prop} {G : World → Prop} {al : List Nat} {a0 : Act} {k d : Nat} {ty : TypeId} {pos : String} {af : Array Edge} {gd : Option (Nat × Bool)} {b i m : Nat} {x y : Operand} (hal : al.contains k = false) (hx : Rg.ig l n T a0 k x (Rg.au (.slice (some ⟨b, 0, none⟩) m m))) (hy : Rg.ig l n T a0 k y (Rg.au (.int .i64 (i : Int)))) (hi : i < m) (hT : T k = Rg.au (.pointer (some ⟨b, 1 * i, none⟩))) :
  Rg.Step Tryz.prog Q l n T G eu al a0 k { dst := some d, op := .indexAddr 37 x y, type := ty, pos := pos, after := af, guard := gd } := by
 intro a w hG hO hN
 have h1 := hx a w hO hN
 have h2 := hy a w hO hN
 have hr : (execOp a.eval { dst := some d, op := .indexAddr 37 x y, type := ty, pos := pos, after := af, guard := gd }).run Tryz.prog w = .ok (.value (.pointer (some ⟨b, 1 * i, none⟩))) w := by
  have h1' : a.eval x = .slice (some ⟨b, 0, none⟩) m m := h1
  have h2' : a.eval y = .int .i64 (i : Int) := h2
  simp only [execOp, h1', h2']
  simp [go_sem, hi, Nat.mul_comm]
 exact je (P := Tryz.prog) hr ⟨_, rfl, hG, Below.refl _ _, by rw [hT]; rfl, fun h => by rw [hal] at h; cases h⟩
theorem aeh {P : Program} {Q : Exit → Act → World → Prop} {l : List Oper} {n : Nat} {T : Nat → World → Value → Prop} {G : World → Prop} {al : List Nat} {a0 : Act} {k d : Nat} {ty : TypeId} {pos : String} {af : Array Edge} {gd : Option (Nat × Bool)} {F : Nat} {fn : Func} {f x1 : Operand} {A1 : World → Value → Prop} {ats : Array TypeId}
  (hF : P.funcs[F]? = some fn) (hn : (!(fn.name == "runtime.NumGoroutine") && fn.body.isSome) = true) (hal : al.contains k = false) (Ms : ∀ W W', G W → eu W W' → G W') (hf : Rg.ig l n T a0 k f (Rg.au (.func (.func F) #[] #[]))) (h1 : Rg.ig l n T a0 k x1 A1)
  (hc : ∀ (W : World) (v1 : Value), G W → A1 W v1 → Calls P F #[v1] W fun e w' => ∃ u, e = .returned u ∧ eu W w' ∧ T k w' u) :
  Rg.Step P Q l n T G eu al a0 k { dst := some d, op := .call { callee := .value f, args := #[x1], argTypes := ats }, type := ty, pos := pos, after := af, guard := gd } := by
 intro a w hG hO hN
 refine Me (aox (Gt hF hn) (hf a w hO hN)) ?_
 simp only [List.map_toArray, List.map_cons, List.map_nil]
 refine (hc w (a.eval x1) hG (h1 a w hO hN)).mono ?_
 rintro e w' ⟨u, rfl, hb, ht⟩
 exact ⟨u, rfl, u, rfl, Ms _ _ hG hb, hb, ht, fun h => by rw [hal] at h; cases h⟩
theorem awr {Q : Exit → Act → World → Prop} {l : List Oper} {n : Nat} {T : Nat → World → Value → Prop} {G : World → Prop} {al : List Nat} {a0 : Act} {k d : Nat} {ty : TypeId} {pos : String} {af : Array Edge} {gd : Option (Nat × Bool)} {x : Operand} {TB : TypeId} {post : List ji} {f : Nat → Int} {b i : Nat}
  (hb : ∀ W, G W → yf W b TB (.k (eK f) :: post)) (hal : al.contains i = false) (hx : Rg.ig l n T a0 i x (Rg.au (.pointer (some ⟨b, k, none⟩)))) (hk : k < 7) (hT : T i = Rg.au (.int .i64 (f k))) :
  Rg.Step Tryz.prog Q l n T G eu al a0 i { dst := some d, op := .load 3 x, type := ty, pos := pos, after := af, guard := gd } := by
 intro a w' hG hO hN
 have h1 := yf.amw (pre := []) (hb w' hG) hk
 rw [show qd [] + k = k from Nat.zero_add k] at h1
 exact je (P := Tryz.prog) (Di a.eval w' (some d) x b k _ ty pos af gd h1 (hx a w' hO hN)) ⟨_, rfl, hG, Below.refl _ _, by rw [hT]; rfl, fun h => by rw [hal] at h; cases h⟩
theorem asv {Q : Exit → Act → World → Prop} {l : List Oper} {n : Nat} {T : Nat → World → Value → Prop} {G : World → Prop} {al : List Nat} {a0 : Act} {k d : Nat} {ty : TypeId} {pos : String} {af : Array Edge} {gd : Option (Nat × Bool)} {x : Operand} {b : Nat} {TB : TypeId} {post : List ji} {f : Nat → Int} (hb : ∀ W, G W → yf W b TB (.k (eK f) :: post)) (hal : al.contains k = false) (hx : Rg.ig l n T a0 k x (Rg.au (.pointer (some ⟨b, 0, none⟩)))) (hT : T k = Rg.au (.slice (some ⟨b, 0, none⟩) 7 7)) :
  Rg.Step Tryz.prog Q l n T G eu al a0 k { dst := some d, op := .slice 42 x none none none, type := ty, pos := pos, after := af, guard := gd } := by
 intro a w' hG hO hN
 have hr : (execOp a.eval { dst := some d, op := .slice 42 x none none none, type := ty, pos := pos, after := af, guard := gd }).run Tryz.prog w' = .ok (.value (.slice (some ⟨b, 0, none⟩) 7 7)) w' := by
  have hx' : a.eval x = .pointer (some ⟨b, 0, none⟩) := hx a w' hO hN
  simp only [execOp, hx']
  simp [go_sem, Instr.sliceAt, Instr.sliceBounds]
 exact je (P := Tryz.prog) hr ⟨_, rfl, hG, Below.refl _ _, by rw [hT]; rfl, fun h => by rw [hal] at h; cases h⟩
end Sb


namespace Sb
theorem _root_.Go.Proofs.YtfgeaakhlcaibaaGreatDoor.aT {l : List Oper} {n : Nat} {T : Nat → World → Value → Prop} {a0 : Act} {k : Nat} {t : Tmp} (j : Nat) (h : Rg.waits l k j t = true := by kernel_rfl) : Rg.ig l n T a0 k (.tmp t) (T j) := Rg.bnu j h
theorem _root_.Go.Proofs.YtfgeaakhlcaibaaGreatDoor.aF {l : List Oper} {n : Nat} {T : Nat → World → Value → Prop} {a0 : Act} {k : Nat} {t : Tmp} {c : Value} (h : Rg.Gd l n t = true := by kernel_rfl) (hc : a0.tmps.getD t undef = c := by rfl) : Rg.ig l n T a0 k (.tmp t) (Rg.au c) := Rg.bnv h hc
theorem _root_.Go.Proofs.YtfgeaakhlcaibaaGreatDoor.sc2 {P : Program} {Q : Exit → Act → World → Prop} {l : List Oper} {n : Nat} {T : Nat → World → Value → Prop} {w V : World} {bs : List Sb.xh} {al : List Nat} {a0 : Act} {k F d : Nat} {fn : Func} {ats : Array TypeId} {ty : TypeId} {pos : String} {af : Array Edge} {gd : Option (Nat × Bool)} {x1 x2 : Operand} {A1 A2 : World → Value → Prop} (hF : P.funcs[F]? = some fn) (h1 : Rg.ig l n T a0 k x1 A1) (h2 : Rg.ig l n T a0 k x2 A2) (hc : ∀ (W : World) (v1 v2 : Value), Sb.ay w bs V W → A1 W v1 → A2 W v2 → Calls P F #[v1, v2] W fun e w' => ∃ u, e = .returned u ∧ eu W w' ∧ T k w' u) (hn : (!(fn.name == "runtime.NumGoroutine") && fn.body.isSome) = true := by kernel_rfl) (hal : al.contains k = false := by rfl) :
  Rg.Step P Q l n T (Sb.ay w bs V) eu al a0 k { dst := some d, op := .call { callee := .value (.func F), args := #[x1, x2], argTypes := ats }, type := ty, pos := pos, after := af, guard := gd } := Dh hF hn hal Sb.ay.step h1 h2 hc
theorem _root_.Go.Proofs.YtfgeaakhlcaibaaGreatDoor.tA : (∀ {α : Type} {n : Nat} {a : α} {l : List α}, (a :: l).take (n + 1) = a :: l.take n) ∧ (∀ {α : Type} {l : List α}, l.take 0 = []) ∧ (∀ {α : Type} {n : Nat} {a : α} {l : List α}, (a :: l).drop (n + 1) = l.drop n) ∧ (∀ {α : Type} {l : List α}, l.drop 0 = l) ∧ (∀ {α : Type} {l : List α} {n : Nat} {a : α}, l.toArray.setIfInBounds n a = (l.set n a).toArray) ∧ (∀ {α : Type} {x a : α} {l : List α}, (x :: l).set 0 a = a :: l) ∧ (∀ {α : Type} {x a : α} {l : List α} {n : Nat}, (x :: l).set (n + 1) a = x :: l.set n a) := ⟨Sb.ta0, Sb.ta1, Sb.ta2, Sb.ta3, Sb.ta4, Sb.ta5, Sb.ta6⟩
theorem apg {xn xd yn yd g h a1 b1 n a2 b2 d : Int} (w : World) (u0 : Value) (h0 : ax [.z xn, .z xd] w u0) (u1 : Value) (h1 : ax [.z yn, .z yd] w u1)
  (hg1 : Bl w 164 xn yd g)
  (hg2 : Bl w 164 yn xd h)
  (ha1 : Bl w 165 xn g a1)
  (hb1 : Bl w 165 yn h b1)
  (hm1 : Bl w 147 a1 b1 n)
  (ha2 : Bl w 165 xd h a2)
  (hb2 : Bl w 165 yd g b2)
  (hm2 : Bl w 147 a2 b2 d) :
  Calls Tryz.prog 108 #[u0, u1] w (ib (ax [.z n, .z d]) w) := by
 have Cb := hide hg1
 have HG2 := hide hg2
 have HA1 := hide ha1
 have HB1 := hide hb1
 have HM1 := hide hm1
 have HA2 := hide ha2
 have HB2 := hide hb2
 have HM2 := hide hm2
 clear hg1 hg2 ha1 hb1 hm1 ha2 hb2 hm2
 obtain ⟨Ii, Ee, Cu, c0a, Cr, Jw, Kc, Gw, c0b, Gp, rfl, f0a, Gs⟩ := Nb h0
 obtain ⟨Jv, Yk, Ce, c1a, Bz, Ju, n1b, Cc, Ca, Bw, rfl, f1a, Pj⟩ := Nb h1
 go_enter Tryz.func108, Tryz.ntmps108
 go_upto_region 1 with fail
 have hO := (Own.push (T := 79) (ls := zQ) (Own.push (T := 79) (ls := [.z yn, .z yd]) (Own.push (T := 79) (ls := [.z xn, .z xd]) (Own.nil w) (fo.z f0a (fo.z Gs rfl)) (w.heap.size) rfl) (fo.below (by repeat (first | exact Below.refl _ _ | refine gy ?_ _)) (fo.z f1a (fo.z Pj rfl))) (w.heap.size + 1) (by simp only [World.size_alloc])) (fo.below (by repeat (first | exact Below.refl _ _ | refine gy ?_ _)) (fo.vs w [.int .i64 0, .bool false, .slice none 0 0, .int .i64 0, .bool false, .slice none 0 0] rfl)) (w.heap.size + 2) (by simp only [World.size_alloc]))
 generalize ((w.alloc (.cells #[.int .i64 Ii, .bool Ee, .slice Cu (List.length Cr) c0a, .int .i64 Jw, .bool Kc, .slice Gw (List.length Gp) c0b] 79)).alloc (.cells #[.int .i64 Jv, .bool Yk, .slice Ce (List.length Bz) c1a, .int .i64 Ju, .bool n1b, .slice Cc (List.length Bw) Ca] 79)).alloc (.cells #[.int .i64 0, .bool false, .slice none 0 0, .int .i64 0, .bool false, .slice none 0 0] 79) = W0 at *
 have HO := hide hO
 clear hO
 go_upto_region 1 with fail
 go_upto_region 1 with fail
 refine Rg.aag 14 36 (fun k => if k = 12 then 5 else 6) (Rg.pick [Rg.au (.pointer (some ⟨w.heap.size, 0, none⟩)), ax [.z xn], Rg.au (.pointer (some ⟨w.heap.size + 1, 3, none⟩)), ax [.z yd], ax [.z g], Rg.au (.pointer (some ⟨w.heap.size + 1, 0, none⟩)), ax [.z yn], Rg.au (.pointer (some ⟨w.heap.size, 3, none⟩)), ax [.z xd], ax [.z h], fun _ _ => True, fun _ _ => True, fun _ _ => True, fun _ _ => True]) (ay w [(w.heap.size + 2, 79, zQ), (w.heap.size + 1, 79, [.z yn, .z yd]), (w.heap.size, 79, [.z xn, .z xd])] W0) (EX W0.heap.size 77) (J2 77 3 W0.heap.size 10 11 12 13 [.z g] [.z h]) kr kr kr rfl (Rg.dw.pick ⟨(Jc _), (uj _), (Jc _), (uj _), (uj _), (Jc _), (uj _), (Jc _), (uj _), (uj _), (zt), (zt), (zt), (zt), trivial⟩) (ay.start (aa HO)) (fun _ => J2.start) (fun _ _ _ _ h => J2.congr (n := 14) de h)
  (Rg.jo (Cf (Ff (b := w.heap.size) (off := 0) rfl aF rfl rfl))
   (Rg.jo (Cf (ic qh Bv (aT 0) [] [.z xn] [.z xd]))
   (Rg.jo (Cf (Bg (b := w.heap.size + 1) (off := 0) rfl aF rfl rfl))
   (Rg.jo (Cf (ic qh qg (aT 2) [.z yn] [.z yd] []))
   (Rg.jo (Cf (Dh Tryz.func164 kr rfl ay.step (aT 1) (aT 3) (fun W v0 v1 hG h0 h1 => i2 (aa Cb) hG.bel h0 h1)))
   (Rg.jo (Cf (Ff (b := w.heap.size + 1) (off := 0) rfl aF rfl rfl))
   (Rg.jo (Cf (ic qh qg (aT 5) [] [.z yn] [.z yd]))
   (Rg.jo (Cf (Bg (b := w.heap.size) (off := 0) rfl aF rfl rfl))
   (Rg.jo (Cf (ic qh Bv (aT 7) [.z xn] [.z xd] []))
   (Rg.jo (Cf (Dh Tryz.func164 kr rfl ay.step (aT 6) (aT 8) (fun W v0 v1 hG h0 h1 => i2 (aa HG2) hG.bel h0 h1)))
   (Rg.jo (Uw Nr rfl rfl rfl)
   (Rg.jo (Wn Nr rfl rfl rfl)
   (Rg.jo (Uv (aa HO) Ep kr (aT 4) rfl rfl rfl)
   (Rg.jo (Wm (aa HO) Ep kr (aT 9) rfl rfl rfl)
   Rg.Qf)))))))))))))) ?_
 intro v1 V1 hG1 hJ1 hv1 hne1
 simp only [Rg.puts, Act.put, tA]
 obtain ⟨_, _, hd1, hf1, hg1⟩ := hJ1
 obtain ⟨bte, e10, axs, bdu⟩ := (hf1 trivial).2
 obtain ⟨btd, e11, axr, bdt⟩ := (hg1 trivial).2
 simp only [e10, e11]
 have hO := Own.ane (aa HO) hG1.2 axs bdu axr bdt (fun h => hd1 trivial trivial (by rw [e10, e11, h]))
 clear axs bdu axr bdt hd1 hf1 hg1
 clear HO
 have HO := hide hO
 clear hO hG1 hv1 hne1
 try clear e10 e11
 go_upto_region 2 with fail
 refine Rg.region 19 36 (Rg.pick [Rg.au (.pointer (some ⟨w.heap.size, 0, none⟩)), ax [.z xn], ax [.z g], ax [.z a1], Rg.au (.pointer (some ⟨w.heap.size + 1, 0, none⟩)), ax [.z yn], ax [.z h], ax [.z b1], ax [.z n], Rg.au (.pointer (some ⟨w.heap.size, 3, none⟩)), ax [.z xd], ax [.z h], ax [.z a2], Rg.au (.pointer (some ⟨w.heap.size + 1, 3, none⟩)), ax [.z yd], ax [.z g], ax [.z b2], ax [.z d], ax [.z n, .z d]]) (ay w _ V1) eu [] kr kr rfl (Rg.dw.pick ⟨Rg.ae _, az _, az _, az _, Rg.ae _, az _, az _, az _, az _, Rg.ae _, az _, az _, az _, Rg.ae _, az _, az _, az _, az _, az _, trivial⟩) (ay.start (aa HO))
  (ah (Ff (b := w.heap.size) (off := 0) rfl aF rfl rfl)
  (ah (ic qh me4 (aT 0) [] [.z xn] [.z xd])
  (ah (ic qh qg aF [] [.z g] [])
  (ah (sc2 Tryz.func165 (aT 1) (aT 2) (fun W v0 v1 hG h0 h1 => i2 (aa HA1) hG.bel h0 h1))
  (ah (Ff (b := w.heap.size + 1) (off := 0) rfl aF rfl rfl)
  (ah (ic qh Nt (aT 4) [] [.z yn] [.z yd])
  (ah (ic qh me0 aF [] [.z h] [])
  (ah (sc2 Tryz.func165 (aT 5) (aT 6) (fun W v0 v1 hG h0 h1 => i2 (aa HB1) hG.bel h0 h1))
  (ah (sc2 Tryz.func147 (aT 3) (aT 7) (fun W v0 v1 hG h0 h1 => i2 (aa HM1) hG.bel h0 h1))
  (ah (Bg (b := w.heap.size) (off := 0) rfl aF rfl rfl)
  (ah (ic qh me4 (aT 9) [.z xn] [.z xd] [])
  (ah (ic qh me0 aF [] [.z h] [])
  (ah (sc2 Tryz.func165 (aT 10) (aT 11) (fun W v0 v1 hG h0 h1 => i2 (aa HA2) hG.bel h0 h1))
  (ah (Bg (b := w.heap.size + 1) (off := 0) rfl aF rfl rfl)
  (ah (ic qh Nt (aT 13) [.z yn] [.z yd] [])
  (ah (ic qh qg aF [] [.z g] [])
  (ah (sc2 Tryz.func165 (aT 14) (aT 15) (fun W v0 v1 hG h0 h1 => i2 (aa HB2) hG.bel h0 h1))
  (ah (sc2 Tryz.func147 (aT 12) (aT 16) (fun W v0 v1 hG h0 h1 => i2 (aa HM2) hG.bel h0 h1))
  (ah (Hf aar rfl (aT 8) (aT 17) rfl rfl rfl)
  Rg.bf))))))))))))))))))) ?_
 intro v2 V2 hG2 hv2 hne2
 simp only [Rg.puts, Act.put, tA]
 have hO := hG2.1
 refine jq hO 2 [] zQ [.z n, .z d] [] rfl Es rfl (show ax [.z n, .z d] V2 (v2 18) from hv2 18 de) rfl rfl rfl ?_
 intro Et gm hk0
 replace hO := gm
 clear gm
 clear HO
 have HO := hide hO
 clear hO hG2 hv2 hne2 hk0
 go_wp2_with fail
 exact Cs Tryz.results108 Mc rfl (aa HO) Bv rfl rfl
theorem apl {xn xd yn yd g p q m1 m2 n h a e d : Int} (w : World) (u0 : Value) (h0 : ax [.z xn, .z xd] w u0) (u1 : Value) (h1 : ax [.z yn, .z yd] w u1)
  (h1k : Bl w 164 xd yd g)
  (h2k : Bl w 165 xd g p)
  (h3k : Bl w 165 yd g q)
  (h4k : Bl w 147 xn q m1)
  (h5k : Bl w 147 yn p m2)
  (h6k : Bl w 166 m1 m2 n)
  (h7k : Bl w 164 g n h)
  (h8k : Bl w 165 n h a)
  (h9k : Bl w 165 yd h e)
  (bfk : Bl w 147 p e d) :
  Calls Tryz.prog 93 #[u0, u1] w (ib (ax [.z a, .z d]) w) := by
 have H1 := hide h1k
 have H2 := hide h2k
 have H3 := hide h3k
 have H4 := hide h4k
 have H5 := hide h5k
 have H6 := hide h6k
 have H7 := hide h7k
 have H8 := hide h8k
 have H9 := hide h9k
 have H10 := hide bfk
 clear h1k h2k h3k h4k h5k h6k h7k h8k h9k bfk
 obtain ⟨Ii, Ee, Cu, c0a, Cr, Jw, Kc, Gw, c0b, Gp, rfl, f0a, Gs⟩ := Nb h0
 obtain ⟨Jv, Yk, Ce, c1a, Bz, Ju, n1b, Cc, Ca, Bw, rfl, f1a, Pj⟩ := Nb h1
 go_enter Tryz.func93, Tryz.ntmps93
 go_upto_region 1 with fail
 have hO := (Own.push (T := 79) (ls := zQ) (Own.push (T := 79) (ls := [.z yn, .z yd]) (Own.push (T := 79) (ls := [.z xn, .z xd]) (Own.nil w) (fo.z f0a (fo.z Gs rfl)) (w.heap.size) rfl) (fo.below (by repeat (first | exact Below.refl _ _ | refine gy ?_ _)) (fo.z f1a (fo.z Pj rfl))) (w.heap.size + 1) (by simp only [World.size_alloc])) (fo.below (by repeat (first | exact Below.refl _ _ | refine gy ?_ _)) (fo.vs w [.int .i64 0, .bool false, .slice none 0 0, .int .i64 0, .bool false, .slice none 0 0] rfl)) (w.heap.size + 2) (by simp only [World.size_alloc]))
 generalize ((w.alloc (.cells #[.int .i64 Ii, .bool Ee, .slice Cu (List.length Cr) c0a, .int .i64 Jw, .bool Kc, .slice Gw (List.length Gp) c0b] 79)).alloc (.cells #[.int .i64 Jv, .bool Yk, .slice Ce (List.length Bz) c1a, .int .i64 Ju, .bool n1b, .slice Cc (List.length Bw) Ca] 79)).alloc (.cells #[.int .i64 0, .bool false, .slice none 0 0, .int .i64 0, .bool false, .slice none 0 0] 79) = W0 at *
 have HO := hide hO
 clear hO
 go_upto_region 1 with fail
 refine Rg.dh 6 45 (Rg.pick [Rg.au (.pointer (some ⟨w.heap.size, 3, none⟩)), ax [.z xd], Rg.au (.pointer (some ⟨w.heap.size + 1, 3, none⟩)), ax [.z yd], ax [.z g], nk 77 zZ W0.heap.size]) (ay w _ W0) eu [5] kr rfl (Rg.dw.pick ⟨Rg.ae _, az _, Rg.ae _, az _, az _, ny _ _ _, trivial⟩) (ay.begin (aa HO))
  (ah (Bg (b := w.heap.size) (off := 0) rfl aF rfl rfl)
  (ah (ic qh Bv (aT 0) [.z xn] [.z xd] [])
  (ah (Bg (b := w.heap.size + 1) (off := 0) rfl aF rfl rfl)
  (ah (ic qh qg (aT 2) [.z yn] [.z yd] [])
  (ah (sc2 Tryz.func164 (aT 1) (aT 3) (fun W v0 v1 hG h0 h1 => i2 (aa H1) hG.bel h0 h1))
  (ah (oq Nr rfl ay.step ay.size rfl (qp (by intro j hj; simp at hj; (repeat' (first | (rcases hj with rfl | hj))) <;> first | (subst hj; exact ⟨_, _, _, rfl⟩) | exact ⟨_, _, _, rfl⟩)))
  Rg.bf)))))) ?_
 intro v1 V1 hG1 hv1 hne1
 simp only [Rg.puts, Act.put, tA]
 obtain ⟨anc, e5, Fq, Ki⟩ := (show nk 77 zZ W0.heap.size V1 (v1 5) from hv1 5 de)
 simp only [e5]
 have hO := hG1.1
 replace hO := Own.add (aa HO) hG1.2 Fq Ki
 clear Fq Ki
 refine jq hO 0 [] zZ [.z g] [] rfl Ep rfl (show ax [.z g] V1 (v1 4) from hv1 4 de) rfl rfl rfl ?_
 intro za gm hk0
 replace hO := gm
 clear gm
 clear HO
 have HO := hide hO
 clear hO hG1 hv1 hne1 hk0
 try clear e5
 go_upto_region 2 with fail
 go_upto_region 2 with fail
 refine Rg.aag 12 45 (fun k => if k = 10 then 6 else 7) (Rg.pick [Rg.au (.pointer (some ⟨w.heap.size, 3, none⟩)), ax [.z xd], ax [.z g], ax [.z p], Rg.au (.pointer (some ⟨w.heap.size + 1, 3, none⟩)), ax [.z yd], ax [.z g], ax [.z q], fun _ _ => True, fun _ _ => True, fun _ _ => True, fun _ _ => True]) (ay w [(anc, 77, [.z g]), (w.heap.size + 2, 79, zQ), (w.heap.size + 1, 79, [.z yn, .z yd]), (w.heap.size, 79, [.z xn, .z xd])] za) (EX za.heap.size 77) (J2 77 3 za.heap.size 8 9 10 11 [.z p] [.z q]) kr kr kr rfl (Rg.dw.pick ⟨(Jc _), (uj _), (uj _), (uj _), (Jc _), (uj _), (uj _), (uj _), (zt), (zt), (zt), (zt), trivial⟩) (ay.start (aa HO)) (fun _ => J2.start) (fun _ _ _ _ h => J2.congr (n := 12) de h)
  (Rg.jo (Cf (Bg (b := w.heap.size) (off := 0) rfl aF rfl rfl))
   (Rg.jo (Cf (ic qh Nt (aT 0) [.z xn] [.z xd] []))
   (Rg.jo (Cf (ic qh me0 aF [] [.z g] []))
   (Rg.jo (Cf (Dh Tryz.func165 kr rfl ay.step (aT 1) (aT 2) (fun W v0 v1 hG h0 h1 => i2 (aa H2) hG.bel h0 h1)))
   (Rg.jo (Cf (Bg (b := w.heap.size + 1) (off := 0) rfl aF rfl rfl))
   (Rg.jo (Cf (ic qh Bv (aT 4) [.z yn] [.z yd] []))
   (Rg.jo (Cf (ic qh me0 aF [] [.z g] []))
   (Rg.jo (Cf (Dh Tryz.func165 kr rfl ay.step (aT 5) (aT 6) (fun W v0 v1 hG h0 h1 => i2 (aa H3) hG.bel h0 h1)))
   (Rg.jo (Uw Nr rfl rfl rfl)
   (Rg.jo (Wn Nr rfl rfl rfl)
   (Rg.jo (Uv (aa HO) Ep kr (aT 3) rfl rfl rfl)
   (Rg.jo (Wm (aa HO) Ep kr (aT 7) rfl rfl rfl)
   Rg.Qf)))))))))))) ?_
 intro v2 V2 hG2 hJ2 hv2 hne2
 simp only [Rg.puts, Act.put, tA]
 obtain ⟨_, _, hd2, hf2, hg2⟩ := hJ2
 obtain ⟨bue, e8, beo, hz8⟩ := (hf2 trivial).2
 obtain ⟨bud, e9, aga, hz9⟩ := (hg2 trivial).2
 simp only [e8, e9]
 have hO := Own.ane (aa HO) hG2.2 beo hz8 aga hz9 (fun h => hd2 trivial trivial (by rw [e8, e9, h]))
 clear beo hz8 aga hz9 hd2 hf2 hg2
 clear HO
 have HO := hide hO
 clear hO hG2 hv2 hne2
 try clear e8 e9
 go_upto_region 3 with fail
 go_upto_region 3 with fail
 refine Rg.bac 11 45 (fun _ => 8) (Rg.pick [Rg.au (.pointer (some ⟨w.heap.size, 0, none⟩)), ax [.z xn], ax [.z q], ax [.z m1], Rg.au (.pointer (some ⟨w.heap.size + 1, 0, none⟩)), ax [.z yn], ax [.z p], ax [.z m2], ax [.z n], Ip 77 3 V2.heap.size, Jo 77 [.z n] V2.heap.size]) (ay w _ V2) (EN V2.heap.size 77 [.z n]) kr kr kr rfl (Rg.dw.pick ⟨(ady _), (Fb _), (Fb _), (Fb _), (ady _), (Fb _), (Fb _), (Fb _), (Fb _), (akv), (aog), trivial⟩) (ay.start (aa HO))
  (Rg.xy (Rg.Cw rfl rfl (Aj (Ff (b := w.heap.size) (off := 0) rfl aF rfl rfl)))
   (Rg.xy (Rg.Cw rfl rfl (Aj (ic qh me5 (aT 0) [] [.z xn] [.z xd])))
   (Rg.xy (Rg.Cw rfl rfl (Aj (ic qh me0 aF [] [.z q] [])))
   (Rg.xy (Rg.Cw rfl rfl (Aj (Dh Tryz.func147 kr rfl ay.step (aT 1) (aT 2) (fun W v0 v1 hG h0 h1 => i2 (aa H4) hG.bel h0 h1))))
   (Rg.xy (Rg.Cw rfl rfl (Aj (Ff (b := w.heap.size + 1) (off := 0) rfl aF rfl rfl)))
   (Rg.xy (Rg.Cw rfl rfl (Aj (ic qh me4 (aT 4) [] [.z yn] [.z yd])))
   (Rg.xy (Rg.Cw rfl rfl (Aj (ic qh qg aF [] [.z p] [])))
   (Rg.xy (Rg.Cw rfl rfl (Aj (Dh Tryz.func147 kr rfl ay.step (aT 5) (aT 6) (fun W v0 v1 hG h0 h1 => i2 (aa H5) hG.bel h0 h1))))
   (Rg.xy (Rg.Cw rfl rfl (Aj (Dh Tryz.func166 kr rfl ay.step (aT 3) (aT 7) (fun W v0 v1 hG h0 h1 => i2 (aa H6) hG.bel h0 h1))))
   (Rg.xy (Rg.Cw rfl rfl (Aj (asx Nr rfl rfl ay.step ay.size rfl)))
   (Rg.xy (asu (aa HO) Ep (aT 9) (aT 8) rfl rfl rfl)
   Rg.aku))))))))))) ?_
 intro v3 V3 hG3 hv3 ma
 simp only [Rg.puts, Act.put, tA]
 have e0 : v3 0 = .pointer (some ⟨w.heap.size, 0, none⟩) := hv3 0 de
 have e4 : v3 4 = .pointer (some ⟨w.heap.size + 1, 0, none⟩) := hv3 4 de
 have e99 : v3 10 = v3 9 := ma 10 9 de de rfl rfl
 obtain ⟨bub, e9, aga, hz9⟩ := (show Jo 77 [.z n] V2.heap.size V3 (v3 10) from hv3 10 de)
 rw [e99] at e9
 clear e99
 simp only [e0, e4, e9]
 have hO := Own.add (aa HO) hG3.2 aga hz9
 clear aga hz9
 clear HO
 have HO := hide hO
 clear hO hG3 hv3 ma
 try clear e0 e4 e9
 go_upto_region 4 with fail
 refine Rg.dh 4 45 (Rg.pick [ax [.z g], ax [.z n], ax [.z h], nk 77 zZ V3.heap.size]) (ay w _ V3) eu [3] kr rfl (Rg.dw.pick ⟨az _, az _, az _, ny _ _ _, trivial⟩) (ay.begin (aa HO))
  (ah (ic qh Nt aF [] [.z g] [])
  (ah (ic qh me0 aF [] [.z n] [])
  (ah (sc2 Tryz.func164 (aT 0) (aT 1) (fun W v0 v1 hG h0 h1 => i2 (aa H7) hG.bel h0 h1))
  (ah (oq Nr rfl ay.step ay.size rfl (qp (by intro j hj; simp at hj; (repeat' (first | (rcases hj with rfl | hj))) <;> first | (subst hj; exact ⟨_, _, _, rfl⟩) | exact ⟨_, _, _, rfl⟩)))
  Rg.bf)))) ?_
 intro v4 V4 hG4 hv4 sw
 simp only [Rg.puts, Act.put, tA]
 obtain ⟨bua, e3, agb, hz3⟩ := (show nk 77 zZ V3.heap.size V4 (v4 3) from hv4 3 de)
 simp only [e3]
 have hO := hG4.1
 replace hO := Own.add (aa HO) hG4.2 agb hz3
 clear agb hz3
 refine jq hO 0 [] zZ [.z h] [] rfl Ep rfl (show ax [.z h] V4 (v4 2) from hv4 2 de) rfl rfl rfl ?_
 intro Dk gm hk0
 replace hO := gm
 clear gm
 clear HO
 have HO := hide hO
 clear hO hG4 hv4 sw hk0
 try clear e3
 go_upto_region 5 with fail
 refine Rg.region 10 45 (Rg.pick [ax [.z n], ax [.z h], ax [.z a], ax [.z p], Rg.au (.pointer (some ⟨w.heap.size + 1, 3, none⟩)), ax [.z yd], ax [.z h], ax [.z e], ax [.z d], ax [.z a, .z d]]) (ay w _ Dk) eu [] kr kr rfl (Rg.dw.pick ⟨az _, az _, az _, az _, Rg.ae _, az _, az _, az _, az _, az _, trivial⟩) (ay.start (aa HO))
  (ah (ic qh qg aF [] [.z n] [])
  (ah (ic qh me0 aF [] [.z h] [])
  (ah (sc2 Tryz.func165 (aT 0) (aT 1) (fun W v0 v1 hG h0 h1 => i2 (aa H8) hG.bel h0 h1))
  (ah (ic qh Nt aF [] [.z p] [])
  (ah (Bg (b := w.heap.size + 1) (off := 0) rfl aF rfl rfl)
  (ah (ic qh me6 (aT 4) [.z yn] [.z yd] [])
  (ah (ic qh me0 aF [] [.z h] [])
  (ah (sc2 Tryz.func165 (aT 5) (aT 6) (fun W v0 v1 hG h0 h1 => i2 (aa H9) hG.bel h0 h1))
  (ah (sc2 Tryz.func147 (aT 3) (aT 7) (fun W v0 v1 hG h0 h1 => i2 (aa H10) hG.bel h0 h1))
  (ah (Hf aar rfl (aT 2) (aT 8) rfl rfl rfl)
  Rg.bf)))))))))) ?_
 intro v5 V5 uk hv5 hne5
 simp only [Rg.puts, Act.put, tA]
 have hO := uk.1
 refine jq hO 5 [] zQ [.z a, .z d] [] rfl Es rfl (show ax [.z a, .z d] V5 (v5 9) from hv5 9 de) rfl rfl rfl ?_
 intro Da gm hk0
 replace hO := gm
 clear gm
 clear HO
 have HO := hide hO
 clear hO uk hv5 hne5 hk0
 go_wp2_with fail
 exact Cs Tryz.results93 Mc rfl (aa HO) me5 rfl rfl
end Sb

end Go.Proofs.YtfgeaakhlcaibaaGreatDoor
namespace Go.Proofs.YtfgeaakhlcaibaaGreatDoor
open Go.RowKit Sb

theorem ajj {w : World} {K : Nat} (hT : qm w) (x y : Rat) (hx : yx K x) (hy : yx K y) (hK : K + K + 1 ≤ lim) : Fw w 93 x y (x + y) ∧ yx (K + K + 1) (x + y) := by
 have dx : (x.den : Int) ≠ 0 := by have := x.den_pos; omega
 have dy : (y.den : Int) ≠ 0 := by have := y.den_pos; omega
 obtain ⟨g, hg⟩ : ∃ g, g = x.den.gcd y.den := ⟨_, rfl⟩
 obtain ⟨xd, hxd⟩ : ∃ z, z = (x.den : Int).tdiv g := ⟨_, rfl⟩
 obtain ⟨yd, hyd⟩ : ∃ z, z = (y.den : Int).tdiv g := ⟨_, rfl⟩
 obtain ⟨m1, hm1⟩ : ∃ z, z = x.num * yd := ⟨_, rfl⟩
 obtain ⟨m2, hm2⟩ : ∃ z, z = y.num * xd := ⟨_, rfl⟩
 obtain ⟨n, hn⟩ : ∃ z, z = m1 + m2 := ⟨_, rfl⟩
 obtain ⟨h, hh⟩ : ∃ h, h = g.gcd n.natAbs := ⟨_, rfl⟩
 obtain ⟨e1, he1⟩ : ∃ z, z = (y.den : Int).tdiv h := ⟨_, rfl⟩
 have hp := Wd.acu x y g h n hg (by rw [hn, hm1, hm2, hxd, hyd]) hh
 have g0 : 0 < g := by rw [hg]; exact Nat.gcd_pos_of_pos_left _ x.den_pos
 have h0 : 0 < h := by rw [hh]; exact Nat.gcd_pos_of_pos_left _ g0
 have sg : Wd.Sz dm K (g : Int) := by
  have := hx.2.gcd_left (b := (y.den : Int)) dx
  simpa [hg] using this
 have sh : Wd.Sz dm K (h : Int) := by
  have := sg.gcd_left (b := n) om
  simpa [hh] using this
 have sxd : Wd.Sz dm K xd := by rw [hxd]; exact hx.2.tdiv _
 have syd : Wd.Sz dm K yd := by rw [hyd]; exact hy.2.tdiv _
 have sm1 : Wd.Sz dm (K + K) m1 := by rw [hm1]; exact hx.1.mul syd
 have sm2 : Wd.Sz dm (K + K) m2 := by rw [hm2]; exact hy.1.mul sxd
 have sn : Wd.Sz dm (K + K + 1) n := by rw [hn]; exact sm1.add pz sm2
 have se1 : Wd.Sz dm K e1 := by rw [he1]; exact hy.2.tdiv _
 have B := pz
 have up : ∀ z, Wd.Sz dm K z → Wd.Sz dm (K + K + 1) z := fun z hz => hz.mono B om
 refine ⟨?_, ⟨by rw [hp.1]; exact sn.tdiv _, by rw [hp.2]; exact ((hx.2.tdiv _).mul (hy.2.tdiv _)).mono B om⟩⟩
 rw [Fw, hp.1, hp.2]
 exact fun s1 cz A1 c1 l1 s2 cu A2 c2 l2 s3 pq A3 c3 l3 s4 xm A4 c4 l4 W hW f1 f2 f3 f4 => (apl W _ ⟨_, rfl, fo.z f1 (fo.z f2 rfl)⟩ _ ⟨_, rfl, fo.z f3 (fo.z f4 rfl)⟩
  (Oy (hT.below hW) (up _ hx.2) (up _ hy.2) hK (by simp [hg])) (Ed (up _ hx.2) (up _ sg) hK om hxd) (Ed (up _ hy.2) (up _ sg) hK om hyd)
  (Ka (up _ hx.1) (up _ syd) hK hm1) (Ka (up _ hy.1) (up _ sxd) hK hm2) (bdf (sm1.mono B om) (sm2.mono B om) hK hn)
  (Oy (hT.below hW) (up _ sg) sn hK (by simp [hh])) (Ed sn (up _ sh) hK om rfl) (Ed (up _ hy.2) (up _ sh) hK om he1) (Ka (up _ sxd) (up _ se1) hK (by rw [hxd, he1]))).mono fun _ _ h => aps h

theorem aaj {w : World} {K : Nat} (hT : qm w) (x y : Rat) (hx : yx K x) (hy : yx K y) (hK : K + K + 1 ≤ lim) : Fw w 108 x y (x * y) ∧ yx (K + K) (x * y) := by
 have dx : (x.den : Int) ≠ 0 := by have := x.den_pos; omega
 have dy : (y.den : Int) ≠ 0 := by have := y.den_pos; omega
 obtain ⟨g, hg⟩ : ∃ g, g = x.num.natAbs.gcd y.den := ⟨_, rfl⟩
 obtain ⟨h, hh⟩ : ∃ h, h = y.num.natAbs.gcd x.den := ⟨_, rfl⟩
 obtain ⟨a1, ha1⟩ : ∃ z, z = x.num.tdiv g := ⟨_, rfl⟩
 obtain ⟨b1, hb1⟩ : ∃ z, z = y.num.tdiv h := ⟨_, rfl⟩
 obtain ⟨a2, ha2⟩ : ∃ z, z = (x.den : Int).tdiv h := ⟨_, rfl⟩
 obtain ⟨b2, hb2⟩ : ∃ z, z = (y.den : Int).tdiv g := ⟨_, rfl⟩
 have hp := Wd.aco x y g h hg hh
 have g0 : 0 < g := by rw [hg]; exact Nat.gcd_pos_of_pos_right _ y.den_pos
 have h0 : 0 < h := by rw [hh]; exact Nat.gcd_pos_of_pos_right _ x.den_pos
 have sg : Wd.Sz dm K (g : Int) := by
  have := hy.2.gcd_right (a := x.num) dy
  simpa [hg] using this
 have sh : Wd.Sz dm K (h : Int) := by
  have := hx.2.gcd_right (a := y.num) dx
  simpa [hh] using this
 have sa1 : Wd.Sz dm K a1 := by rw [ha1]; exact hx.1.tdiv _
 have sb1 : Wd.Sz dm K b1 := by rw [hb1]; exact hy.1.tdiv _
 have sa2 : Wd.Sz dm K a2 := by rw [ha2]; exact hx.2.tdiv _
 have sb2 : Wd.Sz dm K b2 := by rw [hb2]; exact hy.2.tdiv _
 have hK1 : K ≤ lim := by omega
 refine ⟨?_, ⟨by rw [hp.1, ← ha1, ← hb1]; exact sa1.mul sb1, by rw [hp.2, ← ha2, ← hb2]; exact sa2.mul sb2⟩⟩
 rw [Fw, hp.1, hp.2]
 exact fun s1 cz A1 c1 l1 s2 cu A2 c2 l2 s3 pq A3 c3 l3 s4 xm A4 c4 l4 W hW f1 f2 f3 f4 => (apg W _ ⟨_, rfl, fo.z f1 (fo.z f2 rfl)⟩ _ ⟨_, rfl, fo.z f3 (fo.z f4 rfl)⟩
  (Oy (hT.below hW) hx.1 hy.2 hK1 (by simp [hg])) (Oy (hT.below hW) hy.1 hx.2 hK1 (by simp [hh])) (Ed hx.1 sg hK1 om ha1) (Ed hy.1 sh hK1 om hb1)
  (Ka sa1 sb1 hK1 (by rw [ha1, hb1])) (Ed hx.2 sh hK1 om ha2) (Ed hy.2 sg hK1 om hb2) (Ka sa2 sb2 hK1 (by rw [ha2, hb2]))).mono fun _ _ h => aps h


namespace Sb
theorem apm {w w' : World} {q : Rat} {e : Ending} (h : ib (ax [.q q]) w e w') : Gf w q.num (q.den : Int) e w' := by
 obtain ⟨u, rfl, hb, h⟩ := h
 obtain ⟨s1, n1, A1, c1, l1, s2, n2, A2, c2, l2, rfl, f1, f2⟩ := Ew h
 exact ⟨_, _, _, _, _, _, _, _, _, _, rfl, f1, f2, hb⟩
theorem q1b {F : Nat} {x q : Rat} {w W : World} {v0 : Value} (h : Nf w F x q) (hb : Below w.heap.size w W) (h0 : ax [.q x] W v0) : Calls Tryz.prog F #[v0] W (ib (ax [.q q]) W) := ayf (h.mono hb) h0
theorem q2b {F : Nat} {x y q : Rat} {w W : World} {v0 v1 : Value} (h : Fw w F x y q) (hb : Below w.heap.size w W) (h0 : ax [.q x] W v0) (h1 : ax [.q y] W v1) : Calls Tryz.prog F #[v0, v1] W (ib (ax [.q q]) W) := aye (h.mono hb) h0 h1
theorem _root_.Go.Proofs.YtfgeaakhlcaibaaGreatDoor.sc1 {P : Program} {Q : Exit → Act → World → Prop} {l : List Oper} {n : Nat} {T : Nat → World → Value → Prop} {w V : World} {bs : List Sb.xh} {al : List Nat} {a0 : Act} {k F d : Nat} {fn : Func} {ats : Array TypeId} {ty : TypeId} {pos : String} {af : Array Edge} {gd : Option (Nat × Bool)} {x1 : Operand} {A1 : World → Value → Prop} (hF : P.funcs[F]? = some fn) (h1 : Rg.ig l n T a0 k x1 A1) (hc : ∀ (W : World) (v1 : Value), Sb.ay w bs V W → A1 W v1 → Calls P F #[v1] W fun e w' => ∃ u, e = .returned u ∧ eu W w' ∧ T k w' u) (hn : (!(fn.name == "runtime.NumGoroutine") && fn.body.isSome) = true := by kernel_rfl) (hal : al.contains k = false := by rfl) :
  Rg.Step P Q l n T (Sb.ay w bs V) eu al a0 k { dst := some d, op := .call { callee := .value (.func F), args := #[x1], argTypes := ats }, type := ty, pos := pos, after := af, guard := gd } := Bo hF hn hal Sb.ay.step h1 hc
theorem aoy {x y v q : Rat} (w : World) (u0 : Value) (h0 : ax [.q x] w u0) (u1 : Value) (h1 : ax [.q y] w u1) (g1 : Nf w 88 y v) (g2 : Fw w 93 x v q) :
  Calls Tryz.prog 78 #[u0, u1] w (ib (ax [.q q]) w) := by
 have H1 := hide g1
 have H2 := hide g2
 clear g1 g2
 obtain ⟨Ii, Ee, Cu, c0a, Cr, Jw, Kc, Gw, c0b, Gp, rfl, f0a, Gs⟩ := Ew h0
 obtain ⟨Jv, Yk, Ce, c1a, Bz, Ju, n1b, Cc, Ca, Bw, rfl, f1a, Pj⟩ := Ew h1
 go_enter Tryz.func78, Tryz.ntmps78
 go_upto_region 1 with fail
 have hO := (Own.push (T := 79) (ls := zQ) (Own.push (T := 79) (ls := [.q y]) (Own.push (T := 79) (ls := [.q x]) (Own.nil w) (fo.q f0a Gs rfl) (w.heap.size) rfl) (fo.below (by repeat (first | exact Below.refl _ _ | refine gy ?_ _)) (fo.q f1a Pj rfl)) (w.heap.size + 1) (by simp only [World.size_alloc])) (fo.below (by repeat (first | exact Below.refl _ _ | refine gy ?_ _)) (fo.vs w [.int .i64 0, .bool false, .slice none 0 0, .int .i64 0, .bool false, .slice none 0 0] rfl)) (w.heap.size + 2) (by simp only [World.size_alloc]))
 generalize ((w.alloc (.cells #[.int .i64 Ii, .bool Ee, .slice Cu (List.length Cr) c0a, .int .i64 Jw, .bool Kc, .slice Gw (List.length Gp) c0b] 79)).alloc (.cells #[.int .i64 Jv, .bool Yk, .slice Ce (List.length Bz) c1a, .int .i64 Ju, .bool n1b, .slice Cc (List.length Bw) Ca] 79)).alloc (.cells #[.int .i64 0, .bool false, .slice none 0 0, .int .i64 0, .bool false, .slice none 0 0] 79) = W0 at *
 have HO := hide hO
 clear hO
 go_upto_region 1 with fail
 refine Rg.region 4 9 (Rg.pick [ax [.q x], ax [.q y], ax [.q v], ax [.q q]]) (ay w _ W0) eu [] kr kr rfl (Rg.dw.pick ⟨az _, az _, az _, az _, trivial⟩) (ay.start (aa HO))
  (ah (ic Eg Bv aF [] [.q x] [])
  (ah (ic Eg qg aF [] [.q y] [])
  (ah (sc1 Tryz.func88 (aT 1) (fun W v0 hG h0 => q1b (aa H1) hG.bel h0))
  (ah (sc2 Tryz.func93 (aT 0) (aT 2) (fun W v0 v1 hG h0 h1 => q2b (aa H2) hG.bel h0 h1))
  Rg.bf)))) ?_
 intro v1 V1 hG1 hv1 hne1
 simp only [Rg.puts, Act.put, tA]
 have hO := hG1.1
 refine jq hO 0 [] zQ [.q q] [] rfl Es rfl (show ax [.q q] V1 (v1 3) from hv1 3 de) rfl rfl rfl ?_
 intro za gm hk0
 replace hO := gm
 clear gm
 clear HO
 have HO := hide hO
 clear hO hG1 hv1 hne1 hk0
 go_wp2_with fail
 exact Cs Tryz.results78 Mc rfl (aa HO) me0 rfl rfl
theorem aln {w : World} {x y v q : Rat} (g1 : Nf w 88 y v) (g2 : Fw w 93 x v q) : Fw w 78 x y q :=
 fun _ _ _ _ _ _ _ _ _ _ _ _ _ _ _ _ _ _ _ _ W hW f1 f2 f3 f4 => (aoy W _ ⟨_, rfl, fo.q f1 f2 rfl⟩ _ ⟨_, rfl, fo.q f3 f4 rfl⟩ (g1.mono hW) (g2.mono hW)).mono fun _ _ h => apm h
theorem apc {x y v q : Rat} (w : World) (u0 : Value) (h0 : ax [.q x] w u0) (u1 : Value) (h1 : ax [.q y] w u1) (g1 : Nf w 94 y v) (g2 : Fw w 108 x v q) :
  Calls Tryz.prog 109 #[u0, u1] w (ib (ax [.q q]) w) := by
 have H1 := hide g1
 have H2 := hide g2
 clear g1 g2
 obtain ⟨Ii, Ee, Cu, c0a, Cr, Jw, Kc, Gw, c0b, Gp, rfl, f0a, Gs⟩ := Ew h0
 obtain ⟨Jv, Yk, Ce, c1a, Bz, Ju, n1b, Cc, Ca, Bw, rfl, f1a, Pj⟩ := Ew h1
 go_enter Tryz.func109, Tryz.ntmps109
 go_upto_region 1 with fail
 have hO := (Own.push (T := 79) (ls := zQ) (Own.push (T := 79) (ls := [.q y]) (Own.push (T := 79) (ls := [.q x]) (Own.nil w) (fo.q f0a Gs rfl) (w.heap.size) rfl) (fo.below (by repeat (first | exact Below.refl _ _ | refine gy ?_ _)) (fo.q f1a Pj rfl)) (w.heap.size + 1) (by simp only [World.size_alloc])) (fo.below (by repeat (first | exact Below.refl _ _ | refine gy ?_ _)) (fo.vs w [.int .i64 0, .bool false, .slice none 0 0, .int .i64 0, .bool false, .slice none 0 0] rfl)) (w.heap.size + 2) (by simp only [World.size_alloc]))
 generalize ((w.alloc (.cells #[.int .i64 Ii, .bool Ee, .slice Cu (List.length Cr) c0a, .int .i64 Jw, .bool Kc, .slice Gw (List.length Gp) c0b] 79)).alloc (.cells #[.int .i64 Jv, .bool Yk, .slice Ce (List.length Bz) c1a, .int .i64 Ju, .bool n1b, .slice Cc (List.length Bw) Ca] 79)).alloc (.cells #[.int .i64 0, .bool false, .slice none 0 0, .int .i64 0, .bool false, .slice none 0 0] 79) = W0 at *
 have HO := hide hO
 clear hO
 go_upto_region 1 with fail
 refine Rg.region 4 9 (Rg.pick [ax [.q x], ax [.q y], ax [.q v], ax [.q q]]) (ay w _ W0) eu [] kr kr rfl (Rg.dw.pick ⟨az _, az _, az _, az _, trivial⟩) (ay.start (aa HO))
  (ah (ic Eg Bv aF [] [.q x] [])
  (ah (ic Eg qg aF [] [.q y] [])
  (ah (sc1 Tryz.func94 (aT 1) (fun W v0 hG h0 => q1b (aa H1) hG.bel h0))
  (ah (sc2 Tryz.func108 (aT 0) (aT 2) (fun W v0 v1 hG h0 h1 => q2b (aa H2) hG.bel h0 h1))
  Rg.bf)))) ?_
 intro v1 V1 hG1 hv1 hne1
 simp only [Rg.puts, Act.put, tA]
 have hO := hG1.1
 refine jq hO 0 [] zQ [.q q] [] rfl Es rfl (show ax [.q q] V1 (v1 3) from hv1 3 de) rfl rfl rfl ?_
 intro za gm hk0
 replace hO := gm
 clear gm
 clear HO
 have HO := hide hO
 clear hO hG1 hv1 hne1 hk0
 go_wp2_with fail
 exact Cs Tryz.results109 Mc rfl (aa HO) me0 rfl rfl
theorem alo {w : World} {x y v q : Rat} (g1 : Nf w 94 y v) (g2 : Fw w 108 x v q) : Fw w 109 x y q :=
 fun _ _ _ _ _ _ _ _ _ _ _ _ _ _ _ _ _ _ _ _ W hW f1 f2 f3 f4 => (apc W _ ⟨_, rfl, fo.q f1 f2 rfl⟩ _ ⟨_, rfl, fo.q f3 f4 rfl⟩ (g1.mono hW) (g2.mono hW)).mono fun _ _ h => apm h
end Sb
theorem baj {w : World} {K : Nat} (hT : qm w) (x y : Rat) (hx : yx K x) (hy : yx K y) (hK : K + K + 1 ≤ lim) : Fw w 78 x y (x - y) ∧ yx (K + K + 1) (x - y) := by
 obtain ⟨a, b⟩ := ajj hT x (-y) hx hy.neg hK
 rw [Rat.sub_eq_add_neg]
 exact ⟨aln (bal w y) a, b⟩
theorem bak {w : World} {K : Nat} (hT : qm w) (x y : Rat) (hx : yx K x) (hy : yx K y) (hK : K + K + 1 ≤ lim) (h0 : y.num ≠ 0) : Fw w 109 x y (x / y) ∧ yx (K + K) (x / y) := by
 obtain ⟨a, b⟩ := aaj hT x (y⁻¹) hx (hy.inv h0) hK
 rw [Rat.div_def]
 exact ⟨alo (aji w y h0) a, b⟩

end Go.Proofs.YtfgeaakhlcaibaaGreatDoor
namespace Go.Proofs.YtfgeaakhlcaibaaGreatDoor
open Go.RowKit

def OpC (w : World) (F : Nat) (x y : Rat) (o : Int) : Prop := ∀ (s1 : Int) (cz : Bool) (A1 : Option Addr) (c1 : Nat) (l1 : List Nat) (s2 : Int) (cu : Bool) (A2 : Option Addr) (c2 : Nat) (l2 : List Nat) (s3 : Int) (pq : Bool) (A3 : Option Addr) (c3 : Nat) (l3 : List Nat) (s4 : Int) (xm : Bool) (A4 : Option Addr) (c4 : Nat) (l4 : List Nat) (W : World), Below w.heap.size w W → fq W s1 cz A1 c1 l1 x.num → fq W s2 cu A2 c2 l2 (x.den : Int) → fq W s3 pq A3 c3 l3 y.num → fq W s4 xm A4 c4 l4 (y.den : Int) → Calls Tryz.prog F #[(Value.agg #[.int .i64 s1, .bool cz, .slice A1 l1.length c1, .int .i64 s2, .bool cu, .slice A2 l2.length c2]), (Value.agg #[.int .i64 s3, .bool pq, .slice A3 l3.length c3, .int .i64 s4, .bool xm, .slice A4 l4.length c4])] W fun e w' => e = .returned (.int .i64 o) ∧ Below W.heap.size W w'
theorem apj (s1 : Int) (cz : Bool) (A1 : Option Addr) (c1 : Nat) (l1 : List Nat) (s2 : Int) (cu : Bool) (A2 : Option Addr) (c2 : Nat) (l2 : List Nat) (s3 : Int) (pq : Bool) (A3 : Option Addr) (c3 : Nat) (l3 : List Nat) (s4 : Int) (xm : Bool) (A4 : Option Addr) (c4 : Nat) (l4 : List Nat) (z1 z2 z3 z4 m1 m2 : Int) (w : World) (f1 : fq w s1 cz A1 c1 l1 z1) (f2 : fq w s2 cu A2 c2 l2 z2) (f3 : fq w s3 pq A3 c3 l3 z3) (f4 : fq w s4 xm A4 c4 l4 z4) (g1 : Bl w 147 z1 z4 m1) (g2 : Bl w 147 z3 z2 m2) :
  Calls Tryz.prog 79 #[(Value.agg #[.int .i64 s1, .bool cz, .slice A1 l1.length c1, .int .i64 s2, .bool cu, .slice A2 l2.length c2]), (Value.agg #[.int .i64 s3, .bool pq, .slice A3 l3.length c3, .int .i64 s4, .bool xm, .slice A4 l4.length c4])] w fun e w' => e = .returned (.int .i64 (lh (m1 - m2))) ∧ Below w.heap.size w w' := by
 have H1 := hide f1
 have H2 := hide f2
 have H3 := hide f3
 have H4 := hide f4
 have Cb := hide g1
 have HG2 := hide g2
 obtain ⟨o, ho⟩ : ∃ o, o = lh (m1 - m2) := ⟨_, rfl⟩
 have HCM := hide (fun (s5 : Int) (qa : Bool) (A5 : Option Addr) (c5 : Nat) (l5 : List Nat) (s6 : Int) (su : Bool) (A6 : Option Addr) (c6 : Nat) (l6 : List Nat) (W : World) (f5 : fq W s5 qa A5 c5 l5 m1) (f6 : fq W s6 su A6 c6 l6 m2) => (show Calls Tryz.prog 148 #[(Value.agg #[.int .i64 s5, .bool qa, .slice A5 l5.length c5]), (Value.agg #[.int .i64 s6, .bool su, .slice A6 l6.length c6])] W fun e w' => e = .returned (.int .i64 o) ∧ Below W.heap.size W w' by rw [ho]; exact auf s5 qa A5 c5 l5 m1 s6 su A6 c6 l6 m2 W f5 f6))
 rw [← ho]
 clear f1 f2 f3 f4 g1 g2 ho
 go_enter Tryz.func79, Tryz.ntmps79
 go_wp2_with fail
 obtain ⟨n0_, n1_, hsz, hw0⟩ := qw w (.cells #[.int .i64 s1, .bool cz, .slice A1 l1.length c1, .int .i64 s2, .bool cu, .slice A2 l2.length c2] 79) (.cells #[.int .i64 s3, .bool pq, .slice A3 l3.length c3, .int .i64 s4, .bool xm, .slice A4 l4.length c4] 79)
 generalize ((w.alloc (.cells #[.int .i64 s1, .bool cz, .slice A1 l1.length c1, .int .i64 s2, .bool cu, .slice A2 l2.length c2] 79)).alloc (.cells #[.int .i64 s3, .bool pq, .slice A3 l3.length c3, .int .i64 s4, .bool xm, .slice A4 l4.length c4] 79)) = W0 at *
 have uh : W0.cell? ⟨w.heap.size, 0, none⟩ = some (.int .i64 s1) := ag n0_ 0
 have ug : W0.cell? ⟨w.heap.size, 1, none⟩ = some (.bool cz) := ag n0_ 1
 have yz : W0.cell? ⟨w.heap.size, 2, none⟩ = some (.slice A1 l1.length c1) := ag n0_ 2
 have Aw : W0.cell? ⟨w.heap.size, 3, none⟩ = some (.int .i64 s2) := ag n0_ 3
 have Ci : W0.cell? ⟨w.heap.size, 4, none⟩ = some (.bool cu) := ag n0_ 4
 have Ch : W0.cell? ⟨w.heap.size, 5, none⟩ = some (.slice A2 l2.length c2) := ag n0_ 5
 have xu : W0.cell? ⟨w.heap.size + 1, 0, none⟩ = some (.int .i64 s3) := ag n1_ 0
 have xq : W0.cell? ⟨w.heap.size + 1, 1, none⟩ = some (.bool pq) := ag n1_ 1
 have Dw : W0.cell? ⟨w.heap.size + 1, 2, none⟩ = some (.slice A3 l3.length c3) := ag n1_ 2
 have Mk : W0.cell? ⟨w.heap.size + 1, 3, none⟩ = some (.int .i64 s4) := ag n1_ 3
 have Ra : W0.cell? ⟨w.heap.size + 1, 4, none⟩ = some (.bool xm) := ag n1_ 4
 have Qz : W0.cell? ⟨w.heap.size + 1, 5, none⟩ = some (.slice A4 l4.length c4) := ag n1_ 5
 have q0 : w.heap.size < W0.heap.size := by omega
 have q1 : w.heap.size + 1 < W0.heap.size := by omega
 clear n0_ n1_ hsz
 replace H1 := hide ((aa H1).below hw0)
 replace H2 := hide ((aa H2).below hw0)
 replace H3 := hide ((aa H3).below hw0)
 replace H4 := hide ((aa H4).below hw0)
 have KEEP := hide (show ∀ X, Below W0.heap.size W0 X → X.cell? ⟨w.heap.size, 0, none⟩ = some (.int .i64 s1) ∧ X.cell? ⟨w.heap.size, 1, none⟩ = some (.bool cz) ∧ X.cell? ⟨w.heap.size, 2, none⟩ = some (.slice A1 l1.length c1) ∧ X.cell? ⟨w.heap.size, 3, none⟩ = some (.int .i64 s2) ∧ X.cell? ⟨w.heap.size, 4, none⟩ = some (.bool cu) ∧ X.cell? ⟨w.heap.size, 5, none⟩ = some (.slice A2 l2.length c2) ∧ X.cell? ⟨w.heap.size + 1, 0, none⟩ = some (.int .i64 s3) ∧ X.cell? ⟨w.heap.size + 1, 1, none⟩ = some (.bool pq) ∧ X.cell? ⟨w.heap.size + 1, 2, none⟩ = some (.slice A3 l3.length c3) ∧ X.cell? ⟨w.heap.size + 1, 3, none⟩ = some (.int .i64 s4) ∧ X.cell? ⟨w.heap.size + 1, 4, none⟩ = some (.bool xm) ∧ X.cell? ⟨w.heap.size + 1, 5, none⟩ = some (.slice A4 l4.length c4) from fun X hX => ⟨fw hX q0 uh, fw hX q0 ug, fw hX q0 yz, fw hX q0 Aw, fw hX q0 Ci, fw hX q0 Ch, fw hX q1 xu, fw hX q1 xq, fw hX q1 Dw, fw hX q1 Mk, fw hX q1 Ra, fw hX q1 Qz⟩)
 go_region_held3 (fun w' => w'.cell? ⟨w.heap.size, 0, none⟩ = some (.int .i64 s1) ∧ w'.cell? ⟨w.heap.size, 1, none⟩ = some (.bool cz) ∧ w'.cell? ⟨w.heap.size, 2, none⟩ = some (.slice A1 l1.length c1) ∧ w'.cell? ⟨w.heap.size, 3, none⟩ = some (.int .i64 s2) ∧ w'.cell? ⟨w.heap.size, 4, none⟩ = some (.bool cu) ∧ w'.cell? ⟨w.heap.size, 5, none⟩ = some (.slice A2 l2.length c2) ∧ w'.cell? ⟨w.heap.size + 1, 0, none⟩ = some (.int .i64 s3) ∧ w'.cell? ⟨w.heap.size + 1, 1, none⟩ = some (.bool pq) ∧ w'.cell? ⟨w.heap.size + 1, 2, none⟩ = some (.slice A3 l3.length c3) ∧ w'.cell? ⟨w.heap.size + 1, 3, none⟩ = some (.int .i64 s4) ∧ w'.cell? ⟨w.heap.size + 1, 4, none⟩ = some (.bool xm) ∧ w'.cell? ⟨w.heap.size + 1, 5, none⟩ = some (.slice A4 l4.length c4)) (exact (aa KEEP) _ bel) (first | (go_at_call_of 147 (Value.agg #[.int .i64 s1, .bool cz, .slice A1 l1.length c1]); refine ((aa Cb) s1 cz A1 c1 l1 s4 xm A4 c4 l4 _ (bg hw0 bel) (fq.below (aa H1) bel) (fq.below (aa H4) bel)).mono ?_; rintro e w' ⟨s5, qa, A5, c5, l5, rfl, xg, hb5⟩; have hbw := bz (w := W0) bel hb5; have hsw := hbw.size; obtain ⟨hc, hfz⟩ := dz hbw) | (go_at_call_of 147 (Value.agg #[.int .i64 s3, .bool pq, .slice A3 l3.length c3]); refine ((aa HG2) s3 pq A3 c3 l3 s2 cu A2 c2 l2 _ (bg hw0 bel) (fq.below (aa H3) bel) (fq.below (aa H2) bel)).mono ?_; rintro e w' ⟨s6, su, A6, c6, l6, rfl, Ei, hb6⟩; have xg := fq.below (fq.below xg bel) hb6; have hbw := bz (w := W0) bel hb6; have hsw := hbw.size; obtain ⟨hc, hfz⟩ := dz hbw) | (go_at_call_of 148 (Value.agg #[.int .i64 s5, .bool qa, .slice A5 l5.length c5]); refine ((aa HCM) s5 qa A5 c5 l5 s6 su A6 c6 l6 _ (fq.below xg bel) (fq.below Ei bel)).mono ?_; rintro e w' ⟨rfl, Ph⟩; have hbw := bz (w := W0) bel Ph; have hsw := hbw.size; obtain ⟨hc, hfz⟩ := dz hbw))
 all_goals
  have jh : Below w.heap.size w w' := bg hw0 hbw
  go_wp2_with fail
  exact bodyPost_ret (v := .int .i64 o) (by simp [results, Tryz.results79, go_sem]) rfl ⟨rfl, jh⟩
theorem bam (w : World) {K : Nat} (x y : Rat) (hx : yx K x) (hy : yx K y) (hK : K ≤ lim) : OpC w 79 x y (lh (x.num * y.den - y.num * x.den)) :=
 fun s1 cz A1 c1 l1 s2 cu A2 c2 l2 s3 pq A3 c3 l3 s4 xm A4 c4 l4 W hW f1 f2 f3 f4 => apj s1 cz A1 c1 l1 s2 cu A2 c2 l2 s3 pq A3 c3 l3 s4 xm A4 c4 l4 x.num (x.den : Int) y.num (y.den : Int) _ _ W f1 f2 f3 f4 (Ka hx.1 hy.2 hK rfl) (Ka hy.1 hx.2 hK rfl)


theorem bdg {n d : Int} (h : Wd.oo n d) : yx 1 (Wd.qR n d) := by
 obtain ⟨e1, e2⟩ := Wd.Nl h
 obtain ⟨h1, h2, h3, h4, _⟩ := h
 have B : (1000000000000 : Nat) < dm := by rw [gp]; omega
 exact ⟨by rw [e1]; exact Wd.Sz.of_le om pz (Nat.le_refl _), by rw [e2]; exact Wd.Sz.of_le om pz (Nat.le_refl _)⟩

namespace Sb
def Sm (K : Nat) (x : Rat) : Prop := yx K x ∧ K ≤ 1000000
theorem Sm.mono {K L : Nat} {x : Rat} (h : Sm K x) (hk : K ≤ L) (hl : L ≤ 1000000) : Sm L x := ⟨h.1.mono hk, hl⟩
theorem Jh : 100000000 ≤ lim := by unfold lim; omega
variable {W : World} {v0 v1 : Value} {x y : Rat} {K : Nat}
theorem Rm (hT : qm W) (hx : Sm K x) (hy : Sm K y) (h0 : ax [.q x] W v0) (h1 : ax [.q y] W v1) : Calls Tryz.prog 108 #[v0, v1] W (ib (ax [.q (x * y)]) W) :=
 aye (aaj hT x y hx.1 hy.1 (by have := hx.2; have := Jh; omega)).1 h0 h1
theorem ayg (hx : Sm K x) (hy : Sm K y) (h0 : ax [.q x] W v0) (h1 : ax [.q y] W v1) : Calls Tryz.prog 79 #[v0, v1] W (ib (Rg.au (.int .i64 (lh (x.num * y.den - y.num * x.den)))) W) := by
 obtain ⟨s1, n1, A1, c1, l1, s2, n2, A2, c2, l2, rfl, f1, f2⟩ := Ew h0
 obtain ⟨s3, n3, A3, c3, l3, s4, n4, A4, c4, l4, rfl, f3, f4⟩ := Ew h1
 exact (bam W x y hx.1 hy.1 (by have := hx.2; have := Jh; omega) _ _ _ _ _ _ _ _ _ _ _ _ _ _ _ _ _ _ _ _ W (Below.refl _ _) f1 f2 f3 f4).mono fun e w' h => Ue h
theorem avs {n d : Int} (ok : Wd.oo n d) (h0 : ax [.v (.int .i64 n), .v (.int .i64 d)] W v0) : Calls Tryz.prog 67 #[v0] W (ib (ax [.q (Wd.qR n d)]) W) := by
 rw [Fs h0]
 obtain ⟨e1, e2⟩ := Wd.Nl ok
 obtain ⟨h1, h2, h3, h4, _⟩ := ok
 refine (bab n d W om om om om).mono fun e w' h => Qr ?_
 rw [e1, e2]; exact h
theorem bil (h0 : ax [.q x] W v0) : Calls Tryz.prog 69 #[v0] W (ib (Rg.au (.tuple #[.agg #[.int .i64 (Wd.told x).n, .int .i64 (Wd.told x).d], .int .i64 (Wd.told x).e])) W) := by
 obtain ⟨s1, n1, A1, c1, l1, s2, n2, A2, c2, l2, rfl, f1, f2⟩ := Ew h0
 exact (Xa s1 n1 A1 c1 l1 _ s2 n2 A2 c2 l2 _ W f1 f2 x rfl rfl).mono fun e w' h => Ue h
theorem bfu (n : Int) (h1 : -9223372036854775808 ≤ n) (h2 : n ≤ 9223372036854775807) (W : World) : Calls Tryz.prog 137 #[.int .i64 n] W (ib (ax [.z n]) W) :=
 (zm n h1 h2 W).mono fun e w' h => aam h
theorem Sm.add (hx : Sm K x) (hy : Sm K y) (h : K + K + 1 ≤ 1000000) (w : World) (hT : qm w) : Sm (K + K + 1) (x + y) := ⟨(ajj hT x y hx.1 hy.1 (by have := Jh; omega)).2, h⟩
theorem Sm.mul (hx : Sm K x) (hy : Sm K y) (h : K + K ≤ 1000000) (w : World) (hT : qm w) : Sm (K + K) (x * y) := ⟨(aaj hT x y hx.1 hy.1 (by have := Jh; omega)).2, h⟩
theorem Sm.quo (hx : Sm K x) (hy : Sm K y) (h : K + K ≤ 1000000) (hn : y.num ≠ 0) (w : World) (hT : qm w) : Sm (K + K) (x / y) := ⟨(bak hT x y hx.1 hy.1 (by have := Jh; omega) hn).2, h⟩
theorem Sm.neg (hx : Sm K x) : Sm K (-x) := ⟨hx.1.neg, hx.2⟩
theorem Dg {n d : Int} (ok : Wd.oo n d) : Sm 1 (Wd.qR n d) := ⟨bdg ok, by omega⟩
end Sb


def Db (q : Rat) : World → Value → Prop := fun W v => ∃ A1 c1 l1 m1 A2 c2 l2 m2, v = (Value.agg #[.slice A1 (List.length l1) c1, .bool m1, .slice A2 (List.length l2) c2, .bool m2]) ∧ QV W A1 c1 l1 m1 A2 c2 l2 m2 q
theorem Uz (q : Rat) : Rg.Fu eu (Db q) := by
 rintro w w' v hb ⟨A1, c1, l1, m1, A2, c2, l2, m2, rfl, h⟩
 exact ⟨_, _, _, _, _, _, _, _, rfl, h.below hb⟩
theorem avx {W : World} {b : Nat} (h : W.heap[b]? = some (.cells #[.slice none 0 0, .bool false, .slice none 0 0, .bool false] 68 (0, 0))) : Ec W b 0 :=
 have h0 : iq W none 0 [] false 0 := ⟨qj.Qt W 0 om, rfl⟩
 ⟨none, 0, [], false, none, 0, [], false, h, h0, 0, h0, .inr ⟨rfl, rfl⟩⟩
theorem Ec.lt {W : World} {b : Nat} {q : Rat} (h : Ec W b q) : b < W.heap.size := by
 obtain ⟨_, _, _, _, _, _, _, _, h, _⟩ := h; exact lt_of_block h
theorem aov {ρ : Operand → Value} {w : World} {d : Option Tmp} {x : Operand} {b : Nat} {u0 u1 u2 u3 : Value} {ty : TypeId} {pos : String} {af : Array Edge} {gd : Option (Nat × Bool)} (h : ρ x = .pointer (some ⟨b, 0, none⟩)) (k0 : w.cell? ⟨b, 0, none⟩ = some u0) (k1 : w.cell? ⟨b, 1, none⟩ = some u1) (k2 : w.cell? ⟨b, 2, none⟩ = some u2) (k3 : w.cell? ⟨b, 3, none⟩ = some u3) :
  (execOp ρ { dst := d, op := .load 68 x, type := ty, pos := pos, after := af, guard := gd }).run Tryz.prog w = .ok (.value (.agg #[u0, u1, u2, u3])) w := by
 simp only [execOp, h]
 simp [go_sem, k0, k1, k2, k3]
theorem aaf {Q : Exit → Act → World → Prop} {l : List Oper} {n : Nat} {T : Nat → World → Value → Prop} {G : World → Prop} {al : List Nat} {a0 : Act} {k d b : Nat} {x : Operand} {q : Rat} {ty : TypeId} {pos : String} {af : Array Edge} {gd : Option (Nat × Bool)}
  (hal : al.contains k = false) (hx : Rg.ig l n T a0 k x (Rg.au (.pointer (some ⟨b, 0, none⟩)))) (hb : ∀ W, G W → Ec W b q) (hT : T k = Db q) :
  Rg.Step Tryz.prog Q l n T G eu al a0 k { dst := some d, op := .load 68 x, type := ty, pos := pos, after := af, guard := gd } := by
 intro a w hG hO hN
 obtain ⟨A1, c1, l1, m1, A2, c2, l2, m2, hk, hq⟩ := hb w hG
 exact je (P := Tryz.prog) (aov (hx a w hO hN) (ag hk 0) (ag hk 1) (ag hk 2) (ag hk 3)) ⟨_, rfl, hG, Below.refl _ _, by rw [hT]; exact ⟨A1, c1, l1, m1, A2, c2, l2, m2, rfl, hq⟩, fun h => by rw [hal] at h; cases h⟩
structure Own (w : World) (bs : List (Nat × Rat)) (W : World) : Prop where
 bel : Below w.heap.size w W
 nd : (bs.map Prod.fst).Nodup
 box : ∀ b q, (b, q) ∈ bs → w.heap.size ≤ b ∧ Ec W b q
theorem Own.nil (w : World) : Own w [] w := ⟨Below.refl _ _, List.nodup_nil, fun b q h => by cases h⟩
theorem Own.step {w : World} {bs : List (Nat × Rat)} : ∀ W W', Own w bs W → eu W W' → Own w bs W' := fun W W' h hb => ⟨bg h.bel hb, h.nd, fun b q hm => ⟨(h.box b q hm).1, (h.box b q hm).2.below hb⟩⟩
theorem Own.lt {w W : World} {bs : List (Nat × Rat)} {b : Nat} {q : Rat} (h : Own w bs W) (hm : (b, q) ∈ bs) : b < W.heap.size := (h.box b q hm).2.lt
theorem Own.add {w W V : World} {bs : List (Nat × Rat)} {b : Nat} {q : Rat} (h : Own w bs V) (Ua : eu V W) (hb : V.heap.size ≤ b) (hq : Ec W b q) : Own w ((b, q) :: bs) W :=
 ⟨bg h.bel Ua, List.nodup_cons.2 ⟨fun hm => by
  obtain ⟨p, hp, he⟩ := List.mem_map.1 hm
  have := h.lt (b := p.1) (q := p.2) hp
  omega, h.nd⟩, fun b' q' hm => by
  rcases List.mem_cons.1 hm with e | hm
  ·
   cases e; exact ⟨Nat.le_trans h.bel.size hb, hq⟩
  ·
   exact ((Own.step V W h Ua).box b' q' hm)⟩
theorem Own.push {w W : World} {bs : List (Nat × Rat)} {q : Rat} {A1 : Option Addr} {c1 : Nat} {l1 : List Nat} {m1 : Bool} {A2 : Option Addr} {c2 : Nat} {l2 : List Nat} {m2 : Bool} (h : Own w bs W) (hv : QV W A1 c1 l1 m1 A2 c2 l2 m2 q) (b : Nat) (hb : b = W.heap.size) : Own w ((b, q) :: bs) (W.alloc (.cells #[.slice A1 l1.length c1, .bool m1, .slice A2 l2.length c2, .bool m2] 68)) := by
 subst hb
 exact h.add ((Below.refl _ _).alloc (Nat.le_refl _) _) (Nat.le_refl _) ⟨_, _, _, _, _, _, _, _, heap_alloc_new W _, hv.below ((Below.refl _ _).alloc (Nat.le_refl _) _)⟩
theorem Own.bhr {w W : World} {bs : List (Nat × Rat)} (h : Own w bs W) (b : Nat) (hb : b = W.heap.size) : Own w ((b, 0) :: bs) (W.alloc (.cells #[.slice none 0 0, .bool false, .slice none 0 0, .bool false] 68)) := by
 subst hb
 exact h.add ((Below.refl _ _).alloc (Nat.le_refl _) _) (Nat.le_refl _) (avx (heap_alloc_new W _))
theorem Own.other {w W : World} {bs : List (Nat × Rat)} (o : Obj) (h : Own w bs W) : Own w bs (W.alloc o) := Own.step _ _ h ((Below.refl _ _).alloc (Nat.le_refl _) _)
def bcp (W : World) (b : Nat) (v0 v1 v2 v3 : Value) : World := (((W.setCell ⟨b, 0, none⟩ v0).setCell ⟨b, 1, none⟩ v1).setCell ⟨b, 2, none⟩ v2).setCell ⟨b, 3, none⟩ v3
theorem Own.set {w W : World} {xs ys : List (Nat × Rat)} {b : Nat} {q0 q : Rat} {A1 : Option Addr} {c1 : Nat} {l1 : List Nat} {m1 : Bool} {A2 : Option Addr} {c2 : Nat} {l2 : List Nat} {m2 : Bool} (h : Own w (xs ++ (b, q0) :: ys) W) (hv : QV W A1 c1 l1 m1 A2 c2 l2 m2 q) :
  Own w (xs ++ (b, q) :: ys) (bcp W b (.slice A1 l1.length c1) (.bool m1) (.slice A2 l2.length c2) (.bool m2)) := by
 obtain ⟨hge, hb⟩ := h.box b q0 (List.mem_append_right _ List.mem_cons_self)
 obtain ⟨A, c, l, m, A', c', l', m', h1, h2⟩ := hb
 have hg := ou W b (.slice A1 l1.length c1) (.bool m1) (.slice A2 l2.length c2) (.bool m2)
 have hnd := h.nd
 rw [List.map_append, List.map_cons] at hnd
 have hn : ∀ b' q', (b', q') ∈ xs ++ ys → b' ≠ b := fun b' q' hm e => by
  subst e
  obtain ⟨_, h4, h5⟩ := List.nodup_append.1 hnd
  rcases List.mem_append.1 hm with hm | hm
  ·
   exact h5 b' (List.mem_map.2 ⟨_, hm, rfl⟩) b' List.mem_cons_self rfl
  ·
   exact (List.nodup_cons.1 h4).1 (List.mem_map.2 ⟨_, hm, rfl⟩)
 refine ⟨h.bel.grown hg h.bel.size (fun k hk => by injection hk with hk; omega), by rw [List.map_append, List.map_cons]; exact hnd, fun b' q' hm => ?_⟩
 rcases List.mem_append.1 hm with hm | hm
 rotate_left
 rcases List.mem_cons.1 hm with e | hm
 ·
  cases e
  exact ⟨hge, ⟨_, _, _, _, _, _, _, _, aky h1, hv.upto h1 (Bb _ _ _ _ _ _ _ _) hg⟩⟩
 all_goals
  have hne := hn b' q' (by first | exact List.mem_append_right _ hm | exact List.mem_append_left _ hm)
  obtain ⟨hge', B, d, r, p, B', d', r', p', g1, g2⟩ := h.box b' q' (by first | exact List.mem_append_right _ (List.mem_cons_of_mem _ hm) | exact List.mem_append_left _ hm)
  exact ⟨hge', B, d, r, p, B', d', r', p', (hg.block b' (lt_of_block g1) (fun e => hne (by first | exact Option.some.inj e | exact (Option.some.inj e).symm))).trans g1, g2.upto h1 (Bb _ _ _ _ _ _ _ _) hg⟩
theorem Own.ane {w W V : World} {bs : List (Nat × Rat)} {b b' : Nat} {q q' : Rat} (h : Own w bs V) (Ua : eu V W) (hb : V.heap.size ≤ b) (hq : Ec W b q) (hb' : V.heap.size ≤ b') (hq' : Ec W b' q') (hne : b' ≠ b) : Own w ((b', q') :: (b, q) :: bs) W := by
 have h1 := Own.add h Ua hb hq
 have h2 := Own.add h Ua hb' hq'
 refine ⟨h1.bel, List.nodup_cons.2 ⟨fun hm => ?_, h1.nd⟩, fun c p hm => ?_⟩
 ·
  rw [List.map_cons] at hm
  rcases List.mem_cons.1 hm with e | hm
  ·
   exact hne e
  ·
   exact (List.nodup_cons.1 h2.nd).1 hm
 ·
  rcases List.mem_cons.1 hm with e | hm
  ·
   cases e; exact h2.box _ _ List.mem_cons_self
  ·
   exact h1.box _ _ hm
def ay (w : World) (bs : List (Nat × Rat)) (V : World) : World → Prop := fun W => Own w bs W ∧ eu V W
theorem ay.step {w V : World} {bs : List (Nat × Rat)} : ∀ W W', ay w bs V W → eu W W' → ay w bs V W' := fun W W' h hb => ⟨Own.step W W' h.1 hb, bg h.2 hb⟩
theorem ay.size {w V : World} {bs : List (Nat × Rat)} : ∀ W, ay w bs V W → V.heap.size ≤ W.heap.size := fun _ h => h.2.size
theorem ay.start {w V : World} {bs : List (Nat × Rat)} (h : Own w bs V) : ay w bs V V.drew := ⟨Own.step _ _ h (eu.drew V), eu.drew V⟩
theorem ay.begin {w V : World} {bs : List (Nat × Rat)} (h : Own w bs V) : ay w bs V V := ⟨h, Below.refl _ _⟩
theorem ay.box {w V W : World} {bs : List (Nat × Rat)} {b : Nat} {q : Rat} (hm : (b, q) ∈ bs) (h : ay w bs V W) : Ec W b q := (h.1.box b q hm).2
theorem Yi {w w' : World} {q : Rat} {e : Ending} (h : QR w q e w') : ib (Db q) w e w' := by
 obtain ⟨A1, c1, l1, m1, A2, c2, l2, m2, rfl, h1, h2, hb⟩ := h
 exact ⟨_, rfl, hb, _, _, _, _, _, _, _, _, rfl, QV.of h1 h2⟩
def Bi (z : Int) : World → Value → Prop := fun W v => ∃ A c l m, v = .agg #[.slice A (List.length l) c, .bool m] ∧ iq W A c l m z
theorem Hq (z : Int) : Rg.Fu eu (Bi z) := by
 rintro w w' v hb ⟨A, c, l, m, rfl, h⟩
 exact ⟨_, _, _, _, rfl, h.below hb⟩
theorem aow {ρ : Operand → Value} {w : World} {d : Option Tmp} {x : Operand} {b : Nat} {ty : TypeId} {pos : String} {af : Array Edge} {gd : Option (Nat × Bool)} (h : ρ x = .pointer (some ⟨b, 0, none⟩)) :
  (execOp ρ { dst := d, op := .fieldAddr 68 x 0, type := ty, pos := pos, after := af, guard := gd }).run Tryz.prog w = .ok (.value (.pointer (some ⟨b, 0, none⟩))) w := by
 simp only [execOp, h]
 simp [go_sem]
theorem ajd {Q : Exit → Act → World → Prop} {l : List Oper} {n : Nat} {T : Nat → World → Value → Prop} {G : World → Prop} {al : List Nat} {a0 : Act} {k d b : Nat} {x : Operand} {ty : TypeId} {pos : String} {af : Array Edge} {gd : Option (Nat × Bool)}
  (hal : al.contains k = false) (hx : Rg.ig l n T a0 k x (Rg.au (.pointer (some ⟨b, 0, none⟩)))) (hT : T k = Rg.au (.pointer (some ⟨b, 0, none⟩))) :
  Rg.Step Tryz.prog Q l n T G eu al a0 k { dst := some d, op := .fieldAddr 68 x 0, type := ty, pos := pos, after := af, guard := gd } := by
 intro a w hG hO hN
 exact je (P := Tryz.prog) (aow (hx a w hO hN)) ⟨_, rfl, hG, Below.refl _ _, by rw [hT]; rfl, fun h => by rw [hal] at h; cases h⟩
theorem aou {ρ : Operand → Value} {w : World} {d : Option Tmp} {x : Operand} {b : Nat} {u0 u1 : Value} {ty : TypeId} {pos : String} {af : Array Edge} {gd : Option (Nat × Bool)} (h : ρ x = .pointer (some ⟨b, 0, none⟩)) (k0 : w.cell? ⟨b, 0, none⟩ = some u0) (k1 : w.cell? ⟨b, 1, none⟩ = some u1) :
  (execOp ρ { dst := d, op := .load 66 x, type := ty, pos := pos, after := af, guard := gd }).run Tryz.prog w = .ok (.value (.agg #[u0, u1])) w := by
 simp only [execOp, h]
 simp [go_sem, k0, k1]
theorem ajc {Q : Exit → Act → World → Prop} {l : List Oper} {n : Nat} {T : Nat → World → Value → Prop} {G : World → Prop} {al : List Nat} {a0 : Act} {k d b : Nat} {x : Operand} {q : Rat} {ty : TypeId} {pos : String} {af : Array Edge} {gd : Option (Nat × Bool)}
  (hal : al.contains k = false) (hx : Rg.ig l n T a0 k x (Rg.au (.pointer (some ⟨b, 0, none⟩)))) (hb : ∀ W, G W → Ec W b q) (hT : T k = Bi q.num) :
  Rg.Step Tryz.prog Q l n T G eu al a0 k { dst := some d, op := .load 66 x, type := ty, pos := pos, after := af, guard := gd } := by
 intro a w hG hO hN
 obtain ⟨A1, c1, l1, m1, A2, c2, l2, m2, hk, hq⟩ := hb w hG
 exact je (P := Tryz.prog) (aou (hx a w hO hN) (ag hk 0) (ag hk 1)) ⟨_, rfl, hG, Below.refl _ _, by rw [hT]; exact ⟨A1, c1, l1, m1, rfl, hq.num⟩, fun h => by rw [hal] at h; cases h⟩
theorem alf {ρ : Operand → Value} {w : World} {d : Option Tmp} {x y : Operand} {u0 u1 u2 u3 : Value} {ty : TypeId} {pos : String} {af : Array Edge} {gd : Option (Nat × Bool)} (h : ρ x = .agg #[u0, u1]) (h' : ρ y = .agg #[u2, u3]) :
  (execOp ρ { dst := d, op := .build 68 #[(0, x), (1, y)], type := ty, pos := pos, after := af, guard := gd }).run Tryz.prog w = .ok (.value (.agg #[u0, u1, u2, u3])) w := by
 simp [execOp, h, h', go_sem]
theorem asw {Q : Exit → Act → World → Prop} {l : List Oper} {n : Nat} {T : Nat → World → Value → Prop} {G : World → Prop} {al : List Nat} {a0 : Act} {k d : Nat} {x y : Operand} {a b : Int} {q : Rat} {ty : TypeId} {pos : String} {af : Array Edge} {gd : Option (Nat × Bool)}
  (hal : al.contains k = false) (hx : Rg.ig l n T a0 k x (Bi a)) (hy : Rg.ig l n T a0 k y (Bi b)) (ha : a = q.num) (hb : b = (q.den : Int)) (hT : T k = Db q) :
  Rg.Step Tryz.prog Q l n T G eu al a0 k { dst := some d, op := .build 68 #[(0, x), (1, y)], type := ty, pos := pos, after := af, guard := gd } := by
 intro s w hG hO hN
 obtain ⟨A1, c1, l1, m1, e1, h1⟩ := hx s w hO hN
 obtain ⟨A2, c2, l2, m2, e2, h2⟩ := hy s w hO hN
 subst ha; subst hb
 exact je (P := Tryz.prog) (alf e1 e2) ⟨_, rfl, hG, Below.refl _ _, by rw [hT]; exact ⟨A1, c1, l1, m1, A2, c2, l2, m2, rfl, QV.of h1 h2⟩, fun h => by rw [hal] at h; cases h⟩
theorem Sj {w w' : World} {z : Int} {e : Ending} (h : Gu w z e w') : ib (Bi z) w e w' := by
 obtain ⟨A, c, l, m, rfl, h1, hb⟩ := h
 exact ⟨_, rfl, hb, _, _, _, _, rfl, h1⟩
def bgk (w : World) (bs : List (Nat × Rat)) (r s : Nat) : World → Prop := fun W => ∃ p q, Own w ((r, p) :: (s, q) :: bs) W
theorem bgk.box {w W : World} {bs : List (Nat × Rat)} {r s b : Nat} {x : Rat} (hm : (b, x) ∈ bs) (h : bgk w bs r s W) : Ec W b x := by
 obtain ⟨p, q, h⟩ := h
 exact (h.box b x (List.mem_cons_of_mem _ (List.mem_cons_of_mem _ hm))).2
end Go.Proofs.YtfgeaakhlcaibaaGreatDoor
