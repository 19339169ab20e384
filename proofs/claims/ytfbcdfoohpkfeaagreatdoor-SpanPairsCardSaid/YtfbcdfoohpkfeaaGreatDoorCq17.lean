/- Texts beneath a law of layer 1. -/
import Derived.Test.YtfbcdfoohpkfeaaGreatDoorCq16
set_option maxRecDepth 100000
namespace Go.Proofs.YtfbcdfoohpkfeaaGreatDoor
open Go.RowKit

namespace Sb
theorem Xg {K : Nat} : ∀ {l : List Rat} {x : Rat}, Fw K x → (∀ y ∈ l, Fw K y) → Fw K (fe x l)
 | [], _, h, _ => h
 | y :: l, x, h, hl => by
  refine Xg (l := l) ?_ (fun z hz => hl z (List.mem_cons_of_mem _ hz))
  show Fw K (if ja (y.num * x.den - x.num * y.den) < 0 then y else x)
  split
  ·
   exact hl y List.mem_cons_self
  ·
   exact h
theorem Oc {K : Nat} : ∀ {l : List Rat} {x : Rat}, Fw K x → (∀ y ∈ l, Fw K y) → Fw K (eu x l)
 | [], _, h, _ => h
 | y :: l, x, h, hl => by
  refine Oc (l := l) ?_ (fun z hz => hl z (List.mem_cons_of_mem _ hz))
  show Fw K (if 0 < ja (y.num * x.den - x.num * y.den) then y else x)
  split
  ·
   exact hl y List.mem_cons_self
  ·
   exact h
theorem Uh {n m : Nat} (h1 : n + 1 < m) (h2 : m ≤ 1000000) : wrap64 ((n : Int) + 1 + 1) = ((n + 1 + 1 : Nat) : Int) := (IntWalk.wrap64_in _ om).trans om
theorem Yh {n m : Nat} (h1 : n + 1 < m) (h2 : m ≤ 1000000) : Value.int .i64 (wrap64 ((n : Int) + 1 + 1)) = Value.int .i64 ((n + 1 + 1 : Nat) : Int) := by rw [Uh h1 h2]
theorem Yz {n m : Nat} (h1 : n + 1 < m) : m - (intOf (Value.int .i64 ((n + 1 + 1 : Nat) : Int))).toNat < m - (intOf (Value.int .i64 ((n + 1 : Nat) : Int))).toNat := by
 simp only [intOf]; omega
theorem Gt : ∀ (l : List Rat), lsize (l.map .r) = 4 * l.length
 | [] => rfl
 | x :: l => by rw [List.map_cons, lsize, Gt l, List.length_cons]; simp [Leaf.size]; omega
theorem ayr {ρ : Operand → Value} {w : World} {d : Option Tmp} {x : Operand} {A : Option Addr} {m c : Nat} {ty : TypeId} {pos : String} {af : Array Edge} {gd : Option (Nat × Bool)} (h : ρ x = .slice A m c) :
  (execOp ρ { dst := d, op := .call { callee := .builtin .len, args := #[x], argTypes := #[154] }, type := ty, pos := pos, after := af, guard := gd }).run Tryz.prog w = .ok (.value (.int .i64 m)) w := by
 simp only [execOp, resolve, invoke, h, List.map_toArray, List.map_cons, List.map_nil]
 simp [go_sem, h, Builtin.len_]
theorem awq {Q : Exit → Act → World → Prop} {l : List Oper} {n : Nat} {T : Nat → World → Value → Prop} {G : World → Prop} {al : List Nat} {a0 : Act} {k d : Nat} {ty : TypeId} {pos : String} {af : Array Edge} {gd : Option (Nat × Bool)} {x : Operand} {A : Option Addr} {m c : Nat} (hal : al.contains k = false) (hx : Rg.ni l n T a0 k x (Rg.cz (.slice A m c))) (hT : T k = Rg.cz (.int .i64 m)) :
  Rg.Step Tryz.prog Q l n T G jb al a0 k { dst := some d, op := .call { callee := .builtin .len, args := #[x], argTypes := #[154] }, type := ty, pos := pos, after := af, guard := gd } := by
 intro a w hG hO hN
 exact uh (P := Tryz.prog) (ayr (hx a w hO hN)) ⟨_, rfl, hG, Below.refl _ _, by rw [hT]; rfl, fun h => by rw [hal] at h; cases h⟩
set_option maxHeartbeats 16000000 in
theorem avv {x : Rat} {qs : List Rat} {K : Nat} (sx : Fw K x) (sq : ∀ y ∈ qs, Fw K y) (hm : (x :: qs).length ≤ 1000000) (w : World) (u0 : Value) (h0 : Qh 63 (x :: qs).length ((x :: qs).map .r) w u0) :
  Calls Tryz.prog 108 #[u0] w (nk (bg [.r (fe x qs), .r (eu x qs)]) w) := by
 obtain ⟨b0, rfl, hbx⟩ := h0
 have Oz := hide sx
 have HSQ := hide sq
 have HLEN := hide hm
 have HBX := hide hbx
 clear sx sq hbx hm
 go_enter Tryz.func108, Tryz.ntmps108
 go_upto_region 1 with fail
 have hO := (Own.push (T := 100) (ls := zY) (cs := [.slice none 0 0, .bool false, .slice none 0 0, .bool false, .slice none 0 0, .bool false, .slice none 0 0, .bool false]) (Own.nil w) (jf.vs w [.slice none 0 0, .bool false, .slice none 0 0, .bool false, .slice none 0 0, .bool false, .slice none 0 0, .bool false] rfl) (w.heap.size) rfl)
 generalize w.alloc (.cells #[.slice none 0 0, .bool false, .slice none 0 0, .bool false, .slice none 0 0, .bool false, .slice none 0 0, .bool false] 100) = W0 at *
 have HO := hide hO
 clear hO
 go_upto_region 1 with fail
 go_upto_region 1 with fail
 refine Rg.aat 9 45 (fun _ => 3) (Rg.pick [Rg.cz (.slice (some ⟨b0, 0, none⟩) (x :: qs).length (x :: qs).length), Rg.cz (.pointer (some ⟨b0, 0, none⟩)), bg [.r x], Rg.cz (.slice (some ⟨b0, 0, none⟩) (x :: qs).length (x :: qs).length), Rg.cz (.pointer (some ⟨b0, 0, none⟩)), bg [.r x], bg [.r x, .r x], Yb 100 8 W0.heap.size, Vq 100 [.r x, .r x] W0.heap.size]) (dw w [(w.heap.size, 100, zY)] W0) (EN W0.heap.size 100 [.r x, .r x]) kr kr kr rfl (Rg.iq.pick ⟨(Df _), (Df _), (zn _), (Df _), (Df _), (zn _), (zn _), (Rz), (Uk), trivial⟩) (dw.start (aa HO))
  (Rg.pz (Rg.uw rfl rfl (ry (il rfl (Rg.gm kr rfl))))
   (Rg.pz (Rg.uw rfl rfl (ry (Hd (b := b0) (i := 0) (m := (x :: qs).length) rfl (Rg.ai 0 kr) (Rg.lv _) (by simp) rfl)))
   (Rg.pz (Rg.uw rfl rfl (ry (vw (b := b0) (off := 0) (TB := 63) (pre := []) (mid := [.r x]) (post := qs.map .r) og rfl (Rg.ai 1 kr) (fun W h => (aa HBX).below h.1.bel) rfl rfl rfl)))
   (Rg.pz (Rg.uw rfl rfl (ry (il rfl (Rg.gm kr rfl))))
   (Rg.pz (Rg.uw rfl rfl (ry (Hd (b := b0) (i := 0) (m := (x :: qs).length) rfl (Rg.ai 3 kr) (Rg.lv _) (by simp) rfl)))
   (Rg.pz (Rg.uw rfl rfl (ry (vw (b := b0) (off := 0) (TB := 63) (pre := []) (mid := [.r x]) (post := qs.map .r) og rfl (Rg.ai 4 kr) (fun W h => (aa HBX).below h.1.bel) rfl rfl rfl)))
   (Rg.pz (Rg.uw rfl rfl (ry (Ew aje rfl (Rg.ai 2 kr) (Rg.ai 5 kr) rfl rfl rfl)))
   (Rg.pz (Rg.uw rfl rfl (ry (Xa ads rfl rfl dw.step dw.size rfl)))
   (Rg.pz (Wz (aa HO) Gr (Rg.ai 7 kr) (Rg.ai 6 kr) rfl rfl rfl)
   Rg.Ry))))))))) ?_
 intro v1 V1 hG1 hv1 hne1
 simp only [Rg.puts, ko, kg, jy, jw, Act.put, jr, jq, jo]
 have e0 : v1 0 = .slice (some ⟨b0, 0, none⟩) (x :: qs).length (x :: qs).length := hv1 0 (by decide)
 have e1 : v1 1 = .pointer (some ⟨b0, 0, none⟩) := hv1 1 (by decide)
 have e3 : v1 3 = .slice (some ⟨b0, 0, none⟩) (x :: qs).length (x :: qs).length := hv1 3 (by decide)
 have e4 : v1 4 = .pointer (some ⟨b0, 0, none⟩) := hv1 4 (by decide)
 have e97 : v1 8 = v1 7 := hne1 8 7 (by decide) (by decide) rfl rfl
 obtain ⟨xz, e7, Ol, Uu⟩ := (show Vq 100 [.r x, .r x] W0.heap.size V1 (v1 8) from hv1 8 (by decide))
 rw [e97] at e7
 clear e97
 simp only [e0, e1, e3, e4, e7]
 have hO := Own.add (aa HO) hG1.2 Ol Uu
 clear Ol Uu
 clear HO
 have HO := hide hO
 clear hO hG1 hv1 hne1
 try clear e0 e1 e3 e4 e7
 go_upto_region 2 with fail
 refine Rg.ik 1 45 (Rg.pick [Rg.cz (.int .i64 1)]) (dw w [(xz, 100, [.r x, .r x]), (w.heap.size, 100, zY)] V1) jb [] kr rfl (Rg.iq.pick ⟨Rg.ag _, trivial⟩) (dw.begin (aa HO))
  (ah (ma rfl (Rg.lv _))
  Rg.fq) ?_
 intro v2 V2 hG2 hv2 hne2
 simp only [Rg.puts, ko, kg, jy, jw, Act.put, jr, jq, jo]
 have e0 : v2 0 = .int .i64 1 := hv2 0 (by decide)
 simp only [e0]
 have hO := hG2.1
 clear HO
 have HO := hide hO
 clear hO hG2 hv2 hne2
 try clear e0
 go_wp2_with fail
 go_loopw [4] (fun iv wr => ∃ q1 q2 : List Rat, qs = q1 ++ q2 ∧ iv = .int .i64 (((x :: q1).length : Nat) : Int) ∧ Hid (Own w [(xz, 100, [.r (fe x q1), .r (eu x q1)]), (w.heap.size, 100, zY)] wr)) (fun iv _ => (x :: qs).length - (intOf iv).toNat)
 case atStart => exact ⟨[], qs, rfl, rfl, HO⟩
 case round =>
  obtain ⟨q1, q2, Ef, rfl, HO⟩ := hrel
  rcases q2 with _ | ⟨y, q2⟩
  ·
   have k1 : decide (((x :: q1).length : Int) < ((x :: qs).length : Int)) = false := decide_eq_false (by rw [Ef]; simp)
   rw [List.append_nil] at Ef
   obtain rfl : q1 = qs := Ef.symm
   go_upto_region 3 with fail
   refine Rg.ik 4 45 (Rg.pick [Rg.cz (.int .i64 ((x :: q1).length : Int)), Rg.cz (.slice (some ⟨b0, 0, none⟩) (x :: q1).length (x :: q1).length), Rg.cz (.int .i64 (((x :: q1).length : Nat) : Int)), Rg.cz (.bool false)]) (dw w [(xz, 100, [.r (fe x q1), .r (eu x q1)]), (w.heap.size, 100, zY)] wr) jb [] kr rfl (Rg.iq.pick ⟨Rg.ag _, Rg.ag _, Rg.ag _, Rg.ag _, trivial⟩) (dw.begin (aa HO))
    (ah (il rfl (Rg.gm kr rfl))
    (ah (il rfl (Rg.gm kr rfl))
    (ah (awq rfl (Rg.ai 1 kr) rfl)
    (ah (Em rfl (Rg.ai 0 kr) (Rg.ai 2 kr) rfl k1)
    Rg.fq)))) ?_
   intro v3 V3 hG3 hv3 si
   simp only [Rg.puts, ko, kg, jy, jw, Act.put, jr, jq, jo]
   have e3 : v3 3 = .bool false := hv3 3 (by decide)
   simp only [e3]
   have hO := hG3.1
   clear HO
   have HO := hide hO
   clear hO hG3 hv3 si
   try clear e3
   go_upto_region 9 with fail
   refine Rg.ik 1 45 (Rg.pick [bg [.r (fe x q1), .r (eu x q1)]]) (dw w [(xz, 100, [.r (fe x q1), .r (eu x q1)]), (w.heap.size, 100, zY)] V3) jb [] kr rfl (Rg.iq.pick ⟨cu _, trivial⟩) (dw.begin (aa HO))
    (ah (je Rh me0 (Rg.gm kr rfl) [] [.r (fe x q1), .r (eu x q1)] [])
    Rg.fq) ?_
   intro v4 V4 hG4 hv4 xh
   simp only [Rg.puts, ko, kg, jy, jw, Act.put, jr, jq, jo]
   have hO := hG4.1
   refine nz hO 1 [] zY [.r (fe x q1), .r (eu x q1)] [] rfl Gr rfl (show bg [.r (fe x q1), .r (eu x q1)] V4 (v4 0) from hv4 0 (by decide)) rfl rfl rfl ?_
   intro Mt ji hk0
   replace hO := ji
   clear ji
   clear HO
   have HO := hide hO
   clear hO hG4 hv4 xh hk0
   go_wp2_with fail
   exact Lt Tryz.results108 Nv rfl (aa HO) rf rfl rfl
  ·
   have k1 : decide (((x :: q1).length : Int) < ((x :: qs).length : Int)) = true := decide_eq_true (by rw [Ef]; simp; omega)
   have zu := hide (show (x :: q1).length < (x :: qs).length by rw [Ef]; simp)
   have Ir := hide Ef
   have HY := hide ((aa HSQ) y (by rw [Ef]; simp))
   have Lj := hide (fun z (hz : z ∈ q1) => (aa HSQ) z (by rw [Ef]; exact List.mem_append_left _ hz))
   have hB := (aa HBX)
   rw [Ef, List.map_cons, List.map_append, List.map_cons] at hB
   have HB := hide (show Cm w b0 63 ((x :: q1).map .r ++ ([.r y] ++ q2.map .r)) from hB)
   clear hB Ef
   go_upto_region 3 with fail
   refine Rg.ik 4 45 (Rg.pick [Rg.cz (.int .i64 ((x :: q1).length : Int)), Rg.cz (.slice (some ⟨b0, 0, none⟩) (x :: qs).length (x :: qs).length), Rg.cz (.int .i64 (((x :: qs).length : Nat) : Int)), Rg.cz (.bool true)]) (dw w [(xz, 100, [.r (fe x q1), .r (eu x q1)]), (w.heap.size, 100, zY)] wr) jb [] kr rfl (Rg.iq.pick ⟨Rg.ag _, Rg.ag _, Rg.ag _, Rg.ag _, trivial⟩) (dw.begin (aa HO))
    (ah (il rfl (Rg.gm kr rfl))
    (ah (il rfl (Rg.gm kr rfl))
    (ah (awq rfl (Rg.ai 1 kr) rfl)
    (ah (Em rfl (Rg.ai 0 kr) (Rg.ai 2 kr) rfl k1)
    Rg.fq)))) ?_
   intro v3 V3 hG3 hv3 si
   simp only [Rg.puts, ko, kg, jy, jw, Act.put, jr, jq, jo]
   have e3 : v3 3 = .bool true := hv3 3 (by decide)
   simp only [e3]
   have hO := hG3.1
   clear HO
   have HO := hide hO
   clear hO hG3 hv3 si
   try clear e3
   clear k1
   by_cases g1 : ja (y.num * (fe x q1).den - (fe x q1).num * y.den) < 0
   ·
    have k2 : decide (ja (y.num * (fe x q1).den - (fe x q1).num * y.den) < 0) = true := decide_eq_true g1
    have hm : fe x (q1 ++ [y]) = y := by rw [Px, if_pos g1]
    have HM := hide hm
    clear g1 hm
    go_upto_region 5 with fail
    refine Rg.region 8 45 (Rg.pick [Rg.cz (.slice (some ⟨b0, 0, none⟩) (x :: qs).length (x :: qs).length), Rg.cz (.int .i64 ((x :: q1).length : Int)), Rg.cz (.pointer (some ⟨b0, 4 * (x :: q1).length, none⟩)), bg [.r y], Rg.cz (.pointer (some ⟨xz, 0, none⟩)), bg [.r (fe x q1)], Rg.cz (.int .i64 (ja (y.num * (fe x q1).den - (fe x q1).num * y.den))), Rg.cz (.bool true)]) (dw w [(xz, 100, [.r (fe x q1), .r (eu x q1)]), (w.heap.size, 100, zY)] V3) jb [] kr kr rfl (Rg.iq.pick ⟨Rg.ag _, Rg.ag _, Rg.ag _, cu _, Rg.ag _, cu _, Rg.ag _, Rg.ag _, trivial⟩) (dw.start (aa HO))
     (ah (il rfl (Rg.gm kr rfl))
     (ah (il rfl (Rg.gm kr rfl))
     (ah (Hd (b := b0) (i := (x :: q1).length) (m := (x :: qs).length) rfl (Rg.ai 0 kr) (Rg.ai 1 kr) (aa zu) rfl)
     (ah (vw (b := b0) (off := 4 * (x :: q1).length) (TB := 63) (pre := (x :: q1).map .r) (mid := [.r y]) (post := q2.map .r) og rfl (Rg.ai 2 kr) (fun W h => (aa HB).below h.1.bel) (Gt _) rfl rfl)
     (ah (xc (b := xz) (off := 0) rfl (Rg.gm kr rfl) rfl rfl)
     (ah (je og me0 (Rg.ai 4 kr) [] [.r (fe x q1)] [.r (eu x q1)])
     (ah (ll Tryz.func71 kr rfl dw.step (Rg.ai 3 kr) (Rg.ai 5 kr) (fun W v0 v1 hG h0 h1 => Cb (aa HY) (Xg (aa Oz) (aa Lj)) h0 h1))
     (ah (Em rfl (Rg.ai 6 kr) (Rg.lv _) rfl k2)
     Rg.fq)))))))) ?_
    intro v4 V4 hG4 hv4 xh
    simp only [Rg.puts, ko, kg, jy, jw, Act.put, jr, jq, jo]
    have e7 : v4 7 = .bool true := hv4 7 (by decide)
    simp only [e7]
    have hO := hG4.1
    clear HO
    have HO := hide hO
    clear hO hG4 hv4 xh
    try clear e7
    clear k2
    go_upto_region 6 with fail
    refine Rg.ik 5 45 (Rg.pick [Rg.cz (.slice (some ⟨b0, 0, none⟩) (x :: qs).length (x :: qs).length), Rg.cz (.int .i64 ((x :: q1).length : Int)), Rg.cz (.pointer (some ⟨b0, 4 * (x :: q1).length, none⟩)), bg [.r y], Rg.cz (.pointer (some ⟨xz, 0, none⟩))]) (dw w [(xz, 100, [.r (fe x q1), .r (eu x q1)]), (w.heap.size, 100, zY)] V4) jb [] kr rfl (Rg.iq.pick ⟨Rg.ag _, Rg.ag _, Rg.ag _, cu _, Rg.ag _, trivial⟩) (dw.begin (aa HO))
     (ah (il rfl (Rg.gm kr rfl))
     (ah (il rfl (Rg.gm kr rfl))
     (ah (Hd (b := b0) (i := (x :: q1).length) (m := (x :: qs).length) rfl (Rg.ai 0 kr) (Rg.ai 1 kr) (aa zu) rfl)
     (ah (vw (b := b0) (off := 4 * (x :: q1).length) (TB := 63) (pre := (x :: q1).map .r) (mid := [.r y]) (post := q2.map .r) og rfl (Rg.ai 2 kr) (fun W h => (aa HB).below h.1.bel) (Gt _) rfl rfl)
     (ah (xc (b := xz) (off := 0) rfl (Rg.gm kr rfl) rfl rfl)
     Rg.fq))))) ?_
    intro v5 V5 zo hv5 hne5
    simp only [Rg.puts, ko, kg, jy, jw, Act.put, jr, jq, jo]
    have e4 : v5 4 = .pointer (some ⟨xz, 0, none⟩) := hv5 4 (by decide)
    simp only [e4]
    have hO := zo.1
    refine nz hO 0 [] [.r (fe x q1)] [.r y] [.r (eu x q1)] rfl Np rfl (show bg [.r y] V5 (v5 3) from hv5 3 (by decide)) rfl rfl rfl ?_
    intro Lh ji hk0
    replace hO := ji
    clear ji
    clear HO
    have HO := hide hO
    clear hO zo hv5 hne5 hk0
    try clear e4
    by_cases g3 : 0 < ja (y.num * (eu x q1).den - (eu x q1).num * y.den)
    ·
     have k3 : decide (0 < ja (y.num * (eu x q1).den - (eu x q1).num * y.den)) = true := decide_eq_true g3
     have hx : eu x (q1 ++ [y]) = y := by rw [Gc, if_pos g3]
     have HX := hide hx
     clear g3 hx
     go_upto_region 7 with fail
     refine Rg.region 8 45 (Rg.pick [Rg.cz (.slice (some ⟨b0, 0, none⟩) (x :: qs).length (x :: qs).length), Rg.cz (.int .i64 ((x :: q1).length : Int)), Rg.cz (.pointer (some ⟨b0, 4 * (x :: q1).length, none⟩)), bg [.r y], Rg.cz (.pointer (some ⟨xz, 4, none⟩)), bg [.r (eu x q1)], Rg.cz (.int .i64 (ja (y.num * (eu x q1).den - (eu x q1).num * y.den))), Rg.cz (.bool true)]) (dw w [(xz, 100, [.r y, .r (eu x q1)]), (w.heap.size, 100, zY)] Lh) jb [] kr kr rfl (Rg.iq.pick ⟨Rg.ag _, Rg.ag _, Rg.ag _, cu _, Rg.ag _, cu _, Rg.ag _, Rg.ag _, trivial⟩) (dw.start (aa HO))
      (ah (il rfl (Rg.gm kr rfl))
      (ah (il rfl (Rg.gm kr rfl))
      (ah (Hd (b := b0) (i := (x :: q1).length) (m := (x :: qs).length) rfl (Rg.ai 0 kr) (Rg.ai 1 kr) (aa zu) rfl)
      (ah (vw (b := b0) (off := 4 * (x :: q1).length) (TB := 63) (pre := (x :: q1).map .r) (mid := [.r y]) (post := q2.map .r) og rfl (Rg.ai 2 kr) (fun W h => (aa HB).below h.1.bel) (Gt _) rfl rfl)
      (ah (sw (b := xz) (off := 0) rfl (Rg.gm kr rfl) rfl rfl)
      (ah (je og me0 (Rg.ai 4 kr) [.r y] [.r (eu x q1)] [])
      (ah (ll Tryz.func71 kr rfl dw.step (Rg.ai 3 kr) (Rg.ai 5 kr) (fun W v0 v1 hG h0 h1 => Cb (aa HY) (Oc (aa Oz) (aa Lj)) h0 h1))
      (ah (Fb rfl (Rg.ai 6 kr) (Rg.lv _) rfl k3)
      Rg.fq)))))))) ?_
     intro v6 V6 Hl hv6 Jb
     simp only [Rg.puts, ko, kg, jy, jw, Act.put, jr, jq, jo]
     have e7 : v6 7 = .bool true := hv6 7 (by decide)
     simp only [e7]
     have hO := Hl.1
     clear HO
     have HO := hide hO
     clear hO Hl hv6 Jb
     try clear e7
     clear k3
     go_upto_region 8 with fail
     refine Rg.ik 5 45 (Rg.pick [Rg.cz (.slice (some ⟨b0, 0, none⟩) (x :: qs).length (x :: qs).length), Rg.cz (.int .i64 ((x :: q1).length : Int)), Rg.cz (.pointer (some ⟨b0, 4 * (x :: q1).length, none⟩)), bg [.r y], Rg.cz (.pointer (some ⟨xz, 4, none⟩))]) (dw w [(xz, 100, [.r y, .r (eu x q1)]), (w.heap.size, 100, zY)] V6) jb [] kr rfl (Rg.iq.pick ⟨Rg.ag _, Rg.ag _, Rg.ag _, cu _, Rg.ag _, trivial⟩) (dw.begin (aa HO))
      (ah (il rfl (Rg.gm kr rfl))
      (ah (il rfl (Rg.gm kr rfl))
      (ah (Hd (b := b0) (i := (x :: q1).length) (m := (x :: qs).length) rfl (Rg.ai 0 kr) (Rg.ai 1 kr) (aa zu) rfl)
      (ah (vw (b := b0) (off := 4 * (x :: q1).length) (TB := 63) (pre := (x :: q1).map .r) (mid := [.r y]) (post := q2.map .r) og rfl (Rg.ai 2 kr) (fun W h => (aa HB).below h.1.bel) (Gt _) rfl rfl)
      (ah (sw (b := xz) (off := 0) rfl (Rg.gm kr rfl) rfl rfl)
      Rg.fq))))) ?_
     intro v7 V7 hG7 hv7 afu
     simp only [Rg.puts, ko, kg, jy, jw, Act.put, jr, jq, jo]
     have e4 : v7 4 = .pointer (some ⟨xz, 4, none⟩) := hv7 4 (by decide)
     simp only [e4]
     have hO := hG7.1
     refine nz hO 0 [.r y] [.r (eu x q1)] [.r y] [] rfl Np rfl (show bg [.r y] V7 (v7 3) from hv7 3 (by decide)) rfl rfl rfl ?_
     intro bkb ji hk0
     replace hO := ji
     clear ji
     clear HO
     have HO := hide hO
     clear hO hG7 hv7 afu hk0
     try clear e4
     go_wp2_with fail
     go_roundw
     case rel =>
      have h1 : q1.length + 1 < (x :: qs).length := aa zu
      have h2 := aa HLEN
      refine ⟨q1 ++ [y], q2, by rw [aa Ir]; simp, by rw [show (x :: (q1 ++ [y])).length = q1.length + 1 + 1 by simp]; exact Yh h1 h2, hide ?_⟩
      rw [aa HM, aa HX]
      exact aa HO
     case measure =>
      have h1 : q1.length + 1 < (x :: qs).length := aa zu
      have h2 := aa HLEN
      clear HO Ir HB
      rw [Uh h1 h2]
      exact Yz h1
    ·
     have k3 : decide (0 < ja (y.num * (eu x q1).den - (eu x q1).num * y.den)) = false := decide_eq_false g3
     have hx : eu x (q1 ++ [y]) = eu x q1 := by rw [Gc, if_neg g3]
     have HX := hide hx
     clear g3 hx
     go_upto_region 7 with fail
     refine Rg.region 8 45 (Rg.pick [Rg.cz (.slice (some ⟨b0, 0, none⟩) (x :: qs).length (x :: qs).length), Rg.cz (.int .i64 ((x :: q1).length : Int)), Rg.cz (.pointer (some ⟨b0, 4 * (x :: q1).length, none⟩)), bg [.r y], Rg.cz (.pointer (some ⟨xz, 4, none⟩)), bg [.r (eu x q1)], Rg.cz (.int .i64 (ja (y.num * (eu x q1).den - (eu x q1).num * y.den))), Rg.cz (.bool false)]) (dw w [(xz, 100, [.r y, .r (eu x q1)]), (w.heap.size, 100, zY)] Lh) jb [] kr kr rfl (Rg.iq.pick ⟨Rg.ag _, Rg.ag _, Rg.ag _, cu _, Rg.ag _, cu _, Rg.ag _, Rg.ag _, trivial⟩) (dw.start (aa HO))
      (ah (il rfl (Rg.gm kr rfl))
      (ah (il rfl (Rg.gm kr rfl))
      (ah (Hd (b := b0) (i := (x :: q1).length) (m := (x :: qs).length) rfl (Rg.ai 0 kr) (Rg.ai 1 kr) (aa zu) rfl)
      (ah (vw (b := b0) (off := 4 * (x :: q1).length) (TB := 63) (pre := (x :: q1).map .r) (mid := [.r y]) (post := q2.map .r) og rfl (Rg.ai 2 kr) (fun W h => (aa HB).below h.1.bel) (Gt _) rfl rfl)
      (ah (sw (b := xz) (off := 0) rfl (Rg.gm kr rfl) rfl rfl)
      (ah (je og me0 (Rg.ai 4 kr) [.r y] [.r (eu x q1)] [])
      (ah (ll Tryz.func71 kr rfl dw.step (Rg.ai 3 kr) (Rg.ai 5 kr) (fun W v0 v1 hG h0 h1 => Cb (aa HY) (Oc (aa Oz) (aa Lj)) h0 h1))
      (ah (Fb rfl (Rg.ai 6 kr) (Rg.lv _) rfl k3)
      Rg.fq)))))))) ?_
     intro v6 V6 Hl hv6 Jb
     simp only [Rg.puts, ko, kg, jy, jw, Act.put, jr, jq, jo]
     have e7 : v6 7 = .bool false := hv6 7 (by decide)
     simp only [e7]
     have hO := Hl.1
     clear HO
     have HO := hide hO
     clear hO Hl hv6 Jb
     try clear e7
     clear k3
     go_wp2_with fail
     go_roundw
     case rel =>
      have h1 : q1.length + 1 < (x :: qs).length := aa zu
      have h2 := aa HLEN
      refine ⟨q1 ++ [y], q2, by rw [aa Ir]; simp, by rw [show (x :: (q1 ++ [y])).length = q1.length + 1 + 1 by simp]; exact Yh h1 h2, hide ?_⟩
      rw [aa HM, aa HX]
      exact aa HO
     case measure =>
      have h1 : q1.length + 1 < (x :: qs).length := aa zu
      have h2 := aa HLEN
      clear HO Ir HB
      rw [Uh h1 h2]
      exact Yz h1
   ·
    have k2 : decide (ja (y.num * (fe x q1).den - (fe x q1).num * y.den) < 0) = false := decide_eq_false g1
    have hm : fe x (q1 ++ [y]) = fe x q1 := by rw [Px, if_neg g1]
    have HM := hide hm
    clear g1 hm
    go_upto_region 5 with fail
    refine Rg.region 8 45 (Rg.pick [Rg.cz (.slice (some ⟨b0, 0, none⟩) (x :: qs).length (x :: qs).length), Rg.cz (.int .i64 ((x :: q1).length : Int)), Rg.cz (.pointer (some ⟨b0, 4 * (x :: q1).length, none⟩)), bg [.r y], Rg.cz (.pointer (some ⟨xz, 0, none⟩)), bg [.r (fe x q1)], Rg.cz (.int .i64 (ja (y.num * (fe x q1).den - (fe x q1).num * y.den))), Rg.cz (.bool false)]) (dw w [(xz, 100, [.r (fe x q1), .r (eu x q1)]), (w.heap.size, 100, zY)] V3) jb [] kr kr rfl (Rg.iq.pick ⟨Rg.ag _, Rg.ag _, Rg.ag _, cu _, Rg.ag _, cu _, Rg.ag _, Rg.ag _, trivial⟩) (dw.start (aa HO))
     (ah (il rfl (Rg.gm kr rfl))
     (ah (il rfl (Rg.gm kr rfl))
     (ah (Hd (b := b0) (i := (x :: q1).length) (m := (x :: qs).length) rfl (Rg.ai 0 kr) (Rg.ai 1 kr) (aa zu) rfl)
     (ah (vw (b := b0) (off := 4 * (x :: q1).length) (TB := 63) (pre := (x :: q1).map .r) (mid := [.r y]) (post := q2.map .r) og rfl (Rg.ai 2 kr) (fun W h => (aa HB).below h.1.bel) (Gt _) rfl rfl)
     (ah (xc (b := xz) (off := 0) rfl (Rg.gm kr rfl) rfl rfl)
     (ah (je og me0 (Rg.ai 4 kr) [] [.r (fe x q1)] [.r (eu x q1)])
     (ah (ll Tryz.func71 kr rfl dw.step (Rg.ai 3 kr) (Rg.ai 5 kr) (fun W v0 v1 hG h0 h1 => Cb (aa HY) (Xg (aa Oz) (aa Lj)) h0 h1))
     (ah (Em rfl (Rg.ai 6 kr) (Rg.lv _) rfl k2)
     Rg.fq)))))))) ?_
    intro v4 V4 hG4 hv4 xh
    simp only [Rg.puts, ko, kg, jy, jw, Act.put, jr, jq, jo]
    have e7 : v4 7 = .bool false := hv4 7 (by decide)
    simp only [e7]
    have hO := hG4.1
    clear HO
    have HO := hide hO
    clear hO hG4 hv4 xh
    try clear e7
    clear k2
    by_cases g3 : 0 < ja (y.num * (eu x q1).den - (eu x q1).num * y.den)
    ·
     have k3 : decide (0 < ja (y.num * (eu x q1).den - (eu x q1).num * y.den)) = true := decide_eq_true g3
     have hx : eu x (q1 ++ [y]) = y := by rw [Gc, if_pos g3]
     have HX := hide hx
     clear g3 hx
     go_upto_region 7 with fail
     refine Rg.region 8 45 (Rg.pick [Rg.cz (.slice (some ⟨b0, 0, none⟩) (x :: qs).length (x :: qs).length), Rg.cz (.int .i64 ((x :: q1).length : Int)), Rg.cz (.pointer (some ⟨b0, 4 * (x :: q1).length, none⟩)), bg [.r y], Rg.cz (.pointer (some ⟨xz, 4, none⟩)), bg [.r (eu x q1)], Rg.cz (.int .i64 (ja (y.num * (eu x q1).den - (eu x q1).num * y.den))), Rg.cz (.bool true)]) (dw w [(xz, 100, [.r (fe x q1), .r (eu x q1)]), (w.heap.size, 100, zY)] V4) jb [] kr kr rfl (Rg.iq.pick ⟨Rg.ag _, Rg.ag _, Rg.ag _, cu _, Rg.ag _, cu _, Rg.ag _, Rg.ag _, trivial⟩) (dw.start (aa HO))
      (ah (il rfl (Rg.gm kr rfl))
      (ah (il rfl (Rg.gm kr rfl))
      (ah (Hd (b := b0) (i := (x :: q1).length) (m := (x :: qs).length) rfl (Rg.ai 0 kr) (Rg.ai 1 kr) (aa zu) rfl)
      (ah (vw (b := b0) (off := 4 * (x :: q1).length) (TB := 63) (pre := (x :: q1).map .r) (mid := [.r y]) (post := q2.map .r) og rfl (Rg.ai 2 kr) (fun W h => (aa HB).below h.1.bel) (Gt _) rfl rfl)
      (ah (sw (b := xz) (off := 0) rfl (Rg.gm kr rfl) rfl rfl)
      (ah (je og me0 (Rg.ai 4 kr) [.r (fe x q1)] [.r (eu x q1)] [])
      (ah (ll Tryz.func71 kr rfl dw.step (Rg.ai 3 kr) (Rg.ai 5 kr) (fun W v0 v1 hG h0 h1 => Cb (aa HY) (Oc (aa Oz) (aa Lj)) h0 h1))
      (ah (Fb rfl (Rg.ai 6 kr) (Rg.lv _) rfl k3)
      Rg.fq)))))))) ?_
     intro v5 V5 zo hv5 hne5
     simp only [Rg.puts, ko, kg, jy, jw, Act.put, jr, jq, jo]
     have e7 : v5 7 = .bool true := hv5 7 (by decide)
     simp only [e7]
     have hO := zo.1
     clear HO
     have HO := hide hO
     clear hO zo hv5 hne5
     try clear e7
     clear k3
     go_upto_region 8 with fail
     refine Rg.ik 5 45 (Rg.pick [Rg.cz (.slice (some ⟨b0, 0, none⟩) (x :: qs).length (x :: qs).length), Rg.cz (.int .i64 ((x :: q1).length : Int)), Rg.cz (.pointer (some ⟨b0, 4 * (x :: q1).length, none⟩)), bg [.r y], Rg.cz (.pointer (some ⟨xz, 4, none⟩))]) (dw w [(xz, 100, [.r (fe x q1), .r (eu x q1)]), (w.heap.size, 100, zY)] V5) jb [] kr rfl (Rg.iq.pick ⟨Rg.ag _, Rg.ag _, Rg.ag _, cu _, Rg.ag _, trivial⟩) (dw.begin (aa HO))
      (ah (il rfl (Rg.gm kr rfl))
      (ah (il rfl (Rg.gm kr rfl))
      (ah (Hd (b := b0) (i := (x :: q1).length) (m := (x :: qs).length) rfl (Rg.ai 0 kr) (Rg.ai 1 kr) (aa zu) rfl)
      (ah (vw (b := b0) (off := 4 * (x :: q1).length) (TB := 63) (pre := (x :: q1).map .r) (mid := [.r y]) (post := q2.map .r) og rfl (Rg.ai 2 kr) (fun W h => (aa HB).below h.1.bel) (Gt _) rfl rfl)
      (ah (sw (b := xz) (off := 0) rfl (Rg.gm kr rfl) rfl rfl)
      Rg.fq))))) ?_
     intro v6 V6 Hl hv6 Jb
     simp only [Rg.puts, ko, kg, jy, jw, Act.put, jr, jq, jo]
     have e4 : v6 4 = .pointer (some ⟨xz, 4, none⟩) := hv6 4 (by decide)
     simp only [e4]
     have hO := Hl.1
     refine nz hO 0 [.r (fe x q1)] [.r (eu x q1)] [.r y] [] rfl Np rfl (show bg [.r y] V6 (v6 3) from hv6 3 (by decide)) rfl rfl rfl ?_
     intro bdv ji hk0
     replace hO := ji
     clear ji
     clear HO
     have HO := hide hO
     clear hO Hl hv6 Jb hk0
     try clear e4
     go_wp2_with fail
     go_roundw
     case rel =>
      have h1 : q1.length + 1 < (x :: qs).length := aa zu
      have h2 := aa HLEN
      refine ⟨q1 ++ [y], q2, by rw [aa Ir]; simp, by rw [show (x :: (q1 ++ [y])).length = q1.length + 1 + 1 by simp]; exact Yh h1 h2, hide ?_⟩
      rw [aa HM, aa HX]
      exact aa HO
     case measure =>
      have h1 : q1.length + 1 < (x :: qs).length := aa zu
      have h2 := aa HLEN
      clear HO Ir HB
      rw [Uh h1 h2]
      exact Yz h1
    ·
     have k3 : decide (0 < ja (y.num * (eu x q1).den - (eu x q1).num * y.den)) = false := decide_eq_false g3
     have hx : eu x (q1 ++ [y]) = eu x q1 := by rw [Gc, if_neg g3]
     have HX := hide hx
     clear g3 hx
     go_upto_region 7 with fail
     refine Rg.region 8 45 (Rg.pick [Rg.cz (.slice (some ⟨b0, 0, none⟩) (x :: qs).length (x :: qs).length), Rg.cz (.int .i64 ((x :: q1).length : Int)), Rg.cz (.pointer (some ⟨b0, 4 * (x :: q1).length, none⟩)), bg [.r y], Rg.cz (.pointer (some ⟨xz, 4, none⟩)), bg [.r (eu x q1)], Rg.cz (.int .i64 (ja (y.num * (eu x q1).den - (eu x q1).num * y.den))), Rg.cz (.bool false)]) (dw w [(xz, 100, [.r (fe x q1), .r (eu x q1)]), (w.heap.size, 100, zY)] V4) jb [] kr kr rfl (Rg.iq.pick ⟨Rg.ag _, Rg.ag _, Rg.ag _, cu _, Rg.ag _, cu _, Rg.ag _, Rg.ag _, trivial⟩) (dw.start (aa HO))
      (ah (il rfl (Rg.gm kr rfl))
      (ah (il rfl (Rg.gm kr rfl))
      (ah (Hd (b := b0) (i := (x :: q1).length) (m := (x :: qs).length) rfl (Rg.ai 0 kr) (Rg.ai 1 kr) (aa zu) rfl)
      (ah (vw (b := b0) (off := 4 * (x :: q1).length) (TB := 63) (pre := (x :: q1).map .r) (mid := [.r y]) (post := q2.map .r) og rfl (Rg.ai 2 kr) (fun W h => (aa HB).below h.1.bel) (Gt _) rfl rfl)
      (ah (sw (b := xz) (off := 0) rfl (Rg.gm kr rfl) rfl rfl)
      (ah (je og me0 (Rg.ai 4 kr) [.r (fe x q1)] [.r (eu x q1)] [])
      (ah (ll Tryz.func71 kr rfl dw.step (Rg.ai 3 kr) (Rg.ai 5 kr) (fun W v0 v1 hG h0 h1 => Cb (aa HY) (Oc (aa Oz) (aa Lj)) h0 h1))
      (ah (Fb rfl (Rg.ai 6 kr) (Rg.lv _) rfl k3)
      Rg.fq)))))))) ?_
     intro v5 V5 zo hv5 hne5
     simp only [Rg.puts, ko, kg, jy, jw, Act.put, jr, jq, jo]
     have e7 : v5 7 = .bool false := hv5 7 (by decide)
     simp only [e7]
     have hO := zo.1
     clear HO
     have HO := hide hO
     clear hO zo hv5 hne5
     try clear e7
     clear k3
     go_wp2_with fail
     go_roundw
     case rel =>
      have h1 : q1.length + 1 < (x :: qs).length := aa zu
      have h2 := aa HLEN
      refine ⟨q1 ++ [y], q2, by rw [aa Ir]; simp, by rw [show (x :: (q1 ++ [y])).length = q1.length + 1 + 1 by simp]; exact Yh h1 h2, hide ?_⟩
      rw [aa HM, aa HX]
      exact aa HO
     case measure =>
      have h1 : q1.length + 1 < (x :: qs).length := aa zu
      have h2 := aa HLEN
      clear HO Ir HB
      rw [Uh h1 h2]
      exact Yz h1
set_option maxHeartbeats 16000000 in
theorem avw {x y v : Rat} {K : Nat} (sx : Fw K x) (sy : Fw K y) (sv : Fw K v) (w : World) (u0 : Value) (h0 : bg [.r x, .r y] w u0) (u1 : Value) (h1 : bg [.r v] w u1) :
  Calls Tryz.prog 90 #[u0, u1] w (nk (Rg.cz (.bool (decide (ja (x.num * v.den - v.num * x.den) ≤ 0 ∧ 0 ≤ ja (y.num * v.den - v.num * y.den))))) w) := by
 obtain ⟨rr, hrr⟩ : ∃ rr, rr = decide (ja (x.num * v.den - v.num * x.den) ≤ 0 ∧ 0 ≤ ja (y.num * v.den - v.num * y.den)) := ⟨_, rfl⟩
 rw [← hrr]
 have HR := hide hrr
 have HS := hide (And.intro sx (And.intro sy sv))
 clear hrr sx sy sv
 obtain ⟨Ck, c0a, Ci, m0a, B0a, d0a, k0a, Ch, Ea, c0b, Du, m0b, B0b, d0b, k0b, Dr, rfl, f0a, Iq⟩ := aac h0
 obtain ⟨Bg, c1a, Bf, Mx, B1a, d1a, k1a, Fq, rfl, f1a⟩ := ady h1
 go_enter Tryz.func90, Tryz.ntmps90
 go_upto_region 1 with fail
 have hO := (Own.push (T := 63) (ls := [.r v]) (cs := [.slice Bg (List.length Bf) c1a, .bool Mx, .slice B1a (List.length k1a) d1a, .bool Fq]) (Own.push (T := 100) (ls := [.r x, .r y]) (cs := [.slice Ck (List.length Ci) c0a, .bool m0a, .slice B0a (List.length k0a) d0a, .bool Ch, .slice Ea (List.length Du) c0b, .bool m0b, .slice B0b (List.length k0b) d0b, .bool Dr]) (Own.nil w) (jf.r f0a (jf.r Iq rfl)) (w.heap.size) rfl) (((jf.r f1a rfl) : jf w [.r v] [.slice Bg (List.length Bf) c1a, .bool Mx, .slice B1a (List.length k1a) d1a, .bool Fq]).below (by repeat (first | exact Below.refl _ _ | refine jk ?_ _))) (w.heap.size + 1) (by simp only [World.size_alloc]))
 generalize (w.alloc (.cells #[.slice Ck (List.length Ci) c0a, .bool m0a, .slice B0a (List.length k0a) d0a, .bool Ch, .slice Ea (List.length Du) c0b, .bool m0b, .slice B0b (List.length k0b) d0b, .bool Dr] 100)).alloc (.cells #[.slice Bg (List.length Bf) c1a, .bool Mx, .slice B1a (List.length k1a) d1a, .bool Fq] 63) = W0 at *
 have HO := hide hO
 clear hO
 by_cases g1 : ja (x.num * v.den - v.num * x.den) ≤ 0
 ·
  by_cases g2 : 0 ≤ ja (y.num * v.den - v.num * y.den)
  ·
   have k1 : decide (ja (x.num * v.den - v.num * x.den) ≤ 0) = true := decide_eq_true g1
   have k2 : decide (0 ≤ ja (y.num * v.den - v.num * y.den)) = true := decide_eq_true g2
   have hr : rr = true := by rw [aa HR]; exact decide_eq_true ⟨g1, g2⟩
   subst hr
   clear HR g1 g2
   go_upto_region 1 with fail
   refine Rg.ik 13 17 (Rg.pick [Rg.cz (.pointer (some ⟨w.heap.size, 0, none⟩)), bg [.r x], bg [.r v], Rg.cz (.int .i64 (ja (x.num * v.den - v.num * x.den))), Rg.cz (.bool true), Rg.cz (.bool true), Rg.cz (.pointer (some ⟨w.heap.size, 4, none⟩)), bg [.r y], bg [.r v], Rg.cz (.int .i64 (ja (y.num * v.den - v.num * y.den))), Rg.cz (.bool true), Rg.cz (.bool true), Rg.cz (.bool true)]) (dw w [(w.heap.size + 1, 63, [.r v]), (w.heap.size, 100, [.r x, .r y])] W0) jb [] kr rfl (Rg.iq.pick ⟨Rg.ag _, cu _, cu _, Rg.ag _, Rg.ag _, Rg.ag _, Rg.ag _, cu _, cu _, Rg.ag _, Rg.ag _, Rg.ag _, Rg.ag _, trivial⟩) (dw.begin (aa HO))
    (ah (xc (b := w.heap.size) (off := 0) rfl (Rg.gm kr rfl) rfl rfl)
    (ah (je og rf (Rg.ai 0 kr) [] [.r x] [.r y])
    (ah (je og me0 (Rg.gm kr rfl) [] [.r v] [])
    (ah (ll Tryz.func71 kr rfl dw.step (Rg.ai 1 kr) (Rg.ai 2 kr) (fun W v0 v1 hG h0 h1 => Cb (aa HS).1 (aa HS).2.2 h0 h1))
    (ah (Gg rfl (Rg.ai 3 kr) (Rg.lv _) rfl k1)
    (ah (il rfl (Rg.ai 4 kr))
    (Rg.dz (Rg.iy (d := 10) rfl kr rfl (sw (b := w.heap.size) (off := 0) rfl (Rg.gm kr rfl) rfl rfl))
    (Rg.dz (Rg.iy (d := 10) rfl kr rfl (je og rf (Rg.ai 6 kr) [.r x] [.r y] []))
    (Rg.dz (Rg.iy (d := 10) rfl kr rfl (je og me0 (Rg.gm kr rfl) [] [.r v] []))
    (Rg.dz (Rg.iy (d := 10) rfl kr rfl (ll Tryz.func71 kr rfl dw.step (Rg.ai 7 kr) (Rg.ai 8 kr) (fun W v0 v1 hG h0 h1 => Cb (aa HS).2.1 (aa HS).2.2 h0 h1)))
    (Rg.dz (Rg.iy (d := 10) rfl kr rfl (awr rfl (Rg.ai 9 kr) (Rg.lv _) rfl k2))
    (ah (xw rfl (Rg.ai 5 kr) (Rg.ai 10 kr))
    (ah (ma rfl (Rg.ai 11 kr))
    Rg.fq))))))))))))) ?_
   intro v1 V1 hG1 hv1 hne1
   simp only [Rg.puts, ko, kg, jy, jw, Act.put, jr, jq, jo]
   have e11 : v1 11 = .bool true := hv1 11 (by decide)
   have e12 : v1 12 = .bool true := hv1 12 (by decide)
   simp only [e11, e12]
   have hO := hG1.1
   clear HO
   have HO := hide hO
   clear hO hG1 hv1 hne1
   try clear e11 e12
   go_wp2_with fail
   exact Cw Tryz.results90 rfl (aa HO).bel rfl
  ·
   have k1 : decide (ja (x.num * v.den - v.num * x.den) ≤ 0) = true := decide_eq_true g1
   have k2 : decide (0 ≤ ja (y.num * v.den - v.num * y.den)) = false := decide_eq_false g2
   have hr : rr = false := by rw [aa HR]; exact decide_eq_false (fun h => g2 h.2)
   subst hr
   clear HR g1 g2
   go_upto_region 1 with fail
   refine Rg.ik 13 17 (Rg.pick [Rg.cz (.pointer (some ⟨w.heap.size, 0, none⟩)), bg [.r x], bg [.r v], Rg.cz (.int .i64 (ja (x.num * v.den - v.num * x.den))), Rg.cz (.bool true), Rg.cz (.bool true), Rg.cz (.pointer (some ⟨w.heap.size, 4, none⟩)), bg [.r y], bg [.r v], Rg.cz (.int .i64 (ja (y.num * v.den - v.num * y.den))), Rg.cz (.bool false), Rg.cz (.bool false), Rg.cz (.bool false)]) (dw w [(w.heap.size + 1, 63, [.r v]), (w.heap.size, 100, [.r x, .r y])] W0) jb [] kr rfl (Rg.iq.pick ⟨Rg.ag _, cu _, cu _, Rg.ag _, Rg.ag _, Rg.ag _, Rg.ag _, cu _, cu _, Rg.ag _, Rg.ag _, Rg.ag _, Rg.ag _, trivial⟩) (dw.begin (aa HO))
    (ah (xc (b := w.heap.size) (off := 0) rfl (Rg.gm kr rfl) rfl rfl)
    (ah (je og rf (Rg.ai 0 kr) [] [.r x] [.r y])
    (ah (je og me0 (Rg.gm kr rfl) [] [.r v] [])
    (ah (ll Tryz.func71 kr rfl dw.step (Rg.ai 1 kr) (Rg.ai 2 kr) (fun W v0 v1 hG h0 h1 => Cb (aa HS).1 (aa HS).2.2 h0 h1))
    (ah (Gg rfl (Rg.ai 3 kr) (Rg.lv _) rfl k1)
    (ah (il rfl (Rg.ai 4 kr))
    (Rg.dz (Rg.iy (d := 10) rfl kr rfl (sw (b := w.heap.size) (off := 0) rfl (Rg.gm kr rfl) rfl rfl))
    (Rg.dz (Rg.iy (d := 10) rfl kr rfl (je og rf (Rg.ai 6 kr) [.r x] [.r y] []))
    (Rg.dz (Rg.iy (d := 10) rfl kr rfl (je og me0 (Rg.gm kr rfl) [] [.r v] []))
    (Rg.dz (Rg.iy (d := 10) rfl kr rfl (ll Tryz.func71 kr rfl dw.step (Rg.ai 7 kr) (Rg.ai 8 kr) (fun W v0 v1 hG h0 h1 => Cb (aa HS).2.1 (aa HS).2.2 h0 h1)))
    (Rg.dz (Rg.iy (d := 10) rfl kr rfl (awr rfl (Rg.ai 9 kr) (Rg.lv _) rfl k2))
    (ah (xw rfl (Rg.ai 5 kr) (Rg.ai 10 kr))
    (ah (ma rfl (Rg.ai 11 kr))
    Rg.fq))))))))))))) ?_
   intro v1 V1 hG1 hv1 hne1
   simp only [Rg.puts, ko, kg, jy, jw, Act.put, jr, jq, jo]
   have e11 : v1 11 = .bool false := hv1 11 (by decide)
   have e12 : v1 12 = .bool false := hv1 12 (by decide)
   simp only [e11, e12]
   have hO := hG1.1
   clear HO
   have HO := hide hO
   clear hO hG1 hv1 hne1
   try clear e11 e12
   go_wp2_with fail
   exact Cw Tryz.results90 rfl (aa HO).bel rfl
 ·
  have k1 : decide (ja (x.num * v.den - v.num * x.den) ≤ 0) = false := decide_eq_false g1
  have hr : rr = false := by rw [aa HR]; exact decide_eq_false (fun h => g1 h.1)
  subst hr
  clear HR g1
  go_upto_region 1 with fail
  refine Rg.ik 13 17 (Rg.pick [Rg.cz (.pointer (some ⟨w.heap.size, 0, none⟩)), bg [.r x], bg [.r v], Rg.cz (.int .i64 (ja (x.num * v.den - v.num * x.den))), Rg.cz (.bool false), Rg.cz (.bool false), Rg.cz undef, Rg.cz undef, Rg.cz undef, Rg.cz undef, Rg.cz undef, Rg.cz (.bool false), Rg.cz (.bool false)]) (dw w [(w.heap.size + 1, 63, [.r v]), (w.heap.size, 100, [.r x, .r y])] W0) jb [] kr rfl (Rg.iq.pick ⟨Rg.ag _, cu _, cu _, Rg.ag _, Rg.ag _, Rg.ag _, Rg.ag _, Rg.ag _, Rg.ag _, Rg.ag _, Rg.ag _, Rg.ag _, Rg.ag _, trivial⟩) (dw.begin (aa HO))
   (ah (xc (b := w.heap.size) (off := 0) rfl (Rg.gm kr rfl) rfl rfl)
   (ah (je og rf (Rg.ai 0 kr) [] [.r x] [.r y])
   (ah (je og me0 (Rg.gm kr rfl) [] [.r v] [])
   (ah (ll Tryz.func71 kr rfl dw.step (Rg.ai 1 kr) (Rg.ai 2 kr) (fun W v0 v1 hG h0 h1 => Cb (aa HS).1 (aa HS).2.2 h0 h1))
   (ah (Gg rfl (Rg.ai 3 kr) (Rg.lv _) rfl k1)
   (ah (il rfl (Rg.ai 4 kr))
   (Rg.dz (Rg.mq (d := 10) rfl kr rfl rfl mi rfl rfl)
   (Rg.dz (Rg.mq (d := 10) rfl kr rfl rfl mi rfl rfl)
   (Rg.dz (Rg.mq (d := 10) rfl kr rfl rfl mi rfl rfl)
   (Rg.dz (Rg.mq (d := 10) rfl kr rfl rfl mi rfl rfl)
   (Rg.dz (Rg.mq (d := 10) rfl kr rfl rfl mi rfl rfl)
   (ah (zk rfl (Rg.ai 5 kr) (Rg.lv _))
   (ah (ma rfl (Rg.ai 11 kr))
   Rg.fq))))))))))))) ?_
  intro v1 V1 hG1 hv1 hne1
  simp only [Rg.puts, ko, kg, jy, jw, Act.put, jr, jq, jo]
  have e11 : v1 11 = .bool false := hv1 11 (by decide)
  have e12 : v1 12 = .bool false := hv1 12 (by decide)
  simp only [e11, e12]
  have hO := hG1.1
  clear HO
  have HO := hide hO
  clear hO hG1 hv1 hne1
  try clear e11 e12
  go_wp2_with fail
  exact Cw Tryz.results90 rfl (aa HO).bel rfl
set_option maxHeartbeats 16000000 in
theorem bdn {x y v : Rat} {K : Nat} (sx : Sm K x) (sy : Sm K y) (sv : Sm K v) (w : World) (u0 : Value) (h0 : bg [.q x, .q y] w u0) (u1 : Value) (h1 : bg [.q v] w u1) :
  Calls Tryz.prog 109 #[u0, u1] w (nk (Rg.cz (.bool (decide (ja (x.num * v.den - v.num * x.den) ≤ 0 ∧ ja (v.num * y.den - y.num * v.den) ≤ 0)))) w) := by
 obtain ⟨rr, hrr⟩ : ∃ rr, rr = decide (ja (x.num * v.den - v.num * x.den) ≤ 0 ∧ ja (v.num * y.den - y.num * v.den) ≤ 0) := ⟨_, rfl⟩
 rw [← hrr]
 have HR := hide hrr
 have HS := hide (And.intro sx (And.intro sy sv))
 clear hrr sx sy sv
 obtain ⟨Eo, Ch, Ck, c0a, Ci, Hf, Dr, Ea, c0b, Du, Pn, Pw, Ql, Qf, Pz, Pm, Pv, Qk, Qe, Py, rfl, f0a, Iq, Zw, Zv⟩ := Ov h0
 obtain ⟨Fj, Fq, Bg, c1a, Bf, Jt, n1b, Dz, Dx, Dt, rfl, f1a, f1b⟩ := Lu h1
 go_enter Tryz.func109, Tryz.ntmps109
 go_upto_region 1 with fail
 have hO := (Own.push (T := 74) (ls := [.q v]) (cs := [.int .i64 Fj, .bool Fq, .slice Bg (List.length Bf) c1a, .int .i64 Jt, .bool n1b, .slice Dz (List.length Dt) Dx]) (Own.push (T := 108) (ls := [.q x, .q y]) (cs := [.int .i64 Eo, .bool Ch, .slice Ck (List.length Ci) c0a, .int .i64 Hf, .bool Dr, .slice Ea (List.length Du) c0b, .int .i64 Pn, .bool Pw, .slice Ql (List.length Pz) Qf, .int .i64 Pm, .bool Pv, .slice Qk (List.length Py) Qe]) (Own.nil w) (jf.q f0a Iq (jf.q Zw Zv rfl)) (w.heap.size) rfl) (((jf.q f1a f1b rfl) : jf w [.q v] [.int .i64 Fj, .bool Fq, .slice Bg (List.length Bf) c1a, .int .i64 Jt, .bool n1b, .slice Dz (List.length Dt) Dx]).below (by repeat (first | exact Below.refl _ _ | refine jk ?_ _))) (w.heap.size + 1) (by simp only [World.size_alloc]))
 generalize (w.alloc (.cells #[.int .i64 Eo, .bool Ch, .slice Ck (List.length Ci) c0a, .int .i64 Hf, .bool Dr, .slice Ea (List.length Du) c0b, .int .i64 Pn, .bool Pw, .slice Ql (List.length Pz) Qf, .int .i64 Pm, .bool Pv, .slice Qk (List.length Py) Qe] 108)).alloc (.cells #[.int .i64 Fj, .bool Fq, .slice Bg (List.length Bf) c1a, .int .i64 Jt, .bool n1b, .slice Dz (List.length Dt) Dx] 74) = W0 at *
 have HO := hide hO
 clear hO
 by_cases g1 : ja (x.num * v.den - v.num * x.den) ≤ 0
 ·
  by_cases g2 : ja (v.num * y.den - y.num * v.den) ≤ 0
  ·
   have k1 : decide (ja (x.num * v.den - v.num * x.den) ≤ 0) = true := decide_eq_true g1
   have k2 : decide (ja (v.num * y.den - y.num * v.den) ≤ 0) = true := decide_eq_true g2
   have hr : rr = true := by rw [aa HR]; exact decide_eq_true ⟨g1, g2⟩
   subst hr
   clear HR g1 g2
   go_upto_region 1 with fail
   refine Rg.ik 13 17 (Rg.pick [Rg.cz (.pointer (some ⟨w.heap.size, 0, none⟩)), bg [.q x], bg [.q v], Rg.cz (.int .i64 (ja (x.num * v.den - v.num * x.den))), Rg.cz (.bool true), Rg.cz (.bool true), bg [.q v], Rg.cz (.pointer (some ⟨w.heap.size, 6, none⟩)), bg [.q y], Rg.cz (.int .i64 (ja (v.num * y.den - y.num * v.den))), Rg.cz (.bool true), Rg.cz (.bool true), Rg.cz (.bool true)]) (dw w [(w.heap.size + 1, 74, [.q v]), (w.heap.size, 108, [.q x, .q y])] W0) jb [] kr rfl (Rg.iq.pick ⟨Rg.ag _, cu _, cu _, Rg.ag _, Rg.ag _, Rg.ag _, cu _, Rg.ag _, cu _, Rg.ag _, Rg.ag _, Rg.ag _, Rg.ag _, trivial⟩) (dw.begin (aa HO))
    (ah (Be (b := w.heap.size) (off := 0) rfl (Rg.gm kr rfl) rfl rfl)
    (ah (je oq rf (Rg.ai 0 kr) [] [.q x] [.q y])
    (ah (je oq me0 (Rg.gm kr rfl) [] [.q v] [])
    (ah (ll Tryz.func69 kr rfl dw.step (Rg.ai 1 kr) (Rg.ai 2 kr) (fun W v0 v1 hG h0 h1 => Gy (aa HS).1 (aa HS).2.2 h0 h1))
    (ah (Gg rfl (Rg.ai 3 kr) (Rg.lv _) rfl k1)
    (ah (il rfl (Rg.ai 4 kr))
    (Rg.dz (Rg.iy (d := 10) rfl kr rfl (je oq me0 (Rg.gm kr rfl) [] [.q v] []))
    (Rg.dz (Rg.iy (d := 10) rfl kr rfl (Bt (b := w.heap.size) (off := 0) rfl (Rg.gm kr rfl) rfl rfl))
    (Rg.dz (Rg.iy (d := 10) rfl kr rfl (je oq rf (Rg.ai 7 kr) [.q x] [.q y] []))
    (Rg.dz (Rg.iy (d := 10) rfl kr rfl (ll Tryz.func69 kr rfl dw.step (Rg.ai 6 kr) (Rg.ai 8 kr) (fun W v0 v1 hG h0 h1 => Gy (aa HS).2.2 (aa HS).2.1 h0 h1)))
    (Rg.dz (Rg.iy (d := 10) rfl kr rfl (Gg rfl (Rg.ai 9 kr) (Rg.lv _) rfl k2))
    (ah (xw rfl (Rg.ai 5 kr) (Rg.ai 10 kr))
    (ah (ma rfl (Rg.ai 11 kr))
    Rg.fq))))))))))))) ?_
   intro v1 V1 hG1 hv1 hne1
   simp only [Rg.puts, ko, kg, jy, jw, Act.put, jr, jq, jo]
   have e11 : v1 11 = .bool true := hv1 11 (by decide)
   have e12 : v1 12 = .bool true := hv1 12 (by decide)
   simp only [e11, e12]
   have hO := hG1.1
   clear HO
   have HO := hide hO
   clear hO hG1 hv1 hne1
   try clear e11 e12
   go_wp2_with fail
   exact Cw Tryz.results109 rfl (aa HO).bel rfl
  ·
   have k1 : decide (ja (x.num * v.den - v.num * x.den) ≤ 0) = true := decide_eq_true g1
   have k2 : decide (ja (v.num * y.den - y.num * v.den) ≤ 0) = false := decide_eq_false g2
   have hr : rr = false := by rw [aa HR]; exact decide_eq_false (fun h => g2 h.2)
   subst hr
   clear HR g1 g2
   go_upto_region 1 with fail
   refine Rg.ik 13 17 (Rg.pick [Rg.cz (.pointer (some ⟨w.heap.size, 0, none⟩)), bg [.q x], bg [.q v], Rg.cz (.int .i64 (ja (x.num * v.den - v.num * x.den))), Rg.cz (.bool true), Rg.cz (.bool true), bg [.q v], Rg.cz (.pointer (some ⟨w.heap.size, 6, none⟩)), bg [.q y], Rg.cz (.int .i64 (ja (v.num * y.den - y.num * v.den))), Rg.cz (.bool false), Rg.cz (.bool false), Rg.cz (.bool false)]) (dw w [(w.heap.size + 1, 74, [.q v]), (w.heap.size, 108, [.q x, .q y])] W0) jb [] kr rfl (Rg.iq.pick ⟨Rg.ag _, cu _, cu _, Rg.ag _, Rg.ag _, Rg.ag _, cu _, Rg.ag _, cu _, Rg.ag _, Rg.ag _, Rg.ag _, Rg.ag _, trivial⟩) (dw.begin (aa HO))
    (ah (Be (b := w.heap.size) (off := 0) rfl (Rg.gm kr rfl) rfl rfl)
    (ah (je oq rf (Rg.ai 0 kr) [] [.q x] [.q y])
    (ah (je oq me0 (Rg.gm kr rfl) [] [.q v] [])
    (ah (ll Tryz.func69 kr rfl dw.step (Rg.ai 1 kr) (Rg.ai 2 kr) (fun W v0 v1 hG h0 h1 => Gy (aa HS).1 (aa HS).2.2 h0 h1))
    (ah (Gg rfl (Rg.ai 3 kr) (Rg.lv _) rfl k1)
    (ah (il rfl (Rg.ai 4 kr))
    (Rg.dz (Rg.iy (d := 10) rfl kr rfl (je oq me0 (Rg.gm kr rfl) [] [.q v] []))
    (Rg.dz (Rg.iy (d := 10) rfl kr rfl (Bt (b := w.heap.size) (off := 0) rfl (Rg.gm kr rfl) rfl rfl))
    (Rg.dz (Rg.iy (d := 10) rfl kr rfl (je oq rf (Rg.ai 7 kr) [.q x] [.q y] []))
    (Rg.dz (Rg.iy (d := 10) rfl kr rfl (ll Tryz.func69 kr rfl dw.step (Rg.ai 6 kr) (Rg.ai 8 kr) (fun W v0 v1 hG h0 h1 => Gy (aa HS).2.2 (aa HS).2.1 h0 h1)))
    (Rg.dz (Rg.iy (d := 10) rfl kr rfl (Gg rfl (Rg.ai 9 kr) (Rg.lv _) rfl k2))
    (ah (xw rfl (Rg.ai 5 kr) (Rg.ai 10 kr))
    (ah (ma rfl (Rg.ai 11 kr))
    Rg.fq))))))))))))) ?_
   intro v1 V1 hG1 hv1 hne1
   simp only [Rg.puts, ko, kg, jy, jw, Act.put, jr, jq, jo]
   have e11 : v1 11 = .bool false := hv1 11 (by decide)
   have e12 : v1 12 = .bool false := hv1 12 (by decide)
   simp only [e11, e12]
   have hO := hG1.1
   clear HO
   have HO := hide hO
   clear hO hG1 hv1 hne1
   try clear e11 e12
   go_wp2_with fail
   exact Cw Tryz.results109 rfl (aa HO).bel rfl
 ·
  have k1 : decide (ja (x.num * v.den - v.num * x.den) ≤ 0) = false := decide_eq_false g1
  have hr : rr = false := by rw [aa HR]; exact decide_eq_false (fun h => g1 h.1)
  subst hr
  clear HR g1
  go_upto_region 1 with fail
  refine Rg.ik 13 17 (Rg.pick [Rg.cz (.pointer (some ⟨w.heap.size, 0, none⟩)), bg [.q x], bg [.q v], Rg.cz (.int .i64 (ja (x.num * v.den - v.num * x.den))), Rg.cz (.bool false), Rg.cz (.bool false), Rg.cz undef, Rg.cz undef, Rg.cz undef, Rg.cz undef, Rg.cz undef, Rg.cz (.bool false), Rg.cz (.bool false)]) (dw w [(w.heap.size + 1, 74, [.q v]), (w.heap.size, 108, [.q x, .q y])] W0) jb [] kr rfl (Rg.iq.pick ⟨Rg.ag _, cu _, cu _, Rg.ag _, Rg.ag _, Rg.ag _, Rg.ag _, Rg.ag _, Rg.ag _, Rg.ag _, Rg.ag _, Rg.ag _, Rg.ag _, trivial⟩) (dw.begin (aa HO))
   (ah (Be (b := w.heap.size) (off := 0) rfl (Rg.gm kr rfl) rfl rfl)
   (ah (je oq rf (Rg.ai 0 kr) [] [.q x] [.q y])
   (ah (je oq me0 (Rg.gm kr rfl) [] [.q v] [])
   (ah (ll Tryz.func69 kr rfl dw.step (Rg.ai 1 kr) (Rg.ai 2 kr) (fun W v0 v1 hG h0 h1 => Gy (aa HS).1 (aa HS).2.2 h0 h1))
   (ah (Gg rfl (Rg.ai 3 kr) (Rg.lv _) rfl k1)
   (ah (il rfl (Rg.ai 4 kr))
   (Rg.dz (Rg.mq (d := 10) rfl kr rfl rfl mi rfl rfl)
   (Rg.dz (Rg.mq (d := 10) rfl kr rfl rfl mi rfl rfl)
   (Rg.dz (Rg.mq (d := 10) rfl kr rfl rfl mi rfl rfl)
   (Rg.dz (Rg.mq (d := 10) rfl kr rfl rfl mi rfl rfl)
   (Rg.dz (Rg.mq (d := 10) rfl kr rfl rfl mi rfl rfl)
   (ah (zk rfl (Rg.ai 5 kr) (Rg.lv _))
   (ah (ma rfl (Rg.ai 11 kr))
   Rg.fq))))))))))))) ?_
  intro v1 V1 hG1 hv1 hne1
  simp only [Rg.puts, ko, kg, jy, jw, Act.put, jr, jq, jo]
  have e11 : v1 11 = .bool false := hv1 11 (by decide)
  have e12 : v1 12 = .bool false := hv1 12 (by decide)
  simp only [e11, e12]
  have hO := hG1.1
  clear HO
  have HO := hide hO
  clear hO hG1 hv1 hne1
  try clear e11 e12
  go_wp2_with fail
  exact Cw Tryz.results109 rfl (aa HO).bel rfl
set_option maxHeartbeats 16000000 in
theorem apx {x y a b : Rat} {K : Nat} (sx : Fw K x) (sy : Fw K y) (sa : Fw K a) (sb : Fw K b) (w : World) (u0 : Value) (h0 : bg [.r x, .r y] w u0) (u1 : Value) (h1 : bg [.r a, .r b] w u1) :
  Calls Tryz.prog 106 #[u0, u1] w (nk (qj [bg [.r (eu x [a]), .r (fe y [b])], Rg.cz (.bool (decide (ja ((eu x [a]).num * (fe y [b]).den - (fe y [b]).num * (eu x [a]).den) ≤ 0)))]) w) := by
 obtain ⟨lo, hlo⟩ : ∃ z, z = eu x [a] := ⟨_, rfl⟩
 obtain ⟨hi, hhi⟩ : ∃ z, z = fe y [b] := ⟨_, rfl⟩
 rw [← hlo, ← hhi]
 have HLO := hide hlo
 have HHI := hide hhi
 have HS := hide (And.intro sx (And.intro sy (And.intro sa sb)))
 clear sx sy sa sb hlo hhi
 obtain ⟨Ck, c0a, Ci, m0a, B0a, d0a, k0a, Ch, Ea, c0b, Du, m0b, B0b, d0b, k0b, Dr, rfl, f0a, Iq⟩ := aac h0
 obtain ⟨Bg, c1a, Bf, Mx, B1a, d1a, k1a, Fq, Dz, Dx, Dt, Uc, B1b, d1b, k1b, n1b, rfl, f1a, f1b⟩ := aac h1
 go_enter Tryz.func106, Tryz.ntmps106
 go_upto_region 1 with fail
 have hO := (Own.push (T := 100) (ls := zY) (cs := [.slice none 0 0, .bool false, .slice none 0 0, .bool false, .slice none 0 0, .bool false, .slice none 0 0, .bool false]) (Own.push (T := 100) (ls := [.r a, .r b]) (cs := [.slice Bg (List.length Bf) c1a, .bool Mx, .slice B1a (List.length k1a) d1a, .bool Fq, .slice Dz (List.length Dt) Dx, .bool Uc, .slice B1b (List.length k1b) d1b, .bool n1b]) (Own.push (T := 100) (ls := [.r x, .r y]) (cs := [.slice Ck (List.length Ci) c0a, .bool m0a, .slice B0a (List.length k0a) d0a, .bool Ch, .slice Ea (List.length Du) c0b, .bool m0b, .slice B0b (List.length k0b) d0b, .bool Dr]) (Own.nil w) (jf.r f0a (jf.r Iq rfl)) (w.heap.size) rfl) (((jf.r f1a (jf.r f1b rfl)) : jf w [.r a, .r b] [.slice Bg (List.length Bf) c1a, .bool Mx, .slice B1a (List.length k1a) d1a, .bool Fq, .slice Dz (List.length Dt) Dx, .bool Uc, .slice B1b (List.length k1b) d1b, .bool n1b]).below (by repeat (first | exact Below.refl _ _ | refine jk ?_ _))) (w.heap.size + 1) (by simp only [World.size_alloc])) (((jf.vs w [.slice none 0 0, .bool false, .slice none 0 0, .bool false, .slice none 0 0, .bool false, .slice none 0 0, .bool false] rfl) : jf w zY [.slice none 0 0, .bool false, .slice none 0 0, .bool false, .slice none 0 0, .bool false, .slice none 0 0, .bool false]).below (by repeat (first | exact Below.refl _ _ | refine jk ?_ _))) (w.heap.size + 2) (by simp only [World.size_alloc]))
 generalize ((w.alloc (.cells #[.slice Ck (List.length Ci) c0a, .bool m0a, .slice B0a (List.length k0a) d0a, .bool Ch, .slice Ea (List.length Du) c0b, .bool m0b, .slice B0b (List.length k0b) d0b, .bool Dr] 100)).alloc (.cells #[.slice Bg (List.length Bf) c1a, .bool Mx, .slice B1a (List.length k1a) d1a, .bool Fq, .slice Dz (List.length Dt) Dx, .bool Uc, .slice B1b (List.length k1b) d1b, .bool n1b] 100)).alloc (.cells #[.slice none 0 0, .bool false, .slice none 0 0, .bool false, .slice none 0 0, .bool false, .slice none 0 0, .bool false] 100) = W0 at *
 have HO := hide hO
 clear hO
 by_cases g1 : 0 < ja (a.num * x.den - x.num * a.den)
 ·
  have k1 : decide (0 < ja (a.num * x.den - x.num * a.den)) = true := decide_eq_true g1
  have hl : a = lo := by rw [aa HLO]; exact (if_pos g1).symm
  clear HLO g1
  subst hl
  go_upto_region 1 with fail
  refine Rg.ik 6 31 (Rg.pick [Rg.cz (.pointer (some ⟨w.heap.size + 1, 0, none⟩)), bg [.r a], Rg.cz (.pointer (some ⟨w.heap.size, 0, none⟩)), bg [.r x], Rg.cz (.int .i64 (ja (a.num * x.den - x.num * a.den))), Rg.cz (.bool true)]) (dw w [(w.heap.size + 2, 100, zY), (w.heap.size + 1, 100, [.r a, .r b]), (w.heap.size, 100, [.r x, .r y])] W0) jb [] kr rfl (Rg.iq.pick ⟨Rg.ag _, cu _, Rg.ag _, cu _, Rg.ag _, Rg.ag _, trivial⟩) (dw.begin (aa HO))
   (ah (xc (b := w.heap.size + 1) (off := 0) rfl (Rg.gm kr rfl) rfl rfl)
   (ah (je og rf (Rg.ai 0 kr) [] [.r a] [.r b])
   (ah (xc (b := w.heap.size) (off := 0) rfl (Rg.gm kr rfl) rfl rfl)
   (ah (je og ug (Rg.ai 2 kr) [] [.r x] [.r y])
   (ah (ll Tryz.func71 kr rfl dw.step (Rg.ai 1 kr) (Rg.ai 3 kr) (fun W v0 v1 hG h0 h1 => Cb (aa HS).2.2.1 (aa HS).1 h0 h1))
   (ah (Fb rfl (Rg.ai 4 kr) (Rg.lv _) rfl k1)
   Rg.fq)))))) ?_
  intro v1 V1 hG1 hv1 hne1
  simp only [Rg.puts, ko, kg, jy, jw, Act.put, jr, jq, jo]
  have e5 : v1 5 = .bool true := hv1 5 (by decide)
  simp only [e5]
  have hO := hG1.1
  clear HO
  have HO := hide hO
  clear hO hG1 hv1 hne1
  try clear e5
  go_upto_region 2 with fail
  refine Rg.ik 3 31 (Rg.pick [Rg.cz (.pointer (some ⟨w.heap.size + 1, 0, none⟩)), bg [.r a], Rg.cz (.pointer (some ⟨w.heap.size, 0, none⟩))]) (dw w [(w.heap.size + 2, 100, zY), (w.heap.size + 1, 100, [.r a, .r b]), (w.heap.size, 100, [.r x, .r y])] V1) jb [] kr rfl (Rg.iq.pick ⟨Rg.ag _, cu _, Rg.ag _, trivial⟩) (dw.begin (aa HO))
   (ah (xc (b := w.heap.size + 1) (off := 0) rfl (Rg.gm kr rfl) rfl rfl)
   (ah (je og rf (Rg.ai 0 kr) [] [.r a] [.r b])
   (ah (xc (b := w.heap.size) (off := 0) rfl (Rg.gm kr rfl) rfl rfl)
   Rg.fq))) ?_
  intro v2 V2 hG2 hv2 hne2
  simp only [Rg.puts, ko, kg, jy, jw, Act.put, jr, jq, jo]
  have e2 : v2 2 = .pointer (some ⟨w.heap.size, 0, none⟩) := hv2 2 (by decide)
  simp only [e2]
  have hO := hG2.1
  refine nz hO 2 [] [.r x] [.r a] [.r y] rfl Np rfl (show bg [.r a] V2 (v2 1) from hv2 1 (by decide)) rfl rfl rfl ?_
  intro Dh ji hk0
  replace hO := ji
  clear ji
  clear HO
  have HO := hide hO
  clear hO hG2 hv2 hne2 hk0
  try clear e2
  by_cases g2 : ja (b.num * y.den - y.num * b.den) < 0
  ·
   have k2 : decide (ja (b.num * y.den - y.num * b.den) < 0) = true := decide_eq_true g2
   have hh : b = hi := by rw [aa HHI]; exact (if_pos g2).symm
   clear HHI g2
   subst hh
   go_upto_region 3 with fail
   refine Rg.ik 6 31 (Rg.pick [Rg.cz (.pointer (some ⟨w.heap.size + 1, 4, none⟩)), bg [.r b], Rg.cz (.pointer (some ⟨w.heap.size, 4, none⟩)), bg [.r y], Rg.cz (.int .i64 (ja (b.num * y.den - y.num * b.den))), Rg.cz (.bool true)]) (dw w [(w.heap.size + 2, 100, zY), (w.heap.size + 1, 100, [.r a, .r b]), (w.heap.size, 100, [.r a, .r y])] Dh) jb [] kr rfl (Rg.iq.pick ⟨Rg.ag _, cu _, Rg.ag _, cu _, Rg.ag _, Rg.ag _, trivial⟩) (dw.begin (aa HO))
    (ah (sw (b := w.heap.size + 1) (off := 0) rfl (Rg.gm kr rfl) rfl rfl)
    (ah (je og rf (Rg.ai 0 kr) [.r a] [.r b] [])
    (ah (sw (b := w.heap.size) (off := 0) rfl (Rg.gm kr rfl) rfl rfl)
    (ah (je og ug (Rg.ai 2 kr) [.r a] [.r y] [])
    (ah (ll Tryz.func71 kr rfl dw.step (Rg.ai 1 kr) (Rg.ai 3 kr) (fun W v0 v1 hG h0 h1 => Cb (aa HS).2.2.2 (aa HS).2.1 h0 h1))
    (ah (Em rfl (Rg.ai 4 kr) (Rg.lv _) rfl k2)
    Rg.fq)))))) ?_
   intro v3 V3 hG3 hv3 si
   simp only [Rg.puts, ko, kg, jy, jw, Act.put, jr, jq, jo]
   have e5 : v3 5 = .bool true := hv3 5 (by decide)
   simp only [e5]
   have hO := hG3.1
   clear HO
   have HO := hide hO
   clear hO hG3 hv3 si
   try clear e5
   go_upto_region 4 with fail
   refine Rg.ik 3 31 (Rg.pick [Rg.cz (.pointer (some ⟨w.heap.size + 1, 4, none⟩)), bg [.r b], Rg.cz (.pointer (some ⟨w.heap.size, 4, none⟩))]) (dw w [(w.heap.size + 2, 100, zY), (w.heap.size + 1, 100, [.r a, .r b]), (w.heap.size, 100, [.r a, .r y])] V3) jb [] kr rfl (Rg.iq.pick ⟨Rg.ag _, cu _, Rg.ag _, trivial⟩) (dw.begin (aa HO))
    (ah (sw (b := w.heap.size + 1) (off := 0) rfl (Rg.gm kr rfl) rfl rfl)
    (ah (je og rf (Rg.ai 0 kr) [.r a] [.r b] [])
    (ah (sw (b := w.heap.size) (off := 0) rfl (Rg.gm kr rfl) rfl rfl)
    Rg.fq))) ?_
   intro v4 V4 hG4 hv4 xh
   simp only [Rg.puts, ko, kg, jy, jw, Act.put, jr, jq, jo]
   have e2 : v4 2 = .pointer (some ⟨w.heap.size, 4, none⟩) := hv4 2 (by decide)
   simp only [e2]
   have hO := hG4.1
   refine nz hO 2 [.r a] [.r y] [.r b] [] rfl Np rfl (show bg [.r b] V4 (v4 1) from hv4 1 (by decide)) rfl rfl rfl ?_
   intro Mt ji hk0
   replace hO := ji
   clear ji
   clear HO
   have HO := hide hO
   clear hO hG4 hv4 xh hk0
   try clear e2
   go_upto_region 5 with fail
   refine Rg.region 9 31 (Rg.pick [bg [.r a, .r b], Rg.cz (.pointer (some ⟨w.heap.size, 0, none⟩)), bg [.r a], Rg.cz (.pointer (some ⟨w.heap.size, 4, none⟩)), bg [.r b], Rg.cz (.int .i64 (ja (a.num * b.den - b.num * a.den))), Rg.cz (.bool (decide (ja (a.num * b.den - b.num * a.den) ≤ 0))), Ue (w.heap.size + 2, 100, [.r a, .r b]), Rg.cz (.bool (decide (ja (a.num * b.den - b.num * a.den) ≤ 0)))]) (GS w [(w.heap.size + 2, 100, zY), (w.heap.size + 1, 100, [.r a, .r b]), (w.heap.size, 100, [.r a, .r b])] (w.heap.size + 2, 100, [.r a, .r b]) (w.heap.size + 2, 100, [.r a, .r b])) (ES (w.heap.size + 2, 100, [.r a, .r b]) (w.heap.size + 2, 100, [.r a, .r b])) [] kr kr rfl (Rg.iq.pick ⟨(tu _), (uy _), (tu _), (uy _), (tu _), (uy _), (uy _), (Et (.inr rfl) (.inl rfl)), (uy _), trivial⟩) (GS.start (aa HO))
    (Rg.dz (Rg.plain rfl (lg (vw (b := w.heap.size) (off := 0) (TB := 100) (pre := []) (mid := [.r a, .r b]) (post := []) Rh rfl (Rg.gm kr rfl) (fun W h => GS.get ug (fun h => absurd (show (w.heap.size + 2 : Nat) = w.heap.size from h) (by first | omega | (intro h; exact (own_ne (aa HO) 0 2 rfl rfl (by decide)) h))) (fun h => absurd (show (w.heap.size + 2 : Nat) = w.heap.size from h) (by first | omega | (intro h; exact (own_ne (aa HO) 0 2 rfl rfl (by decide)) h))) h) rfl rfl rfl)))
     (Rg.dz (Rg.plain rfl (lg (xc (b := w.heap.size) (off := 0) rfl (Rg.gm kr rfl) rfl rfl)))
     (Rg.dz (Rg.plain rfl (lg (vw (b := w.heap.size) (off := 0) (TB := 100) (pre := []) (mid := [.r a]) (post := [.r b]) og rfl (Rg.ai 1 kr) (fun W h => GS.get ug (fun h => absurd (show (w.heap.size + 2 : Nat) = w.heap.size from h) (by first | omega | (intro h; exact (own_ne (aa HO) 0 2 rfl rfl (by decide)) h))) (fun h => absurd (show (w.heap.size + 2 : Nat) = w.heap.size from h) (by first | omega | (intro h; exact (own_ne (aa HO) 0 2 rfl rfl (by decide)) h))) h) rfl rfl rfl)))
     (Rg.dz (Rg.plain rfl (lg (sw (b := w.heap.size) (off := 0) rfl (Rg.gm kr rfl) rfl rfl)))
     (Rg.dz (Rg.plain rfl (lg (vw (b := w.heap.size) (off := 4) (TB := 100) (pre := [.r a]) (mid := [.r b]) (post := []) og rfl (Rg.ai 3 kr) (fun W h => GS.get ug (fun h => absurd (show (w.heap.size + 2 : Nat) = w.heap.size from h) (by first | omega | (intro h; exact (own_ne (aa HO) 0 2 rfl rfl (by decide)) h))) (fun h => absurd (show (w.heap.size + 2 : Nat) = w.heap.size from h) (by first | omega | (intro h; exact (own_ne (aa HO) 0 2 rfl rfl (by decide)) h))) h) rfl rfl rfl)))
     (Rg.dz (Rg.plain rfl (lg (ll Tryz.func71 kr rfl GS.step (Rg.ai 2 kr) (Rg.ai 4 kr) (fun W v0 v1 hG h0 h1 => Cb (aa HS).2.2.1 (aa HS).2.2.2 h0 h1))))
     (Rg.dz (Rg.plain rfl (lg (Gg rfl (Rg.ai 5 kr) (Rg.lv _) rfl rfl)))
     (Rg.dz (Rg.plain rfl (Ev (b := w.heap.size + 2) (old := zY) (new := [.r a, .r b]) Gr rfl (Rg.gm kr rfl) (Rg.ai 0 kr) me0 (aa HO).nd (.inl rfl) (.inr rfl) rfl rfl rfl))
     (Rg.dz (Rg.plain rfl (lg (ma rfl (Rg.ai 6 kr))))
     Rg.fq))))))))) ?_
   intro v5 V5 zo hv5 hne5
   simp only [Rg.puts, ko, kg, jy, jw, Act.put, jr, jq, jo]
   have e1 : v5 1 = .pointer (some ⟨w.heap.size, 0, none⟩) := hv5 1 (by decide)
   have e3 : v5 3 = .pointer (some ⟨w.heap.size, 4, none⟩) := hv5 3 (by decide)
   have e5 : v5 5 = .int .i64 (ja (a.num * b.den - b.num * a.den)) := hv5 5 (by decide)
   have e6 : v5 6 = .bool (decide (ja (a.num * b.den - b.num * a.den) ≤ 0)) := hv5 6 (by decide)
   have e8 : v5 8 = .bool (decide (ja (a.num * b.den - b.num * a.den) ≤ 0)) := hv5 8 (by decide)
   simp only [e1, e3, e5, e6, e8]
   have hO : Own w [(w.heap.size + 2, 100, [.r a, .r b]), (w.heap.size + 1, 100, [.r a, .r b]), (w.heap.size, 100, [.r a, .r b])] V5 := by
    refine ⟨zo.bel, (aa HO).nd, fun b T ls hm => ?_⟩
    rcases List.mem_cons.1 hm with e | hm
    ·
     cases e; exact ⟨(zo.box _ _ _ me0).1, hv5 7 (by decide)⟩
    rcases List.mem_cons.1 hm with e | hm
    ·
     cases e; exact ⟨(zo.box _ _ _ rf).1, GS.get rf (fun h => absurd (show (w.heap.size + 2 : Nat) = w.heap.size + 1 from h) (by first | omega | (intro h; exact (own_ne (aa HO) 0 1 rfl rfl (by decide)) h))) (fun h => absurd (show (w.heap.size + 2 : Nat) = w.heap.size + 1 from h) (by first | omega | (intro h; exact (own_ne (aa HO) 0 1 rfl rfl (by decide)) h))) zo⟩
    rcases List.mem_cons.1 hm with e | hm
    ·
     cases e; exact ⟨(zo.box _ _ _ ug).1, GS.get ug (fun h => absurd (show (w.heap.size + 2 : Nat) = w.heap.size from h) (by first | omega | (intro h; exact (own_ne (aa HO) 0 2 rfl rfl (by decide)) h))) (fun h => absurd (show (w.heap.size + 2 : Nat) = w.heap.size from h) (by first | omega | (intro h; exact (own_ne (aa HO) 0 2 rfl rfl (by decide)) h))) zo⟩
    cases hm
   clear HO
   have HO := hide hO
   clear hO zo hv5 hne5
   try clear e1 e3 e5 e6 e8
   go_wp2_with fail
   exact Bv Tryz.results106 Nv rfl rfl (aa HO) me0 rfl rfl
  ·
   have k2 : decide (ja (b.num * y.den - y.num * b.den) < 0) = false := decide_eq_false g2
   have hh : y = hi := by rw [aa HHI]; exact (if_neg g2).symm
   clear HHI g2
   subst hh
   go_upto_region 3 with fail
   refine Rg.ik 6 31 (Rg.pick [Rg.cz (.pointer (some ⟨w.heap.size + 1, 4, none⟩)), bg [.r b], Rg.cz (.pointer (some ⟨w.heap.size, 4, none⟩)), bg [.r y], Rg.cz (.int .i64 (ja (b.num * y.den - y.num * b.den))), Rg.cz (.bool false)]) (dw w [(w.heap.size + 2, 100, zY), (w.heap.size + 1, 100, [.r a, .r b]), (w.heap.size, 100, [.r a, .r y])] Dh) jb [] kr rfl (Rg.iq.pick ⟨Rg.ag _, cu _, Rg.ag _, cu _, Rg.ag _, Rg.ag _, trivial⟩) (dw.begin (aa HO))
    (ah (sw (b := w.heap.size + 1) (off := 0) rfl (Rg.gm kr rfl) rfl rfl)
    (ah (je og rf (Rg.ai 0 kr) [.r a] [.r b] [])
    (ah (sw (b := w.heap.size) (off := 0) rfl (Rg.gm kr rfl) rfl rfl)
    (ah (je og ug (Rg.ai 2 kr) [.r a] [.r y] [])
    (ah (ll Tryz.func71 kr rfl dw.step (Rg.ai 1 kr) (Rg.ai 3 kr) (fun W v0 v1 hG h0 h1 => Cb (aa HS).2.2.2 (aa HS).2.1 h0 h1))
    (ah (Em rfl (Rg.ai 4 kr) (Rg.lv _) rfl k2)
    Rg.fq)))))) ?_
   intro v3 V3 hG3 hv3 si
   simp only [Rg.puts, ko, kg, jy, jw, Act.put, jr, jq, jo]
   have e5 : v3 5 = .bool false := hv3 5 (by decide)
   simp only [e5]
   have hO := hG3.1
   clear HO
   have HO := hide hO
   clear hO hG3 hv3 si
   try clear e5
   go_upto_region 5 with fail
   refine Rg.region 9 31 (Rg.pick [bg [.r a, .r y], Rg.cz (.pointer (some ⟨w.heap.size, 0, none⟩)), bg [.r a], Rg.cz (.pointer (some ⟨w.heap.size, 4, none⟩)), bg [.r y], Rg.cz (.int .i64 (ja (a.num * y.den - y.num * a.den))), Rg.cz (.bool (decide (ja (a.num * y.den - y.num * a.den) ≤ 0))), Ue (w.heap.size + 2, 100, [.r a, .r y]), Rg.cz (.bool (decide (ja (a.num * y.den - y.num * a.den) ≤ 0)))]) (GS w [(w.heap.size + 2, 100, zY), (w.heap.size + 1, 100, [.r a, .r b]), (w.heap.size, 100, [.r a, .r y])] (w.heap.size + 2, 100, [.r a, .r y]) (w.heap.size + 2, 100, [.r a, .r y])) (ES (w.heap.size + 2, 100, [.r a, .r y]) (w.heap.size + 2, 100, [.r a, .r y])) [] kr kr rfl (Rg.iq.pick ⟨(tu _), (uy _), (tu _), (uy _), (tu _), (uy _), (uy _), (Et (.inr rfl) (.inl rfl)), (uy _), trivial⟩) (GS.start (aa HO))
    (Rg.dz (Rg.plain rfl (lg (vw (b := w.heap.size) (off := 0) (TB := 100) (pre := []) (mid := [.r a, .r y]) (post := []) Rh rfl (Rg.gm kr rfl) (fun W h => GS.get ug (fun h => absurd (show (w.heap.size + 2 : Nat) = w.heap.size from h) (by first | omega | (intro h; exact (own_ne (aa HO) 0 2 rfl rfl (by decide)) h))) (fun h => absurd (show (w.heap.size + 2 : Nat) = w.heap.size from h) (by first | omega | (intro h; exact (own_ne (aa HO) 0 2 rfl rfl (by decide)) h))) h) rfl rfl rfl)))
     (Rg.dz (Rg.plain rfl (lg (xc (b := w.heap.size) (off := 0) rfl (Rg.gm kr rfl) rfl rfl)))
     (Rg.dz (Rg.plain rfl (lg (vw (b := w.heap.size) (off := 0) (TB := 100) (pre := []) (mid := [.r a]) (post := [.r y]) og rfl (Rg.ai 1 kr) (fun W h => GS.get ug (fun h => absurd (show (w.heap.size + 2 : Nat) = w.heap.size from h) (by first | omega | (intro h; exact (own_ne (aa HO) 0 2 rfl rfl (by decide)) h))) (fun h => absurd (show (w.heap.size + 2 : Nat) = w.heap.size from h) (by first | omega | (intro h; exact (own_ne (aa HO) 0 2 rfl rfl (by decide)) h))) h) rfl rfl rfl)))
     (Rg.dz (Rg.plain rfl (lg (sw (b := w.heap.size) (off := 0) rfl (Rg.gm kr rfl) rfl rfl)))
     (Rg.dz (Rg.plain rfl (lg (vw (b := w.heap.size) (off := 4) (TB := 100) (pre := [.r a]) (mid := [.r y]) (post := []) og rfl (Rg.ai 3 kr) (fun W h => GS.get ug (fun h => absurd (show (w.heap.size + 2 : Nat) = w.heap.size from h) (by first | omega | (intro h; exact (own_ne (aa HO) 0 2 rfl rfl (by decide)) h))) (fun h => absurd (show (w.heap.size + 2 : Nat) = w.heap.size from h) (by first | omega | (intro h; exact (own_ne (aa HO) 0 2 rfl rfl (by decide)) h))) h) rfl rfl rfl)))
     (Rg.dz (Rg.plain rfl (lg (ll Tryz.func71 kr rfl GS.step (Rg.ai 2 kr) (Rg.ai 4 kr) (fun W v0 v1 hG h0 h1 => Cb (aa HS).2.2.1 (aa HS).2.1 h0 h1))))
     (Rg.dz (Rg.plain rfl (lg (Gg rfl (Rg.ai 5 kr) (Rg.lv _) rfl rfl)))
     (Rg.dz (Rg.plain rfl (Ev (b := w.heap.size + 2) (old := zY) (new := [.r a, .r y]) Gr rfl (Rg.gm kr rfl) (Rg.ai 0 kr) me0 (aa HO).nd (.inl rfl) (.inr rfl) rfl rfl rfl))
     (Rg.dz (Rg.plain rfl (lg (ma rfl (Rg.ai 6 kr))))
     Rg.fq))))))))) ?_
   intro v4 V4 hG4 hv4 xh
   simp only [Rg.puts, ko, kg, jy, jw, Act.put, jr, jq, jo]
   have e1 : v4 1 = .pointer (some ⟨w.heap.size, 0, none⟩) := hv4 1 (by decide)
   have e3 : v4 3 = .pointer (some ⟨w.heap.size, 4, none⟩) := hv4 3 (by decide)
   have e5 : v4 5 = .int .i64 (ja (a.num * y.den - y.num * a.den)) := hv4 5 (by decide)
   have e6 : v4 6 = .bool (decide (ja (a.num * y.den - y.num * a.den) ≤ 0)) := hv4 6 (by decide)
   have e8 : v4 8 = .bool (decide (ja (a.num * y.den - y.num * a.den) ≤ 0)) := hv4 8 (by decide)
   simp only [e1, e3, e5, e6, e8]
   have hO : Own w [(w.heap.size + 2, 100, [.r a, .r y]), (w.heap.size + 1, 100, [.r a, .r b]), (w.heap.size, 100, [.r a, .r y])] V4 := by
    refine ⟨hG4.bel, (aa HO).nd, fun b T ls hm => ?_⟩
    rcases List.mem_cons.1 hm with e | hm
    ·
     cases e; exact ⟨(hG4.box _ _ _ me0).1, hv4 7 (by decide)⟩
    rcases List.mem_cons.1 hm with e | hm
    ·
     cases e; exact ⟨(hG4.box _ _ _ rf).1, GS.get rf (fun h => absurd (show (w.heap.size + 2 : Nat) = w.heap.size + 1 from h) (by first | omega | (intro h; exact (own_ne (aa HO) 0 1 rfl rfl (by decide)) h))) (fun h => absurd (show (w.heap.size + 2 : Nat) = w.heap.size + 1 from h) (by first | omega | (intro h; exact (own_ne (aa HO) 0 1 rfl rfl (by decide)) h))) hG4⟩
    rcases List.mem_cons.1 hm with e | hm
    ·
     cases e; exact ⟨(hG4.box _ _ _ ug).1, GS.get ug (fun h => absurd (show (w.heap.size + 2 : Nat) = w.heap.size from h) (by first | omega | (intro h; exact (own_ne (aa HO) 0 2 rfl rfl (by decide)) h))) (fun h => absurd (show (w.heap.size + 2 : Nat) = w.heap.size from h) (by first | omega | (intro h; exact (own_ne (aa HO) 0 2 rfl rfl (by decide)) h))) hG4⟩
    cases hm
   clear HO
   have HO := hide hO
   clear hO hG4 hv4 xh
   try clear e1 e3 e5 e6 e8
   go_wp2_with fail
   exact Bv Tryz.results106 Nv rfl rfl (aa HO) me0 rfl rfl
 ·
  have k1 : decide (0 < ja (a.num * x.den - x.num * a.den)) = false := decide_eq_false g1
  have hl : x = lo := by rw [aa HLO]; exact (if_neg g1).symm
  clear HLO g1
  subst hl
  go_upto_region 1 with fail
  refine Rg.ik 6 31 (Rg.pick [Rg.cz (.pointer (some ⟨w.heap.size + 1, 0, none⟩)), bg [.r a], Rg.cz (.pointer (some ⟨w.heap.size, 0, none⟩)), bg [.r x], Rg.cz (.int .i64 (ja (a.num * x.den - x.num * a.den))), Rg.cz (.bool false)]) (dw w [(w.heap.size + 2, 100, zY), (w.heap.size + 1, 100, [.r a, .r b]), (w.heap.size, 100, [.r x, .r y])] W0) jb [] kr rfl (Rg.iq.pick ⟨Rg.ag _, cu _, Rg.ag _, cu _, Rg.ag _, Rg.ag _, trivial⟩) (dw.begin (aa HO))
   (ah (xc (b := w.heap.size + 1) (off := 0) rfl (Rg.gm kr rfl) rfl rfl)
   (ah (je og rf (Rg.ai 0 kr) [] [.r a] [.r b])
   (ah (xc (b := w.heap.size) (off := 0) rfl (Rg.gm kr rfl) rfl rfl)
   (ah (je og ug (Rg.ai 2 kr) [] [.r x] [.r y])
   (ah (ll Tryz.func71 kr rfl dw.step (Rg.ai 1 kr) (Rg.ai 3 kr) (fun W v0 v1 hG h0 h1 => Cb (aa HS).2.2.1 (aa HS).1 h0 h1))
   (ah (Fb rfl (Rg.ai 4 kr) (Rg.lv _) rfl k1)
   Rg.fq)))))) ?_
  intro v1 V1 hG1 hv1 hne1
  simp only [Rg.puts, ko, kg, jy, jw, Act.put, jr, jq, jo]
  have e5 : v1 5 = .bool false := hv1 5 (by decide)
  simp only [e5]
  have hO := hG1.1
  clear HO
  have HO := hide hO
  clear hO hG1 hv1 hne1
  try clear e5
  by_cases g2 : ja (b.num * y.den - y.num * b.den) < 0
  ·
   have k2 : decide (ja (b.num * y.den - y.num * b.den) < 0) = true := decide_eq_true g2
   have hh : b = hi := by rw [aa HHI]; exact (if_pos g2).symm
   clear HHI g2
   subst hh
   go_upto_region 3 with fail
   refine Rg.ik 6 31 (Rg.pick [Rg.cz (.pointer (some ⟨w.heap.size + 1, 4, none⟩)), bg [.r b], Rg.cz (.pointer (some ⟨w.heap.size, 4, none⟩)), bg [.r y], Rg.cz (.int .i64 (ja (b.num * y.den - y.num * b.den))), Rg.cz (.bool true)]) (dw w [(w.heap.size + 2, 100, zY), (w.heap.size + 1, 100, [.r a, .r b]), (w.heap.size, 100, [.r x, .r y])] V1) jb [] kr rfl (Rg.iq.pick ⟨Rg.ag _, cu _, Rg.ag _, cu _, Rg.ag _, Rg.ag _, trivial⟩) (dw.begin (aa HO))
    (ah (sw (b := w.heap.size + 1) (off := 0) rfl (Rg.gm kr rfl) rfl rfl)
    (ah (je og rf (Rg.ai 0 kr) [.r a] [.r b] [])
    (ah (sw (b := w.heap.size) (off := 0) rfl (Rg.gm kr rfl) rfl rfl)
    (ah (je og ug (Rg.ai 2 kr) [.r x] [.r y] [])
    (ah (ll Tryz.func71 kr rfl dw.step (Rg.ai 1 kr) (Rg.ai 3 kr) (fun W v0 v1 hG h0 h1 => Cb (aa HS).2.2.2 (aa HS).2.1 h0 h1))
    (ah (Em rfl (Rg.ai 4 kr) (Rg.lv _) rfl k2)
    Rg.fq)))))) ?_
   intro v2 V2 hG2 hv2 hne2
   simp only [Rg.puts, ko, kg, jy, jw, Act.put, jr, jq, jo]
   have e5 : v2 5 = .bool true := hv2 5 (by decide)
   simp only [e5]
   have hO := hG2.1
   clear HO
   have HO := hide hO
   clear hO hG2 hv2 hne2
   try clear e5
   go_upto_region 4 with fail
   refine Rg.ik 3 31 (Rg.pick [Rg.cz (.pointer (some ⟨w.heap.size + 1, 4, none⟩)), bg [.r b], Rg.cz (.pointer (some ⟨w.heap.size, 4, none⟩))]) (dw w [(w.heap.size + 2, 100, zY), (w.heap.size + 1, 100, [.r a, .r b]), (w.heap.size, 100, [.r x, .r y])] V2) jb [] kr rfl (Rg.iq.pick ⟨Rg.ag _, cu _, Rg.ag _, trivial⟩) (dw.begin (aa HO))
    (ah (sw (b := w.heap.size + 1) (off := 0) rfl (Rg.gm kr rfl) rfl rfl)
    (ah (je og rf (Rg.ai 0 kr) [.r a] [.r b] [])
    (ah (sw (b := w.heap.size) (off := 0) rfl (Rg.gm kr rfl) rfl rfl)
    Rg.fq))) ?_
   intro v3 V3 hG3 hv3 si
   simp only [Rg.puts, ko, kg, jy, jw, Act.put, jr, jq, jo]
   have e2 : v3 2 = .pointer (some ⟨w.heap.size, 4, none⟩) := hv3 2 (by decide)
   simp only [e2]
   have hO := hG3.1
   refine nz hO 2 [.r x] [.r y] [.r b] [] rfl Np rfl (show bg [.r b] V3 (v3 1) from hv3 1 (by decide)) rfl rfl rfl ?_
   intro Ik ji hk0
   replace hO := ji
   clear ji
   clear HO
   have HO := hide hO
   clear hO hG3 hv3 si hk0
   try clear e2
   go_upto_region 5 with fail
   refine Rg.region 9 31 (Rg.pick [bg [.r x, .r b], Rg.cz (.pointer (some ⟨w.heap.size, 0, none⟩)), bg [.r x], Rg.cz (.pointer (some ⟨w.heap.size, 4, none⟩)), bg [.r b], Rg.cz (.int .i64 (ja (x.num * b.den - b.num * x.den))), Rg.cz (.bool (decide (ja (x.num * b.den - b.num * x.den) ≤ 0))), Ue (w.heap.size + 2, 100, [.r x, .r b]), Rg.cz (.bool (decide (ja (x.num * b.den - b.num * x.den) ≤ 0)))]) (GS w [(w.heap.size + 2, 100, zY), (w.heap.size + 1, 100, [.r a, .r b]), (w.heap.size, 100, [.r x, .r b])] (w.heap.size + 2, 100, [.r x, .r b]) (w.heap.size + 2, 100, [.r x, .r b])) (ES (w.heap.size + 2, 100, [.r x, .r b]) (w.heap.size + 2, 100, [.r x, .r b])) [] kr kr rfl (Rg.iq.pick ⟨(tu _), (uy _), (tu _), (uy _), (tu _), (uy _), (uy _), (Et (.inr rfl) (.inl rfl)), (uy _), trivial⟩) (GS.start (aa HO))
    (Rg.dz (Rg.plain rfl (lg (vw (b := w.heap.size) (off := 0) (TB := 100) (pre := []) (mid := [.r x, .r b]) (post := []) Rh rfl (Rg.gm kr rfl) (fun W h => GS.get ug (fun h => absurd (show (w.heap.size + 2 : Nat) = w.heap.size from h) (by first | omega | (intro h; exact (own_ne (aa HO) 0 2 rfl rfl (by decide)) h))) (fun h => absurd (show (w.heap.size + 2 : Nat) = w.heap.size from h) (by first | omega | (intro h; exact (own_ne (aa HO) 0 2 rfl rfl (by decide)) h))) h) rfl rfl rfl)))
     (Rg.dz (Rg.plain rfl (lg (xc (b := w.heap.size) (off := 0) rfl (Rg.gm kr rfl) rfl rfl)))
     (Rg.dz (Rg.plain rfl (lg (vw (b := w.heap.size) (off := 0) (TB := 100) (pre := []) (mid := [.r x]) (post := [.r b]) og rfl (Rg.ai 1 kr) (fun W h => GS.get ug (fun h => absurd (show (w.heap.size + 2 : Nat) = w.heap.size from h) (by first | omega | (intro h; exact (own_ne (aa HO) 0 2 rfl rfl (by decide)) h))) (fun h => absurd (show (w.heap.size + 2 : Nat) = w.heap.size from h) (by first | omega | (intro h; exact (own_ne (aa HO) 0 2 rfl rfl (by decide)) h))) h) rfl rfl rfl)))
     (Rg.dz (Rg.plain rfl (lg (sw (b := w.heap.size) (off := 0) rfl (Rg.gm kr rfl) rfl rfl)))
     (Rg.dz (Rg.plain rfl (lg (vw (b := w.heap.size) (off := 4) (TB := 100) (pre := [.r x]) (mid := [.r b]) (post := []) og rfl (Rg.ai 3 kr) (fun W h => GS.get ug (fun h => absurd (show (w.heap.size + 2 : Nat) = w.heap.size from h) (by first | omega | (intro h; exact (own_ne (aa HO) 0 2 rfl rfl (by decide)) h))) (fun h => absurd (show (w.heap.size + 2 : Nat) = w.heap.size from h) (by first | omega | (intro h; exact (own_ne (aa HO) 0 2 rfl rfl (by decide)) h))) h) rfl rfl rfl)))
     (Rg.dz (Rg.plain rfl (lg (ll Tryz.func71 kr rfl GS.step (Rg.ai 2 kr) (Rg.ai 4 kr) (fun W v0 v1 hG h0 h1 => Cb (aa HS).1 (aa HS).2.2.2 h0 h1))))
     (Rg.dz (Rg.plain rfl (lg (Gg rfl (Rg.ai 5 kr) (Rg.lv _) rfl rfl)))
     (Rg.dz (Rg.plain rfl (Ev (b := w.heap.size + 2) (old := zY) (new := [.r x, .r b]) Gr rfl (Rg.gm kr rfl) (Rg.ai 0 kr) me0 (aa HO).nd (.inl rfl) (.inr rfl) rfl rfl rfl))
     (Rg.dz (Rg.plain rfl (lg (ma rfl (Rg.ai 6 kr))))
     Rg.fq))))))))) ?_
   intro v4 V4 hG4 hv4 xh
   simp only [Rg.puts, ko, kg, jy, jw, Act.put, jr, jq, jo]
   have e1 : v4 1 = .pointer (some ⟨w.heap.size, 0, none⟩) := hv4 1 (by decide)
   have e3 : v4 3 = .pointer (some ⟨w.heap.size, 4, none⟩) := hv4 3 (by decide)
   have e5 : v4 5 = .int .i64 (ja (x.num * b.den - b.num * x.den)) := hv4 5 (by decide)
   have e6 : v4 6 = .bool (decide (ja (x.num * b.den - b.num * x.den) ≤ 0)) := hv4 6 (by decide)
   have e8 : v4 8 = .bool (decide (ja (x.num * b.den - b.num * x.den) ≤ 0)) := hv4 8 (by decide)
   simp only [e1, e3, e5, e6, e8]
   have hO : Own w [(w.heap.size + 2, 100, [.r x, .r b]), (w.heap.size + 1, 100, [.r a, .r b]), (w.heap.size, 100, [.r x, .r b])] V4 := by
    refine ⟨hG4.bel, (aa HO).nd, fun b T ls hm => ?_⟩
    rcases List.mem_cons.1 hm with e | hm
    ·
     cases e; exact ⟨(hG4.box _ _ _ me0).1, hv4 7 (by decide)⟩
    rcases List.mem_cons.1 hm with e | hm
    ·
     cases e; exact ⟨(hG4.box _ _ _ rf).1, GS.get rf (fun h => absurd (show (w.heap.size + 2 : Nat) = w.heap.size + 1 from h) (by first | omega | (intro h; exact (own_ne (aa HO) 0 1 rfl rfl (by decide)) h))) (fun h => absurd (show (w.heap.size + 2 : Nat) = w.heap.size + 1 from h) (by first | omega | (intro h; exact (own_ne (aa HO) 0 1 rfl rfl (by decide)) h))) hG4⟩
    rcases List.mem_cons.1 hm with e | hm
    ·
     cases e; exact ⟨(hG4.box _ _ _ ug).1, GS.get ug (fun h => absurd (show (w.heap.size + 2 : Nat) = w.heap.size from h) (by first | omega | (intro h; exact (own_ne (aa HO) 0 2 rfl rfl (by decide)) h))) (fun h => absurd (show (w.heap.size + 2 : Nat) = w.heap.size from h) (by first | omega | (intro h; exact (own_ne (aa HO) 0 2 rfl rfl (by decide)) h))) hG4⟩
    cases hm
   clear HO
   have HO := hide hO
   clear hO hG4 hv4 xh
   try clear e1 e3 e5 e6 e8
   go_wp2_with fail
   exact Bv Tryz.results106 Nv rfl rfl (aa HO) me0 rfl rfl
  ·
   have k2 : decide (ja (b.num * y.den - y.num * b.den) < 0) = false := decide_eq_false g2
   have hh : y = hi := by rw [aa HHI]; exact (if_neg g2).symm
   clear HHI g2
   subst hh
   go_upto_region 3 with fail
   refine Rg.ik 6 31 (Rg.pick [Rg.cz (.pointer (some ⟨w.heap.size + 1, 4, none⟩)), bg [.r b], Rg.cz (.pointer (some ⟨w.heap.size, 4, none⟩)), bg [.r y], Rg.cz (.int .i64 (ja (b.num * y.den - y.num * b.den))), Rg.cz (.bool false)]) (dw w [(w.heap.size + 2, 100, zY), (w.heap.size + 1, 100, [.r a, .r b]), (w.heap.size, 100, [.r x, .r y])] V1) jb [] kr rfl (Rg.iq.pick ⟨Rg.ag _, cu _, Rg.ag _, cu _, Rg.ag _, Rg.ag _, trivial⟩) (dw.begin (aa HO))
    (ah (sw (b := w.heap.size + 1) (off := 0) rfl (Rg.gm kr rfl) rfl rfl)
    (ah (je og rf (Rg.ai 0 kr) [.r a] [.r b] [])
    (ah (sw (b := w.heap.size) (off := 0) rfl (Rg.gm kr rfl) rfl rfl)
    (ah (je og ug (Rg.ai 2 kr) [.r x] [.r y] [])
    (ah (ll Tryz.func71 kr rfl dw.step (Rg.ai 1 kr) (Rg.ai 3 kr) (fun W v0 v1 hG h0 h1 => Cb (aa HS).2.2.2 (aa HS).2.1 h0 h1))
    (ah (Em rfl (Rg.ai 4 kr) (Rg.lv _) rfl k2)
    Rg.fq)))))) ?_
   intro v2 V2 hG2 hv2 hne2
   simp only [Rg.puts, ko, kg, jy, jw, Act.put, jr, jq, jo]
   have e5 : v2 5 = .bool false := hv2 5 (by decide)
   simp only [e5]
   have hO := hG2.1
   clear HO
   have HO := hide hO
   clear hO hG2 hv2 hne2
   try clear e5
   go_upto_region 5 with fail
   refine Rg.region 9 31 (Rg.pick [bg [.r x, .r y], Rg.cz (.pointer (some ⟨w.heap.size, 0, none⟩)), bg [.r x], Rg.cz (.pointer (some ⟨w.heap.size, 4, none⟩)), bg [.r y], Rg.cz (.int .i64 (ja (x.num * y.den - y.num * x.den))), Rg.cz (.bool (decide (ja (x.num * y.den - y.num * x.den) ≤ 0))), Ue (w.heap.size + 2, 100, [.r x, .r y]), Rg.cz (.bool (decide (ja (x.num * y.den - y.num * x.den) ≤ 0)))]) (GS w [(w.heap.size + 2, 100, zY), (w.heap.size + 1, 100, [.r a, .r b]), (w.heap.size, 100, [.r x, .r y])] (w.heap.size + 2, 100, [.r x, .r y]) (w.heap.size + 2, 100, [.r x, .r y])) (ES (w.heap.size + 2, 100, [.r x, .r y]) (w.heap.size + 2, 100, [.r x, .r y])) [] kr kr rfl (Rg.iq.pick ⟨(tu _), (uy _), (tu _), (uy _), (tu _), (uy _), (uy _), (Et (.inr rfl) (.inl rfl)), (uy _), trivial⟩) (GS.start (aa HO))
    (Rg.dz (Rg.plain rfl (lg (vw (b := w.heap.size) (off := 0) (TB := 100) (pre := []) (mid := [.r x, .r y]) (post := []) Rh rfl (Rg.gm kr rfl) (fun W h => GS.get ug (fun h => absurd (show (w.heap.size + 2 : Nat) = w.heap.size from h) (by first | omega | (intro h; exact (own_ne (aa HO) 0 2 rfl rfl (by decide)) h))) (fun h => absurd (show (w.heap.size + 2 : Nat) = w.heap.size from h) (by first | omega | (intro h; exact (own_ne (aa HO) 0 2 rfl rfl (by decide)) h))) h) rfl rfl rfl)))
     (Rg.dz (Rg.plain rfl (lg (xc (b := w.heap.size) (off := 0) rfl (Rg.gm kr rfl) rfl rfl)))
     (Rg.dz (Rg.plain rfl (lg (vw (b := w.heap.size) (off := 0) (TB := 100) (pre := []) (mid := [.r x]) (post := [.r y]) og rfl (Rg.ai 1 kr) (fun W h => GS.get ug (fun h => absurd (show (w.heap.size + 2 : Nat) = w.heap.size from h) (by first | omega | (intro h; exact (own_ne (aa HO) 0 2 rfl rfl (by decide)) h))) (fun h => absurd (show (w.heap.size + 2 : Nat) = w.heap.size from h) (by first | omega | (intro h; exact (own_ne (aa HO) 0 2 rfl rfl (by decide)) h))) h) rfl rfl rfl)))
     (Rg.dz (Rg.plain rfl (lg (sw (b := w.heap.size) (off := 0) rfl (Rg.gm kr rfl) rfl rfl)))
     (Rg.dz (Rg.plain rfl (lg (vw (b := w.heap.size) (off := 4) (TB := 100) (pre := [.r x]) (mid := [.r y]) (post := []) og rfl (Rg.ai 3 kr) (fun W h => GS.get ug (fun h => absurd (show (w.heap.size + 2 : Nat) = w.heap.size from h) (by first | omega | (intro h; exact (own_ne (aa HO) 0 2 rfl rfl (by decide)) h))) (fun h => absurd (show (w.heap.size + 2 : Nat) = w.heap.size from h) (by first | omega | (intro h; exact (own_ne (aa HO) 0 2 rfl rfl (by decide)) h))) h) rfl rfl rfl)))
     (Rg.dz (Rg.plain rfl (lg (ll Tryz.func71 kr rfl GS.step (Rg.ai 2 kr) (Rg.ai 4 kr) (fun W v0 v1 hG h0 h1 => Cb (aa HS).1 (aa HS).2.1 h0 h1))))
     (Rg.dz (Rg.plain rfl (lg (Gg rfl (Rg.ai 5 kr) (Rg.lv _) rfl rfl)))
     (Rg.dz (Rg.plain rfl (Ev (b := w.heap.size + 2) (old := zY) (new := [.r x, .r y]) Gr rfl (Rg.gm kr rfl) (Rg.ai 0 kr) me0 (aa HO).nd (.inl rfl) (.inr rfl) rfl rfl rfl))
     (Rg.dz (Rg.plain rfl (lg (ma rfl (Rg.ai 6 kr))))
     Rg.fq))))))))) ?_
   intro v3 V3 hG3 hv3 si
   simp only [Rg.puts, ko, kg, jy, jw, Act.put, jr, jq, jo]
   have e1 : v3 1 = .pointer (some ⟨w.heap.size, 0, none⟩) := hv3 1 (by decide)
   have e3 : v3 3 = .pointer (some ⟨w.heap.size, 4, none⟩) := hv3 3 (by decide)
   have e5 : v3 5 = .int .i64 (ja (x.num * y.den - y.num * x.den)) := hv3 5 (by decide)
   have e6 : v3 6 = .bool (decide (ja (x.num * y.den - y.num * x.den) ≤ 0)) := hv3 6 (by decide)
   have e8 : v3 8 = .bool (decide (ja (x.num * y.den - y.num * x.den) ≤ 0)) := hv3 8 (by decide)
   simp only [e1, e3, e5, e6, e8]
   have hO : Own w [(w.heap.size + 2, 100, [.r x, .r y]), (w.heap.size + 1, 100, [.r a, .r b]), (w.heap.size, 100, [.r x, .r y])] V3 := by
    refine ⟨hG3.bel, (aa HO).nd, fun b T ls hm => ?_⟩
    rcases List.mem_cons.1 hm with e | hm
    ·
     cases e; exact ⟨(hG3.box _ _ _ me0).1, hv3 7 (by decide)⟩
    rcases List.mem_cons.1 hm with e | hm
    ·
     cases e; exact ⟨(hG3.box _ _ _ rf).1, GS.get rf (fun h => absurd (show (w.heap.size + 2 : Nat) = w.heap.size + 1 from h) (by first | omega | (intro h; exact (own_ne (aa HO) 0 1 rfl rfl (by decide)) h))) (fun h => absurd (show (w.heap.size + 2 : Nat) = w.heap.size + 1 from h) (by first | omega | (intro h; exact (own_ne (aa HO) 0 1 rfl rfl (by decide)) h))) hG3⟩
    rcases List.mem_cons.1 hm with e | hm
    ·
     cases e; exact ⟨(hG3.box _ _ _ ug).1, GS.get ug (fun h => absurd (show (w.heap.size + 2 : Nat) = w.heap.size from h) (by first | omega | (intro h; exact (own_ne (aa HO) 0 2 rfl rfl (by decide)) h))) (fun h => absurd (show (w.heap.size + 2 : Nat) = w.heap.size from h) (by first | omega | (intro h; exact (own_ne (aa HO) 0 2 rfl rfl (by decide)) h))) hG3⟩
    cases hm
   clear HO
   have HO := hide hO
   clear hO hG3 hv3 si
   try clear e1 e3 e5 e6 e8
   go_wp2_with fail
   exact Bv Tryz.results106 Nv rfl rfl (aa HO) me0 rfl rfl
end Sb

end Go.Proofs.YtfbcdfoohpkfeaaGreatDoor
