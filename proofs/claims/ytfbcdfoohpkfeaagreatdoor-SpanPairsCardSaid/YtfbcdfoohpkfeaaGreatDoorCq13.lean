/- Texts beneath a law of layer 1. -/
import Derived.Test.YtfbcdfoohpkfeaaGreatDoorCq12
set_option maxRecDepth 100000
namespace Go.Proofs.YtfbcdfoohpkfeaaGreatDoor
open Go.RowKit

namespace Sb
theorem own_ne {w W : World} {bs : List Az} (h : Own w bs W) (i j : Nat) {a b : Nat} (hi : (bs.map Prod.fst)[i]? = some a) (hj : (bs.map Prod.fst)[j]? = some b) (hij : i < j) : a ≠ b := fun e => by
 obtain ⟨hi', ei⟩ := List.getElem?_eq_some_iff.1 hi
 obtain ⟨hj', ej⟩ := List.getElem?_eq_some_iff.1 hj
 have := (List.nodup_iff_pairwise_ne.1 h.nd)
 exact (List.pairwise_iff_getElem.1 this i j hi' hj' hij) (by rw [ei, ej, e])
set_option maxHeartbeats 16000000 in
theorem agw {x : Rat} {qs : List Rat} {K : Nat} (sx : Sm K x) (sq : ∀ y ∈ qs, Sm K y) (hm : qs.length ≤ 1000000) (w : World) (u0 u1 : Value) (h0 : bg [.q x] w u0) (h1 : Qh 74 qs.length (qs.map .q) w u1) :
  Calls Tryz.prog 107 #[u0, u1] w (nk (bg [.q (fe x qs), .q (eu x qs)]) w) := by
 obtain ⟨b0, rfl, hbx⟩ := h1
 have Oz := hide sx
 have HSQ := hide sq
 have HLEN := hide hm
 have HBX := hide hbx
 clear sx sq hbx hm
 obtain ⟨Eo, Ch, Ck, c0a, Ci, Hf, Dr, Ea, c0b, Du, rfl, f0a, Iq⟩ := Lu h0
 go_enter Tryz.func107, Tryz.ntmps107
 go_upto_region 1 with fail
 have hO := (Own.push (T := 108) (ls := zE) (cs := [.int .i64 0, .bool false, .slice none 0 0, .int .i64 0, .bool false, .slice none 0 0, .int .i64 0, .bool false, .slice none 0 0, .int .i64 0, .bool false, .slice none 0 0]) (Own.push (T := 74) (ls := [.q x]) (cs := [.int .i64 Eo, .bool Ch, .slice Ck (List.length Ci) c0a, .int .i64 Hf, .bool Dr, .slice Ea (List.length Du) c0b]) (Own.nil w) (jf.q f0a Iq rfl) (w.heap.size) rfl) (((jf.vs w [.int .i64 0, .bool false, .slice none 0 0, .int .i64 0, .bool false, .slice none 0 0, .int .i64 0, .bool false, .slice none 0 0, .int .i64 0, .bool false, .slice none 0 0] rfl) : jf w zE [.int .i64 0, .bool false, .slice none 0 0, .int .i64 0, .bool false, .slice none 0 0, .int .i64 0, .bool false, .slice none 0 0, .int .i64 0, .bool false, .slice none 0 0]).below (by repeat (first | exact Below.refl _ _ | refine jk ?_ _))) (w.heap.size + 1) (by simp only [World.size_alloc]))
 generalize (w.alloc (.cells #[.int .i64 Eo, .bool Ch, .slice Ck (List.length Ci) c0a, .int .i64 Hf, .bool Dr, .slice Ea (List.length Du) c0b] 74)).alloc (.cells #[.int .i64 0, .bool false, .slice none 0 0, .int .i64 0, .bool false, .slice none 0 0, .int .i64 0, .bool false, .slice none 0 0, .int .i64 0, .bool false, .slice none 0 0] 108) = W0 at *
 have HO := hide hO
 clear hO
 go_upto_region 1 with fail
 refine Rg.ik 8 16 (Rg.pick [bg [.q x], Rg.cz (.slice (some ⟨b0, 0, none⟩) qs.length qs.length), qj [bg [.q (fe x qs)], bg [.q (eu x qs)]], qj [bg [.q (fe x qs)], bg [.q (eu x qs)]], bg [.q (fe x qs)], bg [.q (eu x qs)], uf 74 zQ W0.heap.size, uf 74 zQ W0.heap.size]) (dw w [(w.heap.size + 1, 108, zE), (w.heap.size, 74, [.q x])] W0) jb [6, 7] kr rfl (Rg.iq.pick ⟨cu _, Rg.ag _, nu ⟨(cu _), (cu _), trivial⟩, nu ⟨(cu _), (cu _), trivial⟩, cu _, cu _, ui _ _ _, ui _ _ _, trivial⟩) (dw.begin (aa HO))
  (ah (je oq rf (Rg.gm kr rfl) [] [.q x] [])
  (ah (il rfl (Rg.gm kr rfl))
  (ah (ll Tryz.func155 kr rfl dw.step (Rg.ai 0 kr) (Rg.ai 1 kr) (fun W v0 v1 hG h0 h1 => Vh (aa Oz) (aa HSQ) (aa HLEN) W _ _ h0 (by cases h1; exact ⟨b0, rfl, (aa HBX).below hG.1.bel⟩)))
  (ah (il rfl (Rg.ai 2 kr))
  (ah (oo (ts := [bg [.q (fe x qs)], bg [.q (eu x qs)]]) rfl (Rg.ai 3 kr) (of_decide_eq_true rfl) rfl)
  (ah (oo (ts := [bg [.q (fe x qs)], bg [.q (eu x qs)]]) rfl (Rg.ai 3 kr) (of_decide_eq_true rfl) rfl)
  (ah (vv Ps rfl dw.step dw.size rfl (xx (by intro j hj; simp at hj; (repeat' (first | (rcases hj with rfl | hj))) <;> first | (subst hj; exact ⟨_, _, _, rfl⟩) | exact ⟨_, _, _, rfl⟩)))
  (ah (vv Ps rfl dw.step dw.size rfl (xx (by intro j hj; simp at hj; (repeat' (first | (rcases hj with rfl | hj))) <;> first | (subst hj; exact ⟨_, _, _, rfl⟩) | exact ⟨_, _, _, rfl⟩)))
  Rg.fq)))))))) ?_
 intro v1 V1 hG1 hv1 hne1
 simp only [Rg.puts, ko, kg, jy, jw, Act.put, jr, jq, jo]
 obtain ⟨Cr, e6, Bh, Dv⟩ := (show uf 74 zQ W0.heap.size V1 (v1 6) from hv1 6 (by decide))
 obtain ⟨xz, e7, Ol, Uu⟩ := (show uf 74 zQ W0.heap.size V1 (v1 7) from hv1 7 (by decide))
 simp only [e6, e7]
 have hO := hG1.1
 have hnn : xz ≠ Cr := fun h => hne1 7 6 rfl rfl (by decide) (by decide) (by decide) rfl rfl (by rw [e6, e7, h])
 replace hO := Own.Xx (aa HO) hG1.2 Bh Dv Ol Uu hnn
 clear hnn Bh Dv Ol Uu
 refine nz hO 1 [] zQ [.q (fe x qs)] [] rfl Br rfl (show bg [.q (fe x qs)] V1 (v1 4) from hv1 4 (by decide)) rfl rfl rfl ?_
 intro zt ji hk0
 replace hO := ji
 clear ji
 refine nz hO 0 [] zQ [.q (eu x qs)] [] rfl Br rfl (hk0 _ _ (show bg [.q (eu x qs)] V1 (v1 5) from hv1 5 (by decide))) rfl rfl rfl ?_
 intro Tx Mj hk1
 replace hO := Mj
 clear Mj
 clear HO
 have HO := hide hO
 clear hO hG1 hv1 hne1 hk0 hk1
 try clear e6 e7
 go_upto_region 2 with fail
 refine Rg.ik 3 16 (Rg.pick [bg [.q (fe x qs)], bg [.q (eu x qs)], bg [.q (fe x qs), .q (eu x qs)]]) (dw w [(xz, 74, [.q (eu x qs)]), (Cr, 74, [.q (fe x qs)]), (w.heap.size + 1, 108, zE), (w.heap.size, 74, [.q x])] Tx) jb [] kr rfl (Rg.iq.pick ⟨cu _, cu _, cu _, trivial⟩) (dw.begin (aa HO))
  (ah (je oq rf (Rg.gm kr rfl) [] [.q (fe x qs)] [])
  (ah (je oq me0 (Rg.gm kr rfl) [] [.q (eu x qs)] [])
  (ah (Ew abj rfl (Rg.ai 0 kr) (Rg.ai 1 kr) rfl rfl rfl)
  Rg.fq))) ?_
 intro v2 V2 hG2 hv2 hne2
 simp only [Rg.puts, ko, kg, jy, jw, Act.put, jr, jq, jo]
 have hO := hG2.1
 refine nz hO 2 [] zE [.q (fe x qs), .q (eu x qs)] [] rfl Jh rfl (show bg [.q (fe x qs), .q (eu x qs)] V2 (v2 2) from hv2 2 (by decide)) rfl rfl rfl ?_
 intro Dh ji hk0
 replace hO := ji
 clear ji
 clear HO
 have HO := hide hO
 clear hO hG2 hv2 hne2 hk0
 go_wp2_with fail
 exact Lt Tryz.results107 Rf rfl (aa HO) ug rfl rfl
set_option maxHeartbeats 16000000 in
theorem bdi {x y a b : Rat} {K : Nat} (sx : Sm K x) (sy : Sm K y) (sa : Sm K a) (sb : Sm K b) (w : World) (u0 : Value) (h0 : bg [.q x, .q y] w u0) (u1 : Value) (h1 : bg [.q a, .q b] w u1) :
  Calls Tryz.prog 105 #[u0, u1] w (nk (qj [bg [.q (eu x [a]), .q (fe y [b])], Rg.cz (.bool (decide (ja ((eu x [a]).num * (fe y [b]).den - (fe y [b]).num * (eu x [a]).den) ≤ 0)))]) w) := by
 have HS := hide (And.intro sx (And.intro sy (And.intro sa sb)))
 clear sx sy sa sb
 obtain ⟨Eo, Ch, Ck, c0a, Ci, Hf, Dr, Ea, c0b, Du, Pn, Pw, Ql, Qf, Pz, Pm, Pv, Qk, Qe, Py, rfl, f0a, Iq, Zw, Zv⟩ := Ov h0
 obtain ⟨Fj, Fq, Bg, c1a, Bf, Jt, n1b, Dz, Dx, Dt, s1c, n1c, A1c, c1c, l1c, s1d, n1d, A1d, c1d, l1d, rfl, f1a, f1b, f1c, f1d⟩ := Ov h1
 go_enter Tryz.func105, Tryz.ntmps105
 go_upto_region 1 with fail
 have hO := (Own.push (T := 108) (ls := zE) (cs := [.int .i64 0, .bool false, .slice none 0 0, .int .i64 0, .bool false, .slice none 0 0, .int .i64 0, .bool false, .slice none 0 0, .int .i64 0, .bool false, .slice none 0 0]) (Own.push (T := 108) (ls := [.q a, .q b]) (cs := [.int .i64 Fj, .bool Fq, .slice Bg (List.length Bf) c1a, .int .i64 Jt, .bool n1b, .slice Dz (List.length Dt) Dx, .int .i64 s1c, .bool n1c, .slice A1c (List.length l1c) c1c, .int .i64 s1d, .bool n1d, .slice A1d (List.length l1d) c1d]) (Own.push (T := 108) (ls := [.q x, .q y]) (cs := [.int .i64 Eo, .bool Ch, .slice Ck (List.length Ci) c0a, .int .i64 Hf, .bool Dr, .slice Ea (List.length Du) c0b, .int .i64 Pn, .bool Pw, .slice Ql (List.length Pz) Qf, .int .i64 Pm, .bool Pv, .slice Qk (List.length Py) Qe]) (Own.nil w) (jf.q f0a Iq (jf.q Zw Zv rfl)) (w.heap.size) rfl) (((jf.q f1a f1b (jf.q f1c f1d rfl)) : jf w [.q a, .q b] [.int .i64 Fj, .bool Fq, .slice Bg (List.length Bf) c1a, .int .i64 Jt, .bool n1b, .slice Dz (List.length Dt) Dx, .int .i64 s1c, .bool n1c, .slice A1c (List.length l1c) c1c, .int .i64 s1d, .bool n1d, .slice A1d (List.length l1d) c1d]).below (by repeat (first | exact Below.refl _ _ | refine jk ?_ _))) (w.heap.size + 1) (by simp only [World.size_alloc])) (((jf.vs w [.int .i64 0, .bool false, .slice none 0 0, .int .i64 0, .bool false, .slice none 0 0, .int .i64 0, .bool false, .slice none 0 0, .int .i64 0, .bool false, .slice none 0 0] rfl) : jf w zE [.int .i64 0, .bool false, .slice none 0 0, .int .i64 0, .bool false, .slice none 0 0, .int .i64 0, .bool false, .slice none 0 0, .int .i64 0, .bool false, .slice none 0 0]).below (by repeat (first | exact Below.refl _ _ | refine jk ?_ _))) (w.heap.size + 2) (by simp only [World.size_alloc]))
 generalize ((w.alloc (.cells #[.int .i64 Eo, .bool Ch, .slice Ck (List.length Ci) c0a, .int .i64 Hf, .bool Dr, .slice Ea (List.length Du) c0b, .int .i64 Pn, .bool Pw, .slice Ql (List.length Pz) Qf, .int .i64 Pm, .bool Pv, .slice Qk (List.length Py) Qe] 108)).alloc (.cells #[.int .i64 Fj, .bool Fq, .slice Bg (List.length Bf) c1a, .int .i64 Jt, .bool n1b, .slice Dz (List.length Dt) Dx, .int .i64 s1c, .bool n1c, .slice A1c (List.length l1c) c1c, .int .i64 s1d, .bool n1d, .slice A1d (List.length l1d) c1d] 108)).alloc (.cells #[.int .i64 0, .bool false, .slice none 0 0, .int .i64 0, .bool false, .slice none 0 0, .int .i64 0, .bool false, .slice none 0 0, .int .i64 0, .bool false, .slice none 0 0] 108) = W0 at *
 have HO := hide hO
 clear hO
 go_upto_region 1 with fail
 refine Rg.ik 11 35 (Rg.pick [Rg.cz (.pointer (some ⟨w.heap.size, 0, none⟩)), bg [.q x], Rg.cz (.pointer (some ⟨w.heap.size + 1, 0, none⟩)), bg [.q a], Qh 74 1 [.q a], qj [bg [.q (fe x [a])], bg [.q (eu x [a])]], qj [bg [.q (fe x [a])], bg [.q (eu x [a])]], bg [.q (fe x [a])], bg [.q (eu x [a])], uf 74 zQ W0.heap.size, uf 74 zQ W0.heap.size]) (dw w [(w.heap.size + 2, 108, zE), (w.heap.size + 1, 108, [.q a, .q b]), (w.heap.size, 108, [.q x, .q y])] W0) jb [9, 10] kr rfl (Rg.iq.pick ⟨Rg.ag _, cu _, Rg.ag _, cu _, Ji _ _ _, nu ⟨(cu _), (cu _), trivial⟩, nu ⟨(cu _), (cu _), trivial⟩, cu _, cu _, ui _ _ _, ui _ _ _, trivial⟩) (dw.begin (aa HO))
  (ah (Be (b := w.heap.size) (off := 0) rfl (Rg.gm kr rfl) rfl rfl)
  (ah (je oq ug (Rg.ai 0 kr) [] [.q x] [.q y])
  (ah (Be (b := w.heap.size + 1) (off := 0) rfl (Rg.gm kr rfl) rfl rfl)
  (ah (je oq rf (Rg.ai 2 kr) [] [.q a] [.q b])
  (ah (Fz (ps := [(0, .tmp 14)]) (gs := [[.q a]]) aaa rfl dw.step rfl (wy.cons (Rg.ai 3 kr) rfl wy.nil) rfl)
  (ah (ll Tryz.func155 kr rfl dw.step (Rg.ai 1 kr) (Rg.ai 4 kr) (fun W v0 v1 hG h0 h1 => Vh (qs := [a]) (aa HS).1 (by intro z hz; rw [List.mem_singleton.1 hz]; exact (aa HS).2.2.1) (by simp) W _ _ h0 h1))
  (ah (il rfl (Rg.ai 5 kr))
  (ah (oo (ts := [bg [.q (fe x [a])], bg [.q (eu x [a])]]) rfl (Rg.ai 6 kr) (of_decide_eq_true rfl) rfl)
  (ah (oo (ts := [bg [.q (fe x [a])], bg [.q (eu x [a])]]) rfl (Rg.ai 6 kr) (of_decide_eq_true rfl) rfl)
  (ah (vv Ps rfl dw.step dw.size rfl (xx (by intro j hj; simp at hj; (repeat' (first | (rcases hj with rfl | hj))) <;> first | (subst hj; exact ⟨_, _, _, rfl⟩) | exact ⟨_, _, _, rfl⟩)))
  (ah (vv Ps rfl dw.step dw.size rfl (xx (by intro j hj; simp at hj; (repeat' (first | (rcases hj with rfl | hj))) <;> first | (subst hj; exact ⟨_, _, _, rfl⟩) | exact ⟨_, _, _, rfl⟩)))
  Rg.fq))))))))))) ?_
 intro v1 V1 hG1 hv1 hne1
 simp only [Rg.puts, ko, kg, jy, jw, Act.put, jr, jq, jo]
 obtain ⟨abo, e9, afx, hz9⟩ := (show uf 74 zQ W0.heap.size V1 (v1 9) from hv1 9 (by decide))
 obtain ⟨Iw, e10, Zr, afj⟩ := (show uf 74 zQ W0.heap.size V1 (v1 10) from hv1 10 (by decide))
 simp only [e9, e10]
 have hO := hG1.1
 have hnn : Iw ≠ abo := fun h => hne1 10 9 rfl rfl (by decide) (by decide) (by decide) rfl rfl (by rw [e9, e10, h])
 replace hO := Own.Xx (aa HO) hG1.2 afx hz9 Zr afj hnn
 clear hnn afx hz9 Zr afj
 refine nz hO 1 [] zQ [.q (fe x [a])] [] rfl Br rfl (show bg [.q (fe x [a])] V1 (v1 7) from hv1 7 (by decide)) rfl rfl rfl ?_
 intro zt ji hk0
 replace hO := ji
 clear ji
 refine nz hO 0 [] zQ [.q (eu x [a])] [] rfl Br rfl (hk0 _ _ (show bg [.q (eu x [a])] V1 (v1 8) from hv1 8 (by decide))) rfl rfl rfl ?_
 intro Tx Mj hk1
 replace hO := Mj
 clear Mj
 clear HO
 have HO := hide hO
 clear hO hG1 hv1 hne1 hk0 hk1
 try clear e9 e10
 go_upto_region 2 with fail
 refine Rg.ik 11 35 (Rg.pick [Rg.cz (.pointer (some ⟨w.heap.size, 6, none⟩)), bg [.q y], Rg.cz (.pointer (some ⟨w.heap.size + 1, 6, none⟩)), bg [.q b], Qh 74 1 [.q b], qj [bg [.q (fe y [b])], bg [.q (eu y [b])]], qj [bg [.q (fe y [b])], bg [.q (eu y [b])]], bg [.q (fe y [b])], bg [.q (eu y [b])], uf 74 zQ Tx.heap.size, uf 74 zQ Tx.heap.size]) (dw w [(Iw, 74, [.q (eu x [a])]), (abo, 74, [.q (fe x [a])]), (w.heap.size + 2, 108, zE), (w.heap.size + 1, 108, [.q a, .q b]), (w.heap.size, 108, [.q x, .q y])] Tx) jb [9, 10] kr rfl (Rg.iq.pick ⟨Rg.ag _, cu _, Rg.ag _, cu _, Ji _ _ _, nu ⟨(cu _), (cu _), trivial⟩, nu ⟨(cu _), (cu _), trivial⟩, cu _, cu _, ui _ _ _, ui _ _ _, trivial⟩) (dw.begin (aa HO))
  (ah (Bt (b := w.heap.size) (off := 0) rfl (Rg.gm kr rfl) rfl rfl)
  (ah (je oq Za (Rg.ai 0 kr) [.q x] [.q y] [])
  (ah (Bt (b := w.heap.size + 1) (off := 0) rfl (Rg.gm kr rfl) rfl rfl)
  (ah (je oq Ub (Rg.ai 2 kr) [.q a] [.q b] [])
  (ah (Fz (ps := [(0, .tmp 23)]) (gs := [[.q b]]) aaa rfl dw.step rfl (wy.cons (Rg.ai 3 kr) rfl wy.nil) rfl)
  (ah (ll Tryz.func155 kr rfl dw.step (Rg.ai 1 kr) (Rg.ai 4 kr) (fun W v0 v1 hG h0 h1 => Vh (qs := [b]) (aa HS).2.1 (by intro z hz; rw [List.mem_singleton.1 hz]; exact (aa HS).2.2.2) (by simp) W _ _ h0 h1))
  (ah (il rfl (Rg.ai 5 kr))
  (ah (oo (ts := [bg [.q (fe y [b])], bg [.q (eu y [b])]]) rfl (Rg.ai 6 kr) (of_decide_eq_true rfl) rfl)
  (ah (oo (ts := [bg [.q (fe y [b])], bg [.q (eu y [b])]]) rfl (Rg.ai 6 kr) (of_decide_eq_true rfl) rfl)
  (ah (vv Ps rfl dw.step dw.size rfl (xx (by intro j hj; simp at hj; (repeat' (first | (rcases hj with rfl | hj))) <;> first | (subst hj; exact ⟨_, _, _, rfl⟩) | exact ⟨_, _, _, rfl⟩)))
  (ah (vv Ps rfl dw.step dw.size rfl (xx (by intro j hj; simp at hj; (repeat' (first | (rcases hj with rfl | hj))) <;> first | (subst hj; exact ⟨_, _, _, rfl⟩) | exact ⟨_, _, _, rfl⟩)))
  Rg.fq))))))))))) ?_
 intro v2 V2 hG2 hv2 hne2
 simp only [Rg.puts, ko, kg, jy, jw, Act.put, jr, jq, jo]
 obtain ⟨Ot, e9, afx, hz9⟩ := (show uf 74 zQ Tx.heap.size V2 (v2 9) from hv2 9 (by decide))
 obtain ⟨aab, e10, Zr, afj⟩ := (show uf 74 zQ Tx.heap.size V2 (v2 10) from hv2 10 (by decide))
 simp only [e9, e10]
 have hO := hG2.1
 have hnn : aab ≠ Ot := fun h => hne2 10 9 rfl rfl (by decide) (by decide) (by decide) rfl rfl (by rw [e9, e10, h])
 replace hO := Own.Xx (aa HO) hG2.2 afx hz9 Zr afj hnn
 clear hnn afx hz9 Zr afj
 refine nz hO 1 [] zQ [.q (fe y [b])] [] rfl Br rfl (show bg [.q (fe y [b])] V2 (v2 7) from hv2 7 (by decide)) rfl rfl rfl ?_
 intro Dh ji hk0
 replace hO := ji
 clear ji
 refine nz hO 0 [] zQ [.q (eu y [b])] [] rfl Br rfl (hk0 _ _ (show bg [.q (eu y [b])] V2 (v2 8) from hv2 8 (by decide))) rfl rfl rfl ?_
 intro bdw Mj hk1
 replace hO := Mj
 clear Mj
 clear HO
 have HO := hide hO
 clear hO hG2 hv2 hne2 hk0 hk1
 try clear e9 e10
 go_upto_region 3 with fail
 refine Rg.region 9 35 (Rg.pick [bg [.q (eu x [a])], bg [.q (fe y [b])], bg [.q (eu x [a]), .q (fe y [b])], bg [.q (eu x [a])], bg [.q (fe y [b])], Rg.cz (.int .i64 (ja ((eu x [a]).num * (fe y [b]).den - (fe y [b]).num * (eu x [a]).den))), Rg.cz (.bool (decide (ja ((eu x [a]).num * (fe y [b]).den - (fe y [b]).num * (eu x [a]).den) ≤ 0))), Ue (w.heap.size + 2, 108, [.q (eu x [a]), .q (fe y [b])]), Rg.cz (.bool (decide (ja ((eu x [a]).num * (fe y [b]).den - (fe y [b]).num * (eu x [a]).den) ≤ 0)))]) (GS w [(aab, 74, [.q (eu y [b])]), (Ot, 74, [.q (fe y [b])]), (Iw, 74, [.q (eu x [a])]), (abo, 74, [.q (fe x [a])]), (w.heap.size + 2, 108, zE), (w.heap.size + 1, 108, [.q a, .q b]), (w.heap.size, 108, [.q x, .q y])] (w.heap.size + 2, 108, [.q (eu x [a]), .q (fe y [b])]) (w.heap.size + 2, 108, [.q (eu x [a]), .q (fe y [b])])) (ES (w.heap.size + 2, 108, [.q (eu x [a]), .q (fe y [b])]) (w.heap.size + 2, 108, [.q (eu x [a]), .q (fe y [b])])) [] kr kr rfl (Rg.iq.pick ⟨(tu _), (tu _), (tu _), (tu _), (tu _), (uy _), (uy _), (Et (.inr rfl) (.inl rfl)), (uy _), trivial⟩) (GS.start (aa HO))
  (Rg.dz (Rg.plain rfl (lg (vw (b := Iw) (off := 0) (TB := 74) (pre := []) (mid := [.q (eu x [a])]) (post := []) oq rfl (Rg.gm kr rfl) (fun W h => GS.get ug (fun h => absurd (show (w.heap.size + 2 : Nat) = Iw from h) (by first | omega | (intro h; exact (fun h => own_ne (aa HO) 2 4 rfl rfl (by decide) h.symm) h))) (fun h => absurd (show (w.heap.size + 2 : Nat) = Iw from h) (by first | omega | (intro h; exact (fun h => own_ne (aa HO) 2 4 rfl rfl (by decide) h.symm) h))) h) rfl rfl rfl)))
   (Rg.dz (Rg.plain rfl (lg (vw (b := Ot) (off := 0) (TB := 74) (pre := []) (mid := [.q (fe y [b])]) (post := []) oq rfl (Rg.gm kr rfl) (fun W h => GS.get rf (fun h => absurd (show (w.heap.size + 2 : Nat) = Ot from h) (by first | omega | (intro h; exact (fun h => own_ne (aa HO) 1 4 rfl rfl (by decide) h.symm) h))) (fun h => absurd (show (w.heap.size + 2 : Nat) = Ot from h) (by first | omega | (intro h; exact (fun h => own_ne (aa HO) 1 4 rfl rfl (by decide) h.symm) h))) h) rfl rfl rfl)))
   (Rg.dz (Rg.plain rfl (lg (Ew abj rfl (Rg.ai 0 kr) (Rg.ai 1 kr) rfl rfl rfl)))
   (Rg.dz (Rg.plain rfl (lg (vw (b := Iw) (off := 0) (TB := 74) (pre := []) (mid := [.q (eu x [a])]) (post := []) oq rfl (Rg.gm kr rfl) (fun W h => GS.get ug (fun h => absurd (show (w.heap.size + 2 : Nat) = Iw from h) (by first | omega | (intro h; exact (fun h => own_ne (aa HO) 2 4 rfl rfl (by decide) h.symm) h))) (fun h => absurd (show (w.heap.size + 2 : Nat) = Iw from h) (by first | omega | (intro h; exact (fun h => own_ne (aa HO) 2 4 rfl rfl (by decide) h.symm) h))) h) rfl rfl rfl)))
   (Rg.dz (Rg.plain rfl (lg (vw (b := Ot) (off := 0) (TB := 74) (pre := []) (mid := [.q (fe y [b])]) (post := []) oq rfl (Rg.gm kr rfl) (fun W h => GS.get rf (fun h => absurd (show (w.heap.size + 2 : Nat) = Ot from h) (by first | omega | (intro h; exact (fun h => own_ne (aa HO) 1 4 rfl rfl (by decide) h.symm) h))) (fun h => absurd (show (w.heap.size + 2 : Nat) = Ot from h) (by first | omega | (intro h; exact (fun h => own_ne (aa HO) 1 4 rfl rfl (by decide) h.symm) h))) h) rfl rfl rfl)))
   (Rg.dz (Rg.plain rfl (lg (ll Tryz.func69 kr rfl GS.step (Rg.ai 3 kr) (Rg.ai 4 kr) (fun W v0 v1 hG h0 h1 => Gy (Kz (aa HS).1 (by intro z hz; rw [List.mem_singleton.1 hz]; exact (aa HS).2.2.1)) (Re (aa HS).2.1 (by intro z hz; rw [List.mem_singleton.1 hz]; exact (aa HS).2.2.2)) h0 h1))))
   (Rg.dz (Rg.plain rfl (lg (Gg rfl (Rg.ai 5 kr) (Rg.lv _) rfl rfl)))
   (Rg.dz (Rg.plain rfl (Ev (b := w.heap.size + 2) (old := zE) (new := [.q (eu x [a]), .q (fe y [b])]) Jh rfl (Rg.gm kr rfl) (Rg.ai 2 kr) Za (aa HO).nd (.inl rfl) (.inr rfl) rfl rfl rfl))
   (Rg.dz (Rg.plain rfl (lg (ma rfl (Rg.ai 6 kr))))
   Rg.fq))))))))) ?_
 intro v3 V3 hG3 hv3 si
 simp only [Rg.puts, ko, kg, jy, jw, Act.put, jr, jq, jo]
 have e5 : v3 5 = .int .i64 (ja ((eu x [a]).num * (fe y [b]).den - (fe y [b]).num * (eu x [a]).den)) := hv3 5 (by decide)
 have e6 : v3 6 = .bool (decide (ja ((eu x [a]).num * (fe y [b]).den - (fe y [b]).num * (eu x [a]).den) ≤ 0)) := hv3 6 (by decide)
 have e8 : v3 8 = .bool (decide (ja ((eu x [a]).num * (fe y [b]).den - (fe y [b]).num * (eu x [a]).den) ≤ 0)) := hv3 8 (by decide)
 simp only [e5, e6, e8]
 have hO : Own w [(aab, 74, [.q (eu y [b])]), (Ot, 74, [.q (fe y [b])]), (Iw, 74, [.q (eu x [a])]), (abo, 74, [.q (fe x [a])]), (w.heap.size + 2, 108, [.q (eu x [a]), .q (fe y [b])]), (w.heap.size + 1, 108, [.q a, .q b]), (w.heap.size, 108, [.q x, .q y])] V3 := by
  refine ⟨hG3.bel, (aa HO).nd, fun b T ls hm => ?_⟩
  rcases List.mem_cons.1 hm with e | hm
  ·
   cases e; exact ⟨(hG3.box _ _ _ me0).1, GS.get me0 (fun h => absurd (show (w.heap.size + 2 : Nat) = aab from h) (by first | omega | (intro h; exact (fun h => own_ne (aa HO) 0 4 rfl rfl (by decide) h.symm) h))) (fun h => absurd (show (w.heap.size + 2 : Nat) = aab from h) (by first | omega | (intro h; exact (fun h => own_ne (aa HO) 0 4 rfl rfl (by decide) h.symm) h))) hG3⟩
  rcases List.mem_cons.1 hm with e | hm
  ·
   cases e; exact ⟨(hG3.box _ _ _ rf).1, GS.get rf (fun h => absurd (show (w.heap.size + 2 : Nat) = Ot from h) (by first | omega | (intro h; exact (fun h => own_ne (aa HO) 1 4 rfl rfl (by decide) h.symm) h))) (fun h => absurd (show (w.heap.size + 2 : Nat) = Ot from h) (by first | omega | (intro h; exact (fun h => own_ne (aa HO) 1 4 rfl rfl (by decide) h.symm) h))) hG3⟩
  rcases List.mem_cons.1 hm with e | hm
  ·
   cases e; exact ⟨(hG3.box _ _ _ ug).1, GS.get ug (fun h => absurd (show (w.heap.size + 2 : Nat) = Iw from h) (by first | omega | (intro h; exact (fun h => own_ne (aa HO) 2 4 rfl rfl (by decide) h.symm) h))) (fun h => absurd (show (w.heap.size + 2 : Nat) = Iw from h) (by first | omega | (intro h; exact (fun h => own_ne (aa HO) 2 4 rfl rfl (by decide) h.symm) h))) hG3⟩
  rcases List.mem_cons.1 hm with e | hm
  ·
   cases e; exact ⟨(hG3.box _ _ _ Ub).1, GS.get Ub (fun h => absurd (show (w.heap.size + 2 : Nat) = abo from h) (by first | omega | (intro h; exact (fun h => own_ne (aa HO) 3 4 rfl rfl (by decide) h.symm) h))) (fun h => absurd (show (w.heap.size + 2 : Nat) = abo from h) (by first | omega | (intro h; exact (fun h => own_ne (aa HO) 3 4 rfl rfl (by decide) h.symm) h))) hG3⟩
  rcases List.mem_cons.1 hm with e | hm
  ·
   cases e; exact ⟨(hG3.box _ _ _ Za).1, hv3 7 (by decide)⟩
  rcases List.mem_cons.1 hm with e | hm
  ·
   cases e; exact ⟨(hG3.box _ _ _ me5).1, GS.get me5 (fun h => absurd (show (w.heap.size + 2 : Nat) = w.heap.size + 1 from h) (by first | omega | (intro h; exact (own_ne (aa HO) 4 5 rfl rfl (by decide)) h))) (fun h => absurd (show (w.heap.size + 2 : Nat) = w.heap.size + 1 from h) (by first | omega | (intro h; exact (own_ne (aa HO) 4 5 rfl rfl (by decide)) h))) hG3⟩
  rcases List.mem_cons.1 hm with e | hm
  ·
   cases e; exact ⟨(hG3.box _ _ _ me6).1, GS.get me6 (fun h => absurd (show (w.heap.size + 2 : Nat) = w.heap.size from h) (by first | omega | (intro h; exact (own_ne (aa HO) 4 6 rfl rfl (by decide)) h))) (fun h => absurd (show (w.heap.size + 2 : Nat) = w.heap.size from h) (by first | omega | (intro h; exact (own_ne (aa HO) 4 6 rfl rfl (by decide)) h))) hG3⟩
  cases hm
 clear HO
 have HO := hide hO
 clear hO hG3 hv3 si
 try clear e5 e6 e8
 go_wp2_with fail
 exact Bv Tryz.results105 Rf rfl rfl (aa HO) Za rfl rfl
theorem Ny {x y a b : Rat} {K : Nat} (sx : Sm K x) (sy : Sm K y) (sa : Sm K a) (sb : Sm K b) (hK : K + K ≤ 1000000) (w : World) (hT : xg w) : Sm (K + K) (x * a) ∧ ∀ z ∈ [x * b, y * a, y * b], Sm (K + K) z := by
 refine ⟨sx.mul sa hK w hT, fun z hz => ?_⟩
 simp only [List.mem_cons, List.not_mem_nil, or_false] at hz
 rcases hz with rfl | rfl | rfl
 ·
  exact sx.mul sb hK w hT
 ·
  exact sy.mul sa hK w hT
 ·
  exact sy.mul sb hK w hT
set_option maxHeartbeats 16000000 in
theorem azn {x y a b : Rat} {K : Nat} (sx : Sm K x) (sy : Sm K y) (sa : Sm K a) (sb : Sm K b) (hK : K + K ≤ 1000000) (w : World) (hT : xg w) (u0 : Value) (h0 : bg [.q x, .q y] w u0) (u1 : Value) (h1 : bg [.q a, .q b] w u1) :
  Calls Tryz.prog 151 #[u0, u1] w (nk (bg [.q (fe (x * a) [x * b, y * a, y * b]), .q (eu (x * a) [x * b, y * a, y * b])]) w) := by
 have HS := hide (And.intro sx (And.intro sy (And.intro sa (And.intro sb hK))))
 have HP := hide (Ny sx sy sa sb hK w hT)
 have HT := hide hT
 clear sx sy sa sb hK hT
 obtain ⟨Eo, Ch, Ck, c0a, Ci, Hf, Dr, Ea, c0b, Du, Pn, Pw, Ql, Qf, Pz, Pm, Pv, Qk, Qe, Py, rfl, f0a, Iq, Zw, Zv⟩ := Ov h0
 obtain ⟨Fj, Fq, Bg, c1a, Bf, Jt, n1b, Dz, Dx, Dt, s1c, n1c, A1c, c1c, l1c, s1d, n1d, A1d, c1d, l1d, rfl, f1a, f1b, f1c, f1d⟩ := Ov h1
 go_enter Tryz.func151, Tryz.ntmps151
 go_upto_region 1 with fail
 have hO := (Own.push (T := 108) (ls := zE) (cs := [.int .i64 0, .bool false, .slice none 0 0, .int .i64 0, .bool false, .slice none 0 0, .int .i64 0, .bool false, .slice none 0 0, .int .i64 0, .bool false, .slice none 0 0]) (Own.push (T := 108) (ls := [.q a, .q b]) (cs := [.int .i64 Fj, .bool Fq, .slice Bg (List.length Bf) c1a, .int .i64 Jt, .bool n1b, .slice Dz (List.length Dt) Dx, .int .i64 s1c, .bool n1c, .slice A1c (List.length l1c) c1c, .int .i64 s1d, .bool n1d, .slice A1d (List.length l1d) c1d]) (Own.push (T := 108) (ls := [.q x, .q y]) (cs := [.int .i64 Eo, .bool Ch, .slice Ck (List.length Ci) c0a, .int .i64 Hf, .bool Dr, .slice Ea (List.length Du) c0b, .int .i64 Pn, .bool Pw, .slice Ql (List.length Pz) Qf, .int .i64 Pm, .bool Pv, .slice Qk (List.length Py) Qe]) (Own.nil w) (jf.q f0a Iq (jf.q Zw Zv rfl)) (w.heap.size) rfl) (((jf.q f1a f1b (jf.q f1c f1d rfl)) : jf w [.q a, .q b] [.int .i64 Fj, .bool Fq, .slice Bg (List.length Bf) c1a, .int .i64 Jt, .bool n1b, .slice Dz (List.length Dt) Dx, .int .i64 s1c, .bool n1c, .slice A1c (List.length l1c) c1c, .int .i64 s1d, .bool n1d, .slice A1d (List.length l1d) c1d]).below (by repeat (first | exact Below.refl _ _ | refine jk ?_ _))) (w.heap.size + 1) (by simp only [World.size_alloc])) (((jf.vs w [.int .i64 0, .bool false, .slice none 0 0, .int .i64 0, .bool false, .slice none 0 0, .int .i64 0, .bool false, .slice none 0 0, .int .i64 0, .bool false, .slice none 0 0] rfl) : jf w zE [.int .i64 0, .bool false, .slice none 0 0, .int .i64 0, .bool false, .slice none 0 0, .int .i64 0, .bool false, .slice none 0 0, .int .i64 0, .bool false, .slice none 0 0]).below (by repeat (first | exact Below.refl _ _ | refine jk ?_ _))) (w.heap.size + 2) (by simp only [World.size_alloc]))
 generalize ((w.alloc (.cells #[.int .i64 Eo, .bool Ch, .slice Ck (List.length Ci) c0a, .int .i64 Hf, .bool Dr, .slice Ea (List.length Du) c0b, .int .i64 Pn, .bool Pw, .slice Ql (List.length Pz) Qf, .int .i64 Pm, .bool Pv, .slice Qk (List.length Py) Qe] 108)).alloc (.cells #[.int .i64 Fj, .bool Fq, .slice Bg (List.length Bf) c1a, .int .i64 Jt, .bool n1b, .slice Dz (List.length Dt) Dx, .int .i64 s1c, .bool n1c, .slice A1c (List.length l1c) c1c, .int .i64 s1d, .bool n1d, .slice A1d (List.length l1d) c1d] 108)).alloc (.cells #[.int .i64 0, .bool false, .slice none 0 0, .int .i64 0, .bool false, .slice none 0 0, .int .i64 0, .bool false, .slice none 0 0, .int .i64 0, .bool false, .slice none 0 0] 108) = W0 at *
 have HO := hide hO
 clear hO
 go_upto_region 1 with fail
 refine Rg.region 22 27 (Rg.pick [Rg.cz (.pointer (some ⟨w.heap.size, 0, none⟩)), bg [.q x], Rg.cz (.pointer (some ⟨w.heap.size + 1, 0, none⟩)), bg [.q a], bg [.q (x * a)], Rg.cz (.pointer (some ⟨w.heap.size, 0, none⟩)), bg [.q x], Rg.cz (.pointer (some ⟨w.heap.size + 1, 6, none⟩)), bg [.q b], bg [.q (x * b)], Rg.cz (.pointer (some ⟨w.heap.size, 6, none⟩)), bg [.q y], Rg.cz (.pointer (some ⟨w.heap.size + 1, 0, none⟩)), bg [.q a], bg [.q (y * a)], Rg.cz (.pointer (some ⟨w.heap.size, 6, none⟩)), bg [.q y], Rg.cz (.pointer (some ⟨w.heap.size + 1, 6, none⟩)), bg [.q b], bg [.q (y * b)], Qh 74 3 [.q (x * b), .q (y * a), .q (y * b)], bg [.q (fe (x * a) [x * b, y * a, y * b]), .q (eu (x * a) [x * b, y * a, y * b])]]) (dw w [(w.heap.size + 2, 108, zE), (w.heap.size + 1, 108, [.q a, .q b]), (w.heap.size, 108, [.q x, .q y])] W0) jb [] kr kr rfl (Rg.iq.pick ⟨Rg.ag _, cu _, Rg.ag _, cu _, cu _, Rg.ag _, cu _, Rg.ag _, cu _, cu _, Rg.ag _, cu _, Rg.ag _, cu _, cu _, Rg.ag _, cu _, Rg.ag _, cu _, cu _, Ji _ _ _, cu _, trivial⟩) (dw.start (aa HO))
  (ah (Be (b := w.heap.size) (off := 0) rfl (Rg.gm kr rfl) rfl rfl)
  (ah (je oq ug (Rg.ai 0 kr) [] [.q x] [.q y])
  (ah (Be (b := w.heap.size + 1) (off := 0) rfl (Rg.gm kr rfl) rfl rfl)
  (ah (je oq rf (Rg.ai 2 kr) [] [.q a] [.q b])
  (ah (ll Tryz.func111 kr rfl dw.step (Rg.ai 1 kr) (Rg.ai 3 kr) (fun W v0 v1 hG h0 h1 => Tq ((aa HT).below hG.bel) (aa HS).1 (aa HS).2.2.1 h0 h1))
  (ah (Be (b := w.heap.size) (off := 0) rfl (Rg.gm kr rfl) rfl rfl)
  (ah (je oq ug (Rg.ai 5 kr) [] [.q x] [.q y])
  (ah (Bt (b := w.heap.size + 1) (off := 0) rfl (Rg.gm kr rfl) rfl rfl)
  (ah (je oq rf (Rg.ai 7 kr) [.q a] [.q b] [])
  (ah (ll Tryz.func111 kr rfl dw.step (Rg.ai 6 kr) (Rg.ai 8 kr) (fun W v0 v1 hG h0 h1 => Tq ((aa HT).below hG.bel) (aa HS).1 (aa HS).2.2.2.1 h0 h1))
  (ah (Bt (b := w.heap.size) (off := 0) rfl (Rg.gm kr rfl) rfl rfl)
  (ah (je oq ug (Rg.ai 10 kr) [.q x] [.q y] [])
  (ah (Be (b := w.heap.size + 1) (off := 0) rfl (Rg.gm kr rfl) rfl rfl)
  (ah (je oq rf (Rg.ai 12 kr) [] [.q a] [.q b])
  (ah (ll Tryz.func111 kr rfl dw.step (Rg.ai 11 kr) (Rg.ai 13 kr) (fun W v0 v1 hG h0 h1 => Tq ((aa HT).below hG.bel) (aa HS).2.1 (aa HS).2.2.1 h0 h1))
  (ah (Bt (b := w.heap.size) (off := 0) rfl (Rg.gm kr rfl) rfl rfl)
  (ah (je oq ug (Rg.ai 15 kr) [.q x] [.q y] [])
  (ah (Bt (b := w.heap.size + 1) (off := 0) rfl (Rg.gm kr rfl) rfl rfl)
  (ah (je oq rf (Rg.ai 17 kr) [.q a] [.q b] [])
  (ah (ll Tryz.func111 kr rfl dw.step (Rg.ai 16 kr) (Rg.ai 18 kr) (fun W v0 v1 hG h0 h1 => Tq ((aa HT).below hG.bel) (aa HS).2.1 (aa HS).2.2.2.1 h0 h1))
  (ah (Fz (ps := [(0, .tmp 14), (1, .tmp 19), (2, .tmp 24)]) (gs := [[.q (x * b)], [.q (y * a)], [.q (y * b)]]) Zz rfl dw.step rfl (wy.cons (Rg.ai 9 kr) rfl (wy.cons (Rg.ai 14 kr) rfl (wy.cons (Rg.ai 19 kr) rfl wy.nil))) rfl)
  (ah (ll Tryz.func107 kr rfl dw.step (Rg.ai 4 kr) (Rg.ai 20 kr) (fun W v0 v1 hG h0 h1 => agw (qs := [x * b, y * a, y * b]) (aa HP).1 (aa HP).2 (by simp) W _ _ h0 h1))
  Rg.fq)))))))))))))))))))))) ?_
 intro v1 V1 hG1 hv1 hne1
 simp only [Rg.puts, ko, kg, jy, jw, Act.put, jr, jq, jo]
 have hO := hG1.1
 refine nz hO 0 [] zE [.q (fe (x * a) [x * b, y * a, y * b]), .q (eu (x * a) [x * b, y * a, y * b])] [] rfl Jh rfl (show bg [.q (fe (x * a) [x * b, y * a, y * b]), .q (eu (x * a) [x * b, y * a, y * b])] V1 (v1 21) from hv1 21 (by decide)) rfl rfl rfl ?_
 intro zt ji hk0
 replace hO := ji
 clear ji
 clear HO
 have HO := hide hO
 clear hO hG1 hv1 hne1 hk0
 go_wp2_with fail
 exact Lt Tryz.results151 Rf rfl (aa HO) me0 rfl rfl
def qf (x : Rat) (g : Int) : Rat := Rat.divInt ((x * Rat.divInt g 1).num / ((x * Rat.divInt g 1).den : Int)) g
def xq (y : Rat) (g : Int) : Rat := Rat.divInt (-((-(y * Rat.divInt g 1)).num / ((-(y * Rat.divInt g 1)).den : Int))) g
structure bkg (x y : Rat) (g : Int) (K : Nat) : Prop where
 g1 : 1 ≤ g
 g2 : g ≤ 1000000
 g0 : g ≠ 0
 sx : Sm (K + 1) x
 sy : Sm (K + 1) y
 sg : Sm (K + 1) (Rat.divInt g 1)
 sxg : Sm (K + 1 + K + 1) (x * Rat.divInt g 1)
 syg : Sm (K + 1 + K + 1) (-(y * Rat.divInt g 1))
 zx : Wd.Sz gy (K + 1 + (K + 1)) ((x * Rat.divInt g 1).num / ((x * Rat.divInt g 1).den : Int))
 zy : Wd.Sz gy (K + 1 + (K + 1)) (-((-(y * Rat.divInt g 1)).num / ((-(y * Rat.divInt g 1)).den : Int)))
 zg : Wd.Sz gy (K + 1 + (K + 1)) g
 hK : K + 1 + (K + 1) ≤ 1000000
theorem aij {K : Nat} {a : Int} (h : Wd.Sz gy K a) (b : Int) : Wd.Sz gy K (a / b) := h.le (Int.natAbs_ediv_le_natAbs a b)
theorem bak {g : Int} (g1 : -1000000000000 ≤ g) (g2 : g ≤ 1000000000000) : Sm 1 (Rat.divInt g 1) := ⟨⟨by rw [(Wd.Pp g).1]; exact Wd.Sz.of_le (by rw [jg]; omega) wu (Nat.le_refl _), by rw [(Wd.Pp g).2]; exact Wd.Sz.of_le (by rw [jg]; omega) wu (Nat.le_refl _)⟩, by omega⟩
theorem bij {x y : Rat} {g : Int} {K : Nat} (sx : Sm (K + 1) x) (sy : Sm (K + 1) y) (g1 : 1 ≤ g) (g2 : g ≤ 1000000) (hK : K + 1 + (K + 1) ≤ 1000000) (w : World) (hT : xg w) : bkg x y g K := by
 have sg : Sm (K + 1) (Rat.divInt g 1) := (bak om om).mono om om
 have s1 := sx.mul sg hK w hT
 have s2 := (sy.mul sg hK w hT).neg
 exact ⟨g1, g2, by omega, sx, sy, sg, s1, s2, aij s1.1.1 _, (aij s2.1.1 _).neg, (Wd.Sz.of_le (by rw [jg]; omega) wu om), hK⟩
set_option maxHeartbeats 16000000 in
theorem apz {x y : Rat} {g : Int} {K : Nat} (sx : Sm (K + 1) x) (sy : Sm (K + 1) y) (g1 : 1 ≤ g) (g2 : g ≤ 1000000) (hK : K + 1 + (K + 1) ≤ 1000000) (w : World) (hT : xg w) (u0 : Value) (h0 : bg [.q x, .q y] w u0) :
  Calls Tryz.prog 96 #[u0, .int .i64 g] w (nk (bg [.q (qf x g), .q (xq y g)]) w) := by
 have HR := hide (bij sx sy g1 g2 hK w hT)
 have HT := hide hT
 clear sx sy g1 g2 hK hT
 obtain ⟨Eo, Ch, Ck, c0a, Ci, Hf, Dr, Ea, c0b, Du, Pn, Pw, Ql, Qf, Pz, Pm, Pv, Qk, Qe, Py, rfl, f0a, Iq, Zw, Zv⟩ := Ov h0
 go_enter Tryz.func96, Tryz.ntmps96
 go_upto_region 1 with fail
 have hO := (Own.push (T := 108) (ls := zE) (cs := [.int .i64 0, .bool false, .slice none 0 0, .int .i64 0, .bool false, .slice none 0 0, .int .i64 0, .bool false, .slice none 0 0, .int .i64 0, .bool false, .slice none 0 0]) (Own.push (T := 108) (ls := [.q x, .q y]) (cs := [.int .i64 Eo, .bool Ch, .slice Ck (List.length Ci) c0a, .int .i64 Hf, .bool Dr, .slice Ea (List.length Du) c0b, .int .i64 Pn, .bool Pw, .slice Ql (List.length Pz) Qf, .int .i64 Pm, .bool Pv, .slice Qk (List.length Py) Qe]) (Own.nil w) (jf.q f0a Iq (jf.q Zw Zv rfl)) (w.heap.size) rfl) (((jf.vs w [.int .i64 0, .bool false, .slice none 0 0, .int .i64 0, .bool false, .slice none 0 0, .int .i64 0, .bool false, .slice none 0 0, .int .i64 0, .bool false, .slice none 0 0] rfl) : jf w zE [.int .i64 0, .bool false, .slice none 0 0, .int .i64 0, .bool false, .slice none 0 0, .int .i64 0, .bool false, .slice none 0 0, .int .i64 0, .bool false, .slice none 0 0]).below (by repeat (first | exact Below.refl _ _ | refine jk ?_ _))) (w.heap.size + 1) (by simp only [World.size_alloc]))
 generalize (w.alloc (.cells #[.int .i64 Eo, .bool Ch, .slice Ck (List.length Ci) c0a, .int .i64 Hf, .bool Dr, .slice Ea (List.length Du) c0b, .int .i64 Pn, .bool Pw, .slice Ql (List.length Pz) Qf, .int .i64 Pm, .bool Pv, .slice Qk (List.length Py) Qe] 108)).alloc (.cells #[.int .i64 0, .bool false, .slice none 0 0, .int .i64 0, .bool false, .slice none 0 0, .int .i64 0, .bool false, .slice none 0 0, .int .i64 0, .bool false, .slice none 0 0] 108) = W0 at *
 have HO := hide hO
 clear hO
 go_upto_region 1 with fail
 refine Rg.ik 6 30 (Rg.pick [Rg.cz (.int .i64 g), bg [.q (Rat.divInt g 1)], Rg.cz (.int .i64 g), bg [.z g], uf 74 zQ W0.heap.size, uf 72 zZ W0.heap.size]) (dw w [(w.heap.size + 1, 108, zE), (w.heap.size, 108, [.q x, .q y])] W0) jb [4, 5] kr rfl (Rg.iq.pick ⟨Rg.ag _, cu _, Rg.ag _, cu _, ui _ _ _, ui _ _ _, trivial⟩) (dw.begin (aa HO))
  (ah (il rfl (Rg.gm kr rfl))
  (ah (ku Tryz.func77 kr rfl dw.step (Rg.ai 0 kr) (fun W v0 hG h0 => by cases h0; exact azm g (by have := (aa HR).g1; omega) (by have := (aa HR).g2; omega) W))
  (ah (il rfl (Rg.gm kr rfl))
  (ah (ku Tryz.func124 kr rfl dw.step (Rg.ai 2 kr) (fun W v0 hG h0 => by cases h0; exact aqb g (by have := (aa HR).g1; omega) (by have := (aa HR).g2; omega) W))
  (ah (vv Ps rfl dw.step dw.size rfl (xx (by intro j hj; simp at hj; (repeat' (first | (rcases hj with rfl | hj))) <;> first | (subst hj; exact ⟨_, _, _, rfl⟩) | exact ⟨_, _, _, rfl⟩)))
  (ah (vv aws rfl dw.step dw.size rfl (xx (by intro j hj; simp at hj; (repeat' (first | (rcases hj with rfl | hj))) <;> first | (subst hj; exact ⟨_, _, _, rfl⟩) | exact ⟨_, _, _, rfl⟩)))
  Rg.fq)))))) ?_
 intro v1 V1 hG1 hv1 hne1
 simp only [Rg.puts, ko, kg, jy, jw, Act.put, jr, jq, jo]
 obtain ⟨aml, e4, hge4, hz4⟩ := (show uf 74 zQ W0.heap.size V1 (v1 4) from hv1 4 (by decide))
 obtain ⟨amk, e5, Jz, Qa⟩ := (show uf 72 zZ W0.heap.size V1 (v1 5) from hv1 5 (by decide))
 simp only [e4, e5]
 have hO := hG1.1
 have hnn : amk ≠ aml := fun h => hne1 5 4 rfl rfl (by decide) (by decide) (by decide) rfl rfl (by rw [e4, e5, h])
 replace hO := Own.Xx (aa HO) hG1.2 hge4 hz4 Jz Qa hnn
 clear hnn hge4 hz4 Jz Qa
 refine nz hO 1 [] zQ [.q (Rat.divInt g 1)] [] rfl Br rfl (show bg [.q (Rat.divInt g 1)] V1 (v1 1) from hv1 1 (by decide)) rfl rfl rfl ?_
 intro zt ji hk0
 replace hO := ji
 clear ji
 refine nz hO 0 [] zZ [.z g] [] rfl Nn rfl (hk0 _ _ (show bg [.z g] V1 (v1 3) from hv1 3 (by decide))) rfl rfl rfl ?_
 intro Tx Mj hk1
 replace hO := Mj
 clear Mj
 clear HO
 have HO := hide hO
 clear hO hG1 hv1 hne1 hk0 hk1
 try clear e4 e5
 go_upto_region 2 with fail
 refine Rg.region 8 30 (Rg.pick [Rg.cz (.pointer (some ⟨w.heap.size, 0, none⟩)), bg [.q x], bg [.q (Rat.divInt g 1)], bg [.q (x * Rat.divInt g 1)], bg [.z ((x * Rat.divInt g 1).num / ((x * Rat.divInt g 1).den : Int))], bg [.z g], bg [.q (qf x g)], Rg.cz (.pointer (some ⟨w.heap.size, 0, none⟩))]) (dw w [(amk, 72, [.z g]), (aml, 74, [.q (Rat.divInt g 1)]), (w.heap.size + 1, 108, zE), (w.heap.size, 108, [.q x, .q y])] Tx) jb [] kr kr rfl (Rg.iq.pick ⟨Rg.ag _, cu _, cu _, cu _, cu _, cu _, cu _, Rg.ag _, trivial⟩) (dw.start (aa HO))
  (ah (Be (b := w.heap.size) (off := 0) rfl (Rg.gm kr rfl) rfl rfl)
  (ah (je oq Ub (Rg.ai 0 kr) [] [.q x] [.q y])
  (ah (je oq rf (Rg.gm kr rfl) [] [.q (Rat.divInt g 1)] [])
  (ah (ll Tryz.func111 kr rfl dw.step (Rg.ai 1 kr) (Rg.ai 2 kr) (fun W v0 v1 hG h0 h1 => Tq ((aa HT).below hG.bel) (aa HR).sx (aa HR).sg h0 h1))
  (ah (ku Tryz.func154 kr rfl dw.step (Rg.ai 3 kr) (fun W v0 hG h0 => abh (aa HR).sxg W _ h0))
  (ah (je Dj me0 (Rg.gm kr rfl) [] [.z g] [])
  (ah (ll Tryz.func123 kr rfl dw.step (Rg.ai 4 kr) (Rg.ai 5 kr) (fun W v0 v1 hG h0 h1 => aqa ((aa HT).below hG.bel) (aa HR).g0 (aa HR).zx (aa HR).zg (aa HR).hK h0 h1))
  (ah (Be (b := w.heap.size) (off := 0) rfl (Rg.gm kr rfl) rfl rfl)
  Rg.fq)))))))) ?_
 intro v2 V2 hG2 hv2 hne2
 simp only [Rg.puts, ko, kg, jy, jw, Act.put, jr, jq, jo]
 have e7 : v2 7 = .pointer (some ⟨w.heap.size, 0, none⟩) := hv2 7 (by decide)
 simp only [e7]
 have hO := hG2.1
 refine nz hO 3 [] [.q x] [.q (qf x g)] [.q y] rfl Br rfl (show bg [.q (qf x g)] V2 (v2 6) from hv2 6 (by decide)) rfl rfl rfl ?_
 intro Dh ji hk0
 replace hO := ji
 clear ji
 clear HO
 have HO := hide hO
 clear hO hG2 hv2 hne2 hk0
 try clear e7
 go_upto_region 3 with fail
 refine Rg.region 10 30 (Rg.pick [Rg.cz (.pointer (some ⟨w.heap.size, 6, none⟩)), bg [.q y], bg [.q (Rat.divInt g 1)], bg [.q (y * Rat.divInt g 1)], bg [.q (-(y * Rat.divInt g 1))], bg [.z ((-(y * Rat.divInt g 1)).num / ((-(y * Rat.divInt g 1)).den : Int))], bg [.z (-((-(y * Rat.divInt g 1)).num / ((-(y * Rat.divInt g 1)).den : Int)))], bg [.z g], bg [.q (xq y g)], Rg.cz (.pointer (some ⟨w.heap.size, 6, none⟩))]) (dw w [(amk, 72, [.z g]), (aml, 74, [.q (Rat.divInt g 1)]), (w.heap.size + 1, 108, zE), (w.heap.size, 108, [.q (qf x g), .q y])] Dh) jb [] kr kr rfl (Rg.iq.pick ⟨Rg.ag _, cu _, cu _, cu _, cu _, cu _, cu _, cu _, cu _, Rg.ag _, trivial⟩) (dw.start (aa HO))
  (ah (Bt (b := w.heap.size) (off := 0) rfl (Rg.gm kr rfl) rfl rfl)
  (ah (je oq Ub (Rg.ai 0 kr) [.q (qf x g)] [.q y] [])
  (ah (je oq rf (Rg.gm kr rfl) [] [.q (Rat.divInt g 1)] [])
  (ah (ll Tryz.func111 kr rfl dw.step (Rg.ai 1 kr) (Rg.ai 2 kr) (fun W v0 v1 hG h0 h1 => Tq ((aa HT).below hG.bel) (aa HR).sy (aa HR).sg h0 h1))
  (ah (ku Tryz.func134 kr rfl dw.step (Rg.ai 3 kr) (fun W v0 hG h0 => axm h0))
  (ah (ku Tryz.func154 kr rfl dw.step (Rg.ai 4 kr) (fun W v0 hG h0 => abh (aa HR).syg W _ h0))
  (ah (ku Tryz.func147 kr rfl dw.step (Rg.ai 5 kr) (fun W v0 hG h0 => aqc h0))
  (ah (je Dj me0 (Rg.gm kr rfl) [] [.z g] [])
  (ah (ll Tryz.func123 kr rfl dw.step (Rg.ai 6 kr) (Rg.ai 7 kr) (fun W v0 v1 hG h0 h1 => aqa ((aa HT).below hG.bel) (aa HR).g0 (aa HR).zy (aa HR).zg (aa HR).hK h0 h1))
  (ah (Bt (b := w.heap.size) (off := 0) rfl (Rg.gm kr rfl) rfl rfl)
  Rg.fq)))))))))) ?_
 intro v3 V3 hG3 hv3 si
 simp only [Rg.puts, ko, kg, jy, jw, Act.put, jr, jq, jo]
 have e9 : v3 9 = .pointer (some ⟨w.heap.size, 6, none⟩) := hv3 9 (by decide)
 simp only [e9]
 have hO := hG3.1
 refine nz hO 3 [.q (qf x g)] [.q y] [.q (xq y g)] [] rfl Br rfl (show bg [.q (xq y g)] V3 (v3 8) from hv3 8 (by decide)) rfl rfl rfl ?_
 intro Ik ji hk0
 replace hO := ji
 clear ji
 clear HO
 have HO := hide hO
 clear hO hG3 hv3 si hk0
 try clear e9
 go_upto_region 4 with fail
 refine Rg.ik 1 30 (Rg.pick [bg [.q (qf x g), .q (xq y g)]]) (dw w [(amk, 72, [.z g]), (aml, 74, [.q (Rat.divInt g 1)]), (w.heap.size + 1, 108, zE), (w.heap.size, 108, [.q (qf x g), .q (xq y g)])] Ik) jb [] kr rfl (Rg.iq.pick ⟨cu _, trivial⟩) (dw.begin (aa HO))
  (ah (je aov Ub (Rg.gm kr rfl) [] [.q (qf x g), .q (xq y g)] [])
  Rg.fq) ?_
 intro v4 V4 hG4 hv4 xh
 simp only [Rg.puts, ko, kg, jy, jw, Act.put, jr, jq, jo]
 have hO := hG4.1
 refine nz hO 2 [] zE [.q (qf x g), .q (xq y g)] [] rfl Jh rfl (show bg [.q (qf x g), .q (xq y g)] V4 (v4 0) from hv4 0 (by decide)) rfl rfl rfl ?_
 intro Mt ji hk0
 replace hO := ji
 clear ji
 clear HO
 have HO := hide hO
 clear hO hG4 hv4 xh hk0
 go_wp2_with fail
 exact Lt Tryz.results96 Rf rfl (aa HO) ug rfl rfl
end Sb

end Go.Proofs.YtfbcdfoohpkfeaaGreatDoor
namespace Go.Proofs.YtfbcdfoohpkfeaaGreatDoor
open Go.RowKit

set_option maxHeartbeats 2000000 in
theorem ayf (n d : Int) (w : World) (b1 : -9223372036854775808 ≤ n) (b2 : n ≤ 9223372036854775807) (b3 : -9223372036854775808 ≤ d) (b4 : d ≤ 9223372036854775807) (hd : d ≠ 0) :
  Calls Tryz.prog 48 #[.agg #[.int .i64 n, .int .i64 d]] w fun e w' => QR w (Rat.divInt n d) e w' := by
 have HO1 := hide (fun W => (Ym n W b1 b2).mono (fun e w' h => h.1))
 have HO2 := hide (fun W => (Ym d W b3 b4).mono (fun e w' h => h.1))
 have k1 : n.natAbs < ic ^ 2 := by rw [iw]; omega
 have k2 : d.natAbs < ic ^ 2 := by rw [iw]; omega
 obtain ⟨q, hq⟩ : ∃ q, q = Rat.divInt n d := ⟨_, rfl⟩
 have HR := hide (fun (A1 : Option Addr) (c1 : Nat) (l1 : List Nat) (m1 : Bool) (A2 : Option Addr) (c2 : Nat) (l2 : List Nat) (m2 : Bool) (W : World) (f1 : jc W A1 c1 l1 m1 n) (f2 : jc W A2 c2 l2 m2 d) => Yl A1 c1 l1 m1 n A2 c2 l2 m2 d 2 W f1 f2 hd k1 k2 om)
 rw [← hq] at HR ⊢
 clear b1 b2 b3 b4 hd k1 k2 hq
 go_enter Tryz.func48, Tryz.ntmps48
 go_wp2_with fail
 obtain ⟨nx, n0, hsz, hw0⟩ := xk w (.cells #[.int .i64 n, .int .i64 d] 23) (.cells #[.slice none 0 0, .bool false, .slice none 0 0, .bool false] 63)
 generalize ((w.alloc (.cells #[.int .i64 n, .int .i64 d] 23)).alloc (.cells #[.slice none 0 0, .bool false, .slice none 0 0, .bool false] 63)) = W0 at *
 have x0 : W0.cell? ⟨w.heap.size, 0, none⟩ = some (.int .i64 n) := ae nx 0
 have x1 : W0.cell? ⟨w.heap.size, 1, none⟩ = some (.int .i64 d) := ae nx 1
 have qx := lt_of_block nx
 clear nx
 have p0 : W0.cell? ⟨w.heap.size + 1, 0, none⟩ = some (.slice none 0 0) := ae n0 0
 have p1 : W0.cell? ⟨w.heap.size + 1, 1, none⟩ = some (.bool false) := ae n0 1
 have p2 : W0.cell? ⟨w.heap.size + 1, 2, none⟩ = some (.slice none 0 0) := ae n0 2
 have p3 : W0.cell? ⟨w.heap.size + 1, 3, none⟩ = some (.bool false) := ae n0 3
 have v0 := bz n0 0; have v1 := bz n0 1; have v2 := bz n0 2; have v3 := bz n0 3
 have q0 := lt_of_block n0
 have NR := Lib.hid n0
 clear n0 hsz
 go_region_with (first | (go_at_call_of 116 (Value.int .i64 n); refine ((aa HO1) _).mono ?_; rintro e w' ⟨A1, c1, l1, m1, rfl, f1n, hb⟩; (try (first | replace f2 := jc.below f2 hb | replace f2 := (jc.below f2 (Below.drew (Below.refl _ _))).below hb)); have f1 := f1n; clear f1n; have hbw := fo (w := W0) (by (first | with_reducible assumption | (repeat (first | with_reducible exact Below.refl _ _ | with_reducible assumption | refine Below.drew ?_ | (refine Below.alloc ?_ (by simp <;> omega) _))))) hb; obtain ⟨hc, hf⟩ := gp hbw) | (go_at_call_of 116 (Value.int .i64 d); refine ((aa HO2) _).mono ?_; rintro e w' ⟨A2, c2, l2, m2, rfl, f2n, hb⟩; (try (first | replace f1 := jc.below f1 hb | replace f1 := (jc.below f1 (Below.drew (Below.refl _ _))).below hb)); have f2 := f2n; clear f2n; have hbw := fo (w := W0) (by (first | with_reducible assumption | (repeat (first | with_reducible exact Below.refl _ _ | with_reducible assumption | refine Below.drew ?_ | (refine Below.alloc ?_ (by simp <;> omega) _))))) hb; obtain ⟨hc, hf⟩ := gp hbw) | (go_at_call 115; refine ((aa HR) A1 c1 l1 m1 A2 c2 l2 m2 _ (by first | exact f1 | exact jc.below f1 (Below.drew (Below.refl _ _))) (by first | exact f2 | exact jc.below f2 (Below.drew (Below.refl _ _)))).mono ?_; rintro e w' ⟨A3, c3, l3, m3, A4, c4, l4, m4, rfl, f3, f4, hb⟩; have hbw := fo (w := W0) (by (first | with_reducible assumption | (repeat (first | with_reducible exact Below.refl _ _ | with_reducible assumption | refine Below.drew ?_ | (refine Below.alloc ?_ (by simp <;> omega) _))))) hb; obtain ⟨hc, hf⟩ := gp hbw))
 all_goals
  have hblk := (hbw.block _ q0).trans NR.out
  have ky := ek hw0 hbw
  have mo := Lib.hid hblk; have F3 := hide f3; have F4 := hide f4; have HB9 := hide ky
  clear f3 f4 hblk ky
  go_wp2_with fail
  exact bodyPost_ret (v := .agg #[.slice A3 l3.length c3, .bool m3, .slice A4 l4.length c4, .bool m4]) (by simp [results, Tryz.results48, go_sem, hc, p0, p1, p2, p3, q0]) rfl
   ⟨A3, c3, l3, m3, A4, c4, l4, m4, rfl, (aa F3).upto mo.out (Bb _ _ _ _ _ _ _ _) (qp _ _ _ _ _ _), (aa F4).upto mo.out (Bb _ _ _ _ _ _ _ _) (qp _ _ _ _ _ _), (aa HB9).grown (qp _ _ _ _ _ _) (aa HB9).size (fun k hk => by injection hk with hk; omega)⟩
end Go.Proofs.YtfbcdfoohpkfeaaGreatDoor
namespace Go.Proofs.YtfbcdfoohpkfeaaGreatDoor
open Go.RowKit

end Go.Proofs.YtfbcdfoohpkfeaaGreatDoor
namespace Go.Proofs.YtfbcdfoohpkfeaaGreatDoor
open Go.RowKit

def ags (n1 d1 n2 d2 : Int) : Int := if Wd.wm n1 d1 ∧ Wd.wm n2 d2 then ja (n1 * d2 - n2 * d1) else 0
def awm (w : World) (n1 d1 n2 d2 : Int) (e : Ending) (w' : World) : Prop := e = .returned (.tuple #[.int .i64 (ags n1 d1 n2 d2), .int .i64 (Qr n1 d1 n2 d2)]) ∧ Below w.heap.size w w'

end Go.Proofs.YtfbcdfoohpkfeaaGreatDoor
namespace Go.Proofs.YtfbcdfoohpkfeaaGreatDoor
open Go.RowKit

set_option maxHeartbeats 8000000 in
theorem avs (n1 d1 n2 d2 : Int) (w : World) (hT : xg w) :
  Calls Tryz.prog 98 #[.agg #[.int .i64 n1, .int .i64 d1], .agg #[.int .i64 n2, .int .i64 d2]] w fun e w' => awm w n1 d1 n2 d2 e w' := by
 have HA := hide (fun g W (hW : xg W) => apk n1 d1 n2 d2 g W hW)
 have HT := hide hT
 clear hT
 by_cases ok : Wd.wm n1 d1 ∧ Wd.wm n2 d2
 ·
  have e1 : Qr n1 d1 n2 d2 = 0 := if_pos ok
  have e2 : ags n1 d1 n2 d2 = ja (n1 * d2 - n2 * d1) := if_pos ok
  unfold awm
  rw [e1] at HA ⊢
  rw [e2]
  obtain ⟨a1, a2⟩ := Wd.Ni ok.1
  obtain ⟨a3, a4⟩ := Wd.Ni ok.2
  obtain ⟨⟨r1, r2, r3, r4, rg1⟩, ⟨r5, r6, r7, r8, rg2⟩⟩ := ok
  have hz1 := aew (n := n1) (d := d1) ⟨r1, r2, r3, r4, rg1⟩
  have hz2 := aew (n := n2) (d := d2) ⟨r5, r6, r7, r8, rg2⟩
  have O1 := hide (fun W => aas n1 d1 W om om om om)
  have O2 := hide (fun W => aas n2 d2 W om om om om)
  have hq := fun (s1 : Int) (fu : Bool) (A1 : Option Addr) (c1 : Nat) (l1 : List Nat) (s2 : Int) (fw : Bool) (A2 : Option Addr) (c2 : Nat) (l2 : List Nat) (s3 : Int) (uq : Bool) (A3 : Option Addr) (c3 : Nat) (l3 : List Nat) (s4 : Int) (uk : Bool) (A4 : Option Addr) (c4 : Nat) (l4 : List Nat) (W : World) => aiq W (Wd.qR n1 d1) (Wd.qR n2 d2) hz1 hz2 (by decide) s1 fu A1 c1 l1 s2 fw A2 c2 l2 s3 uq A3 c3 l3 s4 uk A4 c4 l4 W (Below.refl _ _)
  obtain ⟨g, hg⟩ : ∃ g, g = ja (n1 * d2 - n2 * d1) := ⟨_, rfl⟩
  simp only [a1, a2, a3, a4, ← hg] at hq
  rw [← hg]
  have HQ := hide hq
  clear hq hg a1 a2 a3 a4 r1 r2 r3 r4 r5 r6 r7 r8 e1 e2 hz1 hz2 rg1 rg2
  go_enter Tryz.func98, Tryz.ntmps98
  go_wp2_with fail
  obtain ⟨n0, Md, Rc, hsz, hw0⟩ := qg w (.cells #[.int .i64 n1, .int .i64 d1] 23) (.cells #[.int .i64 n2, .int .i64 d2] 23) (.cells #[.int .i64 n1, .int .i64 d1, .int .i64 n2, .int .i64 d2] 23)
  generalize (((w.alloc (.cells #[.int .i64 n1, .int .i64 d1] 23)).alloc (.cells #[.int .i64 n2, .int .i64 d2] 23)).alloc (.cells #[.int .i64 n1, .int .i64 d1, .int .i64 n2, .int .i64 d2] 23)) = Wa at *
  refine ((aa HA) (w.heap.size + 1 + 1) Wa ((aa HT).below hw0) (lt_of_block Rc) (ae Rc 0) (ae Rc 1) (ae Rc 2) (ae Rc 3)).mono ?_
  rintro e W0 ⟨rfl, hb0⟩
  replace n0 := (hb0.block _ (lt_of_block n0)).trans n0
  replace Md := (hb0.block _ (lt_of_block Md)).trans Md
  replace hw0 := ek hw0 hb0
  have q0 := lt_of_block n0; have q1 := lt_of_block Md
  have KEEP : ∀ X, Below W0.heap.size W0 X → (fun w' => w'.cell? ⟨w.heap.size, 0, none⟩ = some (.int .i64 n1) ∧ w'.cell? ⟨w.heap.size, 1, none⟩ = some (.int .i64 d1) ∧ w'.cell? ⟨w.heap.size + 1, 0, none⟩ = some (.int .i64 n2) ∧ w'.cell? ⟨w.heap.size + 1, 1, none⟩ = some (.int .i64 d2)) X := fun X hX => ⟨(hX.cell (p := ⟨w.heap.size, 0, none⟩) q0).trans (ae n0 0), (hX.cell (p := ⟨w.heap.size, 1, none⟩) q0).trans (ae n0 1), (hX.cell (p := ⟨w.heap.size + 1, 0, none⟩) q1).trans (ae Md 0), (hX.cell (p := ⟨w.heap.size + 1, 1, none⟩) q1).trans (ae Md 1)⟩
  have HKE := hide KEEP; have HW0 := hide hw0
  clear KEEP n0 Md Rc hsz hb0 hw0 HA
  go_wp2_with fail
  go_region_held3 (fun w' => w'.cell? ⟨w.heap.size, 0, none⟩ = some (.int .i64 n1) ∧ w'.cell? ⟨w.heap.size, 1, none⟩ = some (.int .i64 d1) ∧ w'.cell? ⟨w.heap.size + 1, 0, none⟩ = some (.int .i64 n2) ∧ w'.cell? ⟨w.heap.size + 1, 1, none⟩ = some (.int .i64 d2)) (exact (aa HKE) _ (by (first | with_reducible assumption | (repeat (first | with_reducible exact Below.refl _ _ | with_reducible assumption | refine Below.drew ?_ | (refine Below.alloc ?_ (by simp <;> omega) _)))))) (first | (go_at_call_of 57 (Value.agg #[.int .i64 n1, .int .i64 d1]); refine ((aa O1) _).mono ?_; rintro e w' ⟨s1, fu, A1, c1, l1, s2, fw, A2, c2, l2, rfl, f1n, f2n, hb⟩; (try (first | replace f3 := ig.below f3 hb | replace f3 := (ig.below f3 (Below.drew (Below.refl _ _))).below hb)); (try (first | replace f4 := ig.below f4 hb | replace f4 := (ig.below f4 (Below.drew (Below.refl _ _))).below hb)); have f1 := f1n; have f2 := f2n; clear f1n f2n; have hbw := fo (w := W0) (by (first | with_reducible assumption | (repeat (first | with_reducible exact Below.refl _ _ | with_reducible assumption | refine Below.drew ?_ | (refine Below.alloc ?_ (by simp <;> omega) _))))) hb; obtain ⟨hc, hf⟩ := gp hbw) | (go_at_call_of 57 (Value.agg #[.int .i64 n2, .int .i64 d2]); refine ((aa O2) _).mono ?_; rintro e w' ⟨s3, uq, A3, c3, l3, s4, uk, A4, c4, l4, rfl, f3n, f4n, hb⟩; (try (first | replace f1 := ig.below f1 hb | replace f1 := (ig.below f1 (Below.drew (Below.refl _ _))).below hb)); (try (first | replace f2 := ig.below f2 hb | replace f2 := (ig.below f2 (Below.drew (Below.refl _ _))).below hb)); have f3 := f3n; have f4 := f4n; clear f3n f4n; have hbw := fo (w := W0) (by (first | with_reducible assumption | (repeat (first | with_reducible exact Below.refl _ _ | with_reducible assumption | refine Below.drew ?_ | (refine Below.alloc ?_ (by simp <;> omega) _))))) hb; obtain ⟨hc, hf⟩ := gp hbw) | (go_at_call 69; refine ((aa HQ) s1 fu A1 c1 l1 s2 fw A2 c2 l2 s3 uq A3 c3 l3 s4 uk A4 c4 l4 _ (by first | exact f1 | exact ig.below f1 (Below.drew (Below.refl _ _))) (by first | exact f2 | exact ig.below f2 (Below.drew (Below.refl _ _))) (by first | exact f3 | exact ig.below f3 (Below.drew (Below.refl _ _))) (by first | exact f4 | exact ig.below f4 (Below.drew (Below.refl _ _)))).mono ?_; rintro e w' ⟨rfl, hb⟩; have hbw := fo (w := W0) (by (first | with_reducible assumption | (repeat (first | with_reducible exact Below.refl _ _ | with_reducible assumption | refine Below.drew ?_ | (refine Below.alloc ?_ (by simp <;> omega) _))))) hb))
  all_goals
   have ky := ek (aa HW0) hbw
   have HB9 := hide ky
   clear ky hbw
   go_wp2_with fail
   go_ret2
   exact ⟨rfl, aa HB9⟩
 ·
  have e1 : Qr n1 d1 n2 d2 = 1 := if_neg ok
  have e2 : ags n1 d1 n2 d2 = 0 := if_neg ok
  unfold awm
  rw [e1] at HA ⊢
  rw [e2]
  clear e1 e2 ok
  go_enter Tryz.func98, Tryz.ntmps98
  go_wp2_with fail
  obtain ⟨n0, Md, Rc, hsz, hw0⟩ := qg w (.cells #[.int .i64 n1, .int .i64 d1] 23) (.cells #[.int .i64 n2, .int .i64 d2] 23) (.cells #[.int .i64 n1, .int .i64 d1, .int .i64 n2, .int .i64 d2] 23)
  generalize (((w.alloc (.cells #[.int .i64 n1, .int .i64 d1] 23)).alloc (.cells #[.int .i64 n2, .int .i64 d2] 23)).alloc (.cells #[.int .i64 n1, .int .i64 d1, .int .i64 n2, .int .i64 d2] 23)) = Wa at *
  refine ((aa HA) (w.heap.size + 1 + 1) Wa ((aa HT).below hw0) (lt_of_block Rc) (ae Rc 0) (ae Rc 1) (ae Rc 2) (ae Rc 3)).mono ?_
  rintro e W0 ⟨rfl, hb0⟩
  replace hw0 := ek hw0 hb0
  clear n0 Md Rc hsz hb0
  go_wp2_with fail
  go_ret2
  exact ⟨rfl, hw0⟩
end Go.Proofs.YtfbcdfoohpkfeaaGreatDoor
namespace Go.Proofs.YtfbcdfoohpkfeaaGreatDoor
open Go.RowKit

namespace Sb
def Ej (e g : Int) : Int := if e = 0 ∧ (g < 1 ∨ 1000000 < g) then 1 else e
set_option maxHeartbeats 16000000 in
theorem bdo (e g : Int) (w : World) : Calls Tryz.prog 94 #[.int .i64 e, .int .i64 g] w (nk (Rg.cz (.int .i64 (Ej e g))) w) := by
 obtain ⟨rr, hrr⟩ : ∃ rr, rr = Ej e g := ⟨_, rfl⟩
 rw [← hrr]
 unfold Ej at hrr
 have HR := hide hrr
 clear hrr
 go_enter Tryz.func94, Tryz.ntmps94
 go_upto_region 1 with fail
 have hO := (Own.nil w)
 have HO := hide hO
 clear hO
 by_cases h0 : e = 0
 ·
  by_cases h1 : g < 1
  ·
   have d1 : (e == 0) = true := beq_iff_eq.2 h0
   have d2 : decide (g < 1) = true := decide_eq_true h1
   go_upto_region 1 with fail
   refine Rg.ik 10 16 (Rg.pick [Rg.cz (.int .i64 e), Rg.cz (.bool true), Rg.cz (.bool true), Rg.cz (.int .i64 g), Rg.cz (.bool true), Rg.cz (.bool true), Rg.cz undef, Rg.cz undef, Rg.cz (.bool true), Rg.cz (.bool true)]) (dw w [] w) jb [] kr rfl (Rg.iq.pick ⟨Rg.ag _, Rg.ag _, Rg.ag _, Rg.ag _, Rg.ag _, Rg.ag _, Rg.ag _, Rg.ag _, Rg.ag _, Rg.ag _, trivial⟩) (dw.begin (aa HO))
    (ah (il rfl (Rg.gm kr rfl))
    (ah (He rfl (Rg.ai 0 kr) (Rg.lv _) rfl d1)
    (ah (il rfl (Rg.ai 1 kr))
    (Rg.dz (Rg.iy (d := 7) rfl kr rfl (il rfl (Rg.gm kr rfl)))
    (Rg.dz (Rg.iy (d := 7) rfl kr rfl (Em rfl (Rg.ai 3 kr) (Rg.lv _) rfl d2))
    (Rg.dz (Rg.iy (d := 7) rfl kr rfl (il rfl (Rg.ai 4 kr)))
    (Rg.dz (Rg.mq (d := 10) rfl kr rfl rfl mi rfl rfl)
    (Rg.dz (Rg.mq (d := 10) rfl kr rfl rfl mi rfl rfl)
    (Rg.dz (Rg.iy (d := 7) rfl kr rfl (xw rfl (Rg.ai 5 kr) (Rg.lv _)))
    (ah (xw rfl (Rg.ai 2 kr) (Rg.ai 8 kr))
    Rg.fq)))))))))) ?_
   intro v1 V1 hG1 hv1 hne1
   simp only [Rg.puts, ko, kg, jy, jw, Act.put, jr, jq, jo]
   have e9 : v1 9 = .bool true := hv1 9 (by decide)
   simp only [e9]
   have hO := hG1.1
   clear HO
   have HO := hide hO
   clear hO hG1 hv1 hne1
   try clear e9
   have hr : rr = 1 := by rw [aa HR, if_pos om]
   subst hr
   go_upto_region 2 with fail
   refine Rg.ik 1 16 (Rg.pick [Rg.cz (.int .i64 1)]) (dw w [] V1) jb [] kr rfl (Rg.iq.pick ⟨Rg.ag _, trivial⟩) (dw.begin (aa HO))
    (ah (ma rfl (Rg.lv _))
    Rg.fq) ?_
   intro v2 V2 hG2 hv2 hne2
   simp only [Rg.puts, ko, kg, jy, jw, Act.put, jr, jq, jo]
   have e0 : v2 0 = .int .i64 1 := hv2 0 (by decide)
   simp only [e0]
   have hO := hG2.1
   clear HO
   have HO := hide hO
   clear hO hG2 hv2 hne2
   try clear e0
   go_wp2_with fail
   exact Cw Tryz.results94 rfl (aa HO).bel rfl
  ·
   by_cases h2 : 1000000 < g
   ·
    have d1 : (e == 0) = true := beq_iff_eq.2 h0
    have d2 : decide (g < 1) = false := decide_eq_false h1
    have d3 : decide (1000000 < g) = true := decide_eq_true h2
    go_upto_region 1 with fail
    refine Rg.ik 10 16 (Rg.pick [Rg.cz (.int .i64 e), Rg.cz (.bool true), Rg.cz (.bool true), Rg.cz (.int .i64 g), Rg.cz (.bool false), Rg.cz (.bool false), Rg.cz (.int .i64 g), Rg.cz (.bool true), Rg.cz (.bool true), Rg.cz (.bool true)]) (dw w [] w) jb [] kr rfl (Rg.iq.pick ⟨Rg.ag _, Rg.ag _, Rg.ag _, Rg.ag _, Rg.ag _, Rg.ag _, Rg.ag _, Rg.ag _, Rg.ag _, Rg.ag _, trivial⟩) (dw.begin (aa HO))
     (ah (il rfl (Rg.gm kr rfl))
     (ah (He rfl (Rg.ai 0 kr) (Rg.lv _) rfl d1)
     (ah (il rfl (Rg.ai 1 kr))
     (Rg.dz (Rg.iy (d := 7) rfl kr rfl (il rfl (Rg.gm kr rfl)))
     (Rg.dz (Rg.iy (d := 7) rfl kr rfl (Em rfl (Rg.ai 3 kr) (Rg.lv _) rfl d2))
     (Rg.dz (Rg.iy (d := 7) rfl kr rfl (il rfl (Rg.ai 4 kr)))
     (Rg.dz (Rg.iy (d := 10) rfl kr rfl (il rfl (Rg.gm kr rfl)))
     (Rg.dz (Rg.iy (d := 10) rfl kr rfl (Fb rfl (Rg.ai 6 kr) (Rg.lv _) rfl d3))
     (Rg.dz (Rg.iy (d := 7) rfl kr rfl (zk rfl (Rg.ai 5 kr) (Rg.ai 7 kr)))
     (ah (xw rfl (Rg.ai 2 kr) (Rg.ai 8 kr))
     Rg.fq)))))))))) ?_
    intro v1 V1 hG1 hv1 hne1
    simp only [Rg.puts, ko, kg, jy, jw, Act.put, jr, jq, jo]
    have e9 : v1 9 = .bool true := hv1 9 (by decide)
    simp only [e9]
    have hO := hG1.1
    clear HO
    have HO := hide hO
    clear hO hG1 hv1 hne1
    try clear e9
    have hr : rr = 1 := by rw [aa HR, if_pos om]
    subst hr
    go_upto_region 2 with fail
    refine Rg.ik 1 16 (Rg.pick [Rg.cz (.int .i64 1)]) (dw w [] V1) jb [] kr rfl (Rg.iq.pick ⟨Rg.ag _, trivial⟩) (dw.begin (aa HO))
     (ah (ma rfl (Rg.lv _))
     Rg.fq) ?_
    intro v2 V2 hG2 hv2 hne2
    simp only [Rg.puts, ko, kg, jy, jw, Act.put, jr, jq, jo]
    have e0 : v2 0 = .int .i64 1 := hv2 0 (by decide)
    simp only [e0]
    have hO := hG2.1
    clear HO
    have HO := hide hO
    clear hO hG2 hv2 hne2
    try clear e0
    go_wp2_with fail
    exact Cw Tryz.results94 rfl (aa HO).bel rfl
   ·
    have d1 : (e == 0) = true := beq_iff_eq.2 h0
    have d2 : decide (g < 1) = false := decide_eq_false h1
    have d3 : decide (1000000 < g) = false := decide_eq_false h2
    go_upto_region 1 with fail
    refine Rg.ik 10 16 (Rg.pick [Rg.cz (.int .i64 e), Rg.cz (.bool true), Rg.cz (.bool true), Rg.cz (.int .i64 g), Rg.cz (.bool false), Rg.cz (.bool false), Rg.cz (.int .i64 g), Rg.cz (.bool false), Rg.cz (.bool false), Rg.cz (.bool false)]) (dw w [] w) jb [] kr rfl (Rg.iq.pick ⟨Rg.ag _, Rg.ag _, Rg.ag _, Rg.ag _, Rg.ag _, Rg.ag _, Rg.ag _, Rg.ag _, Rg.ag _, Rg.ag _, trivial⟩) (dw.begin (aa HO))
     (ah (il rfl (Rg.gm kr rfl))
     (ah (He rfl (Rg.ai 0 kr) (Rg.lv _) rfl d1)
     (ah (il rfl (Rg.ai 1 kr))
     (Rg.dz (Rg.iy (d := 7) rfl kr rfl (il rfl (Rg.gm kr rfl)))
     (Rg.dz (Rg.iy (d := 7) rfl kr rfl (Em rfl (Rg.ai 3 kr) (Rg.lv _) rfl d2))
     (Rg.dz (Rg.iy (d := 7) rfl kr rfl (il rfl (Rg.ai 4 kr)))
     (Rg.dz (Rg.iy (d := 10) rfl kr rfl (il rfl (Rg.gm kr rfl)))
     (Rg.dz (Rg.iy (d := 10) rfl kr rfl (Fb rfl (Rg.ai 6 kr) (Rg.lv _) rfl d3))
     (Rg.dz (Rg.iy (d := 7) rfl kr rfl (zk rfl (Rg.ai 5 kr) (Rg.ai 7 kr)))
     (ah (xw rfl (Rg.ai 2 kr) (Rg.ai 8 kr))
     Rg.fq)))))))))) ?_
    intro v1 V1 hG1 hv1 hne1
    simp only [Rg.puts, ko, kg, jy, jw, Act.put, jr, jq, jo]
    have e9 : v1 9 = .bool false := hv1 9 (by decide)
    simp only [e9]
    have hO := hG1.1
    clear HO
    have HO := hide hO
    clear hO hG1 hv1 hne1
    try clear e9
    have hr : e = rr := by rw [aa HR, if_neg om]
    subst hr
    go_upto_region 3 with fail
    refine Rg.ik 2 16 (Rg.pick [Rg.cz (.int .i64 e), Rg.cz (.int .i64 e)]) (dw w [] V1) jb [] kr rfl (Rg.iq.pick ⟨Rg.ag _, Rg.ag _, trivial⟩) (dw.begin (aa HO))
     (ah (il rfl (Rg.gm kr rfl))
     (ah (ma rfl (Rg.ai 0 kr))
     Rg.fq)) ?_
    intro v2 V2 hG2 hv2 hne2
    simp only [Rg.puts, ko, kg, jy, jw, Act.put, jr, jq, jo]
    have e0 : v2 0 = .int .i64 e := hv2 0 (by decide)
    have e1 : v2 1 = .int .i64 e := hv2 1 (by decide)
    simp only [e0, e1]
    have hO := hG2.1
    clear HO
    have HO := hide hO
    clear hO hG2 hv2 hne2
    try clear e0 e1
    go_wp2_with fail
    exact Cw Tryz.results94 rfl (aa HO).bel rfl
 ·
  have d1 : (e == 0) = false := beq_eq_false_iff_ne.2 h0
  go_upto_region 1 with fail
  refine Rg.ik 10 16 (Rg.pick [Rg.cz (.int .i64 e), Rg.cz (.bool false), Rg.cz (.bool false), Rg.cz undef, Rg.cz undef, Rg.cz undef, Rg.cz undef, Rg.cz undef, Rg.cz undef, Rg.cz (.bool false)]) (dw w [] w) jb [] kr rfl (Rg.iq.pick ⟨Rg.ag _, Rg.ag _, Rg.ag _, Rg.ag _, Rg.ag _, Rg.ag _, Rg.ag _, Rg.ag _, Rg.ag _, Rg.ag _, trivial⟩) (dw.begin (aa HO))
   (ah (il rfl (Rg.gm kr rfl))
   (ah (He rfl (Rg.ai 0 kr) (Rg.lv _) rfl d1)
   (ah (il rfl (Rg.ai 1 kr))
   (Rg.dz (Rg.mq (d := 7) rfl kr rfl rfl mi rfl rfl)
   (Rg.dz (Rg.mq (d := 7) rfl kr rfl rfl mi rfl rfl)
   (Rg.dz (Rg.mq (d := 7) rfl kr rfl rfl mi rfl rfl)
   (Rg.dz (agh (d := 10) rfl kr rfl mi rfl rfl)
   (Rg.dz (agh (d := 10) rfl kr rfl mi rfl rfl)
   (Rg.dz (Rg.mq (d := 7) rfl kr rfl rfl mi rfl rfl)
   (ah (zk rfl (Rg.ai 2 kr) (Rg.lv _))
   Rg.fq)))))))))) ?_
  intro v1 V1 hG1 hv1 hne1
  simp only [Rg.puts, ko, kg, jy, jw, Act.put, jr, jq, jo]
  have e9 : v1 9 = .bool false := hv1 9 (by decide)
  simp only [e9]
  have hO := hG1.1
  clear HO
  have HO := hide hO
  clear hO hG1 hv1 hne1
  try clear e9
  have hr : e = rr := by rw [aa HR, if_neg om]
  subst hr
  go_upto_region 3 with fail
  refine Rg.ik 2 16 (Rg.pick [Rg.cz (.int .i64 e), Rg.cz (.int .i64 e)]) (dw w [] V1) jb [] kr rfl (Rg.iq.pick ⟨Rg.ag _, Rg.ag _, trivial⟩) (dw.begin (aa HO))
   (ah (il rfl (Rg.gm kr rfl))
   (ah (ma rfl (Rg.ai 0 kr))
   Rg.fq)) ?_
  intro v2 V2 hG2 hv2 hne2
  simp only [Rg.puts, ko, kg, jy, jw, Act.put, jr, jq, jo]
  have e0 : v2 0 = .int .i64 e := hv2 0 (by decide)
  have e1 : v2 1 = .int .i64 e := hv2 1 (by decide)
  simp only [e0, e1]
  have hO := hG2.1
  clear HO
  have HO := hide hO
  clear hO hG2 hv2 hne2
  try clear e0 e1
  go_wp2_with fail
  exact Cw Tryz.results94 rfl (aa HO).bel rfl
def Bu (a b c d : Int) : Prop := Wd.wm a b ∧ Wd.wm c d ∧ a * d - c * b ≤ 0
instance (a b c d : Int) : Decidable (Bu a b c d) := by unfold Bu; infer_instance
def Jr (a b c d : Int) : Int := if Bu a b c d then 0 else 1
set_option maxHeartbeats 16000000 in
theorem aqy {bf az ay ax : Int} (o e r : Int) (w : World) (hT : xg w) (u0 : Value) (h0 : bg [iv bf, iv az, iv ay, iv ax] w u0)
  (hc : ∀ (W : World) (v0 v1 : Value), xg W → bg [.v (.int .i64 bf), .v (.int .i64 az)] W v0 → bg [.v (.int .i64 ay), .v (.int .i64 ax)] W v1 → Calls Tryz.prog 98 #[v0, v1] W (nk (qj [Rg.cz (.int .i64 o), Rg.cz (.int .i64 e)]) W))
  (hr : (e = 0 → 0 < o → r = 1) ∧ (¬ (e = 0 ∧ 0 < o) → e = r)) : Calls Tryz.prog 31 #[u0] w (nk (Rg.cz (.int .i64 r)) w) := by
 have HC := hide hc
 have HR := hide hr
 have HT := hide hT
 clear hc hr hT
 have hu0 := Ak h0
 subst hu0
 go_enter Tryz.func31, Tryz.ntmps31
 go_upto_region 1 with fail
 have hO := (Own.push (T := 41) (ls := [iv bf, iv az, iv ay, iv ax]) (cs := [.int .i64 bf, .int .i64 az, .int .i64 ay, .int .i64 ax]) (Own.nil w) (jf.v (jl _) (jf.v (jl _) (jf.v (jl _) (jf.v (jl _) rfl)))) (w.heap.size) rfl)
 generalize w.alloc (.cells #[.int .i64 bf, .int .i64 az, .int .i64 ay, .int .i64 ax] 41) = W0 at *
 have HO := hide hO
 clear hO
 go_upto_region 1 with fail
 refine Rg.ik 10 20 (Rg.pick [Rg.cz (.pointer (some ⟨w.heap.size, 0, none⟩)), bg [iv bf, iv az], Rg.cz (.pointer (some ⟨w.heap.size, 2, none⟩)), bg [iv ay, iv ax], qj [Rg.cz (.int .i64 o), Rg.cz (.int .i64 e)], qj [Rg.cz (.int .i64 o), Rg.cz (.int .i64 e)], Rg.cz (.int .i64 o), Rg.cz (.int .i64 e), Rg.cz (.int .i64 o), Rg.cz (.int .i64 e)]) (dw w [(w.heap.size, 41, [iv bf, iv az, iv ay, iv ax])] W0) jb [] kr rfl (Rg.iq.pick ⟨Rg.ag _, cu _, Rg.ag _, cu _, nu ⟨(Rg.ag _), (Rg.ag _), trivial⟩, nu ⟨(Rg.ag _), (Rg.ag _), trivial⟩, Rg.ag _, Rg.ag _, Rg.ag _, Rg.ag _, trivial⟩) (dw.begin (aa HO))
  (ah (En (b := w.heap.size) (off := 0) rfl (Rg.gm kr rfl) rfl rfl)
  (ah (je zb me0 (Rg.ai 0 kr) [] [iv bf, iv az] [iv ay, iv ax])
  (ah (Ga (b := w.heap.size) (off := 0) rfl (Rg.gm kr rfl) rfl rfl)
  (ah (je zb me0 (Rg.ai 2 kr) [iv bf, iv az] [iv ay, iv ax] [])
  (ah (ll Tryz.func98 kr rfl dw.step (Rg.ai 1 kr) (Rg.ai 3 kr) (fun W v0 v1 hG h0 h1 => aa HC W v0 v1 ((aa HT).below hG.bel) h0 h1))
  (ah (il rfl (Rg.ai 4 kr))
  (ah (oo (ts := [Rg.cz (.int .i64 o), Rg.cz (.int .i64 e)]) rfl (Rg.ai 5 kr) (of_decide_eq_true rfl) rfl)
  (ah (oo (ts := [Rg.cz (.int .i64 o), Rg.cz (.int .i64 e)]) rfl (Rg.ai 5 kr) (of_decide_eq_true rfl) rfl)
  (ah (ma rfl (Rg.ai 6 kr))
  (ah (ma rfl (Rg.ai 7 kr))
  Rg.fq)))))))))) ?_
 intro v1 V1 hG1 hv1 hne1
 simp only [Rg.puts, ko, kg, jy, jw, Act.put, jr, jq, jo]
 have e6 : v1 6 = .int .i64 o := hv1 6 (by decide)
 have e7 : v1 7 = .int .i64 e := hv1 7 (by decide)
 have e8 : v1 8 = .int .i64 o := hv1 8 (by decide)
 have e9 : v1 9 = .int .i64 e := hv1 9 (by decide)
 simp only [e6, e7, e8, e9]
 have hO := hG1.1
 clear HO
 have HO := hide hO
 clear hO hG1 hv1 hne1
 try clear e6 e7 e8 e9
 by_cases g0 : e = 0
 ·
  by_cases g1 : 0 < o
  ·
   have d1 : (e == 0) = true := beq_iff_eq.2 g0
   have d2 : decide (0 < o) = true := decide_eq_true g1
   go_upto_region 2 with fail
   refine Rg.ik 6 20 (Rg.pick [Rg.cz (.int .i64 e), Rg.cz (.bool true), Rg.cz (.bool true), Rg.cz (.int .i64 o), Rg.cz (.bool true), Rg.cz (.bool true)]) (dw w [(w.heap.size, 41, [iv bf, iv az, iv ay, iv ax])] V1) jb [] kr rfl (Rg.iq.pick ⟨Rg.ag _, Rg.ag _, Rg.ag _, Rg.ag _, Rg.ag _, Rg.ag _, trivial⟩) (dw.begin (aa HO))
    (ah (il rfl (Rg.gm kr rfl))
    (ah (He rfl (Rg.ai 0 kr) (Rg.lv _) rfl d1)
    (ah (il rfl (Rg.ai 1 kr))
    (Rg.dz (Rg.iy (d := 15) rfl kr rfl (il rfl (Rg.gm kr rfl)))
    (Rg.dz (Rg.iy (d := 15) rfl kr rfl (Fb rfl (Rg.ai 3 kr) (Rg.lv _) rfl d2))
    (ah (xw rfl (Rg.ai 2 kr) (Rg.ai 4 kr))
    Rg.fq)))))) ?_
   intro v2 V2 hG2 hv2 hne2
   simp only [Rg.puts, ko, kg, jy, jw, Act.put, jr, jq, jo]
   have e5 : v2 5 = .bool true := hv2 5 (by decide)
   simp only [e5]
   have hO := hG2.1
   clear HO
   have HO := hide hO
   clear hO hG2 hv2 hne2
   try clear e5
   have hr : r = 1 := (aa HR).1 g0 g1
   subst hr
   go_upto_region 3 with fail
   refine Rg.ik 1 20 (Rg.pick [Rg.cz (.int .i64 1)]) (dw w [(w.heap.size, 41, [iv bf, iv az, iv ay, iv ax])] V2) jb [] kr rfl (Rg.iq.pick ⟨Rg.ag _, trivial⟩) (dw.begin (aa HO))
    (ah (ma rfl (Rg.lv _))
    Rg.fq) ?_
   intro v3 V3 hG3 hv3 si
   simp only [Rg.puts, ko, kg, jy, jw, Act.put, jr, jq, jo]
   have e0 : v3 0 = .int .i64 1 := hv3 0 (by decide)
   simp only [e0]
   have hO := hG3.1
   clear HO
   have HO := hide hO
   clear hO hG3 hv3 si
   try clear e0
   go_wp2_with fail
   exact Cw Tryz.results31 rfl (aa HO).bel rfl
  ·
   have d1 : (e == 0) = true := beq_iff_eq.2 g0
   have d2 : decide (0 < o) = false := decide_eq_false g1
   go_upto_region 2 with fail
   refine Rg.ik 6 20 (Rg.pick [Rg.cz (.int .i64 e), Rg.cz (.bool true), Rg.cz (.bool true), Rg.cz (.int .i64 o), Rg.cz (.bool false), Rg.cz (.bool false)]) (dw w [(w.heap.size, 41, [iv bf, iv az, iv ay, iv ax])] V1) jb [] kr rfl (Rg.iq.pick ⟨Rg.ag _, Rg.ag _, Rg.ag _, Rg.ag _, Rg.ag _, Rg.ag _, trivial⟩) (dw.begin (aa HO))
    (ah (il rfl (Rg.gm kr rfl))
    (ah (He rfl (Rg.ai 0 kr) (Rg.lv _) rfl d1)
    (ah (il rfl (Rg.ai 1 kr))
    (Rg.dz (Rg.iy (d := 15) rfl kr rfl (il rfl (Rg.gm kr rfl)))
    (Rg.dz (Rg.iy (d := 15) rfl kr rfl (Fb rfl (Rg.ai 3 kr) (Rg.lv _) rfl d2))
    (ah (xw rfl (Rg.ai 2 kr) (Rg.ai 4 kr))
    Rg.fq)))))) ?_
   intro v2 V2 hG2 hv2 hne2
   simp only [Rg.puts, ko, kg, jy, jw, Act.put, jr, jq, jo]
   have e5 : v2 5 = .bool false := hv2 5 (by decide)
   simp only [e5]
   have hO := hG2.1
   clear HO
   have HO := hide hO
   clear hO hG2 hv2 hne2
   try clear e5
   have hr : e = r := (aa HR).2 om
   subst hr
   go_upto_region 4 with fail
   refine Rg.ik 2 20 (Rg.pick [Rg.cz (.int .i64 e), Rg.cz (.int .i64 e)]) (dw w [(w.heap.size, 41, [iv bf, iv az, iv ay, iv ax])] V2) jb [] kr rfl (Rg.iq.pick ⟨Rg.ag _, Rg.ag _, trivial⟩) (dw.begin (aa HO))
    (ah (il rfl (Rg.gm kr rfl))
    (ah (ma rfl (Rg.ai 0 kr))
    Rg.fq)) ?_
   intro v3 V3 hG3 hv3 si
   simp only [Rg.puts, ko, kg, jy, jw, Act.put, jr, jq, jo]
   have e0 : v3 0 = .int .i64 e := hv3 0 (by decide)
   have e1 : v3 1 = .int .i64 e := hv3 1 (by decide)
   simp only [e0, e1]
   have hO := hG3.1
   clear HO
   have HO := hide hO
   clear hO hG3 hv3 si
   try clear e0 e1
   go_wp2_with fail
   exact Cw Tryz.results31 rfl (aa HO).bel rfl
 ·
  have d1 : (e == 0) = false := beq_eq_false_iff_ne.2 g0
  go_upto_region 2 with fail
  refine Rg.ik 6 20 (Rg.pick [Rg.cz (.int .i64 e), Rg.cz (.bool false), Rg.cz (.bool false), Rg.cz undef, Rg.cz undef, Rg.cz (.bool false)]) (dw w [(w.heap.size, 41, [iv bf, iv az, iv ay, iv ax])] V1) jb [] kr rfl (Rg.iq.pick ⟨Rg.ag _, Rg.ag _, Rg.ag _, Rg.ag _, Rg.ag _, Rg.ag _, trivial⟩) (dw.begin (aa HO))
   (ah (il rfl (Rg.gm kr rfl))
   (ah (He rfl (Rg.ai 0 kr) (Rg.lv _) rfl d1)
   (ah (il rfl (Rg.ai 1 kr))
   (Rg.dz (Rg.mq (d := 15) rfl kr rfl rfl mi rfl rfl)
   (Rg.dz (Rg.mq (d := 15) rfl kr rfl rfl mi rfl rfl)
   (ah (zk rfl (Rg.ai 2 kr) (Rg.lv _))
   Rg.fq)))))) ?_
  intro v2 V2 hG2 hv2 hne2
  simp only [Rg.puts, ko, kg, jy, jw, Act.put, jr, jq, jo]
  have e5 : v2 5 = .bool false := hv2 5 (by decide)
  simp only [e5]
  have hO := hG2.1
  clear HO
  have HO := hide hO
  clear hO hG2 hv2 hne2
  try clear e5
  have hr : e = r := (aa HR).2 om
  subst hr
  go_upto_region 4 with fail
  refine Rg.ik 2 20 (Rg.pick [Rg.cz (.int .i64 e), Rg.cz (.int .i64 e)]) (dw w [(w.heap.size, 41, [iv bf, iv az, iv ay, iv ax])] V2) jb [] kr rfl (Rg.iq.pick ⟨Rg.ag _, Rg.ag _, trivial⟩) (dw.begin (aa HO))
   (ah (il rfl (Rg.gm kr rfl))
   (ah (ma rfl (Rg.ai 0 kr))
   Rg.fq)) ?_
  intro v3 V3 hG3 hv3 si
  simp only [Rg.puts, ko, kg, jy, jw, Act.put, jr, jq, jo]
  have e0 : v3 0 = .int .i64 e := hv3 0 (by decide)
  have e1 : v3 1 = .int .i64 e := hv3 1 (by decide)
  simp only [e0, e1]
  have hO := hG3.1
  clear HO
  have HO := hide hO
  clear hO hG3 hv3 si
  try clear e0 e1
  go_wp2_with fail
  exact Cw Tryz.results31 rfl (aa HO).bel rfl
theorem apv {bf az ay ax : Int} (w : World) (hT : xg w) (u0 : Value) (h0 : bg [iv bf, iv az, iv ay, iv ax] w u0) : Calls Tryz.prog 31 #[u0] w (nk (Rg.cz (.int .i64 (Jr bf az ay ax))) w) := by
 refine aqy (ags bf az ay ax) (Qr bf az ay ax) _ w hT u0 h0 (fun W v0 v1 hT g0 g1 => ?_) ?_
 ·
  rw [Ke g0, Ke g1]
  exact (avs bf az ay ax W hT).mono fun e w' ⟨h1, h2⟩ => ⟨_, h1, h2, [_, _], rfl, _, _, rfl, rfl, _, _, rfl, rfl, rfl⟩
 ·
  unfold ags Qr Jr
  by_cases ok : Wd.wm bf az ∧ Wd.wm ay ax
  ·
   rw [if_pos ok, if_pos ok]
   have hs : 0 < ja (bf * ax - ay * az) ↔ 0 < bf * ax - ay * az := by unfold ja; (repeat' split) <;> omega
   refine ⟨fun _ h => if_neg (fun hk => ?_), fun h => (if_pos ⟨ok.1, ok.2, ?_⟩).symm⟩
   ·
    have := hk.2.2; have := hs.1 h; omega
   ·
    have h1 : ¬ 0 < ja (bf * ax - ay * az) := fun h2 => h ⟨rfl, h2⟩
    rw [hs] at h1; omega
  ·
   rw [if_neg ok, if_neg ok, if_neg (fun hk => ok ⟨hk.1, hk.2.1⟩)]
   exact ⟨fun h => by omega, fun _ => rfl⟩
structure Sp where
 a : Int
 b : Int
 c : Int
 d : Int
def lv4 (s : Sp) : List Leaf := [.v (.int .i64 s.a), .v (.int .i64 s.b), .v (.int .i64 s.c), .v (.int .i64 s.d)]
def Ur (ss : List Sp) : List Leaf := (ss.map lv4).flatten
theorem azj (q1 : List Sp) (y : Sp) (q2 : List Sp) : Ur (q1 ++ y :: q2) = Ur q1 ++ (lv4 y ++ Ur q2) := by simp [Ur]
theorem aci : ∀ (a b : List Leaf), lsize (a ++ b) = lsize a + lsize b
 | [], b => by simp [lsize]
 | l :: a, b => by rw [List.cons_append, lsize, lsize, aci a b]; omega
theorem ach : ∀ (l : List Sp), lsize (Ur l) = 4 * l.length
 | [] => rfl
 | x :: l => by
  have h : Ur (x :: l) = lv4 x ++ Ur l := by simp [Ur]
  rw [h, aci, ach l, List.length_cons, show lsize (lv4 x) = 4 from rfl]; omega
def Qo (s : Sp) : Prop := Bu s.a s.b s.c s.d
instance (s : Sp) : Decidable (Qo s) := by unfold Qo; infer_instance
def su (ss : List Sp) : Int := if ∀ s ∈ ss, Qo s then 0 else 1
set_option maxHeartbeats 16000000 in
theorem agu {ss : List Sp} (hm : ss.length ≤ 1000000) (w : World) (hT : xg w) (u0 : Value) (h0 : Qh 41 ss.length (Ur ss) w u0) :
  Calls Tryz.prog 104 #[u0] w (nk (Rg.cz (.int .i64 (su ss))) w) := by
 obtain ⟨b0, rfl, hbx⟩ := h0
 obtain ⟨rr, hrr⟩ : ∃ rr, rr = su ss := ⟨_, rfl⟩
 rw [← hrr]
 unfold su at hrr
 have HR := hide hrr
 have HT := hide hT
 have HLEN := hide hm
 have HBX := hide hbx
 clear hT hbx hm hrr
 go_enter Tryz.func104, Tryz.ntmps104
 go_upto_region 1 with fail
 have hO := (Own.nil w)
 have HO := hide hO
 clear hO
 go_wp2_with fail
 go_loopw [8] (fun iv wr => ∃ q1 q2 : List Sp, ss = q1 ++ q2 ∧ iv = .int .i64 ((q1.length : Nat) : Int) ∧ (∀ s ∈ q1, Qo s) ∧ Hid (Own w [] wr)) (fun iv _ => ss.length - (intOf iv).toNat)
 case atStart => exact ⟨[], ss, rfl, rfl, (by intro s h; cases h), HO⟩
 case round =>
  obtain ⟨q1, q2, Ef, rfl, hok, HO⟩ := hrel
  have Jo := hide hok
  clear hok
  rcases q2 with _ | ⟨y, q2⟩
  ·
   have d1 : decide ((q1.length : Int) < (ss.length : Int)) = false := decide_eq_false (by rw [Ef]; simp)
   rw [List.append_nil] at Ef
   obtain rfl : q1 = ss := Ef.symm
   have hr : rr = 0 := by rw [aa HR]; exact if_pos (aa Jo)
   subst hr
   go_upto_region 2 with fail
   refine Rg.ik 1 18 (Rg.pick [Rg.cz (.bool false)]) (dw w [] wr) jb [] kr rfl (Rg.iq.pick ⟨Rg.ag _, trivial⟩) (dw.begin (aa HO))
    (ah (Em rfl (Rg.gm kr rfl) (Rg.gm kr rfl) rfl d1)
    Rg.fq) ?_
   intro v1 V1 hG1 hv1 hne1
   simp only [Rg.puts, ko, kg, jy, jw, Act.put, jr, jq, jo]
   have e0 : v1 0 = .bool false := hv1 0 (by decide)
   simp only [e0]
   have hO := hG1.1
   clear HO
   have HO := hide hO
   clear hO hG1 hv1 hne1
   try clear e0
   go_upto_region 8 with fail
   refine Rg.ik 1 18 (Rg.pick [Rg.cz (.int .i64 0)]) (dw w [] V1) jb [] kr rfl (Rg.iq.pick ⟨Rg.ag _, trivial⟩) (dw.begin (aa HO))
    (ah (ma rfl (Rg.lv _))
    Rg.fq) ?_
   intro v2 V2 hG2 hv2 hne2
   simp only [Rg.puts, ko, kg, jy, jw, Act.put, jr, jq, jo]
   have e0 : v2 0 = .int .i64 0 := hv2 0 (by decide)
   simp only [e0]
   have hO := hG2.1
   clear HO
   have HO := hide hO
   clear hO hG2 hv2 hne2
   try clear e0
   go_wp2_with fail
   exact Cw Tryz.results104 rfl (aa HO).bel rfl
  ·
   have d1 : decide ((q1.length : Int) < (ss.length : Int)) = true := decide_eq_true (by rw [Ef]; simp; omega)
   have zu := hide (show q1.length < ss.length by rw [Ef]; simp)
   have Ir := hide Ef
   have hB := (aa HBX)
   rw [Ef, azj] at hB
   have HB := hide hB
   clear hB Ef
   go_upto_region 2 with fail
   refine Rg.ik 1 18 (Rg.pick [Rg.cz (.bool true)]) (dw w [] wr) jb [] kr rfl (Rg.iq.pick ⟨Rg.ag _, trivial⟩) (dw.begin (aa HO))
    (ah (Em rfl (Rg.gm kr rfl) (Rg.gm kr rfl) rfl d1)
    Rg.fq) ?_
   intro v1 V1 hG1 hv1 hne1
   simp only [Rg.puts, ko, kg, jy, jw, Act.put, jr, jq, jo]
   have e0 : v1 0 = .bool true := hv1 0 (by decide)
   simp only [e0]
   have hO := hG1.1
   clear HO
   have HO := hide hO
   clear hO hG1 hv1 hne1
   try clear e0
   clear d1
   go_upto_region 3 with fail
   refine Rg.ik 3 18 (Rg.pick [Rg.cz (.pointer (some ⟨b0, 4 * q1.length, none⟩)), bg [iv y.a, iv y.b, iv y.c, iv y.d], uf 41 zS V1.heap.size]) (dw w [] V1) jb [2] kr rfl (Rg.iq.pick ⟨Rg.ag _, cu _, ui _ _ _, trivial⟩) (dw.begin (aa HO))
    (ah (bam (i := q1.length) (m := ss.length) rfl (Rg.gm kr rfl) (Rg.gm kr rfl) (aa zu) rfl)
    (ah (vw (b := b0) (off := 4 * q1.length) (TB := 41) (pre := Ur q1) (mid := lv4 y) (post := Ur q2) qi rfl (Rg.ai 0 kr) (fun W h => (aa HB).below h.1.bel) (ach q1) rfl rfl)
    (ah (vv Sr rfl dw.step dw.size rfl (xx (by intro j hj; simp at hj; (repeat' (first | (rcases hj with rfl | hj))) <;> first | (subst hj; exact ⟨_, _, _, rfl⟩) | exact ⟨_, _, _, rfl⟩)))
    Rg.fq))) ?_
   intro v2 V2 hG2 hv2 hne2
   simp only [Rg.puts, ko, kg, jy, jw, Act.put, jr, jq, jo]
   obtain ⟨amj, e2, afz, hz2⟩ := (show uf 41 zS V1.heap.size V2 (v2 2) from hv2 2 (by decide))
   simp only [e2]
   have hO := hG2.1
   replace hO := Own.add (aa HO) hG2.2 afz hz2
   clear afz hz2
   refine nz hO 0 [] zS [iv y.a, iv y.b, iv y.c, iv y.d] [] rfl vo rfl (show bg [iv y.a, iv y.b, iv y.c, iv y.d] V2 (v2 1) from hv2 1 (by decide)) rfl rfl rfl ?_
   intro Dh ji hk0
   replace hO := ji
   clear ji
   clear HO
   have HO := hide hO
   clear hO hG2 hv2 hne2 hk0
   try clear e2
   go_upto_region 4 with fail
   refine Rg.ik 3 18 (Rg.pick [bg [iv y.a, iv y.b, iv y.c, iv y.d], Rg.cz (.int .i64 (Jr y.a y.b y.c y.d)), Rg.cz (.int .i64 (Jr y.a y.b y.c y.d))]) (dw w [(amj, 41, [iv y.a, iv y.b, iv y.c, iv y.d])] Dh) jb [] kr rfl (Rg.iq.pick ⟨cu _, Rg.ag _, Rg.ag _, trivial⟩) (dw.begin (aa HO))
    (ah (je qi me0 (Rg.gm kr rfl) [] [iv y.a, iv y.b, iv y.c, iv y.d] [])
    (ah (ku Tryz.func31 kr rfl dw.step (Rg.ai 0 kr) (fun W v0 hG h0 => apv W ((aa HT).below hG.bel) _ h0))
    (ah (ma rfl (Rg.ai 1 kr))
    Rg.fq))) ?_
   intro v3 V3 hG3 hv3 si
   simp only [Rg.puts, ko, kg, jy, jw, Act.put, jr, jq, jo]
   have e1 : v3 1 = .int .i64 (Jr y.a y.b y.c y.d) := hv3 1 (by decide)
   have e2 : v3 2 = .int .i64 (Jr y.a y.b y.c y.d) := hv3 2 (by decide)
   simp only [e1, e2]
   have hO := hG3.1
   clear HO
   have HO := hide hO
   clear hO hG3 hv3 si
   try clear e1 e2
   by_cases g0 : Bu y.a y.b y.c y.d
   ·
    have hv : Jr y.a y.b y.c y.d = 0 := if_pos g0
    rw [hv]
    have HG := hide g0
    clear g0 hv
    go_upto_region 5 with fail
    refine Rg.ik 2 18 (Rg.pick [Rg.cz (.int .i64 0), Rg.cz (.bool false)]) (dw w [(amj, 41, [iv y.a, iv y.b, iv y.c, iv y.d])] V3) jb [] kr rfl (Rg.iq.pick ⟨Rg.ag _, Rg.ag _, trivial⟩) (dw.begin (aa HO))
     (ah (il rfl (Rg.gm kr rfl))
     (ah (Co rfl (Rg.ai 0 kr) (Rg.lv _) rfl rfl)
     Rg.fq)) ?_
    intro v4 V4 hG4 hv4 xh
    simp only [Rg.puts, ko, kg, jy, jw, Act.put, jr, jq, jo]
    have e1 : v4 1 = .bool false := hv4 1 (by decide)
    simp only [e1]
    have hO := hG4.1
    clear HO
    have HO := hide hO
    clear hO hG4 hv4 xh
    try clear e1
    go_wp2_with fail
    go_roundw
    case rel =>
     have h1 := aa zu; have h2 := aa HLEN
     refine ⟨q1 ++ [y], q2, by rw [aa Ir]; simp, by rw [List.length_append, List.length_singleton]; exact Yi h1 h2, fun s hs => ?_, hide (aa HO).drop⟩
     rcases List.mem_append.1 hs with hs | hs
     ·
      exact (aa Jo) s hs
     ·
      rw [List.mem_singleton.1 hs]; exact aa HG
    case measure =>
     have h1 := aa zu; have h2 := aa HLEN
     clear HO Ir HB
     rw [Vs h1 h2]
     exact measS h1
   ·
    have hv : Jr y.a y.b y.c y.d = 1 := if_neg g0
    rw [hv]
    have hr : rr = 1 := by rw [aa HR]; exact if_neg (fun h => g0 (h y (by rw [aa Ir]; simp)))
    subst hr
    clear g0
    go_upto_region 5 with fail
    refine Rg.ik 2 18 (Rg.pick [Rg.cz (.int .i64 1), Rg.cz (.bool true)]) (dw w [(amj, 41, [iv y.a, iv y.b, iv y.c, iv y.d])] V3) jb [] kr rfl (Rg.iq.pick ⟨Rg.ag _, Rg.ag _, trivial⟩) (dw.begin (aa HO))
     (ah (il rfl (Rg.gm kr rfl))
     (ah (Co rfl (Rg.ai 0 kr) (Rg.lv _) rfl rfl)
     Rg.fq)) ?_
    intro v4 V4 hG4 hv4 xh
    simp only [Rg.puts, ko, kg, jy, jw, Act.put, jr, jq, jo]
    have e1 : v4 1 = .bool true := hv4 1 (by decide)
    simp only [e1]
    have hO := hG4.1
    clear HO
    have HO := hide hO
    clear hO hG4 hv4 xh
    try clear e1
    go_upto_region 6 with fail
    refine Rg.ik 2 18 (Rg.pick [Rg.cz (.int .i64 1), Rg.cz (.int .i64 1)]) (dw w [(amj, 41, [iv y.a, iv y.b, iv y.c, iv y.d])] V4) jb [] kr rfl (Rg.iq.pick ⟨Rg.ag _, Rg.ag _, trivial⟩) (dw.begin (aa HO))
     (ah (il rfl (Rg.gm kr rfl))
     (ah (ma rfl (Rg.ai 0 kr))
     Rg.fq)) ?_
    intro v5 V5 zo hv5 hne5
    simp only [Rg.puts, ko, kg, jy, jw, Act.put, jr, jq, jo]
    have e0 : v5 0 = .int .i64 1 := hv5 0 (by decide)
    have e1 : v5 1 = .int .i64 1 := hv5 1 (by decide)
    simp only [e0, e1]
    have hO := zo.1
    clear HO
    have HO := hide hO
    clear hO zo hv5 hne5
    try clear e0 e1
    go_wp2_with fail
    exact Cw Tryz.results104 rfl (aa HO).bel rfl
end Sb

end Go.Proofs.YtfbcdfoohpkfeaaGreatDoor
