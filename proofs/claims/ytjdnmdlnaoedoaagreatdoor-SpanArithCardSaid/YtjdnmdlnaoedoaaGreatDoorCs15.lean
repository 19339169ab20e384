/- Texts beneath a law of layer 1. -/
import Derived.Test.YtjdnmdlnaoedoaaGreatDoorCs14
set_option maxRecDepth 100000
namespace Go.Proofs.YtjdnmdlnaoedoaaGreatDoor
open Go.RowKit

namespace Sb
theorem ayv {a b c d : Int} (h : Ae a b c d) : jw ((Wd.qR a b).num * (Wd.qR c d).den - (Wd.qR c d).num * (Wd.qR a b).den) ≤ 0 := by
 rw [Oe]; exact apm h
theorem ayw {a b c d : Int} (h1 : Wd.xz a b) (h2 : Wd.xz c d) (h : jw ((Wd.qR a b).num * (Wd.qR c d).den - (Wd.qR c d).num * (Wd.qR a b).den) ≤ 0) : a * d - c * b ≤ 0 := by
 rw [Oe] at h
 exact (baw h1 h2 h).2.2
set_option maxHeartbeats 16000000 in
theorem Ux {fe eu fu fq : Int} (w : World) (u0 : Value) (h0 : ai [iv fe, iv eu, iv fu, iv fq] w u0) : Calls Tryz.prog 85 #[u0] w (jh (Rg.bf (.bool (decide (Ae fe eu fu fq)))) w) := by
 obtain ⟨rr, hrr⟩ : ∃ rr, rr = decide (Ae fe eu fu fq) := ⟨_, rfl⟩
 rw [← hrr]
 have HR := hide hrr
 clear hrr
 have hu0 := Af h0
 subst hu0
 go_enter Tryz.func85, Tryz.ntmps85
 go_upto_region 1 with fail
 have hO := (Own.push (T := 41) (ls := [iv fe, iv eu, iv fu, iv fq]) (cs := [.int .i64 fe, .int .i64 eu, .int .i64 fu, .int .i64 fq]) (Own.nil w) (ek.v (kg _) (ek.v (kg _) (ek.v (kg _) (ek.v (kg _) rfl)))) (w.heap.size) rfl)
 generalize w.alloc (.cells #[.int .i64 fe, .int .i64 eu, .int .i64 fu, .int .i64 fq] 41) = W0 at *
 have HO := hide hO
 clear hO
 by_cases g1 : Wd.xz fe eu
 ·
  by_cases g2 : Wd.xz fu fq
  ·
   by_cases g3 : (jw ((Wd.qR fe eu).num * (Wd.qR fu fq).den - (Wd.qR fu fq).num * (Wd.qR fe eu).den)) ≤ 0
   ·
    have k1 : decide (Wd.xz fe eu) = true := decide_eq_true g1
    have k2 : decide (Wd.xz fu fq) = true := decide_eq_true g2
    have k3 : decide ((jw ((Wd.qR fe eu).num * (Wd.qR fu fq).den - (Wd.qR fu fq).num * (Wd.qR fe eu).den)) ≤ 0) = true := decide_eq_true g3
    have hr : rr = true := by rw [aa HR]; exact decide_eq_true ⟨g1, g2, ayw g1 g2 g3⟩
    subst hr
    clear HR
    go_upto_region 1 with fail
    refine Rg.region 19 21 (Rg.pick [Rg.bf (.pointer (some ⟨w.heap.size, 0, none⟩)), ai [iv fe, iv eu], Rg.bf (.bool true), Rg.bf (.bool true), Rg.bf (.pointer (some ⟨w.heap.size, 2, none⟩)), ai [iv fu, iv fq], Rg.bf (.bool true), Rg.bf (.bool true), Rg.bf (.bool true), Rg.bf (.pointer (some ⟨w.heap.size, 0, none⟩)), ai [iv fe, iv eu], ai [.r (Wd.qR fe eu)], Rg.bf (.pointer (some ⟨w.heap.size, 2, none⟩)), ai [iv fu, iv fq], ai [.r (Wd.qR fu fq)], Rg.bf (.int .i64 (jw ((Wd.qR fe eu).num * (Wd.qR fu fq).den - (Wd.qR fu fq).num * (Wd.qR fe eu).den))), Rg.bf (.bool true), Rg.bf (.bool true), Rg.bf (.bool true)]) (ay w [(w.heap.size, 41, [iv fe, iv eu, iv fu, iv fq])] W0) ik [] kr kr rfl (Rg.gm.pick ⟨Rg.ag _, au _, Rg.ag _, Rg.ag _, Rg.ag _, au _, Rg.ag _, Rg.ag _, Rg.ag _, Rg.ag _, au _, au _, Rg.ag _, au _, au _, Rg.ag _, Rg.ag _, Rg.ag _, Rg.ag _, trivial⟩) (ay.start (aa HO))
     (ae (Ep (b := w.heap.size) (off := 0) rfl (Rg.cz kr rfl) rfl rfl)
     (ae (fo Bi me0 (Rg.ax 0 kr) [] [iv fe, iv eu] [iv fu, iv fq])
     (ae (jf Tryz.func60 kr rfl ay.step (Rg.ax 1 kr) (fun W v0 hG h0 => k1 ▸ Zr h0))
     (ae (ig rfl (Rg.ax 2 kr))
     (Rg.bg (Rg.il (d := 6) rfl kr rfl (Fu (b := w.heap.size) (off := 0) rfl (Rg.cz kr rfl) rfl rfl))
     (Rg.bg (Rg.il (d := 6) rfl kr rfl (fo Bi me0 (Rg.ax 4 kr) [iv fe, iv eu] [iv fu, iv fq] []))
     (Rg.bg (Rg.il (d := 6) rfl kr rfl (jf Tryz.func60 kr rfl ay.step (Rg.ax 5 kr) (fun W v0 hG h0 => k2 ▸ Zr h0)))
     (ae (vv rfl (Rg.ax 3 kr) (Rg.ax 6 kr))
     (ae (ig rfl (Rg.ax 7 kr))
     (Rg.bg (Rg.il (d := 11) rfl kr rfl (Ep (b := w.heap.size) (off := 0) rfl (Rg.cz kr rfl) rfl rfl))
     (Rg.bg (Rg.il (d := 11) rfl kr rfl (fo Bi me0 (Rg.ax 9 kr) [] [iv fe, iv eu] [iv fu, iv fq]))
     (Rg.bg (Rg.il (d := 11) rfl kr rfl (jf Tryz.func48 kr rfl ay.step (Rg.ax 10 kr) (fun W v0 hG h0 => acr g1 h0)))
     (Rg.bg (Rg.il (d := 11) rfl kr rfl (Fu (b := w.heap.size) (off := 0) rfl (Rg.cz kr rfl) rfl rfl))
     (Rg.bg (Rg.il (d := 11) rfl kr rfl (fo Bi me0 (Rg.ax 12 kr) [iv fe, iv eu] [iv fu, iv fq] []))
     (Rg.bg (Rg.il (d := 11) rfl kr rfl (jf Tryz.func48 kr rfl ay.step (Rg.ax 13 kr) (fun W v0 hG h0 => acr g2 h0)))
     (Rg.bg (Rg.il (d := 11) rfl kr rfl (iw Tryz.func71 kr rfl ay.step (Rg.ax 11 kr) (Rg.ax 14 kr) (fun W v0 v1 hG h0 h1 => Ig (Jr g1) (Jr g2) h0 h1)))
     (Rg.bg (Rg.il (d := 11) rfl kr rfl (Jg rfl (Rg.ax 15 kr) (Rg.mh _) rfl k3))
     (ae (vv rfl (Rg.ax 8 kr) (Rg.ax 16 kr))
     (ae (og rfl (Rg.ax 17 kr))
     Rg.cu))))))))))))))))))) ?_
    intro v1 V1 hG1 hv1 hne1
    simp only [Rg.puts, jr, jq, jo, jm, Act.put, jl, jk, ji]
    have e17 : v1 17 = .bool true := hv1 17 (by decide)
    have e18 : v1 18 = .bool true := hv1 18 (by decide)
    simp only [e17, e18]
    have hO := hG1.1
    clear HO
    have HO := hide hO
    clear hO hG1 hv1 hne1
    try clear e17 e18
    go_wp2_with fail
    exact Co Tryz.results85 rfl (aa HO).bel rfl
   ·
    have k1 : decide (Wd.xz fe eu) = true := decide_eq_true g1
    have k2 : decide (Wd.xz fu fq) = true := decide_eq_true g2
    have k3 : decide ((jw ((Wd.qR fe eu).num * (Wd.qR fu fq).den - (Wd.qR fu fq).num * (Wd.qR fe eu).den)) ≤ 0) = false := decide_eq_false g3
    have hr : rr = false := by rw [aa HR]; exact decide_eq_false (fun h => g3 (ayv h))
    subst hr
    clear HR
    go_upto_region 1 with fail
    refine Rg.region 19 21 (Rg.pick [Rg.bf (.pointer (some ⟨w.heap.size, 0, none⟩)), ai [iv fe, iv eu], Rg.bf (.bool true), Rg.bf (.bool true), Rg.bf (.pointer (some ⟨w.heap.size, 2, none⟩)), ai [iv fu, iv fq], Rg.bf (.bool true), Rg.bf (.bool true), Rg.bf (.bool true), Rg.bf (.pointer (some ⟨w.heap.size, 0, none⟩)), ai [iv fe, iv eu], ai [.r (Wd.qR fe eu)], Rg.bf (.pointer (some ⟨w.heap.size, 2, none⟩)), ai [iv fu, iv fq], ai [.r (Wd.qR fu fq)], Rg.bf (.int .i64 (jw ((Wd.qR fe eu).num * (Wd.qR fu fq).den - (Wd.qR fu fq).num * (Wd.qR fe eu).den))), Rg.bf (.bool false), Rg.bf (.bool false), Rg.bf (.bool false)]) (ay w [(w.heap.size, 41, [iv fe, iv eu, iv fu, iv fq])] W0) ik [] kr kr rfl (Rg.gm.pick ⟨Rg.ag _, au _, Rg.ag _, Rg.ag _, Rg.ag _, au _, Rg.ag _, Rg.ag _, Rg.ag _, Rg.ag _, au _, au _, Rg.ag _, au _, au _, Rg.ag _, Rg.ag _, Rg.ag _, Rg.ag _, trivial⟩) (ay.start (aa HO))
     (ae (Ep (b := w.heap.size) (off := 0) rfl (Rg.cz kr rfl) rfl rfl)
     (ae (fo Bi me0 (Rg.ax 0 kr) [] [iv fe, iv eu] [iv fu, iv fq])
     (ae (jf Tryz.func60 kr rfl ay.step (Rg.ax 1 kr) (fun W v0 hG h0 => k1 ▸ Zr h0))
     (ae (ig rfl (Rg.ax 2 kr))
     (Rg.bg (Rg.il (d := 6) rfl kr rfl (Fu (b := w.heap.size) (off := 0) rfl (Rg.cz kr rfl) rfl rfl))
     (Rg.bg (Rg.il (d := 6) rfl kr rfl (fo Bi me0 (Rg.ax 4 kr) [iv fe, iv eu] [iv fu, iv fq] []))
     (Rg.bg (Rg.il (d := 6) rfl kr rfl (jf Tryz.func60 kr rfl ay.step (Rg.ax 5 kr) (fun W v0 hG h0 => k2 ▸ Zr h0)))
     (ae (vv rfl (Rg.ax 3 kr) (Rg.ax 6 kr))
     (ae (ig rfl (Rg.ax 7 kr))
     (Rg.bg (Rg.il (d := 11) rfl kr rfl (Ep (b := w.heap.size) (off := 0) rfl (Rg.cz kr rfl) rfl rfl))
     (Rg.bg (Rg.il (d := 11) rfl kr rfl (fo Bi me0 (Rg.ax 9 kr) [] [iv fe, iv eu] [iv fu, iv fq]))
     (Rg.bg (Rg.il (d := 11) rfl kr rfl (jf Tryz.func48 kr rfl ay.step (Rg.ax 10 kr) (fun W v0 hG h0 => acr g1 h0)))
     (Rg.bg (Rg.il (d := 11) rfl kr rfl (Fu (b := w.heap.size) (off := 0) rfl (Rg.cz kr rfl) rfl rfl))
     (Rg.bg (Rg.il (d := 11) rfl kr rfl (fo Bi me0 (Rg.ax 12 kr) [iv fe, iv eu] [iv fu, iv fq] []))
     (Rg.bg (Rg.il (d := 11) rfl kr rfl (jf Tryz.func48 kr rfl ay.step (Rg.ax 13 kr) (fun W v0 hG h0 => acr g2 h0)))
     (Rg.bg (Rg.il (d := 11) rfl kr rfl (iw Tryz.func71 kr rfl ay.step (Rg.ax 11 kr) (Rg.ax 14 kr) (fun W v0 v1 hG h0 h1 => Ig (Jr g1) (Jr g2) h0 h1)))
     (Rg.bg (Rg.il (d := 11) rfl kr rfl (Jg rfl (Rg.ax 15 kr) (Rg.mh _) rfl k3))
     (ae (vv rfl (Rg.ax 8 kr) (Rg.ax 16 kr))
     (ae (og rfl (Rg.ax 17 kr))
     Rg.cu))))))))))))))))))) ?_
    intro v1 V1 hG1 hv1 hne1
    simp only [Rg.puts, jr, jq, jo, jm, Act.put, jl, jk, ji]
    have e17 : v1 17 = .bool false := hv1 17 (by decide)
    have e18 : v1 18 = .bool false := hv1 18 (by decide)
    simp only [e17, e18]
    have hO := hG1.1
    clear HO
    have HO := hide hO
    clear hO hG1 hv1 hne1
    try clear e17 e18
    go_wp2_with fail
    exact Co Tryz.results85 rfl (aa HO).bel rfl
  ·
   have k1 : decide (Wd.xz fe eu) = true := decide_eq_true g1
   have k2 : decide (Wd.xz fu fq) = false := decide_eq_false g2
   have hr : rr = false := by rw [aa HR]; exact decide_eq_false (fun h => g2 h.2.1)
   subst hr
   clear HR
   go_upto_region 1 with fail
   refine Rg.region 19 21 (Rg.pick [Rg.bf (.pointer (some ⟨w.heap.size, 0, none⟩)), ai [iv fe, iv eu], Rg.bf (.bool true), Rg.bf (.bool true), Rg.bf (.pointer (some ⟨w.heap.size, 2, none⟩)), ai [iv fu, iv fq], Rg.bf (.bool false), Rg.bf (.bool false), Rg.bf (.bool false), Rg.bf undef, Rg.bf undef, Rg.bf undef, Rg.bf undef, Rg.bf undef, Rg.bf undef, Rg.bf undef, Rg.bf undef, Rg.bf (.bool false), Rg.bf (.bool false)]) (ay w [(w.heap.size, 41, [iv fe, iv eu, iv fu, iv fq])] W0) ik [] kr kr rfl (Rg.gm.pick ⟨Rg.ag _, au _, Rg.ag _, Rg.ag _, Rg.ag _, au _, Rg.ag _, Rg.ag _, Rg.ag _, Rg.ag _, Rg.ag _, Rg.ag _, Rg.ag _, Rg.ag _, Rg.ag _, Rg.ag _, Rg.ag _, Rg.ag _, Rg.ag _, trivial⟩) (ay.start (aa HO))
    (ae (Ep (b := w.heap.size) (off := 0) rfl (Rg.cz kr rfl) rfl rfl)
    (ae (fo Bi me0 (Rg.ax 0 kr) [] [iv fe, iv eu] [iv fu, iv fq])
    (ae (jf Tryz.func60 kr rfl ay.step (Rg.ax 1 kr) (fun W v0 hG h0 => k1 ▸ Zr h0))
    (ae (ig rfl (Rg.ax 2 kr))
    (Rg.bg (Rg.il (d := 6) rfl kr rfl (Fu (b := w.heap.size) (off := 0) rfl (Rg.cz kr rfl) rfl rfl))
    (Rg.bg (Rg.il (d := 6) rfl kr rfl (fo Bi me0 (Rg.ax 4 kr) [iv fe, iv eu] [iv fu, iv fq] []))
    (Rg.bg (Rg.il (d := 6) rfl kr rfl (jf Tryz.func60 kr rfl ay.step (Rg.ax 5 kr) (fun W v0 hG h0 => k2 ▸ Zr h0)))
    (ae (vv rfl (Rg.ax 3 kr) (Rg.ax 6 kr))
    (ae (ig rfl (Rg.ax 7 kr))
    (Rg.bg (Rg.mg (d := 11) rfl kr rfl rfl lh rfl rfl)
    (Rg.bg (Rg.mg (d := 11) rfl kr rfl rfl lh rfl rfl)
    (Rg.bg (Rg.mg (d := 11) rfl kr rfl rfl lh rfl rfl)
    (Rg.bg (Rg.mg (d := 11) rfl kr rfl rfl lh rfl rfl)
    (Rg.bg (Rg.mg (d := 11) rfl kr rfl rfl lh rfl rfl)
    (Rg.bg (Rg.mg (d := 11) rfl kr rfl rfl lh rfl rfl)
    (Rg.bg (Rg.mg (d := 11) rfl kr rfl rfl lh rfl rfl)
    (Rg.bg (Rg.mg (d := 11) rfl kr rfl rfl lh rfl rfl)
    (ae (zf rfl (Rg.ax 8 kr) (Rg.mh _))
    (ae (og rfl (Rg.ax 17 kr))
    Rg.cu))))))))))))))))))) ?_
   intro v1 V1 hG1 hv1 hne1
   simp only [Rg.puts, jr, jq, jo, jm, Act.put, jl, jk, ji]
   have e17 : v1 17 = .bool false := hv1 17 (by decide)
   have e18 : v1 18 = .bool false := hv1 18 (by decide)
   simp only [e17, e18]
   have hO := hG1.1
   clear HO
   have HO := hide hO
   clear hO hG1 hv1 hne1
   try clear e17 e18
   go_wp2_with fail
   exact Co Tryz.results85 rfl (aa HO).bel rfl
 ·
  have k1 : decide (Wd.xz fe eu) = false := decide_eq_false g1
  have hr : rr = false := by rw [aa HR]; exact decide_eq_false (fun h => g1 h.1)
  subst hr
  clear HR
  go_upto_region 1 with fail
  refine Rg.region 19 21 (Rg.pick [Rg.bf (.pointer (some ⟨w.heap.size, 0, none⟩)), ai [iv fe, iv eu], Rg.bf (.bool false), Rg.bf (.bool false), Rg.bf undef, Rg.bf undef, Rg.bf undef, Rg.bf (.bool false), Rg.bf (.bool false), Rg.bf undef, Rg.bf undef, Rg.bf undef, Rg.bf undef, Rg.bf undef, Rg.bf undef, Rg.bf undef, Rg.bf undef, Rg.bf (.bool false), Rg.bf (.bool false)]) (ay w [(w.heap.size, 41, [iv fe, iv eu, iv fu, iv fq])] W0) ik [] kr kr rfl (Rg.gm.pick ⟨Rg.ag _, au _, Rg.ag _, Rg.ag _, Rg.ag _, Rg.ag _, Rg.ag _, Rg.ag _, Rg.ag _, Rg.ag _, Rg.ag _, Rg.ag _, Rg.ag _, Rg.ag _, Rg.ag _, Rg.ag _, Rg.ag _, Rg.ag _, Rg.ag _, trivial⟩) (ay.start (aa HO))
   (ae (Ep (b := w.heap.size) (off := 0) rfl (Rg.cz kr rfl) rfl rfl)
   (ae (fo Bi me0 (Rg.ax 0 kr) [] [iv fe, iv eu] [iv fu, iv fq])
   (ae (jf Tryz.func60 kr rfl ay.step (Rg.ax 1 kr) (fun W v0 hG h0 => k1 ▸ Zr h0))
   (ae (ig rfl (Rg.ax 2 kr))
   (Rg.bg (Rg.mg (d := 6) rfl kr rfl rfl lh rfl rfl)
   (Rg.bg (Rg.mg (d := 6) rfl kr rfl rfl lh rfl rfl)
   (Rg.bg (Rg.mg (d := 6) rfl kr rfl rfl lh rfl rfl)
   (ae (zf rfl (Rg.ax 3 kr) (Rg.mh _))
   (ae (ig rfl (Rg.ax 7 kr))
   (Rg.bg (Rg.mg (d := 11) rfl kr rfl rfl lh rfl rfl)
   (Rg.bg (Rg.mg (d := 11) rfl kr rfl rfl lh rfl rfl)
   (Rg.bg (Rg.mg (d := 11) rfl kr rfl rfl lh rfl rfl)
   (Rg.bg (Rg.mg (d := 11) rfl kr rfl rfl lh rfl rfl)
   (Rg.bg (Rg.mg (d := 11) rfl kr rfl rfl lh rfl rfl)
   (Rg.bg (Rg.mg (d := 11) rfl kr rfl rfl lh rfl rfl)
   (Rg.bg (Rg.mg (d := 11) rfl kr rfl rfl lh rfl rfl)
   (Rg.bg (Rg.mg (d := 11) rfl kr rfl rfl lh rfl rfl)
   (ae (zf rfl (Rg.ax 8 kr) (Rg.mh _))
   (ae (og rfl (Rg.ax 17 kr))
   Rg.cu))))))))))))))))))) ?_
  intro v1 V1 hG1 hv1 hne1
  simp only [Rg.puts, jr, jq, jo, jm, Act.put, jl, jk, ji]
  have e17 : v1 17 = .bool false := hv1 17 (by decide)
  have e18 : v1 18 = .bool false := hv1 18 (by decide)
  simp only [e17, e18]
  have hO := hG1.1
  clear HO
  have HO := hide hO
  clear hO hG1 hv1 hne1
  try clear e17 e18
  go_wp2_with fail
  exact Co Tryz.results85 rfl (aa HO).bel rfl
set_option maxHeartbeats 16000000 in
theorem axd {n d p e : Int} (ok : Wd.xz n d ∧ Wd.xz p e) (w : World) (u0 : Value) (h0 : ai [iv n, iv d, iv p, iv e] w u0) :
  Calls Tryz.prog 86 #[u0] w (jh (ai [.r (Wd.qR n d), .r (Wd.qR p e)]) w) := by
 have Kl := hide ok
 clear ok
 have hu0 := Af h0
 subst hu0
 go_enter Tryz.func86, Tryz.ntmps86
 go_upto_region 1 with fail
 have hO := (Own.push (T := 100) (ls := zY) (cs := [.slice none 0 0, .bool false, .slice none 0 0, .bool false, .slice none 0 0, .bool false, .slice none 0 0, .bool false]) (Own.push (T := 41) (ls := [iv n, iv d, iv p, iv e]) (cs := [.int .i64 n, .int .i64 d, .int .i64 p, .int .i64 e]) (Own.nil w) (ek.v (kg _) (ek.v (kg _) (ek.v (kg _) (ek.v (kg _) rfl)))) (w.heap.size) rfl) (((ek.vs w [.slice none 0 0, .bool false, .slice none 0 0, .bool false, .slice none 0 0, .bool false, .slice none 0 0, .bool false] rfl) : ek w zY [.slice none 0 0, .bool false, .slice none 0 0, .bool false, .slice none 0 0, .bool false, .slice none 0 0, .bool false]).below (by repeat (first | exact Below.refl _ _ | refine ja ?_ _))) (w.heap.size + 1) (by simp only [World.size_alloc]))
 generalize (w.alloc (.cells #[.int .i64 n, .int .i64 d, .int .i64 p, .int .i64 e] 41)).alloc (.cells #[.slice none 0 0, .bool false, .slice none 0 0, .bool false, .slice none 0 0, .bool false, .slice none 0 0, .bool false] 100) = W0 at *
 have HO := hide hO
 clear hO
 go_upto_region 1 with fail
 refine Rg.region 7 10 (Rg.pick [Rg.bf (.pointer (some ⟨w.heap.size, 0, none⟩)), ai [iv n, iv d], ai [.r (Wd.qR n d)], Rg.bf (.pointer (some ⟨w.heap.size, 2, none⟩)), ai [iv p, iv e], ai [.r (Wd.qR p e)], ai [.r (Wd.qR n d), .r (Wd.qR p e)]]) (ay w [(w.heap.size + 1, 100, zY), (w.heap.size, 41, [iv n, iv d, iv p, iv e])] W0) ik [] kr kr rfl (Rg.gm.pick ⟨Rg.ag _, au _, au _, Rg.ag _, au _, au _, au _, trivial⟩) (ay.start (aa HO))
  (ae (Ep (b := w.heap.size) (off := 0) rfl (Rg.cz kr rfl) rfl rfl)
  (ae (fo Bi nu (Rg.ax 0 kr) [] [iv n, iv d] [iv p, iv e])
  (ae (jf Tryz.func48 kr rfl ay.step (Rg.ax 1 kr) (fun W v0 hG h0 => acr (aa Kl).1 h0))
  (ae (Fu (b := w.heap.size) (off := 0) rfl (Rg.cz kr rfl) rfl rfl)
  (ae (fo Bi nu (Rg.ax 3 kr) [iv n, iv d] [iv p, iv e] [])
  (ae (jf Tryz.func48 kr rfl ay.step (Rg.ax 4 kr) (fun W v0 hG h0 => acr (aa Kl).2 h0))
  (ae (yf Pb rfl (Rg.ax 2 kr) (Rg.ax 5 kr) rfl rfl rfl)
  Rg.cu))))))) ?_
 intro v1 V1 hG1 hv1 hne1
 simp only [Rg.puts, jr, jq, jo, jm, Act.put, jl, jk, ji]
 have hO := hG1.1
 refine ky hO 0 [] zY [.r (Wd.qR n d), .r (Wd.qR p e)] [] rfl Cy rfl (show ai [.r (Wd.qR n d), .r (Wd.qR p e)] V1 (v1 6) from hv1 6 (by decide)) rfl rfl rfl ?_
 intro uy iy hk0
 replace hO := iy
 clear iy
 clear HO
 have HO := hide hO
 clear hO hG1 hv1 hne1 hk0
 go_wp2_with fail
 exact zh Tryz.results86 Me rfl (aa HO) me0 rfl rfl
set_option maxHeartbeats 16000000 in
theorem Yf {x y : Rat} (w : World) (u0 : Value) (h0 : ai [.r x, .r y] w u0) : Calls Tryz.prog 92 #[u0] w (jh (Ga (Cx x y)) w) := by
 obtain ⟨t, ht⟩ : ∃ t, t = Cx x y := ⟨_, rfl⟩
 rw [← ht]
 have HR := hide ht
 clear ht
 obtain ⟨ry, c0a, rq, Ct, Kn, Kh, Kc, wh, uh, c0b, ug, Cs, Km, Kg, Kb, xw, rfl, f0a, zq⟩ := Hr h0
 go_enter Tryz.func92, Tryz.ntmps92
 go_upto_region 1 with fail
 have hO := (Own.push (T := 41) (ls := zS) (cs := [.int .i64 0, .int .i64 0, .int .i64 0, .int .i64 0]) (Own.push (T := 100) (ls := [.r x, .r y]) (cs := [.slice ry (List.length rq) c0a, .bool Ct, .slice Kn (List.length Kc) Kh, .bool wh, .slice uh (List.length ug) c0b, .bool Cs, .slice Km (List.length Kb) Kg, .bool xw]) (Own.nil w) (ek.r f0a (ek.r zq rfl)) (w.heap.size) rfl) (((ek.vs w [.int .i64 0, .int .i64 0, .int .i64 0, .int .i64 0] rfl) : ek w zS [.int .i64 0, .int .i64 0, .int .i64 0, .int .i64 0]).below (by repeat (first | exact Below.refl _ _ | refine ja ?_ _))) (w.heap.size + 1) (by simp only [World.size_alloc]))
 generalize (w.alloc (.cells #[.slice ry (List.length rq) c0a, .bool Ct, .slice Kn (List.length Kc) Kh, .bool wh, .slice uh (List.length ug) c0b, .bool Cs, .slice Km (List.length Kb) Kg, .bool xw] 100)).alloc (.cells #[.int .i64 0, .int .i64 0, .int .i64 0, .int .i64 0] 41) = W0 at *
 have HO := hide hO
 clear hO
 by_cases fx : Wd.fits x
 ·
  by_cases fy : Wd.fits y
  ·
   go_upto_region 1 with fail
   refine Rg.fw 7 30 (Rg.pick [Rg.bf (.pointer (some ⟨w.heap.size, 0, none⟩)), ai [.r x], tq [ai [iv x.num, iv (x.den : Int)], Rg.bf (.bool true)], tq [ai [iv x.num, iv (x.den : Int)], Rg.bf (.bool true)], ai [iv x.num, iv (x.den : Int)], Rg.bf (.bool true), tu 23 zR W0.heap.size]) (ay w [(w.heap.size + 1, 41, zS), (w.heap.size, 100, [.r x, .r y])] W0) ik [6] kr rfl (Rg.gm.pick ⟨Rg.ag _, au _, oz ⟨(au _), (Rg.ag _), trivial⟩, oz ⟨(au _), (Rg.ag _), trivial⟩, au _, Rg.ag _, uq _ _ _, trivial⟩) (ay.begin (aa HO))
    (ae (xu (b := w.heap.size) (off := 0) rfl (Rg.cz kr rfl) rfl rfl)
    (ae (fo mq nu (Rg.ax 0 kr) [] [.r x] [.r y])
    (ae (jf Tryz.func102 kr rfl ay.step (Rg.ax 1 kr) (fun W v0 hG h0 => Ua fx h0))
    (ae (ig rfl (Rg.ax 2 kr))
    (ae (oo (ts := [ai [iv x.num, iv (x.den : Int)], Rg.bf (.bool true)]) rfl (Rg.ax 3 kr) (of_decide_eq_true rfl) rfl)
    (ae (oo (ts := [ai [iv x.num, iv (x.den : Int)], Rg.bf (.bool true)]) rfl (Rg.ax 3 kr) (of_decide_eq_true rfl) rfl)
    (ae (xc Mq rfl ay.step ay.size rfl (ym (by intro j hj; simp at hj; (repeat' (first | (rcases hj with rfl | hj))) <;> first | (subst hj; exact ⟨_, _, _, rfl⟩) | exact ⟨_, _, _, rfl⟩)))
    Rg.cu))))))) ?_
   intro v1 V1 hG1 hv1 hne1
   simp only [Rg.puts, jr, jq, jo, jm, Act.put, jl, jk, ji]
   have e5 : v1 5 = .bool true := hv1 5 (by decide)
   obtain ⟨Ci, e6, Bj, Dq⟩ := (show tu 23 zR W0.heap.size V1 (v1 6) from hv1 6 (by decide))
   simp only [e5, e6]
   have hO := hG1.1
   replace hO := Own.add (aa HO) hG1.2 Bj Dq
   clear Bj Dq
   refine ky hO 0 [] zR [iv x.num, iv (x.den : Int)] [] rfl Gt rfl (show ai [iv x.num, iv (x.den : Int)] V1 (v1 4) from hv1 4 (by decide)) rfl rfl rfl ?_
   intro uy iy hk0
   replace hO := iy
   clear iy
   clear HO
   have HO := hide hO
   clear hO hG1 hv1 hne1 hk0
   try clear e5 e6
   go_upto_region 2 with fail
   refine Rg.fw 7 30 (Rg.pick [Rg.bf (.pointer (some ⟨w.heap.size, 4, none⟩)), ai [.r y], tq [ai [iv y.num, iv (y.den : Int)], Rg.bf (.bool true)], tq [ai [iv y.num, iv (y.den : Int)], Rg.bf (.bool true)], ai [iv y.num, iv (y.den : Int)], Rg.bf (.bool true), tu 23 zR uy.heap.size]) (ay w [(Ci, 23, [iv x.num, iv (x.den : Int)]), (w.heap.size + 1, 41, zS), (w.heap.size, 100, [.r x, .r y])] uy) ik [6] kr rfl (Rg.gm.pick ⟨Rg.ag _, au _, oz ⟨(au _), (Rg.ag _), trivial⟩, oz ⟨(au _), (Rg.ag _), trivial⟩, au _, Rg.ag _, uq _ _ _, trivial⟩) (ay.begin (aa HO))
    (ae (vw (b := w.heap.size) (off := 0) rfl (Rg.cz kr rfl) rfl rfl)
    (ae (fo mq qo (Rg.ax 0 kr) [.r x] [.r y] [])
    (ae (jf Tryz.func102 kr rfl ay.step (Rg.ax 1 kr) (fun W v0 hG h0 => Ua fy h0))
    (ae (ig rfl (Rg.ax 2 kr))
    (ae (oo (ts := [ai [iv y.num, iv (y.den : Int)], Rg.bf (.bool true)]) rfl (Rg.ax 3 kr) (of_decide_eq_true rfl) rfl)
    (ae (oo (ts := [ai [iv y.num, iv (y.den : Int)], Rg.bf (.bool true)]) rfl (Rg.ax 3 kr) (of_decide_eq_true rfl) rfl)
    (ae (xc Mq rfl ay.step ay.size rfl (ym (by intro j hj; simp at hj; (repeat' (first | (rcases hj with rfl | hj))) <;> first | (subst hj; exact ⟨_, _, _, rfl⟩) | exact ⟨_, _, _, rfl⟩)))
    Rg.cu))))))) ?_
   intro v2 V2 hG2 hv2 hne2
   simp only [Rg.puts, jr, jq, jo, jm, Act.put, jl, jk, ji]
   have e5 : v2 5 = .bool true := hv2 5 (by decide)
   obtain ⟨Qj, e6, Bj, Dq⟩ := (show tu 23 zR uy.heap.size V2 (v2 6) from hv2 6 (by decide))
   simp only [e5, e6]
   have hO := hG2.1
   replace hO := Own.add (aa HO) hG2.2 Bj Dq
   clear Bj Dq
   refine ky hO 0 [] zR [iv y.num, iv (y.den : Int)] [] rfl Gt rfl (show ai [iv y.num, iv (y.den : Int)] V2 (v2 4) from hv2 4 (by decide)) rfl rfl rfl ?_
   intro Dl iy hk0
   replace hO := iy
   clear iy
   clear HO
   have HO := hide hO
   clear hO hG2 hv2 hne2 hk0
   try clear e5 e6
   go_upto_region 3 with fail
   refine Rg.fw 6 30 (Rg.pick [Rg.bf (.bool true), Rg.bf (.bool false), Rg.bf (.bool false), Rg.bf (.bool true), Rg.bf (.bool false), Rg.bf (.bool false)]) (ay w [(Qj, 23, [iv y.num, iv (y.den : Int)]), (Ci, 23, [iv x.num, iv (x.den : Int)]), (w.heap.size + 1, 41, zS), (w.heap.size, 100, [.r x, .r y])] Dl) ik [] kr rfl (Rg.gm.pick ⟨Rg.ag _, Rg.ag _, Rg.ag _, Rg.ag _, Rg.ag _, Rg.ag _, trivial⟩) (ay.begin (aa HO))
    (ae (ig rfl (Rg.cz kr rfl))
    (ae (Gd rfl (Rg.ax 0 kr) rfl rfl)
    (ae (ig rfl (Rg.ax 1 kr))
    (Rg.bg (Rg.il (d := 22) rfl kr rfl (ig rfl (Rg.cz kr rfl)))
    (Rg.bg (Rg.il (d := 22) rfl kr rfl (Gd rfl (Rg.ax 3 kr) rfl rfl))
    (ae (zf rfl (Rg.ax 2 kr) (Rg.ax 4 kr))
    Rg.cu)))))) ?_
   intro v3 V3 hG3 hv3 qh
   simp only [Rg.puts, jr, jq, jo, jm, Act.put, jl, jk, ji]
   have e5 : v3 5 = .bool false := hv3 5 (by decide)
   simp only [e5]
   have hO := hG3.1
   clear HO
   have HO := hide hO
   clear hO hG3 hv3 qh
   try clear e5
   have hr : t = ⟨x.num, x.den, y.num, y.den, 0⟩ := by rw [aa HR]; exact if_pos ⟨fx, fy⟩
   subst hr
   clear HR fx fy
   go_upto_region 5 with fail
   refine Rg.fw 3 30 (Rg.pick [ai [iv x.num, iv (x.den : Int)], ai [iv y.num, iv (y.den : Int)], ai [iv x.num, iv (x.den : Int), iv y.num, iv (y.den : Int)]]) (ay w [(Qj, 23, [iv y.num, iv (y.den : Int)]), (Ci, 23, [iv x.num, iv (x.den : Int)]), (w.heap.size + 1, 41, zS), (w.heap.size, 100, [.r x, .r y])] V3) ik [] kr rfl (Rg.gm.pick ⟨au _, au _, au _, trivial⟩) (ay.begin (aa HO))
    (ae (fo Bi nu (Rg.cz kr rfl) [] [iv x.num, iv (x.den : Int)] [])
    (ae (fo Bi me0 (Rg.cz kr rfl) [] [iv y.num, iv (y.den : Int)] [])
    (ae (yf Sw rfl (Rg.ax 0 kr) (Rg.ax 1 kr) rfl rfl rfl)
    Rg.cu))) ?_
   intro v4 V4 hG4 hv4 yg
   simp only [Rg.puts, jr, jq, jo, jm, Act.put, jl, jk, ji]
   have hO := hG4.1
   refine ky hO 2 [] zS [iv x.num, iv (x.den : Int), iv y.num, iv (y.den : Int)] [] rfl uj rfl (show ai [iv x.num, iv (x.den : Int), iv y.num, iv (y.den : Int)] V4 (v4 2) from hv4 2 (by decide)) rfl rfl rfl ?_
   intro Vb iy hk0
   replace hO := iy
   clear iy
   clear HO
   have HO := hide hO
   clear hO hG4 hv4 yg hk0
   go_wp2_with fail
   exact yx Tryz.results92 xg rfl rfl (aa HO) qo rfl rfl
  ·
   go_upto_region 1 with fail
   refine Rg.fw 7 30 (Rg.pick [Rg.bf (.pointer (some ⟨w.heap.size, 0, none⟩)), ai [.r x], tq [ai [iv x.num, iv (x.den : Int)], Rg.bf (.bool true)], tq [ai [iv x.num, iv (x.den : Int)], Rg.bf (.bool true)], ai [iv x.num, iv (x.den : Int)], Rg.bf (.bool true), tu 23 zR W0.heap.size]) (ay w [(w.heap.size + 1, 41, zS), (w.heap.size, 100, [.r x, .r y])] W0) ik [6] kr rfl (Rg.gm.pick ⟨Rg.ag _, au _, oz ⟨(au _), (Rg.ag _), trivial⟩, oz ⟨(au _), (Rg.ag _), trivial⟩, au _, Rg.ag _, uq _ _ _, trivial⟩) (ay.begin (aa HO))
    (ae (xu (b := w.heap.size) (off := 0) rfl (Rg.cz kr rfl) rfl rfl)
    (ae (fo mq nu (Rg.ax 0 kr) [] [.r x] [.r y])
    (ae (jf Tryz.func102 kr rfl ay.step (Rg.ax 1 kr) (fun W v0 hG h0 => Ua fx h0))
    (ae (ig rfl (Rg.ax 2 kr))
    (ae (oo (ts := [ai [iv x.num, iv (x.den : Int)], Rg.bf (.bool true)]) rfl (Rg.ax 3 kr) (of_decide_eq_true rfl) rfl)
    (ae (oo (ts := [ai [iv x.num, iv (x.den : Int)], Rg.bf (.bool true)]) rfl (Rg.ax 3 kr) (of_decide_eq_true rfl) rfl)
    (ae (xc Mq rfl ay.step ay.size rfl (ym (by intro j hj; simp at hj; (repeat' (first | (rcases hj with rfl | hj))) <;> first | (subst hj; exact ⟨_, _, _, rfl⟩) | exact ⟨_, _, _, rfl⟩)))
    Rg.cu))))))) ?_
   intro v1 V1 hG1 hv1 hne1
   simp only [Rg.puts, jr, jq, jo, jm, Act.put, jl, jk, ji]
   have e5 : v1 5 = .bool true := hv1 5 (by decide)
   obtain ⟨Ci, e6, Bj, Dq⟩ := (show tu 23 zR W0.heap.size V1 (v1 6) from hv1 6 (by decide))
   simp only [e5, e6]
   have hO := hG1.1
   replace hO := Own.add (aa HO) hG1.2 Bj Dq
   clear Bj Dq
   refine ky hO 0 [] zR [iv x.num, iv (x.den : Int)] [] rfl Gt rfl (show ai [iv x.num, iv (x.den : Int)] V1 (v1 4) from hv1 4 (by decide)) rfl rfl rfl ?_
   intro uy iy hk0
   replace hO := iy
   clear iy
   clear HO
   have HO := hide hO
   clear hO hG1 hv1 hne1 hk0
   try clear e5 e6
   go_upto_region 2 with fail
   refine Rg.fw 7 30 (Rg.pick [Rg.bf (.pointer (some ⟨w.heap.size, 4, none⟩)), ai [.r y], tq [Cw, Rg.bf (.bool false)], tq [Cw, Rg.bf (.bool false)], Cw, Rg.bf (.bool false), tu 23 zR uy.heap.size]) (ay w [(Ci, 23, [iv x.num, iv (x.den : Int)]), (w.heap.size + 1, 41, zS), (w.heap.size, 100, [.r x, .r y])] uy) ik [6] kr rfl (Rg.gm.pick ⟨Rg.ag _, au _, oz ⟨(Dc), (Rg.ag _), trivial⟩, oz ⟨(Dc), (Rg.ag _), trivial⟩, Dc, Rg.ag _, uq _ _ _, trivial⟩) (ay.begin (aa HO))
    (ae (vw (b := w.heap.size) (off := 0) rfl (Rg.cz kr rfl) rfl rfl)
    (ae (fo mq qo (Rg.ax 0 kr) [.r x] [.r y] [])
    (ae (jf Tryz.func102 kr rfl ay.step (Rg.ax 1 kr) (fun W v0 hG h0 => Ub fy h0))
    (ae (ig rfl (Rg.ax 2 kr))
    (ae (oo (ts := [Cw, Rg.bf (.bool false)]) rfl (Rg.ax 3 kr) (of_decide_eq_true rfl) rfl)
    (ae (oo (ts := [Cw, Rg.bf (.bool false)]) rfl (Rg.ax 3 kr) (of_decide_eq_true rfl) rfl)
    (ae (xc Mq rfl ay.step ay.size rfl (ym (by intro j hj; simp at hj; (repeat' (first | (rcases hj with rfl | hj))) <;> first | (subst hj; exact ⟨_, _, _, rfl⟩) | exact ⟨_, _, _, rfl⟩)))
    Rg.cu))))))) ?_
   intro v2 V2 hG2 hv2 hne2
   simp only [Rg.puts, jr, jq, jo, jm, Act.put, jl, jk, ji]
   have e5 : v2 5 = .bool false := hv2 5 (by decide)
   obtain ⟨Qj, e6, Bj, Dq⟩ := (show tu 23 zR uy.heap.size V2 (v2 6) from hv2 6 (by decide))
   simp only [e5, e6]
   have hO := hG2.1
   replace hO := Own.add (aa HO) hG2.2 Bj Dq
   clear Bj Dq
   obtain ⟨Ob, Oc, hy4⟩ := (show Cw V2 (v2 4) from hv2 4 (by decide))
   refine ky hO 0 [] zR [iv Ob, iv Oc] [] rfl Gt rfl (show ai [iv Ob, iv Oc] V2 (v2 4) from hy4) rfl rfl rfl ?_
   intro Dl iy hk0
   replace hO := iy
   clear iy
   clear HO
   have HO := hide hO
   clear hO hG2 hv2 hne2 hk0
   try clear e5 e6
   go_upto_region 3 with fail
   refine Rg.fw 6 30 (Rg.pick [Rg.bf (.bool true), Rg.bf (.bool false), Rg.bf (.bool false), Rg.bf (.bool false), Rg.bf (.bool true), Rg.bf (.bool true)]) (ay w [(Qj, 23, [iv Ob, iv Oc]), (Ci, 23, [iv x.num, iv (x.den : Int)]), (w.heap.size + 1, 41, zS), (w.heap.size, 100, [.r x, .r y])] Dl) ik [] kr rfl (Rg.gm.pick ⟨Rg.ag _, Rg.ag _, Rg.ag _, Rg.ag _, Rg.ag _, Rg.ag _, trivial⟩) (ay.begin (aa HO))
    (ae (ig rfl (Rg.cz kr rfl))
    (ae (Gd rfl (Rg.ax 0 kr) rfl rfl)
    (ae (ig rfl (Rg.ax 1 kr))
    (Rg.bg (Rg.il (d := 22) rfl kr rfl (ig rfl (Rg.cz kr rfl)))
    (Rg.bg (Rg.il (d := 22) rfl kr rfl (Gd rfl (Rg.ax 3 kr) rfl rfl))
    (ae (zf rfl (Rg.ax 2 kr) (Rg.ax 4 kr))
    Rg.cu)))))) ?_
   intro v3 V3 hG3 hv3 qh
   simp only [Rg.puts, jr, jq, jo, jm, Act.put, jl, jk, ji]
   have e5 : v3 5 = .bool true := hv3 5 (by decide)
   simp only [e5]
   have hO := hG3.1
   clear HO
   have HO := hide hO
   clear hO hG3 hv3 qh
   try clear e5
   have hr : t = ⟨0, 0, 0, 0, 3⟩ := by rw [aa HR]; exact if_neg (fun h => fy h.2)
   subst hr
   clear HR fx fy
   go_upto_region 4 with fail
   refine Rg.fw 1 30 (Rg.pick [ai zS]) (ay w [(Qj, 23, [iv Ob, iv Oc]), (Ci, 23, [iv x.num, iv (x.den : Int)]), (w.heap.size + 1, 41, zS), (w.heap.size, 100, [.r x, .r y])] V3) ik [] kr rfl (Rg.gm.pick ⟨au _, trivial⟩) (ay.begin (aa HO))
    (ae (De Dg rfl rfl rfl)
    Rg.cu) ?_
   intro v4 V4 hG4 hv4 yg
   simp only [Rg.puts, jr, jq, jo, jm, Act.put, jl, jk, ji]
   have hO := hG4.1
   refine ky hO 2 [] zS zS [] rfl uj rfl (show ai zS V4 (v4 0) from hv4 0 (by decide)) rfl rfl rfl ?_
   intro Vb iy hk0
   replace hO := iy
   clear iy
   clear HO
   have HO := hide hO
   clear hO hG4 hv4 yg hk0
   go_wp2_with fail
   exact yx Tryz.results92 xg rfl rfl (aa HO) qo rfl rfl
 ·
  by_cases fy : Wd.fits y
  ·
   go_upto_region 1 with fail
   refine Rg.fw 7 30 (Rg.pick [Rg.bf (.pointer (some ⟨w.heap.size, 0, none⟩)), ai [.r x], tq [Cw, Rg.bf (.bool false)], tq [Cw, Rg.bf (.bool false)], Cw, Rg.bf (.bool false), tu 23 zR W0.heap.size]) (ay w [(w.heap.size + 1, 41, zS), (w.heap.size, 100, [.r x, .r y])] W0) ik [6] kr rfl (Rg.gm.pick ⟨Rg.ag _, au _, oz ⟨(Dc), (Rg.ag _), trivial⟩, oz ⟨(Dc), (Rg.ag _), trivial⟩, Dc, Rg.ag _, uq _ _ _, trivial⟩) (ay.begin (aa HO))
    (ae (xu (b := w.heap.size) (off := 0) rfl (Rg.cz kr rfl) rfl rfl)
    (ae (fo mq nu (Rg.ax 0 kr) [] [.r x] [.r y])
    (ae (jf Tryz.func102 kr rfl ay.step (Rg.ax 1 kr) (fun W v0 hG h0 => Ub fx h0))
    (ae (ig rfl (Rg.ax 2 kr))
    (ae (oo (ts := [Cw, Rg.bf (.bool false)]) rfl (Rg.ax 3 kr) (of_decide_eq_true rfl) rfl)
    (ae (oo (ts := [Cw, Rg.bf (.bool false)]) rfl (Rg.ax 3 kr) (of_decide_eq_true rfl) rfl)
    (ae (xc Mq rfl ay.step ay.size rfl (ym (by intro j hj; simp at hj; (repeat' (first | (rcases hj with rfl | hj))) <;> first | (subst hj; exact ⟨_, _, _, rfl⟩) | exact ⟨_, _, _, rfl⟩)))
    Rg.cu))))))) ?_
   intro v1 V1 hG1 hv1 hne1
   simp only [Rg.puts, jr, jq, jo, jm, Act.put, jl, jk, ji]
   have e5 : v1 5 = .bool false := hv1 5 (by decide)
   obtain ⟨Ci, e6, Bj, Dq⟩ := (show tu 23 zR W0.heap.size V1 (v1 6) from hv1 6 (by decide))
   simp only [e5, e6]
   have hO := hG1.1
   replace hO := Own.add (aa HO) hG1.2 Bj Dq
   clear Bj Dq
   obtain ⟨Kr, Kt, hy4⟩ := (show Cw V1 (v1 4) from hv1 4 (by decide))
   refine ky hO 0 [] zR [iv Kr, iv Kt] [] rfl Gt rfl (show ai [iv Kr, iv Kt] V1 (v1 4) from hy4) rfl rfl rfl ?_
   intro uy iy hk0
   replace hO := iy
   clear iy
   clear HO
   have HO := hide hO
   clear hO hG1 hv1 hne1 hk0
   try clear e5 e6
   go_upto_region 2 with fail
   refine Rg.fw 7 30 (Rg.pick [Rg.bf (.pointer (some ⟨w.heap.size, 4, none⟩)), ai [.r y], tq [ai [iv y.num, iv (y.den : Int)], Rg.bf (.bool true)], tq [ai [iv y.num, iv (y.den : Int)], Rg.bf (.bool true)], ai [iv y.num, iv (y.den : Int)], Rg.bf (.bool true), tu 23 zR uy.heap.size]) (ay w [(Ci, 23, [iv Kr, iv Kt]), (w.heap.size + 1, 41, zS), (w.heap.size, 100, [.r x, .r y])] uy) ik [6] kr rfl (Rg.gm.pick ⟨Rg.ag _, au _, oz ⟨(au _), (Rg.ag _), trivial⟩, oz ⟨(au _), (Rg.ag _), trivial⟩, au _, Rg.ag _, uq _ _ _, trivial⟩) (ay.begin (aa HO))
    (ae (vw (b := w.heap.size) (off := 0) rfl (Rg.cz kr rfl) rfl rfl)
    (ae (fo mq qo (Rg.ax 0 kr) [.r x] [.r y] [])
    (ae (jf Tryz.func102 kr rfl ay.step (Rg.ax 1 kr) (fun W v0 hG h0 => Ua fy h0))
    (ae (ig rfl (Rg.ax 2 kr))
    (ae (oo (ts := [ai [iv y.num, iv (y.den : Int)], Rg.bf (.bool true)]) rfl (Rg.ax 3 kr) (of_decide_eq_true rfl) rfl)
    (ae (oo (ts := [ai [iv y.num, iv (y.den : Int)], Rg.bf (.bool true)]) rfl (Rg.ax 3 kr) (of_decide_eq_true rfl) rfl)
    (ae (xc Mq rfl ay.step ay.size rfl (ym (by intro j hj; simp at hj; (repeat' (first | (rcases hj with rfl | hj))) <;> first | (subst hj; exact ⟨_, _, _, rfl⟩) | exact ⟨_, _, _, rfl⟩)))
    Rg.cu))))))) ?_
   intro v2 V2 hG2 hv2 hne2
   simp only [Rg.puts, jr, jq, jo, jm, Act.put, jl, jk, ji]
   have e5 : v2 5 = .bool true := hv2 5 (by decide)
   obtain ⟨Qj, e6, Bj, Dq⟩ := (show tu 23 zR uy.heap.size V2 (v2 6) from hv2 6 (by decide))
   simp only [e5, e6]
   have hO := hG2.1
   replace hO := Own.add (aa HO) hG2.2 Bj Dq
   clear Bj Dq
   refine ky hO 0 [] zR [iv y.num, iv (y.den : Int)] [] rfl Gt rfl (show ai [iv y.num, iv (y.den : Int)] V2 (v2 4) from hv2 4 (by decide)) rfl rfl rfl ?_
   intro Dl iy hk0
   replace hO := iy
   clear iy
   clear HO
   have HO := hide hO
   clear hO hG2 hv2 hne2 hk0
   try clear e5 e6
   go_upto_region 3 with fail
   refine Rg.fw 6 30 (Rg.pick [Rg.bf (.bool false), Rg.bf (.bool true), Rg.bf (.bool true), Rg.bf undef, Rg.bf undef, Rg.bf (.bool true)]) (ay w [(Qj, 23, [iv y.num, iv (y.den : Int)]), (Ci, 23, [iv Kr, iv Kt]), (w.heap.size + 1, 41, zS), (w.heap.size, 100, [.r x, .r y])] Dl) ik [] kr rfl (Rg.gm.pick ⟨Rg.ag _, Rg.ag _, Rg.ag _, Rg.ag _, Rg.ag _, Rg.ag _, trivial⟩) (ay.begin (aa HO))
    (ae (ig rfl (Rg.cz kr rfl))
    (ae (Gd rfl (Rg.ax 0 kr) rfl rfl)
    (ae (ig rfl (Rg.ax 1 kr))
    (Rg.bg (Rg.mg (d := 22) rfl kr rfl rfl lh rfl rfl)
    (Rg.bg (Rg.mg (d := 22) rfl kr rfl rfl lh rfl rfl)
    (ae (vv rfl (Rg.ax 2 kr) (Rg.mh _))
    Rg.cu)))))) ?_
   intro v3 V3 hG3 hv3 qh
   simp only [Rg.puts, jr, jq, jo, jm, Act.put, jl, jk, ji]
   have e5 : v3 5 = .bool true := hv3 5 (by decide)
   simp only [e5]
   have hO := hG3.1
   clear HO
   have HO := hide hO
   clear hO hG3 hv3 qh
   try clear e5
   have hr : t = ⟨0, 0, 0, 0, 3⟩ := by rw [aa HR]; exact if_neg (fun h => fx h.1)
   subst hr
   clear HR fx fy
   go_upto_region 4 with fail
   refine Rg.fw 1 30 (Rg.pick [ai zS]) (ay w [(Qj, 23, [iv y.num, iv (y.den : Int)]), (Ci, 23, [iv Kr, iv Kt]), (w.heap.size + 1, 41, zS), (w.heap.size, 100, [.r x, .r y])] V3) ik [] kr rfl (Rg.gm.pick ⟨au _, trivial⟩) (ay.begin (aa HO))
    (ae (De Dg rfl rfl rfl)
    Rg.cu) ?_
   intro v4 V4 hG4 hv4 yg
   simp only [Rg.puts, jr, jq, jo, jm, Act.put, jl, jk, ji]
   have hO := hG4.1
   refine ky hO 2 [] zS zS [] rfl uj rfl (show ai zS V4 (v4 0) from hv4 0 (by decide)) rfl rfl rfl ?_
   intro Vb iy hk0
   replace hO := iy
   clear iy
   clear HO
   have HO := hide hO
   clear hO hG4 hv4 yg hk0
   go_wp2_with fail
   exact yx Tryz.results92 xg rfl rfl (aa HO) qo rfl rfl
  ·
   go_upto_region 1 with fail
   refine Rg.fw 7 30 (Rg.pick [Rg.bf (.pointer (some ⟨w.heap.size, 0, none⟩)), ai [.r x], tq [Cw, Rg.bf (.bool false)], tq [Cw, Rg.bf (.bool false)], Cw, Rg.bf (.bool false), tu 23 zR W0.heap.size]) (ay w [(w.heap.size + 1, 41, zS), (w.heap.size, 100, [.r x, .r y])] W0) ik [6] kr rfl (Rg.gm.pick ⟨Rg.ag _, au _, oz ⟨(Dc), (Rg.ag _), trivial⟩, oz ⟨(Dc), (Rg.ag _), trivial⟩, Dc, Rg.ag _, uq _ _ _, trivial⟩) (ay.begin (aa HO))
    (ae (xu (b := w.heap.size) (off := 0) rfl (Rg.cz kr rfl) rfl rfl)
    (ae (fo mq nu (Rg.ax 0 kr) [] [.r x] [.r y])
    (ae (jf Tryz.func102 kr rfl ay.step (Rg.ax 1 kr) (fun W v0 hG h0 => Ub fx h0))
    (ae (ig rfl (Rg.ax 2 kr))
    (ae (oo (ts := [Cw, Rg.bf (.bool false)]) rfl (Rg.ax 3 kr) (of_decide_eq_true rfl) rfl)
    (ae (oo (ts := [Cw, Rg.bf (.bool false)]) rfl (Rg.ax 3 kr) (of_decide_eq_true rfl) rfl)
    (ae (xc Mq rfl ay.step ay.size rfl (ym (by intro j hj; simp at hj; (repeat' (first | (rcases hj with rfl | hj))) <;> first | (subst hj; exact ⟨_, _, _, rfl⟩) | exact ⟨_, _, _, rfl⟩)))
    Rg.cu))))))) ?_
   intro v1 V1 hG1 hv1 hne1
   simp only [Rg.puts, jr, jq, jo, jm, Act.put, jl, jk, ji]
   have e5 : v1 5 = .bool false := hv1 5 (by decide)
   obtain ⟨Ci, e6, Bj, Dq⟩ := (show tu 23 zR W0.heap.size V1 (v1 6) from hv1 6 (by decide))
   simp only [e5, e6]
   have hO := hG1.1
   replace hO := Own.add (aa HO) hG1.2 Bj Dq
   clear Bj Dq
   obtain ⟨Kr, Kt, hy4⟩ := (show Cw V1 (v1 4) from hv1 4 (by decide))
   refine ky hO 0 [] zR [iv Kr, iv Kt] [] rfl Gt rfl (show ai [iv Kr, iv Kt] V1 (v1 4) from hy4) rfl rfl rfl ?_
   intro uy iy hk0
   replace hO := iy
   clear iy
   clear HO
   have HO := hide hO
   clear hO hG1 hv1 hne1 hk0
   try clear e5 e6
   go_upto_region 2 with fail
   refine Rg.fw 7 30 (Rg.pick [Rg.bf (.pointer (some ⟨w.heap.size, 4, none⟩)), ai [.r y], tq [Cw, Rg.bf (.bool false)], tq [Cw, Rg.bf (.bool false)], Cw, Rg.bf (.bool false), tu 23 zR uy.heap.size]) (ay w [(Ci, 23, [iv Kr, iv Kt]), (w.heap.size + 1, 41, zS), (w.heap.size, 100, [.r x, .r y])] uy) ik [6] kr rfl (Rg.gm.pick ⟨Rg.ag _, au _, oz ⟨(Dc), (Rg.ag _), trivial⟩, oz ⟨(Dc), (Rg.ag _), trivial⟩, Dc, Rg.ag _, uq _ _ _, trivial⟩) (ay.begin (aa HO))
    (ae (vw (b := w.heap.size) (off := 0) rfl (Rg.cz kr rfl) rfl rfl)
    (ae (fo mq qo (Rg.ax 0 kr) [.r x] [.r y] [])
    (ae (jf Tryz.func102 kr rfl ay.step (Rg.ax 1 kr) (fun W v0 hG h0 => Ub fy h0))
    (ae (ig rfl (Rg.ax 2 kr))
    (ae (oo (ts := [Cw, Rg.bf (.bool false)]) rfl (Rg.ax 3 kr) (of_decide_eq_true rfl) rfl)
    (ae (oo (ts := [Cw, Rg.bf (.bool false)]) rfl (Rg.ax 3 kr) (of_decide_eq_true rfl) rfl)
    (ae (xc Mq rfl ay.step ay.size rfl (ym (by intro j hj; simp at hj; (repeat' (first | (rcases hj with rfl | hj))) <;> first | (subst hj; exact ⟨_, _, _, rfl⟩) | exact ⟨_, _, _, rfl⟩)))
    Rg.cu))))))) ?_
   intro v2 V2 hG2 hv2 hne2
   simp only [Rg.puts, jr, jq, jo, jm, Act.put, jl, jk, ji]
   have e5 : v2 5 = .bool false := hv2 5 (by decide)
   obtain ⟨Qj, e6, Bj, Dq⟩ := (show tu 23 zR uy.heap.size V2 (v2 6) from hv2 6 (by decide))
   simp only [e5, e6]
   have hO := hG2.1
   replace hO := Own.add (aa HO) hG2.2 Bj Dq
   clear Bj Dq
   obtain ⟨Ob, Oc, hy4⟩ := (show Cw V2 (v2 4) from hv2 4 (by decide))
   refine ky hO 0 [] zR [iv Ob, iv Oc] [] rfl Gt rfl (show ai [iv Ob, iv Oc] V2 (v2 4) from hy4) rfl rfl rfl ?_
   intro Dl iy hk0
   replace hO := iy
   clear iy
   clear HO
   have HO := hide hO
   clear hO hG2 hv2 hne2 hk0
   try clear e5 e6
   go_upto_region 3 with fail
   refine Rg.fw 6 30 (Rg.pick [Rg.bf (.bool false), Rg.bf (.bool true), Rg.bf (.bool true), Rg.bf undef, Rg.bf undef, Rg.bf (.bool true)]) (ay w [(Qj, 23, [iv Ob, iv Oc]), (Ci, 23, [iv Kr, iv Kt]), (w.heap.size + 1, 41, zS), (w.heap.size, 100, [.r x, .r y])] Dl) ik [] kr rfl (Rg.gm.pick ⟨Rg.ag _, Rg.ag _, Rg.ag _, Rg.ag _, Rg.ag _, Rg.ag _, trivial⟩) (ay.begin (aa HO))
    (ae (ig rfl (Rg.cz kr rfl))
    (ae (Gd rfl (Rg.ax 0 kr) rfl rfl)
    (ae (ig rfl (Rg.ax 1 kr))
    (Rg.bg (Rg.mg (d := 22) rfl kr rfl rfl lh rfl rfl)
    (Rg.bg (Rg.mg (d := 22) rfl kr rfl rfl lh rfl rfl)
    (ae (vv rfl (Rg.ax 2 kr) (Rg.mh _))
    Rg.cu)))))) ?_
   intro v3 V3 hG3 hv3 qh
   simp only [Rg.puts, jr, jq, jo, jm, Act.put, jl, jk, ji]
   have e5 : v3 5 = .bool true := hv3 5 (by decide)
   simp only [e5]
   have hO := hG3.1
   clear HO
   have HO := hide hO
   clear hO hG3 hv3 qh
   try clear e5
   have hr : t = ⟨0, 0, 0, 0, 3⟩ := by rw [aa HR]; exact if_neg (fun h => fx h.1)
   subst hr
   clear HR fx fy
   go_upto_region 4 with fail
   refine Rg.fw 1 30 (Rg.pick [ai zS]) (ay w [(Qj, 23, [iv Ob, iv Oc]), (Ci, 23, [iv Kr, iv Kt]), (w.heap.size + 1, 41, zS), (w.heap.size, 100, [.r x, .r y])] V3) ik [] kr rfl (Rg.gm.pick ⟨au _, trivial⟩) (ay.begin (aa HO))
    (ae (De Dg rfl rfl rfl)
    Rg.cu) ?_
   intro v4 V4 hG4 hv4 yg
   simp only [Rg.puts, jr, jq, jo, jm, Act.put, jl, jk, ji]
   have hO := hG4.1
   refine ky hO 2 [] zS zS [] rfl uj rfl (show ai zS V4 (v4 0) from hv4 0 (by decide)) rfl rfl rfl ?_
   intro Vb iy hk0
   replace hO := iy
   clear iy
   clear HO
   have HO := hide hO
   clear hO hG4 hv4 yg hk0
   go_wp2_with fail
   exact yx Tryz.results92 xg rfl rfl (aa HO) qo rfl rfl
end Sb

end Go.Proofs.YtjdnmdlnaoedoaaGreatDoor
namespace Go.Proofs.YtjdnmdlnaoedoaaGreatDoor
open Go.RowKit

namespace Sb
theorem Ui {K : Nat} : ∀ {l : List Rat} {x : Rat}, ou K x → (∀ y ∈ l, ou K y) → ou K (ko x l)
 | [], _, h, _ => h
 | y :: l, x, h, hl => by
  refine Ui (l := l) ?_ (fun z hz => hl z (List.mem_cons_of_mem _ hz))
  show ou K (if jw (y.num * x.den - x.num * y.den) < 0 then y else x)
  split
  ·
   exact hl y List.mem_cons_self
  ·
   exact h
theorem Mc {K : Nat} : ∀ {l : List Rat} {x : Rat}, ou K x → (∀ y ∈ l, ou K y) → ou K (jd x l)
 | [], _, h, _ => h
 | y :: l, x, h, hl => by
  refine Mc (l := l) ?_ (fun z hz => hl z (List.mem_cons_of_mem _ hz))
  show ou K (if 0 < jw (y.num * x.den - x.num * y.den) then y else x)
  split
  ·
   exact hl y List.mem_cons_self
  ·
   exact h
theorem Vj {n m : Nat} (h1 : n + 1 < m) (h2 : m ≤ 1000000) : wrap64 ((n : Int) + 1 + 1) = ((n + 1 + 1 : Nat) : Int) := (IntWalk.wrap64_in _ om).trans om
theorem aar {n m : Nat} (h1 : n + 1 < m) (h2 : m ≤ 1000000) : Value.int .i64 (wrap64 ((n : Int) + 1 + 1)) = Value.int .i64 ((n + 1 + 1 : Nat) : Int) := by rw [Vj h1 h2]
theorem abb {n m : Nat} (h1 : n + 1 < m) : m - (intOf (Value.int .i64 ((n + 1 + 1 : Nat) : Int))).toNat < m - (intOf (Value.int .i64 ((n + 1 : Nat) : Int))).toNat := by
 simp only [intOf]; omega
theorem Gu : ∀ (l : List Rat), lsize (l.map .r) = 4 * l.length
 | [] => rfl
 | x :: l => by rw [List.map_cons, lsize, Gu l, List.length_cons]; simp [Leaf.size]; omega
theorem ayh {ρ : Operand → Value} {w : World} {d : Option Tmp} {x : Operand} {A : Option Addr} {m c : Nat} {ty : TypeId} {pos : String} {af : Array Edge} {gd : Option (Nat × Bool)} (h : ρ x = .slice A m c) :
  (execOp ρ { dst := d, op := .call { callee := .builtin .len, args := #[x], argTypes := #[154] }, type := ty, pos := pos, after := af, guard := gd }).run Tryz.prog w = .ok (.value (.int .i64 m)) w := by
 simp only [execOp, resolve, invoke, h, List.map_toArray, List.map_cons, List.map_nil]
 simp [go_sem, h, Builtin.len_]
theorem awh {Q : Exit → Act → World → Prop} {l : List Oper} {n : Nat} {T : Nat → World → Value → Prop} {G : World → Prop} {al : List Nat} {a0 : Act} {k d : Nat} {ty : TypeId} {pos : String} {af : Array Edge} {gd : Option (Nat × Bool)} {x : Operand} {A : Option Addr} {m c : Nat} (hal : al.contains k = false) (hx : Rg.mo l n T a0 k x (Rg.bf (.slice A m c))) (hT : T k = Rg.bf (.int .i64 m)) :
  Rg.Step Tryz.prog Q l n T G ik al a0 k { dst := some d, op := .call { callee := .builtin .len, args := #[x], argTypes := #[154] }, type := ty, pos := pos, after := af, guard := gd } := by
 intro a w hG hO hN
 exact qm (P := Tryz.prog) (ayh (hx a w hO hN)) ⟨_, rfl, hG, Below.refl _ _, by rw [hT]; rfl, fun h => by rw [hal] at h; cases h⟩
set_option maxHeartbeats 16000000 in
theorem avl {x : Rat} {qs : List Rat} {K : Nat} (sx : ou K x) (sq : ∀ y ∈ qs, ou K y) (hm : (x :: qs).length ≤ 1000000) (w : World) (u0 : Value) (h0 : Zh 63 (x :: qs).length ((x :: qs).map .r) w u0) :
  Calls Tryz.prog 108 #[u0] w (jh (ai [.r (ko x qs), .r (jd x qs)]) w) := by
 obtain ⟨b0, rfl, hbx⟩ := h0
 have Qm := hide sx
 have HSQ := hide sq
 have HLEN := hide hm
 have HBX := hide hbx
 clear sx sq hbx hm
 go_enter Tryz.func108, Tryz.ntmps108
 go_upto_region 1 with fail
 have hO := (Own.push (T := 100) (ls := zY) (cs := [.slice none 0 0, .bool false, .slice none 0 0, .bool false, .slice none 0 0, .bool false, .slice none 0 0, .bool false]) (Own.nil w) (ek.vs w [.slice none 0 0, .bool false, .slice none 0 0, .bool false, .slice none 0 0, .bool false, .slice none 0 0, .bool false] rfl) (w.heap.size) rfl)
 generalize w.alloc (.cells #[.slice none 0 0, .bool false, .slice none 0 0, .bool false, .slice none 0 0, .bool false, .slice none 0 0, .bool false] 100) = W0 at *
 have HO := hide hO
 clear hO
 go_upto_region 1 with fail
 go_upto_region 1 with fail
 refine Rg.ajs 9 45 (fun _ => 3) (Rg.pick [Rg.bf (.slice (some ⟨b0, 0, none⟩) (x :: qs).length (x :: qs).length), Rg.bf (.pointer (some ⟨b0, 0, none⟩)), ai [.r x], Rg.bf (.slice (some ⟨b0, 0, none⟩) (x :: qs).length (x :: qs).length), Rg.bf (.pointer (some ⟨b0, 0, none⟩)), ai [.r x], ai [.r x, .r x], Jm 100 8 W0.heap.size, Jo 100 [.r x, .r x] W0.heap.size]) (ay w [(w.heap.size, 100, zY)] W0) (EN W0.heap.size 100 [.r x, .r x]) kr kr kr rfl (Rg.gm.pick ⟨(Lt _), (Lt _), (Dm _), (Lt _), (Lt _), (Dm _), (Dm _), (aaw), (adv), trivial⟩) (ay.start (aa HO))
  (Rg.uk (Rg.Ac rfl rfl (xk (ig rfl (Rg.cz kr rfl))))
   (Rg.uk (Rg.Ac rfl rfl (xk (Hl (b := b0) (i := 0) (m := (x :: qs).length) rfl (Rg.ax 0 kr) (Rg.mh _) (by simp) rfl)))
   (Rg.uk (Rg.Ac rfl rfl (xk (Bd (b := b0) (off := 0) (TB := 63) (pre := []) (mid := [.r x]) (post := qs.map .r) mq rfl (Rg.ax 1 kr) (fun W h => (aa HBX).below h.1.bel) rfl rfl rfl)))
   (Rg.uk (Rg.Ac rfl rfl (xk (ig rfl (Rg.cz kr rfl))))
   (Rg.uk (Rg.Ac rfl rfl (xk (Hl (b := b0) (i := 0) (m := (x :: qs).length) rfl (Rg.ax 3 kr) (Rg.mh _) (by simp) rfl)))
   (Rg.uk (Rg.Ac rfl rfl (xk (Bd (b := b0) (off := 0) (TB := 63) (pre := []) (mid := [.r x]) (post := qs.map .r) mq rfl (Rg.ax 4 kr) (fun W h => (aa HBX).below h.1.bel) rfl rfl rfl)))
   (Rg.uk (Rg.Ac rfl rfl (xk (yf Pb rfl (Rg.ax 2 kr) (Rg.ax 5 kr) rfl rfl rfl)))
   (Rg.uk (Rg.Ac rfl rfl (xk (afz afd rfl rfl ay.step ay.size rfl)))
   (Rg.uk (afy (aa HO) Cy (Rg.ax 7 kr) (Rg.ax 6 kr) rfl rfl rfl)
   Rg.aav))))))))) ?_
 intro v1 V1 hG1 hv1 hne1
 simp only [Rg.puts, jr, jq, jo, jm, Act.put, jl, jk, ji]
 have e0 : v1 0 = .slice (some ⟨b0, 0, none⟩) (x :: qs).length (x :: qs).length := hv1 0 (by decide)
 have e1 : v1 1 = .pointer (some ⟨b0, 0, none⟩) := hv1 1 (by decide)
 have e3 : v1 3 = .slice (some ⟨b0, 0, none⟩) (x :: qs).length (x :: qs).length := hv1 3 (by decide)
 have e4 : v1 4 = .pointer (some ⟨b0, 0, none⟩) := hv1 4 (by decide)
 have e97 : v1 8 = v1 7 := hne1 8 7 (by decide) (by decide) rfl rfl
 obtain ⟨zt, e7, ahk, hz7⟩ := (show Jo 100 [.r x, .r x] W0.heap.size V1 (v1 8) from hv1 8 (by decide))
 rw [e97] at e7
 clear e97
 simp only [e0, e1, e3, e4, e7]
 have hO := Own.add (aa HO) hG1.2 ahk hz7
 clear ahk hz7
 clear HO
 have HO := hide hO
 clear hO hG1 hv1 hne1
 try clear e0 e1 e3 e4 e7
 go_upto_region 2 with fail
 refine Rg.fw 1 45 (Rg.pick [Rg.bf (.int .i64 1)]) (ay w [(zt, 100, [.r x, .r x]), (w.heap.size, 100, zY)] V1) ik [] kr rfl (Rg.gm.pick ⟨Rg.ag _, trivial⟩) (ay.begin (aa HO))
  (ae (og rfl (Rg.mh _))
  Rg.cu) ?_
 intro v2 V2 hG2 hv2 hne2
 simp only [Rg.puts, jr, jq, jo, jm, Act.put, jl, jk, ji]
 have e0 : v2 0 = .int .i64 1 := hv2 0 (by decide)
 simp only [e0]
 have hO := hG2.1
 clear HO
 have HO := hide hO
 clear hO hG2 hv2 hne2
 try clear e0
 go_wp2_with fail
 go_loopw [4] (fun iv wr => ∃ q1 q2 : List Rat, qs = q1 ++ q2 ∧ iv = .int .i64 (((x :: q1).length : Nat) : Int) ∧ Hid (Own w [(zt, 100, [.r (ko x q1), .r (jd x q1)]), (w.heap.size, 100, zY)] wr)) (fun iv _ => (x :: qs).length - (intOf iv).toNat)
 case atStart => exact ⟨[], qs, rfl, rfl, HO⟩
 case round =>
  obtain ⟨q1, q2, Ec, rfl, HO⟩ := hrel
  rcases q2 with _ | ⟨y, q2⟩
  ·
   have k1 : decide (((x :: q1).length : Int) < ((x :: qs).length : Int)) = false := decide_eq_false (by rw [Ec]; simp)
   rw [List.append_nil] at Ec
   obtain rfl : q1 = qs := Ec.symm
   go_upto_region 3 with fail
   refine Rg.fw 4 45 (Rg.pick [Rg.bf (.int .i64 ((x :: q1).length : Int)), Rg.bf (.slice (some ⟨b0, 0, none⟩) (x :: q1).length (x :: q1).length), Rg.bf (.int .i64 (((x :: q1).length : Nat) : Int)), Rg.bf (.bool false)]) (ay w [(zt, 100, [.r (ko x q1), .r (jd x q1)]), (w.heap.size, 100, zY)] wr) ik [] kr rfl (Rg.gm.pick ⟨Rg.ag _, Rg.ag _, Rg.ag _, Rg.ag _, trivial⟩) (ay.begin (aa HO))
    (ae (ig rfl (Rg.cz kr rfl))
    (ae (ig rfl (Rg.cz kr rfl))
    (ae (awh rfl (Rg.ax 1 kr) rfl)
    (ae (Ie rfl (Rg.ax 0 kr) (Rg.ax 2 kr) rfl k1)
    Rg.cu)))) ?_
   intro v3 V3 hG3 hv3 qh
   simp only [Rg.puts, jr, jq, jo, jm, Act.put, jl, jk, ji]
   have e3 : v3 3 = .bool false := hv3 3 (by decide)
   simp only [e3]
   have hO := hG3.1
   clear HO
   have HO := hide hO
   clear hO hG3 hv3 qh
   try clear e3
   go_upto_region 9 with fail
   refine Rg.fw 1 45 (Rg.pick [ai [.r (ko x q1), .r (jd x q1)]]) (ay w [(zt, 100, [.r (ko x q1), .r (jd x q1)]), (w.heap.size, 100, zY)] V3) ik [] kr rfl (Rg.gm.pick ⟨au _, trivial⟩) (ay.begin (aa HO))
    (ae (fo Dh me0 (Rg.cz kr rfl) [] [.r (ko x q1), .r (jd x q1)] [])
    Rg.cu) ?_
   intro v4 V4 hG4 hv4 yg
   simp only [Rg.puts, jr, jq, jo, jm, Act.put, jl, jk, ji]
   have hO := hG4.1
   refine ky hO 1 [] zY [.r (ko x q1), .r (jd x q1)] [] rfl Cy rfl (show ai [.r (ko x q1), .r (jd x q1)] V4 (v4 0) from hv4 0 (by decide)) rfl rfl rfl ?_
   intro Vb iy hk0
   replace hO := iy
   clear iy
   clear HO
   have HO := hide hO
   clear hO hG4 hv4 yg hk0
   go_wp2_with fail
   exact zh Tryz.results108 Me rfl (aa HO) nu rfl rfl
  ·
   have k1 : decide (((x :: q1).length : Int) < ((x :: qs).length : Int)) = true := decide_eq_true (by rw [Ec]; simp; omega)
   have yc := hide (show (x :: q1).length < (x :: qs).length by rw [Ec]; simp)
   have Je := hide Ec
   have HY := hide ((aa HSQ) y (by rw [Ec]; simp))
   have Ml := hide (fun z (hz : z ∈ q1) => (aa HSQ) z (by rw [Ec]; exact List.mem_append_left _ hz))
   have hB := (aa HBX)
   rw [Ec, List.map_cons, List.map_append, List.map_cons] at hB
   have HB := hide (show Cg w b0 63 ((x :: q1).map .r ++ ([.r y] ++ q2.map .r)) from hB)
   clear hB Ec
   go_upto_region 3 with fail
   refine Rg.fw 4 45 (Rg.pick [Rg.bf (.int .i64 ((x :: q1).length : Int)), Rg.bf (.slice (some ⟨b0, 0, none⟩) (x :: qs).length (x :: qs).length), Rg.bf (.int .i64 (((x :: qs).length : Nat) : Int)), Rg.bf (.bool true)]) (ay w [(zt, 100, [.r (ko x q1), .r (jd x q1)]), (w.heap.size, 100, zY)] wr) ik [] kr rfl (Rg.gm.pick ⟨Rg.ag _, Rg.ag _, Rg.ag _, Rg.ag _, trivial⟩) (ay.begin (aa HO))
    (ae (ig rfl (Rg.cz kr rfl))
    (ae (ig rfl (Rg.cz kr rfl))
    (ae (awh rfl (Rg.ax 1 kr) rfl)
    (ae (Ie rfl (Rg.ax 0 kr) (Rg.ax 2 kr) rfl k1)
    Rg.cu)))) ?_
   intro v3 V3 hG3 hv3 qh
   simp only [Rg.puts, jr, jq, jo, jm, Act.put, jl, jk, ji]
   have e3 : v3 3 = .bool true := hv3 3 (by decide)
   simp only [e3]
   have hO := hG3.1
   clear HO
   have HO := hide hO
   clear hO hG3 hv3 qh
   try clear e3
   clear k1
   by_cases g1 : jw (y.num * (ko x q1).den - (ko x q1).num * y.den) < 0
   ·
    have k2 : decide (jw (y.num * (ko x q1).den - (ko x q1).num * y.den) < 0) = true := decide_eq_true g1
    have hm : ko x (q1 ++ [y]) = y := by rw [Ra, if_pos g1]
    have HM := hide hm
    clear g1 hm
    go_upto_region 5 with fail
    refine Rg.region 8 45 (Rg.pick [Rg.bf (.slice (some ⟨b0, 0, none⟩) (x :: qs).length (x :: qs).length), Rg.bf (.int .i64 ((x :: q1).length : Int)), Rg.bf (.pointer (some ⟨b0, 4 * (x :: q1).length, none⟩)), ai [.r y], Rg.bf (.pointer (some ⟨zt, 0, none⟩)), ai [.r (ko x q1)], Rg.bf (.int .i64 (jw (y.num * (ko x q1).den - (ko x q1).num * y.den))), Rg.bf (.bool true)]) (ay w [(zt, 100, [.r (ko x q1), .r (jd x q1)]), (w.heap.size, 100, zY)] V3) ik [] kr kr rfl (Rg.gm.pick ⟨Rg.ag _, Rg.ag _, Rg.ag _, au _, Rg.ag _, au _, Rg.ag _, Rg.ag _, trivial⟩) (ay.start (aa HO))
     (ae (ig rfl (Rg.cz kr rfl))
     (ae (ig rfl (Rg.cz kr rfl))
     (ae (Hl (b := b0) (i := (x :: q1).length) (m := (x :: qs).length) rfl (Rg.ax 0 kr) (Rg.ax 1 kr) (aa yc) rfl)
     (ae (Bd (b := b0) (off := 4 * (x :: q1).length) (TB := 63) (pre := (x :: q1).map .r) (mid := [.r y]) (post := q2.map .r) mq rfl (Rg.ax 2 kr) (fun W h => (aa HB).below h.1.bel) (Gu _) rfl rfl)
     (ae (xu (b := zt) (off := 0) rfl (Rg.cz kr rfl) rfl rfl)
     (ae (fo mq me0 (Rg.ax 4 kr) [] [.r (ko x q1)] [.r (jd x q1)])
     (ae (iw Tryz.func71 kr rfl ay.step (Rg.ax 3 kr) (Rg.ax 5 kr) (fun W v0 v1 hG h0 h1 => Ig (aa HY) (Ui (aa Qm) (aa Ml)) h0 h1))
     (ae (Ie rfl (Rg.ax 6 kr) (Rg.mh _) rfl k2)
     Rg.cu)))))))) ?_
    intro v4 V4 hG4 hv4 yg
    simp only [Rg.puts, jr, jq, jo, jm, Act.put, jl, jk, ji]
    have e7 : v4 7 = .bool true := hv4 7 (by decide)
    simp only [e7]
    have hO := hG4.1
    clear HO
    have HO := hide hO
    clear hO hG4 hv4 yg
    try clear e7
    clear k2
    go_upto_region 6 with fail
    refine Rg.fw 5 45 (Rg.pick [Rg.bf (.slice (some ⟨b0, 0, none⟩) (x :: qs).length (x :: qs).length), Rg.bf (.int .i64 ((x :: q1).length : Int)), Rg.bf (.pointer (some ⟨b0, 4 * (x :: q1).length, none⟩)), ai [.r y], Rg.bf (.pointer (some ⟨zt, 0, none⟩))]) (ay w [(zt, 100, [.r (ko x q1), .r (jd x q1)]), (w.heap.size, 100, zY)] V4) ik [] kr rfl (Rg.gm.pick ⟨Rg.ag _, Rg.ag _, Rg.ag _, au _, Rg.ag _, trivial⟩) (ay.begin (aa HO))
     (ae (ig rfl (Rg.cz kr rfl))
     (ae (ig rfl (Rg.cz kr rfl))
     (ae (Hl (b := b0) (i := (x :: q1).length) (m := (x :: qs).length) rfl (Rg.ax 0 kr) (Rg.ax 1 kr) (aa yc) rfl)
     (ae (Bd (b := b0) (off := 4 * (x :: q1).length) (TB := 63) (pre := (x :: q1).map .r) (mid := [.r y]) (post := q2.map .r) mq rfl (Rg.ax 2 kr) (fun W h => (aa HB).below h.1.bel) (Gu _) rfl rfl)
     (ae (xu (b := zt) (off := 0) rfl (Rg.cz kr rfl) rfl rfl)
     Rg.cu))))) ?_
    intro v5 V5 Ap hv5 hne5
    simp only [Rg.puts, jr, jq, jo, jm, Act.put, jl, jk, ji]
    have e4 : v5 4 = .pointer (some ⟨zt, 0, none⟩) := hv5 4 (by decide)
    simp only [e4]
    have hO := Ap.1
    refine ky hO 0 [] [.r (ko x q1)] [.r y] [.r (jd x q1)] rfl Dw rfl (show ai [.r y] V5 (v5 3) from hv5 3 (by decide)) rfl rfl rfl ?_
    intro Ro iy hk0
    replace hO := iy
    clear iy
    clear HO
    have HO := hide hO
    clear hO Ap hv5 hne5 hk0
    try clear e4
    by_cases g3 : 0 < jw (y.num * (jd x q1).den - (jd x q1).num * y.den)
    ·
     have k3 : decide (0 < jw (y.num * (jd x q1).den - (jd x q1).num * y.den)) = true := decide_eq_true g3
     have hx : jd x (q1 ++ [y]) = y := by rw [Fx, if_pos g3]
     have HX := hide hx
     clear g3 hx
     go_upto_region 7 with fail
     refine Rg.region 8 45 (Rg.pick [Rg.bf (.slice (some ⟨b0, 0, none⟩) (x :: qs).length (x :: qs).length), Rg.bf (.int .i64 ((x :: q1).length : Int)), Rg.bf (.pointer (some ⟨b0, 4 * (x :: q1).length, none⟩)), ai [.r y], Rg.bf (.pointer (some ⟨zt, 4, none⟩)), ai [.r (jd x q1)], Rg.bf (.int .i64 (jw (y.num * (jd x q1).den - (jd x q1).num * y.den))), Rg.bf (.bool true)]) (ay w [(zt, 100, [.r y, .r (jd x q1)]), (w.heap.size, 100, zY)] Ro) ik [] kr kr rfl (Rg.gm.pick ⟨Rg.ag _, Rg.ag _, Rg.ag _, au _, Rg.ag _, au _, Rg.ag _, Rg.ag _, trivial⟩) (ay.start (aa HO))
      (ae (ig rfl (Rg.cz kr rfl))
      (ae (ig rfl (Rg.cz kr rfl))
      (ae (Hl (b := b0) (i := (x :: q1).length) (m := (x :: qs).length) rfl (Rg.ax 0 kr) (Rg.ax 1 kr) (aa yc) rfl)
      (ae (Bd (b := b0) (off := 4 * (x :: q1).length) (TB := 63) (pre := (x :: q1).map .r) (mid := [.r y]) (post := q2.map .r) mq rfl (Rg.ax 2 kr) (fun W h => (aa HB).below h.1.bel) (Gu _) rfl rfl)
      (ae (vw (b := zt) (off := 0) rfl (Rg.cz kr rfl) rfl rfl)
      (ae (fo mq me0 (Rg.ax 4 kr) [.r y] [.r (jd x q1)] [])
      (ae (iw Tryz.func71 kr rfl ay.step (Rg.ax 3 kr) (Rg.ax 5 kr) (fun W v0 v1 hG h0 h1 => Ig (aa HY) (Mc (aa Qm) (aa Ml)) h0 h1))
      (ae (Gx rfl (Rg.ax 6 kr) (Rg.mh _) rfl k3)
      Rg.cu)))))))) ?_
     intro v6 V6 Et hv6 Gg
     simp only [Rg.puts, jr, jq, jo, jm, Act.put, jl, jk, ji]
     have e7 : v6 7 = .bool true := hv6 7 (by decide)
     simp only [e7]
     have hO := Et.1
     clear HO
     have HO := hide hO
     clear hO Et hv6 Gg
     try clear e7
     clear k3
     go_upto_region 8 with fail
     refine Rg.fw 5 45 (Rg.pick [Rg.bf (.slice (some ⟨b0, 0, none⟩) (x :: qs).length (x :: qs).length), Rg.bf (.int .i64 ((x :: q1).length : Int)), Rg.bf (.pointer (some ⟨b0, 4 * (x :: q1).length, none⟩)), ai [.r y], Rg.bf (.pointer (some ⟨zt, 4, none⟩))]) (ay w [(zt, 100, [.r y, .r (jd x q1)]), (w.heap.size, 100, zY)] V6) ik [] kr rfl (Rg.gm.pick ⟨Rg.ag _, Rg.ag _, Rg.ag _, au _, Rg.ag _, trivial⟩) (ay.begin (aa HO))
      (ae (ig rfl (Rg.cz kr rfl))
      (ae (ig rfl (Rg.cz kr rfl))
      (ae (Hl (b := b0) (i := (x :: q1).length) (m := (x :: qs).length) rfl (Rg.ax 0 kr) (Rg.ax 1 kr) (aa yc) rfl)
      (ae (Bd (b := b0) (off := 4 * (x :: q1).length) (TB := 63) (pre := (x :: q1).map .r) (mid := [.r y]) (post := q2.map .r) mq rfl (Rg.ax 2 kr) (fun W h => (aa HB).below h.1.bel) (Gu _) rfl rfl)
      (ae (vw (b := zt) (off := 0) rfl (Rg.cz kr rfl) rfl rfl)
      Rg.cu))))) ?_
     intro v7 V7 Nk hv7 Qa
     simp only [Rg.puts, jr, jq, jo, jm, Act.put, jl, jk, ji]
     have e4 : v7 4 = .pointer (some ⟨zt, 4, none⟩) := hv7 4 (by decide)
     simp only [e4]
     have hO := Nk.1
     refine ky hO 0 [.r y] [.r (jd x q1)] [.r y] [] rfl Dw rfl (show ai [.r y] V7 (v7 3) from hv7 3 (by decide)) rfl rfl rfl ?_
     intro anc iy hk0
     replace hO := iy
     clear iy
     clear HO
     have HO := hide hO
     clear hO Nk hv7 Qa hk0
     try clear e4
     go_wp2_with fail
     go_roundw
     case rel =>
      have h1 : q1.length + 1 < (x :: qs).length := aa yc
      have h2 := aa HLEN
      refine ⟨q1 ++ [y], q2, by rw [aa Je]; simp, by rw [show (x :: (q1 ++ [y])).length = q1.length + 1 + 1 by simp]; exact aar h1 h2, hide ?_⟩
      rw [aa HM, aa HX]
      exact aa HO
     case measure =>
      have h1 : q1.length + 1 < (x :: qs).length := aa yc
      have h2 := aa HLEN
      clear HO Je HB
      rw [Vj h1 h2]
      exact abb h1
    ·
     have k3 : decide (0 < jw (y.num * (jd x q1).den - (jd x q1).num * y.den)) = false := decide_eq_false g3
     have hx : jd x (q1 ++ [y]) = jd x q1 := by rw [Fx, if_neg g3]
     have HX := hide hx
     clear g3 hx
     go_upto_region 7 with fail
     refine Rg.region 8 45 (Rg.pick [Rg.bf (.slice (some ⟨b0, 0, none⟩) (x :: qs).length (x :: qs).length), Rg.bf (.int .i64 ((x :: q1).length : Int)), Rg.bf (.pointer (some ⟨b0, 4 * (x :: q1).length, none⟩)), ai [.r y], Rg.bf (.pointer (some ⟨zt, 4, none⟩)), ai [.r (jd x q1)], Rg.bf (.int .i64 (jw (y.num * (jd x q1).den - (jd x q1).num * y.den))), Rg.bf (.bool false)]) (ay w [(zt, 100, [.r y, .r (jd x q1)]), (w.heap.size, 100, zY)] Ro) ik [] kr kr rfl (Rg.gm.pick ⟨Rg.ag _, Rg.ag _, Rg.ag _, au _, Rg.ag _, au _, Rg.ag _, Rg.ag _, trivial⟩) (ay.start (aa HO))
      (ae (ig rfl (Rg.cz kr rfl))
      (ae (ig rfl (Rg.cz kr rfl))
      (ae (Hl (b := b0) (i := (x :: q1).length) (m := (x :: qs).length) rfl (Rg.ax 0 kr) (Rg.ax 1 kr) (aa yc) rfl)
      (ae (Bd (b := b0) (off := 4 * (x :: q1).length) (TB := 63) (pre := (x :: q1).map .r) (mid := [.r y]) (post := q2.map .r) mq rfl (Rg.ax 2 kr) (fun W h => (aa HB).below h.1.bel) (Gu _) rfl rfl)
      (ae (vw (b := zt) (off := 0) rfl (Rg.cz kr rfl) rfl rfl)
      (ae (fo mq me0 (Rg.ax 4 kr) [.r y] [.r (jd x q1)] [])
      (ae (iw Tryz.func71 kr rfl ay.step (Rg.ax 3 kr) (Rg.ax 5 kr) (fun W v0 v1 hG h0 h1 => Ig (aa HY) (Mc (aa Qm) (aa Ml)) h0 h1))
      (ae (Gx rfl (Rg.ax 6 kr) (Rg.mh _) rfl k3)
      Rg.cu)))))))) ?_
     intro v6 V6 Et hv6 Gg
     simp only [Rg.puts, jr, jq, jo, jm, Act.put, jl, jk, ji]
     have e7 : v6 7 = .bool false := hv6 7 (by decide)
     simp only [e7]
     have hO := Et.1
     clear HO
     have HO := hide hO
     clear hO Et hv6 Gg
     try clear e7
     clear k3
     go_wp2_with fail
     go_roundw
     case rel =>
      have h1 : q1.length + 1 < (x :: qs).length := aa yc
      have h2 := aa HLEN
      refine ⟨q1 ++ [y], q2, by rw [aa Je]; simp, by rw [show (x :: (q1 ++ [y])).length = q1.length + 1 + 1 by simp]; exact aar h1 h2, hide ?_⟩
      rw [aa HM, aa HX]
      exact aa HO
     case measure =>
      have h1 : q1.length + 1 < (x :: qs).length := aa yc
      have h2 := aa HLEN
      clear HO Je HB
      rw [Vj h1 h2]
      exact abb h1
   ·
    have k2 : decide (jw (y.num * (ko x q1).den - (ko x q1).num * y.den) < 0) = false := decide_eq_false g1
    have hm : ko x (q1 ++ [y]) = ko x q1 := by rw [Ra, if_neg g1]
    have HM := hide hm
    clear g1 hm
    go_upto_region 5 with fail
    refine Rg.region 8 45 (Rg.pick [Rg.bf (.slice (some ⟨b0, 0, none⟩) (x :: qs).length (x :: qs).length), Rg.bf (.int .i64 ((x :: q1).length : Int)), Rg.bf (.pointer (some ⟨b0, 4 * (x :: q1).length, none⟩)), ai [.r y], Rg.bf (.pointer (some ⟨zt, 0, none⟩)), ai [.r (ko x q1)], Rg.bf (.int .i64 (jw (y.num * (ko x q1).den - (ko x q1).num * y.den))), Rg.bf (.bool false)]) (ay w [(zt, 100, [.r (ko x q1), .r (jd x q1)]), (w.heap.size, 100, zY)] V3) ik [] kr kr rfl (Rg.gm.pick ⟨Rg.ag _, Rg.ag _, Rg.ag _, au _, Rg.ag _, au _, Rg.ag _, Rg.ag _, trivial⟩) (ay.start (aa HO))
     (ae (ig rfl (Rg.cz kr rfl))
     (ae (ig rfl (Rg.cz kr rfl))
     (ae (Hl (b := b0) (i := (x :: q1).length) (m := (x :: qs).length) rfl (Rg.ax 0 kr) (Rg.ax 1 kr) (aa yc) rfl)
     (ae (Bd (b := b0) (off := 4 * (x :: q1).length) (TB := 63) (pre := (x :: q1).map .r) (mid := [.r y]) (post := q2.map .r) mq rfl (Rg.ax 2 kr) (fun W h => (aa HB).below h.1.bel) (Gu _) rfl rfl)
     (ae (xu (b := zt) (off := 0) rfl (Rg.cz kr rfl) rfl rfl)
     (ae (fo mq me0 (Rg.ax 4 kr) [] [.r (ko x q1)] [.r (jd x q1)])
     (ae (iw Tryz.func71 kr rfl ay.step (Rg.ax 3 kr) (Rg.ax 5 kr) (fun W v0 v1 hG h0 h1 => Ig (aa HY) (Ui (aa Qm) (aa Ml)) h0 h1))
     (ae (Ie rfl (Rg.ax 6 kr) (Rg.mh _) rfl k2)
     Rg.cu)))))))) ?_
    intro v4 V4 hG4 hv4 yg
    simp only [Rg.puts, jr, jq, jo, jm, Act.put, jl, jk, ji]
    have e7 : v4 7 = .bool false := hv4 7 (by decide)
    simp only [e7]
    have hO := hG4.1
    clear HO
    have HO := hide hO
    clear hO hG4 hv4 yg
    try clear e7
    clear k2
    by_cases g3 : 0 < jw (y.num * (jd x q1).den - (jd x q1).num * y.den)
    ·
     have k3 : decide (0 < jw (y.num * (jd x q1).den - (jd x q1).num * y.den)) = true := decide_eq_true g3
     have hx : jd x (q1 ++ [y]) = y := by rw [Fx, if_pos g3]
     have HX := hide hx
     clear g3 hx
     go_upto_region 7 with fail
     refine Rg.region 8 45 (Rg.pick [Rg.bf (.slice (some ⟨b0, 0, none⟩) (x :: qs).length (x :: qs).length), Rg.bf (.int .i64 ((x :: q1).length : Int)), Rg.bf (.pointer (some ⟨b0, 4 * (x :: q1).length, none⟩)), ai [.r y], Rg.bf (.pointer (some ⟨zt, 4, none⟩)), ai [.r (jd x q1)], Rg.bf (.int .i64 (jw (y.num * (jd x q1).den - (jd x q1).num * y.den))), Rg.bf (.bool true)]) (ay w [(zt, 100, [.r (ko x q1), .r (jd x q1)]), (w.heap.size, 100, zY)] V4) ik [] kr kr rfl (Rg.gm.pick ⟨Rg.ag _, Rg.ag _, Rg.ag _, au _, Rg.ag _, au _, Rg.ag _, Rg.ag _, trivial⟩) (ay.start (aa HO))
      (ae (ig rfl (Rg.cz kr rfl))
      (ae (ig rfl (Rg.cz kr rfl))
      (ae (Hl (b := b0) (i := (x :: q1).length) (m := (x :: qs).length) rfl (Rg.ax 0 kr) (Rg.ax 1 kr) (aa yc) rfl)
      (ae (Bd (b := b0) (off := 4 * (x :: q1).length) (TB := 63) (pre := (x :: q1).map .r) (mid := [.r y]) (post := q2.map .r) mq rfl (Rg.ax 2 kr) (fun W h => (aa HB).below h.1.bel) (Gu _) rfl rfl)
      (ae (vw (b := zt) (off := 0) rfl (Rg.cz kr rfl) rfl rfl)
      (ae (fo mq me0 (Rg.ax 4 kr) [.r (ko x q1)] [.r (jd x q1)] [])
      (ae (iw Tryz.func71 kr rfl ay.step (Rg.ax 3 kr) (Rg.ax 5 kr) (fun W v0 v1 hG h0 h1 => Ig (aa HY) (Mc (aa Qm) (aa Ml)) h0 h1))
      (ae (Gx rfl (Rg.ax 6 kr) (Rg.mh _) rfl k3)
      Rg.cu)))))))) ?_
     intro v5 V5 Ap hv5 hne5
     simp only [Rg.puts, jr, jq, jo, jm, Act.put, jl, jk, ji]
     have e7 : v5 7 = .bool true := hv5 7 (by decide)
     simp only [e7]
     have hO := Ap.1
     clear HO
     have HO := hide hO
     clear hO Ap hv5 hne5
     try clear e7
     clear k3
     go_upto_region 8 with fail
     refine Rg.fw 5 45 (Rg.pick [Rg.bf (.slice (some ⟨b0, 0, none⟩) (x :: qs).length (x :: qs).length), Rg.bf (.int .i64 ((x :: q1).length : Int)), Rg.bf (.pointer (some ⟨b0, 4 * (x :: q1).length, none⟩)), ai [.r y], Rg.bf (.pointer (some ⟨zt, 4, none⟩))]) (ay w [(zt, 100, [.r (ko x q1), .r (jd x q1)]), (w.heap.size, 100, zY)] V5) ik [] kr rfl (Rg.gm.pick ⟨Rg.ag _, Rg.ag _, Rg.ag _, au _, Rg.ag _, trivial⟩) (ay.begin (aa HO))
      (ae (ig rfl (Rg.cz kr rfl))
      (ae (ig rfl (Rg.cz kr rfl))
      (ae (Hl (b := b0) (i := (x :: q1).length) (m := (x :: qs).length) rfl (Rg.ax 0 kr) (Rg.ax 1 kr) (aa yc) rfl)
      (ae (Bd (b := b0) (off := 4 * (x :: q1).length) (TB := 63) (pre := (x :: q1).map .r) (mid := [.r y]) (post := q2.map .r) mq rfl (Rg.ax 2 kr) (fun W h => (aa HB).below h.1.bel) (Gu _) rfl rfl)
      (ae (vw (b := zt) (off := 0) rfl (Rg.cz kr rfl) rfl rfl)
      Rg.cu))))) ?_
     intro v6 V6 Et hv6 Gg
     simp only [Rg.puts, jr, jq, jo, jm, Act.put, jl, jk, ji]
     have e4 : v6 4 = .pointer (some ⟨zt, 4, none⟩) := hv6 4 (by decide)
     simp only [e4]
     have hO := Et.1
     refine ky hO 0 [.r (ko x q1)] [.r (jd x q1)] [.r y] [] rfl Dw rfl (show ai [.r y] V6 (v6 3) from hv6 3 (by decide)) rfl rfl rfl ?_
     intro avt iy hk0
     replace hO := iy
     clear iy
     clear HO
     have HO := hide hO
     clear hO Et hv6 Gg hk0
     try clear e4
     go_wp2_with fail
     go_roundw
     case rel =>
      have h1 : q1.length + 1 < (x :: qs).length := aa yc
      have h2 := aa HLEN
      refine ⟨q1 ++ [y], q2, by rw [aa Je]; simp, by rw [show (x :: (q1 ++ [y])).length = q1.length + 1 + 1 by simp]; exact aar h1 h2, hide ?_⟩
      rw [aa HM, aa HX]
      exact aa HO
     case measure =>
      have h1 : q1.length + 1 < (x :: qs).length := aa yc
      have h2 := aa HLEN
      clear HO Je HB
      rw [Vj h1 h2]
      exact abb h1
    ·
     have k3 : decide (0 < jw (y.num * (jd x q1).den - (jd x q1).num * y.den)) = false := decide_eq_false g3
     have hx : jd x (q1 ++ [y]) = jd x q1 := by rw [Fx, if_neg g3]
     have HX := hide hx
     clear g3 hx
     go_upto_region 7 with fail
     refine Rg.region 8 45 (Rg.pick [Rg.bf (.slice (some ⟨b0, 0, none⟩) (x :: qs).length (x :: qs).length), Rg.bf (.int .i64 ((x :: q1).length : Int)), Rg.bf (.pointer (some ⟨b0, 4 * (x :: q1).length, none⟩)), ai [.r y], Rg.bf (.pointer (some ⟨zt, 4, none⟩)), ai [.r (jd x q1)], Rg.bf (.int .i64 (jw (y.num * (jd x q1).den - (jd x q1).num * y.den))), Rg.bf (.bool false)]) (ay w [(zt, 100, [.r (ko x q1), .r (jd x q1)]), (w.heap.size, 100, zY)] V4) ik [] kr kr rfl (Rg.gm.pick ⟨Rg.ag _, Rg.ag _, Rg.ag _, au _, Rg.ag _, au _, Rg.ag _, Rg.ag _, trivial⟩) (ay.start (aa HO))
      (ae (ig rfl (Rg.cz kr rfl))
      (ae (ig rfl (Rg.cz kr rfl))
      (ae (Hl (b := b0) (i := (x :: q1).length) (m := (x :: qs).length) rfl (Rg.ax 0 kr) (Rg.ax 1 kr) (aa yc) rfl)
      (ae (Bd (b := b0) (off := 4 * (x :: q1).length) (TB := 63) (pre := (x :: q1).map .r) (mid := [.r y]) (post := q2.map .r) mq rfl (Rg.ax 2 kr) (fun W h => (aa HB).below h.1.bel) (Gu _) rfl rfl)
      (ae (vw (b := zt) (off := 0) rfl (Rg.cz kr rfl) rfl rfl)
      (ae (fo mq me0 (Rg.ax 4 kr) [.r (ko x q1)] [.r (jd x q1)] [])
      (ae (iw Tryz.func71 kr rfl ay.step (Rg.ax 3 kr) (Rg.ax 5 kr) (fun W v0 v1 hG h0 h1 => Ig (aa HY) (Mc (aa Qm) (aa Ml)) h0 h1))
      (ae (Gx rfl (Rg.ax 6 kr) (Rg.mh _) rfl k3)
      Rg.cu)))))))) ?_
     intro v5 V5 Ap hv5 hne5
     simp only [Rg.puts, jr, jq, jo, jm, Act.put, jl, jk, ji]
     have e7 : v5 7 = .bool false := hv5 7 (by decide)
     simp only [e7]
     have hO := Ap.1
     clear HO
     have HO := hide hO
     clear hO Ap hv5 hne5
     try clear e7
     clear k3
     go_wp2_with fail
     go_roundw
     case rel =>
      have h1 : q1.length + 1 < (x :: qs).length := aa yc
      have h2 := aa HLEN
      refine ⟨q1 ++ [y], q2, by rw [aa Je]; simp, by rw [show (x :: (q1 ++ [y])).length = q1.length + 1 + 1 by simp]; exact aar h1 h2, hide ?_⟩
      rw [aa HM, aa HX]
      exact aa HO
     case measure =>
      have h1 : q1.length + 1 < (x :: qs).length := aa yc
      have h2 := aa HLEN
      clear HO Je HB
      rw [Vj h1 h2]
      exact abb h1
set_option maxHeartbeats 16000000 in
theorem avm {x y v : Rat} {K : Nat} (sx : ou K x) (sy : ou K y) (sv : ou K v) (w : World) (u0 : Value) (h0 : ai [.r x, .r y] w u0) (u1 : Value) (h1 : ai [.r v] w u1) :
  Calls Tryz.prog 90 #[u0, u1] w (jh (Rg.bf (.bool (decide (jw (x.num * v.den - v.num * x.den) ≤ 0 ∧ 0 ≤ jw (y.num * v.den - v.num * y.den))))) w) := by
 obtain ⟨rr, hrr⟩ : ∃ rr, rr = decide (jw (x.num * v.den - v.num * x.den) ≤ 0 ∧ 0 ≤ jw (y.num * v.den - v.num * y.den)) := ⟨_, rfl⟩
 rw [← hrr]
 have HR := hide hrr
 have HS := hide (And.intro sx (And.intro sy sv))
 clear hrr sx sy sv
 obtain ⟨ry, c0a, rq, Ct, Kn, Kh, Kc, wh, uh, c0b, ug, Cs, Km, Kg, Kb, xw, rfl, f0a, zq⟩ := Hr h0
 obtain ⟨qf, c1a, qd, Bg, Li, Ld, La, xh, rfl, f1a⟩ := Yj h1
 go_enter Tryz.func90, Tryz.ntmps90
 go_upto_region 1 with fail
 have hO := (Own.push (T := 63) (ls := [.r v]) (cs := [.slice qf (List.length qd) c1a, .bool Bg, .slice Li (List.length La) Ld, .bool xh]) (Own.push (T := 100) (ls := [.r x, .r y]) (cs := [.slice ry (List.length rq) c0a, .bool Ct, .slice Kn (List.length Kc) Kh, .bool wh, .slice uh (List.length ug) c0b, .bool Cs, .slice Km (List.length Kb) Kg, .bool xw]) (Own.nil w) (ek.r f0a (ek.r zq rfl)) (w.heap.size) rfl) (((ek.r f1a rfl) : ek w [.r v] [.slice qf (List.length qd) c1a, .bool Bg, .slice Li (List.length La) Ld, .bool xh]).below (by repeat (first | exact Below.refl _ _ | refine ja ?_ _))) (w.heap.size + 1) (by simp only [World.size_alloc]))
 generalize (w.alloc (.cells #[.slice ry (List.length rq) c0a, .bool Ct, .slice Kn (List.length Kc) Kh, .bool wh, .slice uh (List.length ug) c0b, .bool Cs, .slice Km (List.length Kb) Kg, .bool xw] 100)).alloc (.cells #[.slice qf (List.length qd) c1a, .bool Bg, .slice Li (List.length La) Ld, .bool xh] 63) = W0 at *
 have HO := hide hO
 clear hO
 by_cases g1 : jw (x.num * v.den - v.num * x.den) ≤ 0
 ·
  by_cases g2 : 0 ≤ jw (y.num * v.den - v.num * y.den)
  ·
   have k1 : decide (jw (x.num * v.den - v.num * x.den) ≤ 0) = true := decide_eq_true g1
   have k2 : decide (0 ≤ jw (y.num * v.den - v.num * y.den)) = true := decide_eq_true g2
   have hr : rr = true := by rw [aa HR]; exact decide_eq_true ⟨g1, g2⟩
   subst hr
   clear HR g1 g2
   go_upto_region 1 with fail
   refine Rg.fw 13 17 (Rg.pick [Rg.bf (.pointer (some ⟨w.heap.size, 0, none⟩)), ai [.r x], ai [.r v], Rg.bf (.int .i64 (jw (x.num * v.den - v.num * x.den))), Rg.bf (.bool true), Rg.bf (.bool true), Rg.bf (.pointer (some ⟨w.heap.size, 4, none⟩)), ai [.r y], ai [.r v], Rg.bf (.int .i64 (jw (y.num * v.den - v.num * y.den))), Rg.bf (.bool true), Rg.bf (.bool true), Rg.bf (.bool true)]) (ay w [(w.heap.size + 1, 63, [.r v]), (w.heap.size, 100, [.r x, .r y])] W0) ik [] kr rfl (Rg.gm.pick ⟨Rg.ag _, au _, au _, Rg.ag _, Rg.ag _, Rg.ag _, Rg.ag _, au _, au _, Rg.ag _, Rg.ag _, Rg.ag _, Rg.ag _, trivial⟩) (ay.begin (aa HO))
    (ae (xu (b := w.heap.size) (off := 0) rfl (Rg.cz kr rfl) rfl rfl)
    (ae (fo mq nu (Rg.ax 0 kr) [] [.r x] [.r y])
    (ae (fo mq me0 (Rg.cz kr rfl) [] [.r v] [])
    (ae (iw Tryz.func71 kr rfl ay.step (Rg.ax 1 kr) (Rg.ax 2 kr) (fun W v0 v1 hG h0 h1 => Ig (aa HS).1 (aa HS).2.2 h0 h1))
    (ae (Jg rfl (Rg.ax 3 kr) (Rg.mh _) rfl k1)
    (ae (ig rfl (Rg.ax 4 kr))
    (Rg.bg (Rg.il (d := 10) rfl kr rfl (vw (b := w.heap.size) (off := 0) rfl (Rg.cz kr rfl) rfl rfl))
    (Rg.bg (Rg.il (d := 10) rfl kr rfl (fo mq nu (Rg.ax 6 kr) [.r x] [.r y] []))
    (Rg.bg (Rg.il (d := 10) rfl kr rfl (fo mq me0 (Rg.cz kr rfl) [] [.r v] []))
    (Rg.bg (Rg.il (d := 10) rfl kr rfl (iw Tryz.func71 kr rfl ay.step (Rg.ax 7 kr) (Rg.ax 8 kr) (fun W v0 v1 hG h0 h1 => Ig (aa HS).2.1 (aa HS).2.2 h0 h1)))
    (Rg.bg (Rg.il (d := 10) rfl kr rfl (awi rfl (Rg.ax 9 kr) (Rg.mh _) rfl k2))
    (ae (vv rfl (Rg.ax 5 kr) (Rg.ax 10 kr))
    (ae (og rfl (Rg.ax 11 kr))
    Rg.cu))))))))))))) ?_
   intro v1 V1 hG1 hv1 hne1
   simp only [Rg.puts, jr, jq, jo, jm, Act.put, jl, jk, ji]
   have e11 : v1 11 = .bool true := hv1 11 (by decide)
   have e12 : v1 12 = .bool true := hv1 12 (by decide)
   simp only [e11, e12]
   have hO := hG1.1
   clear HO
   have HO := hide hO
   clear hO hG1 hv1 hne1
   try clear e11 e12
   go_wp2_with fail
   exact Co Tryz.results90 rfl (aa HO).bel rfl
  ·
   have k1 : decide (jw (x.num * v.den - v.num * x.den) ≤ 0) = true := decide_eq_true g1
   have k2 : decide (0 ≤ jw (y.num * v.den - v.num * y.den)) = false := decide_eq_false g2
   have hr : rr = false := by rw [aa HR]; exact decide_eq_false (fun h => g2 h.2)
   subst hr
   clear HR g1 g2
   go_upto_region 1 with fail
   refine Rg.fw 13 17 (Rg.pick [Rg.bf (.pointer (some ⟨w.heap.size, 0, none⟩)), ai [.r x], ai [.r v], Rg.bf (.int .i64 (jw (x.num * v.den - v.num * x.den))), Rg.bf (.bool true), Rg.bf (.bool true), Rg.bf (.pointer (some ⟨w.heap.size, 4, none⟩)), ai [.r y], ai [.r v], Rg.bf (.int .i64 (jw (y.num * v.den - v.num * y.den))), Rg.bf (.bool false), Rg.bf (.bool false), Rg.bf (.bool false)]) (ay w [(w.heap.size + 1, 63, [.r v]), (w.heap.size, 100, [.r x, .r y])] W0) ik [] kr rfl (Rg.gm.pick ⟨Rg.ag _, au _, au _, Rg.ag _, Rg.ag _, Rg.ag _, Rg.ag _, au _, au _, Rg.ag _, Rg.ag _, Rg.ag _, Rg.ag _, trivial⟩) (ay.begin (aa HO))
    (ae (xu (b := w.heap.size) (off := 0) rfl (Rg.cz kr rfl) rfl rfl)
    (ae (fo mq nu (Rg.ax 0 kr) [] [.r x] [.r y])
    (ae (fo mq me0 (Rg.cz kr rfl) [] [.r v] [])
    (ae (iw Tryz.func71 kr rfl ay.step (Rg.ax 1 kr) (Rg.ax 2 kr) (fun W v0 v1 hG h0 h1 => Ig (aa HS).1 (aa HS).2.2 h0 h1))
    (ae (Jg rfl (Rg.ax 3 kr) (Rg.mh _) rfl k1)
    (ae (ig rfl (Rg.ax 4 kr))
    (Rg.bg (Rg.il (d := 10) rfl kr rfl (vw (b := w.heap.size) (off := 0) rfl (Rg.cz kr rfl) rfl rfl))
    (Rg.bg (Rg.il (d := 10) rfl kr rfl (fo mq nu (Rg.ax 6 kr) [.r x] [.r y] []))
    (Rg.bg (Rg.il (d := 10) rfl kr rfl (fo mq me0 (Rg.cz kr rfl) [] [.r v] []))
    (Rg.bg (Rg.il (d := 10) rfl kr rfl (iw Tryz.func71 kr rfl ay.step (Rg.ax 7 kr) (Rg.ax 8 kr) (fun W v0 v1 hG h0 h1 => Ig (aa HS).2.1 (aa HS).2.2 h0 h1)))
    (Rg.bg (Rg.il (d := 10) rfl kr rfl (awi rfl (Rg.ax 9 kr) (Rg.mh _) rfl k2))
    (ae (vv rfl (Rg.ax 5 kr) (Rg.ax 10 kr))
    (ae (og rfl (Rg.ax 11 kr))
    Rg.cu))))))))))))) ?_
   intro v1 V1 hG1 hv1 hne1
   simp only [Rg.puts, jr, jq, jo, jm, Act.put, jl, jk, ji]
   have e11 : v1 11 = .bool false := hv1 11 (by decide)
   have e12 : v1 12 = .bool false := hv1 12 (by decide)
   simp only [e11, e12]
   have hO := hG1.1
   clear HO
   have HO := hide hO
   clear hO hG1 hv1 hne1
   try clear e11 e12
   go_wp2_with fail
   exact Co Tryz.results90 rfl (aa HO).bel rfl
 ·
  have k1 : decide (jw (x.num * v.den - v.num * x.den) ≤ 0) = false := decide_eq_false g1
  have hr : rr = false := by rw [aa HR]; exact decide_eq_false (fun h => g1 h.1)
  subst hr
  clear HR g1
  go_upto_region 1 with fail
  refine Rg.fw 13 17 (Rg.pick [Rg.bf (.pointer (some ⟨w.heap.size, 0, none⟩)), ai [.r x], ai [.r v], Rg.bf (.int .i64 (jw (x.num * v.den - v.num * x.den))), Rg.bf (.bool false), Rg.bf (.bool false), Rg.bf undef, Rg.bf undef, Rg.bf undef, Rg.bf undef, Rg.bf undef, Rg.bf (.bool false), Rg.bf (.bool false)]) (ay w [(w.heap.size + 1, 63, [.r v]), (w.heap.size, 100, [.r x, .r y])] W0) ik [] kr rfl (Rg.gm.pick ⟨Rg.ag _, au _, au _, Rg.ag _, Rg.ag _, Rg.ag _, Rg.ag _, Rg.ag _, Rg.ag _, Rg.ag _, Rg.ag _, Rg.ag _, Rg.ag _, trivial⟩) (ay.begin (aa HO))
   (ae (xu (b := w.heap.size) (off := 0) rfl (Rg.cz kr rfl) rfl rfl)
   (ae (fo mq nu (Rg.ax 0 kr) [] [.r x] [.r y])
   (ae (fo mq me0 (Rg.cz kr rfl) [] [.r v] [])
   (ae (iw Tryz.func71 kr rfl ay.step (Rg.ax 1 kr) (Rg.ax 2 kr) (fun W v0 v1 hG h0 h1 => Ig (aa HS).1 (aa HS).2.2 h0 h1))
   (ae (Jg rfl (Rg.ax 3 kr) (Rg.mh _) rfl k1)
   (ae (ig rfl (Rg.ax 4 kr))
   (Rg.bg (Rg.mg (d := 10) rfl kr rfl rfl lh rfl rfl)
   (Rg.bg (Rg.mg (d := 10) rfl kr rfl rfl lh rfl rfl)
   (Rg.bg (Rg.mg (d := 10) rfl kr rfl rfl lh rfl rfl)
   (Rg.bg (Rg.mg (d := 10) rfl kr rfl rfl lh rfl rfl)
   (Rg.bg (Rg.mg (d := 10) rfl kr rfl rfl lh rfl rfl)
   (ae (zf rfl (Rg.ax 5 kr) (Rg.mh _))
   (ae (og rfl (Rg.ax 11 kr))
   Rg.cu))))))))))))) ?_
  intro v1 V1 hG1 hv1 hne1
  simp only [Rg.puts, jr, jq, jo, jm, Act.put, jl, jk, ji]
  have e11 : v1 11 = .bool false := hv1 11 (by decide)
  have e12 : v1 12 = .bool false := hv1 12 (by decide)
  simp only [e11, e12]
  have hO := hG1.1
  clear HO
  have HO := hide hO
  clear hO hG1 hv1 hne1
  try clear e11 e12
  go_wp2_with fail
  exact Co Tryz.results90 rfl (aa HO).bel rfl
set_option maxHeartbeats 16000000 in
theorem bdp {x y v : Rat} {K : Nat} (sx : Sm K x) (sy : Sm K y) (sv : Sm K v) (w : World) (u0 : Value) (h0 : ai [.q x, .q y] w u0) (u1 : Value) (h1 : ai [.q v] w u1) :
  Calls Tryz.prog 109 #[u0, u1] w (jh (Rg.bf (.bool (decide (jw (x.num * v.den - v.num * x.den) ≤ 0 ∧ jw (v.num * y.den - y.num * v.den) ≤ 0)))) w) := by
 obtain ⟨rr, hrr⟩ : ∃ rr, rr = decide (jw (x.num * v.den - v.num * x.den) ≤ 0 ∧ jw (v.num * y.den - y.num * v.den) ≤ 0) := ⟨_, rfl⟩
 rw [← hrr]
 have HR := hide hrr
 have HS := hide (And.intro sx (And.intro sy sv))
 clear hrr sx sy sv
 obtain ⟨Ak, wh, ry, c0a, rq, Br, xw, uh, c0b, ug, Ju, Jw, Kq, Kj, Ka, Jt, Jv, Ko, Ki, Jz, rfl, f0a, zq, Su, Sr⟩ := Ht h0
 obtain ⟨zk, xh, qf, c1a, qd, Bh, n1b, qz, qy, qw, rfl, f1a, Di⟩ := Gi h1
 go_enter Tryz.func109, Tryz.ntmps109
 go_upto_region 1 with fail
 have hO := (Own.push (T := 74) (ls := [.q v]) (cs := [.int .i64 zk, .bool xh, .slice qf (List.length qd) c1a, .int .i64 Bh, .bool n1b, .slice qz (List.length qw) qy]) (Own.push (T := 108) (ls := [.q x, .q y]) (cs := [.int .i64 Ak, .bool wh, .slice ry (List.length rq) c0a, .int .i64 Br, .bool xw, .slice uh (List.length ug) c0b, .int .i64 Ju, .bool Jw, .slice Kq (List.length Ka) Kj, .int .i64 Jt, .bool Jv, .slice Ko (List.length Jz) Ki]) (Own.nil w) (ek.q f0a zq (ek.q Su Sr rfl)) (w.heap.size) rfl) (((ek.q f1a Di rfl) : ek w [.q v] [.int .i64 zk, .bool xh, .slice qf (List.length qd) c1a, .int .i64 Bh, .bool n1b, .slice qz (List.length qw) qy]).below (by repeat (first | exact Below.refl _ _ | refine ja ?_ _))) (w.heap.size + 1) (by simp only [World.size_alloc]))
 generalize (w.alloc (.cells #[.int .i64 Ak, .bool wh, .slice ry (List.length rq) c0a, .int .i64 Br, .bool xw, .slice uh (List.length ug) c0b, .int .i64 Ju, .bool Jw, .slice Kq (List.length Ka) Kj, .int .i64 Jt, .bool Jv, .slice Ko (List.length Jz) Ki] 108)).alloc (.cells #[.int .i64 zk, .bool xh, .slice qf (List.length qd) c1a, .int .i64 Bh, .bool n1b, .slice qz (List.length qw) qy] 74) = W0 at *
 have HO := hide hO
 clear hO
 by_cases g1 : jw (x.num * v.den - v.num * x.den) ≤ 0
 ·
  by_cases g2 : jw (v.num * y.den - y.num * v.den) ≤ 0
  ·
   have k1 : decide (jw (x.num * v.den - v.num * x.den) ≤ 0) = true := decide_eq_true g1
   have k2 : decide (jw (v.num * y.den - y.num * v.den) ≤ 0) = true := decide_eq_true g2
   have hr : rr = true := by rw [aa HR]; exact decide_eq_true ⟨g1, g2⟩
   subst hr
   clear HR g1 g2
   go_upto_region 1 with fail
   refine Rg.fw 13 17 (Rg.pick [Rg.bf (.pointer (some ⟨w.heap.size, 0, none⟩)), ai [.q x], ai [.q v], Rg.bf (.int .i64 (jw (x.num * v.den - v.num * x.den))), Rg.bf (.bool true), Rg.bf (.bool true), ai [.q v], Rg.bf (.pointer (some ⟨w.heap.size, 6, none⟩)), ai [.q y], Rg.bf (.int .i64 (jw (v.num * y.den - y.num * v.den))), Rg.bf (.bool true), Rg.bf (.bool true), Rg.bf (.bool true)]) (ay w [(w.heap.size + 1, 74, [.q v]), (w.heap.size, 108, [.q x, .q y])] W0) ik [] kr rfl (Rg.gm.pick ⟨Rg.ag _, au _, au _, Rg.ag _, Rg.ag _, Rg.ag _, au _, Rg.ag _, au _, Rg.ag _, Rg.ag _, Rg.ag _, Rg.ag _, trivial⟩) (ay.begin (aa HO))
    (ae (Aj (b := w.heap.size) (off := 0) rfl (Rg.cz kr rfl) rfl rfl)
    (ae (fo nz nu (Rg.ax 0 kr) [] [.q x] [.q y])
    (ae (fo nz me0 (Rg.cz kr rfl) [] [.q v] [])
    (ae (iw Tryz.func69 kr rfl ay.step (Rg.ax 1 kr) (Rg.ax 2 kr) (fun W v0 v1 hG h0 h1 => Ik (aa HS).1 (aa HS).2.2 h0 h1))
    (ae (Jg rfl (Rg.ax 3 kr) (Rg.mh _) rfl k1)
    (ae (ig rfl (Rg.ax 4 kr))
    (Rg.bg (Rg.il (d := 10) rfl kr rfl (fo nz me0 (Rg.cz kr rfl) [] [.q v] []))
    (Rg.bg (Rg.il (d := 10) rfl kr rfl (Bf (b := w.heap.size) (off := 0) rfl (Rg.cz kr rfl) rfl rfl))
    (Rg.bg (Rg.il (d := 10) rfl kr rfl (fo nz nu (Rg.ax 7 kr) [.q x] [.q y] []))
    (Rg.bg (Rg.il (d := 10) rfl kr rfl (iw Tryz.func69 kr rfl ay.step (Rg.ax 6 kr) (Rg.ax 8 kr) (fun W v0 v1 hG h0 h1 => Ik (aa HS).2.2 (aa HS).2.1 h0 h1)))
    (Rg.bg (Rg.il (d := 10) rfl kr rfl (Jg rfl (Rg.ax 9 kr) (Rg.mh _) rfl k2))
    (ae (vv rfl (Rg.ax 5 kr) (Rg.ax 10 kr))
    (ae (og rfl (Rg.ax 11 kr))
    Rg.cu))))))))))))) ?_
   intro v1 V1 hG1 hv1 hne1
   simp only [Rg.puts, jr, jq, jo, jm, Act.put, jl, jk, ji]
   have e11 : v1 11 = .bool true := hv1 11 (by decide)
   have e12 : v1 12 = .bool true := hv1 12 (by decide)
   simp only [e11, e12]
   have hO := hG1.1
   clear HO
   have HO := hide hO
   clear hO hG1 hv1 hne1
   try clear e11 e12
   go_wp2_with fail
   exact Co Tryz.results109 rfl (aa HO).bel rfl
  ·
   have k1 : decide (jw (x.num * v.den - v.num * x.den) ≤ 0) = true := decide_eq_true g1
   have k2 : decide (jw (v.num * y.den - y.num * v.den) ≤ 0) = false := decide_eq_false g2
   have hr : rr = false := by rw [aa HR]; exact decide_eq_false (fun h => g2 h.2)
   subst hr
   clear HR g1 g2
   go_upto_region 1 with fail
   refine Rg.fw 13 17 (Rg.pick [Rg.bf (.pointer (some ⟨w.heap.size, 0, none⟩)), ai [.q x], ai [.q v], Rg.bf (.int .i64 (jw (x.num * v.den - v.num * x.den))), Rg.bf (.bool true), Rg.bf (.bool true), ai [.q v], Rg.bf (.pointer (some ⟨w.heap.size, 6, none⟩)), ai [.q y], Rg.bf (.int .i64 (jw (v.num * y.den - y.num * v.den))), Rg.bf (.bool false), Rg.bf (.bool false), Rg.bf (.bool false)]) (ay w [(w.heap.size + 1, 74, [.q v]), (w.heap.size, 108, [.q x, .q y])] W0) ik [] kr rfl (Rg.gm.pick ⟨Rg.ag _, au _, au _, Rg.ag _, Rg.ag _, Rg.ag _, au _, Rg.ag _, au _, Rg.ag _, Rg.ag _, Rg.ag _, Rg.ag _, trivial⟩) (ay.begin (aa HO))
    (ae (Aj (b := w.heap.size) (off := 0) rfl (Rg.cz kr rfl) rfl rfl)
    (ae (fo nz nu (Rg.ax 0 kr) [] [.q x] [.q y])
    (ae (fo nz me0 (Rg.cz kr rfl) [] [.q v] [])
    (ae (iw Tryz.func69 kr rfl ay.step (Rg.ax 1 kr) (Rg.ax 2 kr) (fun W v0 v1 hG h0 h1 => Ik (aa HS).1 (aa HS).2.2 h0 h1))
    (ae (Jg rfl (Rg.ax 3 kr) (Rg.mh _) rfl k1)
    (ae (ig rfl (Rg.ax 4 kr))
    (Rg.bg (Rg.il (d := 10) rfl kr rfl (fo nz me0 (Rg.cz kr rfl) [] [.q v] []))
    (Rg.bg (Rg.il (d := 10) rfl kr rfl (Bf (b := w.heap.size) (off := 0) rfl (Rg.cz kr rfl) rfl rfl))
    (Rg.bg (Rg.il (d := 10) rfl kr rfl (fo nz nu (Rg.ax 7 kr) [.q x] [.q y] []))
    (Rg.bg (Rg.il (d := 10) rfl kr rfl (iw Tryz.func69 kr rfl ay.step (Rg.ax 6 kr) (Rg.ax 8 kr) (fun W v0 v1 hG h0 h1 => Ik (aa HS).2.2 (aa HS).2.1 h0 h1)))
    (Rg.bg (Rg.il (d := 10) rfl kr rfl (Jg rfl (Rg.ax 9 kr) (Rg.mh _) rfl k2))
    (ae (vv rfl (Rg.ax 5 kr) (Rg.ax 10 kr))
    (ae (og rfl (Rg.ax 11 kr))
    Rg.cu))))))))))))) ?_
   intro v1 V1 hG1 hv1 hne1
   simp only [Rg.puts, jr, jq, jo, jm, Act.put, jl, jk, ji]
   have e11 : v1 11 = .bool false := hv1 11 (by decide)
   have e12 : v1 12 = .bool false := hv1 12 (by decide)
   simp only [e11, e12]
   have hO := hG1.1
   clear HO
   have HO := hide hO
   clear hO hG1 hv1 hne1
   try clear e11 e12
   go_wp2_with fail
   exact Co Tryz.results109 rfl (aa HO).bel rfl
 ·
  have k1 : decide (jw (x.num * v.den - v.num * x.den) ≤ 0) = false := decide_eq_false g1
  have hr : rr = false := by rw [aa HR]; exact decide_eq_false (fun h => g1 h.1)
  subst hr
  clear HR g1
  go_upto_region 1 with fail
  refine Rg.fw 13 17 (Rg.pick [Rg.bf (.pointer (some ⟨w.heap.size, 0, none⟩)), ai [.q x], ai [.q v], Rg.bf (.int .i64 (jw (x.num * v.den - v.num * x.den))), Rg.bf (.bool false), Rg.bf (.bool false), Rg.bf undef, Rg.bf undef, Rg.bf undef, Rg.bf undef, Rg.bf undef, Rg.bf (.bool false), Rg.bf (.bool false)]) (ay w [(w.heap.size + 1, 74, [.q v]), (w.heap.size, 108, [.q x, .q y])] W0) ik [] kr rfl (Rg.gm.pick ⟨Rg.ag _, au _, au _, Rg.ag _, Rg.ag _, Rg.ag _, Rg.ag _, Rg.ag _, Rg.ag _, Rg.ag _, Rg.ag _, Rg.ag _, Rg.ag _, trivial⟩) (ay.begin (aa HO))
   (ae (Aj (b := w.heap.size) (off := 0) rfl (Rg.cz kr rfl) rfl rfl)
   (ae (fo nz nu (Rg.ax 0 kr) [] [.q x] [.q y])
   (ae (fo nz me0 (Rg.cz kr rfl) [] [.q v] [])
   (ae (iw Tryz.func69 kr rfl ay.step (Rg.ax 1 kr) (Rg.ax 2 kr) (fun W v0 v1 hG h0 h1 => Ik (aa HS).1 (aa HS).2.2 h0 h1))
   (ae (Jg rfl (Rg.ax 3 kr) (Rg.mh _) rfl k1)
   (ae (ig rfl (Rg.ax 4 kr))
   (Rg.bg (Rg.mg (d := 10) rfl kr rfl rfl lh rfl rfl)
   (Rg.bg (Rg.mg (d := 10) rfl kr rfl rfl lh rfl rfl)
   (Rg.bg (Rg.mg (d := 10) rfl kr rfl rfl lh rfl rfl)
   (Rg.bg (Rg.mg (d := 10) rfl kr rfl rfl lh rfl rfl)
   (Rg.bg (Rg.mg (d := 10) rfl kr rfl rfl lh rfl rfl)
   (ae (zf rfl (Rg.ax 5 kr) (Rg.mh _))
   (ae (og rfl (Rg.ax 11 kr))
   Rg.cu))))))))))))) ?_
  intro v1 V1 hG1 hv1 hne1
  simp only [Rg.puts, jr, jq, jo, jm, Act.put, jl, jk, ji]
  have e11 : v1 11 = .bool false := hv1 11 (by decide)
  have e12 : v1 12 = .bool false := hv1 12 (by decide)
  simp only [e11, e12]
  have hO := hG1.1
  clear HO
  have HO := hide hO
  clear hO hG1 hv1 hne1
  try clear e11 e12
  go_wp2_with fail
  exact Co Tryz.results109 rfl (aa HO).bel rfl
end Sb

end Go.Proofs.YtjdnmdlnaoedoaaGreatDoor
namespace Go.Proofs.YtjdnmdlnaoedoaaGreatDoor
open Go.RowKit

namespace Sb
theorem aod {K : Nat} {a b c : Rat} (ha : ou K a) (hb : ou K b) (hc : ou K c) : ∀ z ∈ [a, b, c], ou K z := fun z hz => by
 simp only [List.mem_cons, List.not_mem_nil, or_false] at hz
 rcases hz with rfl | rfl | rfl
 ·
  exact ha
 ·
  exact hb
 ·
  exact hc
theorem alh (x y : Rat) : 0 ≤ jw (x.num * y.den - y.num * x.den) ↔ y ≤ x := by
 rw [Rat.le_iff]
 unfold jw; (repeat' split) <;> omega
theorem aeo {x y v : Rat} {K : Nat} (sx : ou K x) (sy : ou K y) (sv : ou K v) (w : World) (u0 : Value) (h0 : ai [.r x, .r y] w u0) (u1 : Value) (h1 : ai [.r v] w u1) : Calls Tryz.prog 90 #[u0, u1] w (jh (Rg.bf (.bool (decide (x ≤ v ∧ v ≤ y)))) w) := by
 have h := avm sx sy sv w u0 h0 u1 h1
 simp only [Oe, alh] at h
 exact h
theorem aki {x y v : Rat} {K : Nat} (sx : Sm K x) (sy : Sm K y) (sv : Sm K v) (w : World) (u0 : Value) (h0 : ai [.q x, .q y] w u0) (u1 : Value) (h1 : ai [.q v] w u1) : Calls Tryz.prog 109 #[u0, u1] w (jh (Rg.bf (.bool (decide (x ≤ v ∧ v ≤ y)))) w) := by
 have h := bdp sx sy sv w u0 h0 u1 h1
 simp only [Oe] at h
 exact h
end Sb

end Go.Proofs.YtjdnmdlnaoedoaaGreatDoor
