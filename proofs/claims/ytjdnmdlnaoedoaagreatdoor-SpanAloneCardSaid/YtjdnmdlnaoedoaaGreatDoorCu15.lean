/- Texts beneath a law of layer 1. -/
import Derived.Test.YtjdnmdlnaoedoaaGreatDoorCu14
set_option maxRecDepth 100000
set_option maxHeartbeats 16000000
namespace Go.Proofs.YtjdnmdlnaoedoaaGreatDoor
open Go.RowKit

namespace Sb
theorem azg {a b c d : Int} (h : xy a b c d) : iw ((Wd.qR a b).num * (Wd.qR c d).den - (Wd.qR c d).num * (Wd.qR a b).den) ≤ 0 := by
 rw [Ns]; exact bbm h
theorem azh {a b c d : Int} (h1 : Wd.xh a b) (h2 : Wd.xh c d) (h : iw ((Wd.qR a b).num * (Wd.qR c d).den - (Wd.qR c d).num * (Wd.qR a b).den) ≤ 0) : a * d - c * b ≤ 0 := by
 rw [Ns] at h
 exact (bbl h1 h2 h).2.2
theorem Iu {df cz di dh : Int} (w : World) (u0 : Value) (h0 : ai [iv df, iv cz, iv di, iv dh] w u0) : Calls Tryz.prog 85 #[u0] w (il (Rg.ax (.bool (decide (xy df cz di dh)))) w) := by
 obtain ⟨rr, hrr⟩ : ∃ rr, rr = decide (xy df cz di dh) := ⟨_, rfl⟩
 rw [← hrr]
 have HR := hide hrr
 clear hrr
 have hu0 := Bg h0
 subst hu0
 go_enter Tryz.func85, Tryz.ntmps85
 go_upto_region 1 with fail
 have hO := (Own.push (T := 41) (ls := [iv df, iv cz, iv di, iv dh]) (cs := [.int .i64 df, .int .i64 cz, .int .i64 di, .int .i64 dh]) (Own.nil w) (gu.v (jm _) (gu.v (jm _) (gu.v (jm _) (gu.v (jm _) rfl)))) (w.heap.size) rfl)
 generalize w.alloc (.cells #[.int .i64 df, .int .i64 cz, .int .i64 di, .int .i64 dh] 41) = W0 at *
 have HO := hide hO
 clear hO
 by_cases g1 : Wd.xh df cz
 ·
  by_cases g2 : Wd.xh di dh
  ·
   by_cases g3 : (iw ((Wd.qR df cz).num * (Wd.qR di dh).den - (Wd.qR di dh).num * (Wd.qR df cz).den)) ≤ 0
   ·
    have k1 : decide (Wd.xh df cz) = true := decide_eq_true g1
    have k2 : decide (Wd.xh di dh) = true := decide_eq_true g2
    have k3 : decide ((iw ((Wd.qR df cz).num * (Wd.qR di dh).den - (Wd.qR di dh).num * (Wd.qR df cz).den)) ≤ 0) = true := decide_eq_true g3
    have hr : rr = true := by rw [aa HR]; exact decide_eq_true ⟨g1, g2, azh g1 g2 g3⟩
    subst hr
    clear HR
    go_upto_region 1 with fail
    refine Rg.region 19 21 (Rg.pick [Rg.ax (.pointer (some ⟨w.heap.size, 0, none⟩)), ai [iv df, iv cz], Rg.ax (.bool true), Rg.ax (.bool true), Rg.ax (.pointer (some ⟨w.heap.size, 2, none⟩)), ai [iv di, iv dh], Rg.ax (.bool true), Rg.ax (.bool true), Rg.ax (.bool true), Rg.ax (.pointer (some ⟨w.heap.size, 0, none⟩)), ai [iv df, iv cz], ai [.r (Wd.qR df cz)], Rg.ax (.pointer (some ⟨w.heap.size, 2, none⟩)), ai [iv di, iv dh], ai [.r (Wd.qR di dh)], Rg.ax (.int .i64 (iw ((Wd.qR df cz).num * (Wd.qR di dh).den - (Wd.qR di dh).num * (Wd.qR df cz).den))), Rg.ax (.bool true), Rg.ax (.bool true), Rg.ax (.bool true)]) (az w _ W0) gm [] kr kr rfl (Rg.fq.pick ⟨Rg.ae _, au _, Rg.ae _, Rg.ae _, Rg.ae _, au _, Rg.ae _, Rg.ae _, Rg.ae _, Rg.ae _, au _, au _, Rg.ae _, au _, au _, Rg.ae _, Rg.ae _, Rg.ae _, Rg.ae _, trivial⟩) (az.start (aa HO))
     (ag (Cm (b := w.heap.size) (off := 0) rfl aF rfl rfl)
     (ag (fw xc me0 (aT 0) [] [iv df, iv cz] [iv di, iv dh])
     (ag (sc1 Tryz.func60 (aT 1) (fun W v0 hG h0 => k1 ▸ Yp h0))
     (ag (dm rfl (aT 2))
     (Rg.ay (Rg.fe (d := 6) rfl kr rfl (Dc (b := w.heap.size) (off := 0) rfl aF rfl rfl))
     (Rg.ay (Rg.fe (d := 6) rfl kr rfl (fw xc me0 (aT 4) [iv df, iv cz] [iv di, iv dh] []))
     (Rg.ay (Rg.fe (d := 6) rfl kr rfl (wh Tryz.func60 kr rfl az.step (aT 5) (fun W v0 hG h0 => k2 ▸ Yp h0)))
     (ag (mr rfl (aT 3) (aT 6))
     (ag (dm rfl (aT 7))
     (Rg.ay (Rg.fe (d := 11) rfl kr rfl (Cm (b := w.heap.size) (off := 0) rfl aF rfl rfl))
     (Rg.ay (Rg.fe (d := 11) rfl kr rfl (fw xc me0 (aT 9) [] [iv df, iv cz] [iv di, iv dh]))
     (Rg.ay (Rg.fe (d := 11) rfl kr rfl (wh Tryz.func48 kr rfl az.step (aT 10) (fun W v0 hG h0 => abv g1 h0)))
     (Rg.ay (Rg.fe (d := 11) rfl kr rfl (Dc (b := w.heap.size) (off := 0) rfl aF rfl rfl))
     (Rg.ay (Rg.fe (d := 11) rfl kr rfl (fw xc me0 (aT 12) [iv df, iv cz] [iv di, iv dh] []))
     (Rg.ay (Rg.fe (d := 11) rfl kr rfl (wh Tryz.func48 kr rfl az.step (aT 13) (fun W v0 hG h0 => abv g2 h0)))
     (Rg.ay (Rg.fe (d := 11) rfl kr rfl (yu Tryz.func71 kr rfl az.step (aT 11) (aT 14) (fun W v0 v1 hG h0 h1 => Hg (Bq g1) (Bq g2) h0 h1)))
     (Rg.ay (Rg.fe (d := 11) rfl kr rfl (Li rfl (aT 15) (Rg.je _) rfl k3))
     (ag (mr rfl (aT 8) (aT 16))
     (ag (nz rfl (aT 17))
     Rg.bg))))))))))))))))))) ?_
    intro v1 V1 hG1 hv1 hne1
    simp only [Rg.puts, Act.put, tA]
    have e17 : v1 17 = .bool true := hv1 17 (by decide)
    have e18 : v1 18 = .bool true := hv1 18 (by decide)
    simp only [e17, e18]
    have hO := hG1.1
    clear HO
    have HO := hide hO
    clear hO hG1 hv1 hne1
    try clear e17 e18
    go_wp2_with fail
    exact Bn Tryz.results85 rfl (aa HO).bel rfl
   ·
    have k1 : decide (Wd.xh df cz) = true := decide_eq_true g1
    have k2 : decide (Wd.xh di dh) = true := decide_eq_true g2
    have k3 : decide ((iw ((Wd.qR df cz).num * (Wd.qR di dh).den - (Wd.qR di dh).num * (Wd.qR df cz).den)) ≤ 0) = false := decide_eq_false g3
    have hr : rr = false := by rw [aa HR]; exact decide_eq_false (fun h => g3 (azg h))
    subst hr
    clear HR
    go_upto_region 1 with fail
    refine Rg.region 19 21 (Rg.pick [Rg.ax (.pointer (some ⟨w.heap.size, 0, none⟩)), ai [iv df, iv cz], Rg.ax (.bool true), Rg.ax (.bool true), Rg.ax (.pointer (some ⟨w.heap.size, 2, none⟩)), ai [iv di, iv dh], Rg.ax (.bool true), Rg.ax (.bool true), Rg.ax (.bool true), Rg.ax (.pointer (some ⟨w.heap.size, 0, none⟩)), ai [iv df, iv cz], ai [.r (Wd.qR df cz)], Rg.ax (.pointer (some ⟨w.heap.size, 2, none⟩)), ai [iv di, iv dh], ai [.r (Wd.qR di dh)], Rg.ax (.int .i64 (iw ((Wd.qR df cz).num * (Wd.qR di dh).den - (Wd.qR di dh).num * (Wd.qR df cz).den))), Rg.ax (.bool false), Rg.ax (.bool false), Rg.ax (.bool false)]) (az w _ W0) gm [] kr kr rfl (Rg.fq.pick ⟨Rg.ae _, au _, Rg.ae _, Rg.ae _, Rg.ae _, au _, Rg.ae _, Rg.ae _, Rg.ae _, Rg.ae _, au _, au _, Rg.ae _, au _, au _, Rg.ae _, Rg.ae _, Rg.ae _, Rg.ae _, trivial⟩) (az.start (aa HO))
     (ag (Cm (b := w.heap.size) (off := 0) rfl aF rfl rfl)
     (ag (fw xc me0 (aT 0) [] [iv df, iv cz] [iv di, iv dh])
     (ag (sc1 Tryz.func60 (aT 1) (fun W v0 hG h0 => k1 ▸ Yp h0))
     (ag (dm rfl (aT 2))
     (Rg.ay (Rg.fe (d := 6) rfl kr rfl (Dc (b := w.heap.size) (off := 0) rfl aF rfl rfl))
     (Rg.ay (Rg.fe (d := 6) rfl kr rfl (fw xc me0 (aT 4) [iv df, iv cz] [iv di, iv dh] []))
     (Rg.ay (Rg.fe (d := 6) rfl kr rfl (wh Tryz.func60 kr rfl az.step (aT 5) (fun W v0 hG h0 => k2 ▸ Yp h0)))
     (ag (mr rfl (aT 3) (aT 6))
     (ag (dm rfl (aT 7))
     (Rg.ay (Rg.fe (d := 11) rfl kr rfl (Cm (b := w.heap.size) (off := 0) rfl aF rfl rfl))
     (Rg.ay (Rg.fe (d := 11) rfl kr rfl (fw xc me0 (aT 9) [] [iv df, iv cz] [iv di, iv dh]))
     (Rg.ay (Rg.fe (d := 11) rfl kr rfl (wh Tryz.func48 kr rfl az.step (aT 10) (fun W v0 hG h0 => abv g1 h0)))
     (Rg.ay (Rg.fe (d := 11) rfl kr rfl (Dc (b := w.heap.size) (off := 0) rfl aF rfl rfl))
     (Rg.ay (Rg.fe (d := 11) rfl kr rfl (fw xc me0 (aT 12) [iv df, iv cz] [iv di, iv dh] []))
     (Rg.ay (Rg.fe (d := 11) rfl kr rfl (wh Tryz.func48 kr rfl az.step (aT 13) (fun W v0 hG h0 => abv g2 h0)))
     (Rg.ay (Rg.fe (d := 11) rfl kr rfl (yu Tryz.func71 kr rfl az.step (aT 11) (aT 14) (fun W v0 v1 hG h0 h1 => Hg (Bq g1) (Bq g2) h0 h1)))
     (Rg.ay (Rg.fe (d := 11) rfl kr rfl (Li rfl (aT 15) (Rg.je _) rfl k3))
     (ag (mr rfl (aT 8) (aT 16))
     (ag (nz rfl (aT 17))
     Rg.bg))))))))))))))))))) ?_
    intro v1 V1 hG1 hv1 hne1
    simp only [Rg.puts, Act.put, tA]
    have e17 : v1 17 = .bool false := hv1 17 (by decide)
    have e18 : v1 18 = .bool false := hv1 18 (by decide)
    simp only [e17, e18]
    have hO := hG1.1
    clear HO
    have HO := hide hO
    clear hO hG1 hv1 hne1
    try clear e17 e18
    go_wp2_with fail
    exact Bn Tryz.results85 rfl (aa HO).bel rfl
  ·
   have k1 : decide (Wd.xh df cz) = true := decide_eq_true g1
   have k2 : decide (Wd.xh di dh) = false := decide_eq_false g2
   have hr : rr = false := by rw [aa HR]; exact decide_eq_false (fun h => g2 h.2.1)
   subst hr
   clear HR
   go_upto_region 1 with fail
   refine Rg.region 19 21 (Rg.pick [Rg.ax (.pointer (some ⟨w.heap.size, 0, none⟩)), ai [iv df, iv cz], Rg.ax (.bool true), Rg.ax (.bool true), Rg.ax (.pointer (some ⟨w.heap.size, 2, none⟩)), ai [iv di, iv dh], Rg.ax (.bool false), Rg.ax (.bool false), Rg.ax (.bool false), Rg.ax undef, Rg.ax undef, Rg.ax undef, Rg.ax undef, Rg.ax undef, Rg.ax undef, Rg.ax undef, Rg.ax undef, Rg.ax (.bool false), Rg.ax (.bool false)]) (az w _ W0) gm [] kr kr rfl (Rg.fq.pick ⟨Rg.ae _, au _, Rg.ae _, Rg.ae _, Rg.ae _, au _, Rg.ae _, Rg.ae _, Rg.ae _, Rg.ae _, Rg.ae _, Rg.ae _, Rg.ae _, Rg.ae _, Rg.ae _, Rg.ae _, Rg.ae _, Rg.ae _, Rg.ae _, trivial⟩) (az.start (aa HO))
    (ag (Cm (b := w.heap.size) (off := 0) rfl aF rfl rfl)
    (ag (fw xc me0 (aT 0) [] [iv df, iv cz] [iv di, iv dh])
    (ag (sc1 Tryz.func60 (aT 1) (fun W v0 hG h0 => k1 ▸ Yp h0))
    (ag (dm rfl (aT 2))
    (Rg.ay (Rg.fe (d := 6) rfl kr rfl (Dc (b := w.heap.size) (off := 0) rfl aF rfl rfl))
    (Rg.ay (Rg.fe (d := 6) rfl kr rfl (fw xc me0 (aT 4) [iv df, iv cz] [iv di, iv dh] []))
    (Rg.ay (Rg.fe (d := 6) rfl kr rfl (wh Tryz.func60 kr rfl az.step (aT 5) (fun W v0 hG h0 => k2 ▸ Yp h0)))
    (ag (mr rfl (aT 3) (aT 6))
    (ag (dm rfl (aT 7))
    (Rg.ay (Rg.jb (d := 11) rfl kr rfl rfl iy rfl rfl)
    (Rg.ay (Rg.jb (d := 11) rfl kr rfl rfl iy rfl rfl)
    (Rg.ay (Rg.jb (d := 11) rfl kr rfl rfl iy rfl rfl)
    (Rg.ay (Rg.jb (d := 11) rfl kr rfl rfl iy rfl rfl)
    (Rg.ay (Rg.jb (d := 11) rfl kr rfl rfl iy rfl rfl)
    (Rg.ay (Rg.jb (d := 11) rfl kr rfl rfl iy rfl rfl)
    (Rg.ay (Rg.jb (d := 11) rfl kr rfl rfl iy rfl rfl)
    (Rg.ay (Rg.jb (d := 11) rfl kr rfl rfl iy rfl rfl)
    (ag (qi rfl (aT 8) (Rg.je _))
    (ag (nz rfl (aT 17))
    Rg.bg))))))))))))))))))) ?_
   intro v1 V1 hG1 hv1 hne1
   simp only [Rg.puts, Act.put, tA]
   have e17 : v1 17 = .bool false := hv1 17 (by decide)
   have e18 : v1 18 = .bool false := hv1 18 (by decide)
   simp only [e17, e18]
   have hO := hG1.1
   clear HO
   have HO := hide hO
   clear hO hG1 hv1 hne1
   try clear e17 e18
   go_wp2_with fail
   exact Bn Tryz.results85 rfl (aa HO).bel rfl
 ·
  have k1 : decide (Wd.xh df cz) = false := decide_eq_false g1
  have hr : rr = false := by rw [aa HR]; exact decide_eq_false (fun h => g1 h.1)
  subst hr
  clear HR
  go_upto_region 1 with fail
  refine Rg.region 19 21 (Rg.pick [Rg.ax (.pointer (some ⟨w.heap.size, 0, none⟩)), ai [iv df, iv cz], Rg.ax (.bool false), Rg.ax (.bool false), Rg.ax undef, Rg.ax undef, Rg.ax undef, Rg.ax (.bool false), Rg.ax (.bool false), Rg.ax undef, Rg.ax undef, Rg.ax undef, Rg.ax undef, Rg.ax undef, Rg.ax undef, Rg.ax undef, Rg.ax undef, Rg.ax (.bool false), Rg.ax (.bool false)]) (az w _ W0) gm [] kr kr rfl (Rg.fq.pick ⟨Rg.ae _, au _, Rg.ae _, Rg.ae _, Rg.ae _, Rg.ae _, Rg.ae _, Rg.ae _, Rg.ae _, Rg.ae _, Rg.ae _, Rg.ae _, Rg.ae _, Rg.ae _, Rg.ae _, Rg.ae _, Rg.ae _, Rg.ae _, Rg.ae _, trivial⟩) (az.start (aa HO))
   (ag (Cm (b := w.heap.size) (off := 0) rfl aF rfl rfl)
   (ag (fw xc me0 (aT 0) [] [iv df, iv cz] [iv di, iv dh])
   (ag (sc1 Tryz.func60 (aT 1) (fun W v0 hG h0 => k1 ▸ Yp h0))
   (ag (dm rfl (aT 2))
   (Rg.ay (Rg.jb (d := 6) rfl kr rfl rfl iy rfl rfl)
   (Rg.ay (Rg.jb (d := 6) rfl kr rfl rfl iy rfl rfl)
   (Rg.ay (Rg.jb (d := 6) rfl kr rfl rfl iy rfl rfl)
   (ag (qi rfl (aT 3) (Rg.je _))
   (ag (dm rfl (aT 7))
   (Rg.ay (Rg.jb (d := 11) rfl kr rfl rfl iy rfl rfl)
   (Rg.ay (Rg.jb (d := 11) rfl kr rfl rfl iy rfl rfl)
   (Rg.ay (Rg.jb (d := 11) rfl kr rfl rfl iy rfl rfl)
   (Rg.ay (Rg.jb (d := 11) rfl kr rfl rfl iy rfl rfl)
   (Rg.ay (Rg.jb (d := 11) rfl kr rfl rfl iy rfl rfl)
   (Rg.ay (Rg.jb (d := 11) rfl kr rfl rfl iy rfl rfl)
   (Rg.ay (Rg.jb (d := 11) rfl kr rfl rfl iy rfl rfl)
   (Rg.ay (Rg.jb (d := 11) rfl kr rfl rfl iy rfl rfl)
   (ag (qi rfl (aT 8) (Rg.je _))
   (ag (nz rfl (aT 17))
   Rg.bg))))))))))))))))))) ?_
  intro v1 V1 hG1 hv1 hne1
  simp only [Rg.puts, Act.put, tA]
  have e17 : v1 17 = .bool false := hv1 17 (by decide)
  have e18 : v1 18 = .bool false := hv1 18 (by decide)
  simp only [e17, e18]
  have hO := hG1.1
  clear HO
  have HO := hide hO
  clear hO hG1 hv1 hne1
  try clear e17 e18
  go_wp2_with fail
  exact Bn Tryz.results85 rfl (aa HO).bel rfl
theorem aen {n d p e : Int} (ok : Wd.xh n d ∧ Wd.xh p e) (w : World) (u0 : Value) (h0 : ai [iv n, iv d, iv p, iv e] w u0) :
  Calls Tryz.prog 86 #[u0] w (il (ai [.r (Wd.qR n d), .r (Wd.qR p e)]) w) := by
 have Jr := hide ok
 clear ok
 have hu0 := Bg h0
 subst hu0
 go_enter Tryz.func86, Tryz.ntmps86
 go_upto_region 1 with fail
 have hO := (Own.push (T := 100) (ls := zY) (cs := [.slice none 0 0, .bool false, .slice none 0 0, .bool false, .slice none 0 0, .bool false, .slice none 0 0, .bool false]) (Own.push (T := 41) (ls := [iv n, iv d, iv p, iv e]) (cs := [.int .i64 n, .int .i64 d, .int .i64 p, .int .i64 e]) (Own.nil w) (gu.v (jm _) (gu.v (jm _) (gu.v (jm _) (gu.v (jm _) rfl)))) (w.heap.size) rfl) (((gu.vs w [.slice none 0 0, .bool false, .slice none 0 0, .bool false, .slice none 0 0, .bool false, .slice none 0 0, .bool false] rfl) : gu w zY [.slice none 0 0, .bool false, .slice none 0 0, .bool false, .slice none 0 0, .bool false, .slice none 0 0, .bool false]).below (by repeat (first | exact Below.refl _ _ | refine jc ?_ _))) (w.heap.size + 1) (by simp only [World.size_alloc]))
 generalize (w.alloc (.cells #[.int .i64 n, .int .i64 d, .int .i64 p, .int .i64 e] 41)).alloc (.cells #[.slice none 0 0, .bool false, .slice none 0 0, .bool false, .slice none 0 0, .bool false, .slice none 0 0, .bool false] 100) = W0 at *
 have HO := hide hO
 clear hO
 go_upto_region 1 with fail
 refine Rg.region 7 10 (Rg.pick [Rg.ax (.pointer (some ⟨w.heap.size, 0, none⟩)), ai [iv n, iv d], ai [.r (Wd.qR n d)], Rg.ax (.pointer (some ⟨w.heap.size, 2, none⟩)), ai [iv p, iv e], ai [.r (Wd.qR p e)], ai [.r (Wd.qR n d), .r (Wd.qR p e)]]) (az w _ W0) gm [] kr kr rfl (Rg.fq.pick ⟨Rg.ae _, au _, au _, Rg.ae _, au _, au _, au _, trivial⟩) (az.start (aa HO))
  (ag (Cm (b := w.heap.size) (off := 0) rfl aF rfl rfl)
  (ag (fw xc ky (aT 0) [] [iv n, iv d] [iv p, iv e])
  (ag (sc1 Tryz.func48 (aT 1) (fun W v0 hG h0 => abv (aa Jr).1 h0))
  (ag (Dc (b := w.heap.size) (off := 0) rfl aF rfl rfl)
  (ag (fw xc ky (aT 3) [iv n, iv d] [iv p, iv e] [])
  (ag (sc1 Tryz.func48 (aT 4) (fun W v0 hG h0 => abv (aa Jr).2 h0))
  (ag (xx ach rfl (aT 2) (aT 5) rfl rfl rfl)
  Rg.bg))))))) ?_
 intro v1 V1 hG1 hv1 hne1
 simp only [Rg.puts, Act.put, tA]
 have hO := hG1.1
 refine jd hO 0 [] zY [.r (Wd.qR n d), .r (Wd.qR p e)] [] rfl Jh rfl (show ai [.r (Wd.qR n d), .r (Wd.qR p e)] V1 (v1 6) from hv1 6 (by decide)) rfl rfl rfl ?_
 intro uo gy hk0
 replace hO := gy
 clear gy
 clear HO
 have HO := hide hO
 clear hO hG1 hv1 hne1 hk0
 go_wp2_with fail
 exact xu Tryz.results86 Kv rfl (aa HO) me0 rfl rfl
theorem akd {x y : Rat} (w : World) (u0 : Value) (h0 : ai [.r x, .r y] w u0) : Calls Tryz.prog 92 #[u0] w (il (Im (Ea x y)) w) := by
 obtain ⟨t, ht⟩ : ∃ t, t = Ea x y := ⟨_, rfl⟩
 rw [← ht]
 have HR := hide ht
 clear ht
 obtain ⟨ru, c0a, rq, Ee, Mx, Mm, Mf, uy, vg, c0b, ve, Ff, Qx, Qr, Qn, ym, rfl, f0a, Aw⟩ := Wm h0
 go_enter Tryz.func92, Tryz.ntmps92
 go_upto_region 1 with fail
 have hO := (Own.push (T := 41) (ls := zS) (cs := [.int .i64 0, .int .i64 0, .int .i64 0, .int .i64 0]) (Own.push (T := 100) (ls := [.r x, .r y]) (cs := [.slice ru (List.length rq) c0a, .bool Ee, .slice Mx (List.length Mf) Mm, .bool uy, .slice vg (List.length ve) c0b, .bool Ff, .slice Qx (List.length Qn) Qr, .bool ym]) (Own.nil w) (gu.r f0a (gu.r Aw rfl)) (w.heap.size) rfl) (((gu.vs w [.int .i64 0, .int .i64 0, .int .i64 0, .int .i64 0] rfl) : gu w zS [.int .i64 0, .int .i64 0, .int .i64 0, .int .i64 0]).below (by repeat (first | exact Below.refl _ _ | refine jc ?_ _))) (w.heap.size + 1) (by simp only [World.size_alloc]))
 generalize (w.alloc (.cells #[.slice ru (List.length rq) c0a, .bool Ee, .slice Mx (List.length Mf) Mm, .bool uy, .slice vg (List.length ve) c0b, .bool Ff, .slice Qx (List.length Qn) Qr, .bool ym] 100)).alloc (.cells #[.int .i64 0, .int .i64 0, .int .i64 0, .int .i64 0] 41) = W0 at *
 have HO := hide hO
 clear hO
 by_cases fx : Wd.fits x
 ·
  by_cases fy : Wd.fits y
  ·
   go_upto_region 1 with fail
   refine Rg.dz 7 30 (Rg.pick [Rg.ax (.pointer (some ⟨w.heap.size, 0, none⟩)), ai [.r x], qa [ai [iv x.num, iv (x.den : Int)], Rg.ax (.bool true)], qa [ai [iv x.num, iv (x.den : Int)], Rg.ax (.bool true)], ai [iv x.num, iv (x.den : Int)], Rg.ax (.bool true), qf 23 zR W0.heap.size]) (az w _ W0) gm [6] kr rfl (Rg.fq.pick ⟨Rg.ae _, au _, ko ⟨(au _), (Rg.ae _), trivial⟩, ko ⟨(au _), (Rg.ae _), trivial⟩, au _, Rg.ae _, qh _ _ _, trivial⟩) (az.begin (aa HO))
    (ag (zf (b := w.heap.size) (off := 0) rfl aF rfl rfl)
    (ag (fw ll ky (aT 0) [] [.r x] [.r y])
    (ag (sc1 Tryz.func102 (aT 1) (fun W v0 hG h0 => Ow fx h0))
    (ag (dm rfl (aT 2))
    (ag (ma (ts := [ai [iv x.num, iv (x.den : Int)], Rg.ax (.bool true)]) rfl (aT 3) (of_decide_eq_true rfl) rfl)
    (ag (ma (ts := [ai [iv x.num, iv (x.den : Int)], Rg.ax (.bool true)]) rfl (aT 3) (of_decide_eq_true rfl) rfl)
    (ag (si Hq rfl az.step az.size rfl (uw (by intro j hj; simp at hj; (repeat' (first | (rcases hj with rfl | hj))) <;> first | (subst hj; exact ⟨_, _, _, rfl⟩) | exact ⟨_, _, _, rfl⟩)))
    Rg.bg))))))) ?_
   intro v1 V1 hG1 hv1 hne1
   simp only [Rg.puts, Act.put, tA]
   have e5 : v1 5 = .bool true := hv1 5 (by decide)
   obtain ⟨Zj, e6, xg, Ar⟩ := (show qf 23 zR W0.heap.size V1 (v1 6) from hv1 6 (by decide))
   simp only [e5, e6]
   have hO := hG1.1
   replace hO := Own.add (aa HO) hG1.2 xg Ar
   clear xg Ar
   refine jd hO 0 [] zR [iv x.num, iv (x.den : Int)] [] rfl Di rfl (show ai [iv x.num, iv (x.den : Int)] V1 (v1 4) from hv1 4 (by decide)) rfl rfl rfl ?_
   intro uo gy hk0
   replace hO := gy
   clear gy
   clear HO
   have HO := hide hO
   clear hO hG1 hv1 hne1 hk0
   try clear e5 e6
   go_upto_region 2 with fail
   refine Rg.dz 7 30 (Rg.pick [Rg.ax (.pointer (some ⟨w.heap.size, 4, none⟩)), ai [.r y], qa [ai [iv y.num, iv (y.den : Int)], Rg.ax (.bool true)], qa [ai [iv y.num, iv (y.den : Int)], Rg.ax (.bool true)], ai [iv y.num, iv (y.den : Int)], Rg.ax (.bool true), qf 23 zR uo.heap.size]) (az w _ uo) gm [6] kr rfl (Rg.fq.pick ⟨Rg.ae _, au _, ko ⟨(au _), (Rg.ae _), trivial⟩, ko ⟨(au _), (Rg.ae _), trivial⟩, au _, Rg.ae _, qh _ _ _, trivial⟩) (az.begin (aa HO))
    (ag (xm (b := w.heap.size) (off := 0) rfl aF rfl rfl)
    (ag (fw ll rf (aT 0) [.r x] [.r y] [])
    (ag (sc1 Tryz.func102 (aT 1) (fun W v0 hG h0 => Ow fy h0))
    (ag (dm rfl (aT 2))
    (ag (ma (ts := [ai [iv y.num, iv (y.den : Int)], Rg.ax (.bool true)]) rfl (aT 3) (of_decide_eq_true rfl) rfl)
    (ag (ma (ts := [ai [iv y.num, iv (y.den : Int)], Rg.ax (.bool true)]) rfl (aT 3) (of_decide_eq_true rfl) rfl)
    (ag (si Hq rfl az.step az.size rfl (uw (by intro j hj; simp at hj; (repeat' (first | (rcases hj with rfl | hj))) <;> first | (subst hj; exact ⟨_, _, _, rfl⟩) | exact ⟨_, _, _, rfl⟩)))
    Rg.bg))))))) ?_
   intro v2 V2 hG2 hv2 hne2
   simp only [Rg.puts, Act.put, tA]
   have e5 : v2 5 = .bool true := hv2 5 (by decide)
   obtain ⟨anc, e6, xg, Ar⟩ := (show qf 23 zR uo.heap.size V2 (v2 6) from hv2 6 (by decide))
   simp only [e5, e6]
   have hO := hG2.1
   replace hO := Own.add (aa HO) hG2.2 xg Ar
   clear xg Ar
   refine jd hO 0 [] zR [iv y.num, iv (y.den : Int)] [] rfl Di rfl (show ai [iv y.num, iv (y.den : Int)] V2 (v2 4) from hv2 4 (by decide)) rfl rfl rfl ?_
   intro yg gy hk0
   replace hO := gy
   clear gy
   clear HO
   have HO := hide hO
   clear hO hG2 hv2 hne2 hk0
   try clear e5 e6
   go_upto_region 3 with fail
   refine Rg.dz 6 30 (Rg.pick [Rg.ax (.bool true), Rg.ax (.bool false), Rg.ax (.bool false), Rg.ax (.bool true), Rg.ax (.bool false), Rg.ax (.bool false)]) (az w _ yg) gm [] kr rfl (Rg.fq.pick ⟨Rg.ae _, Rg.ae _, Rg.ae _, Rg.ae _, Rg.ae _, Rg.ae _, trivial⟩) (az.begin (aa HO))
    (ag (dm rfl aF)
    (ag (Bh rfl (aT 0) rfl rfl)
    (ag (dm rfl (aT 1))
    (Rg.ay (Rg.fe (d := 22) rfl kr rfl (dm rfl aF))
    (Rg.ay (Rg.fe (d := 22) rfl kr rfl (Bh rfl (aT 3) rfl rfl))
    (ag (qi rfl (aT 2) (aT 4))
    Rg.bg)))))) ?_
   intro v3 V3 hG3 hv3 mf
   simp only [Rg.puts, Act.put, tA]
   have e5 : v3 5 = .bool false := hv3 5 (by decide)
   simp only [e5]
   have hO := hG3.1
   clear HO
   have HO := hide hO
   clear hO hG3 hv3 mf
   try clear e5
   have hr : t = ⟨x.num, x.den, y.num, y.den, 0⟩ := by rw [aa HR]; exact if_pos ⟨fx, fy⟩
   subst hr
   clear HR fx fy
   go_upto_region 5 with fail
   refine Rg.dz 3 30 (Rg.pick [ai [iv x.num, iv (x.den : Int)], ai [iv y.num, iv (y.den : Int)], ai [iv x.num, iv (x.den : Int), iv y.num, iv (y.den : Int)]]) (az w _ V3) gm [] kr rfl (Rg.fq.pick ⟨au _, au _, au _, trivial⟩) (az.begin (aa HO))
    (ag (fw xc ky aF [] [iv x.num, iv (x.den : Int)] [])
    (ag (fw xc me0 aF [] [iv y.num, iv (y.den : Int)] [])
    (ag (xx Ht rfl (aT 0) (aT 1) rfl rfl rfl)
    Rg.bg))) ?_
   intro v4 V4 hG4 hv4 ry
   simp only [Rg.puts, Act.put, tA]
   have hO := hG4.1
   refine jd hO 2 [] zS [iv x.num, iv (x.den : Int), iv y.num, iv (y.den : Int)] [] rfl mg rfl (show ai [iv x.num, iv (x.den : Int), iv y.num, iv (y.den : Int)] V4 (v4 2) from hv4 2 (by decide)) rfl rfl rfl ?_
   intro Ig gy hk0
   replace hO := gy
   clear gy
   clear HO
   have HO := hide hO
   clear hO hG4 hv4 ry hk0
   go_wp2_with fail
   exact yz Tryz.results92 qg rfl rfl (aa HO) rf rfl rfl
  ·
   go_upto_region 1 with fail
   refine Rg.dz 7 30 (Rg.pick [Rg.ax (.pointer (some ⟨w.heap.size, 0, none⟩)), ai [.r x], qa [ai [iv x.num, iv (x.den : Int)], Rg.ax (.bool true)], qa [ai [iv x.num, iv (x.den : Int)], Rg.ax (.bool true)], ai [iv x.num, iv (x.den : Int)], Rg.ax (.bool true), qf 23 zR W0.heap.size]) (az w _ W0) gm [6] kr rfl (Rg.fq.pick ⟨Rg.ae _, au _, ko ⟨(au _), (Rg.ae _), trivial⟩, ko ⟨(au _), (Rg.ae _), trivial⟩, au _, Rg.ae _, qh _ _ _, trivial⟩) (az.begin (aa HO))
    (ag (zf (b := w.heap.size) (off := 0) rfl aF rfl rfl)
    (ag (fw ll ky (aT 0) [] [.r x] [.r y])
    (ag (sc1 Tryz.func102 (aT 1) (fun W v0 hG h0 => Ow fx h0))
    (ag (dm rfl (aT 2))
    (ag (ma (ts := [ai [iv x.num, iv (x.den : Int)], Rg.ax (.bool true)]) rfl (aT 3) (of_decide_eq_true rfl) rfl)
    (ag (ma (ts := [ai [iv x.num, iv (x.den : Int)], Rg.ax (.bool true)]) rfl (aT 3) (of_decide_eq_true rfl) rfl)
    (ag (si Hq rfl az.step az.size rfl (uw (by intro j hj; simp at hj; (repeat' (first | (rcases hj with rfl | hj))) <;> first | (subst hj; exact ⟨_, _, _, rfl⟩) | exact ⟨_, _, _, rfl⟩)))
    Rg.bg))))))) ?_
   intro v1 V1 hG1 hv1 hne1
   simp only [Rg.puts, Act.put, tA]
   have e5 : v1 5 = .bool true := hv1 5 (by decide)
   obtain ⟨Zj, e6, xg, Ar⟩ := (show qf 23 zR W0.heap.size V1 (v1 6) from hv1 6 (by decide))
   simp only [e5, e6]
   have hO := hG1.1
   replace hO := Own.add (aa HO) hG1.2 xg Ar
   clear xg Ar
   refine jd hO 0 [] zR [iv x.num, iv (x.den : Int)] [] rfl Di rfl (show ai [iv x.num, iv (x.den : Int)] V1 (v1 4) from hv1 4 (by decide)) rfl rfl rfl ?_
   intro uo gy hk0
   replace hO := gy
   clear gy
   clear HO
   have HO := hide hO
   clear hO hG1 hv1 hne1 hk0
   try clear e5 e6
   go_upto_region 2 with fail
   refine Rg.dz 7 30 (Rg.pick [Rg.ax (.pointer (some ⟨w.heap.size, 4, none⟩)), ai [.r y], qa [Bb, Rg.ax (.bool false)], qa [Bb, Rg.ax (.bool false)], Bb, Rg.ax (.bool false), qf 23 zR uo.heap.size]) (az w _ uo) gm [6] kr rfl (Rg.fq.pick ⟨Rg.ae _, au _, ko ⟨(Bf), (Rg.ae _), trivial⟩, ko ⟨(Bf), (Rg.ae _), trivial⟩, Bf, Rg.ae _, qh _ _ _, trivial⟩) (az.begin (aa HO))
    (ag (xm (b := w.heap.size) (off := 0) rfl aF rfl rfl)
    (ag (fw ll rf (aT 0) [.r x] [.r y] [])
    (ag (sc1 Tryz.func102 (aT 1) (fun W v0 hG h0 => Ox fy h0))
    (ag (dm rfl (aT 2))
    (ag (ma (ts := [Bb, Rg.ax (.bool false)]) rfl (aT 3) (of_decide_eq_true rfl) rfl)
    (ag (ma (ts := [Bb, Rg.ax (.bool false)]) rfl (aT 3) (of_decide_eq_true rfl) rfl)
    (ag (si Hq rfl az.step az.size rfl (uw (by intro j hj; simp at hj; (repeat' (first | (rcases hj with rfl | hj))) <;> first | (subst hj; exact ⟨_, _, _, rfl⟩) | exact ⟨_, _, _, rfl⟩)))
    Rg.bg))))))) ?_
   intro v2 V2 hG2 hv2 hne2
   simp only [Rg.puts, Act.put, tA]
   have e5 : v2 5 = .bool false := hv2 5 (by decide)
   obtain ⟨anc, e6, xg, Ar⟩ := (show qf 23 zR uo.heap.size V2 (v2 6) from hv2 6 (by decide))
   simp only [e5, e6]
   have hO := hG2.1
   replace hO := Own.add (aa HO) hG2.2 xg Ar
   clear xg Ar
   obtain ⟨Zp, Zt, hy4⟩ := (show Bb V2 (v2 4) from hv2 4 (by decide))
   refine jd hO 0 [] zR [iv Zp, iv Zt] [] rfl Di rfl (show ai [iv Zp, iv Zt] V2 (v2 4) from hy4) rfl rfl rfl ?_
   intro yg gy hk0
   replace hO := gy
   clear gy
   clear HO
   have HO := hide hO
   clear hO hG2 hv2 hne2 hk0
   try clear e5 e6
   go_upto_region 3 with fail
   refine Rg.dz 6 30 (Rg.pick [Rg.ax (.bool true), Rg.ax (.bool false), Rg.ax (.bool false), Rg.ax (.bool false), Rg.ax (.bool true), Rg.ax (.bool true)]) (az w _ yg) gm [] kr rfl (Rg.fq.pick ⟨Rg.ae _, Rg.ae _, Rg.ae _, Rg.ae _, Rg.ae _, Rg.ae _, trivial⟩) (az.begin (aa HO))
    (ag (dm rfl aF)
    (ag (Bh rfl (aT 0) rfl rfl)
    (ag (dm rfl (aT 1))
    (Rg.ay (Rg.fe (d := 22) rfl kr rfl (dm rfl aF))
    (Rg.ay (Rg.fe (d := 22) rfl kr rfl (Bh rfl (aT 3) rfl rfl))
    (ag (qi rfl (aT 2) (aT 4))
    Rg.bg)))))) ?_
   intro v3 V3 hG3 hv3 mf
   simp only [Rg.puts, Act.put, tA]
   have e5 : v3 5 = .bool true := hv3 5 (by decide)
   simp only [e5]
   have hO := hG3.1
   clear HO
   have HO := hide hO
   clear hO hG3 hv3 mf
   try clear e5
   have hr : t = ⟨0, 0, 0, 0, 3⟩ := by rw [aa HR]; exact if_neg (fun h => fy h.2)
   subst hr
   clear HR fx fy
   go_upto_region 4 with fail
   refine Rg.dz 1 30 (Rg.pick [ai zS]) (az w _ V3) gm [] kr rfl (Rg.fq.pick ⟨au _, trivial⟩) (az.begin (aa HO))
    (ag (ui uj rfl rfl rfl)
    Rg.bg) ?_
   intro v4 V4 hG4 hv4 ry
   simp only [Rg.puts, Act.put, tA]
   have hO := hG4.1
   refine jd hO 2 [] zS zS [] rfl mg rfl (show ai zS V4 (v4 0) from hv4 0 (by decide)) rfl rfl rfl ?_
   intro Ig gy hk0
   replace hO := gy
   clear gy
   clear HO
   have HO := hide hO
   clear hO hG4 hv4 ry hk0
   go_wp2_with fail
   exact yz Tryz.results92 qg rfl rfl (aa HO) rf rfl rfl
 ·
  by_cases fy : Wd.fits y
  ·
   go_upto_region 1 with fail
   refine Rg.dz 7 30 (Rg.pick [Rg.ax (.pointer (some ⟨w.heap.size, 0, none⟩)), ai [.r x], qa [Bb, Rg.ax (.bool false)], qa [Bb, Rg.ax (.bool false)], Bb, Rg.ax (.bool false), qf 23 zR W0.heap.size]) (az w _ W0) gm [6] kr rfl (Rg.fq.pick ⟨Rg.ae _, au _, ko ⟨(Bf), (Rg.ae _), trivial⟩, ko ⟨(Bf), (Rg.ae _), trivial⟩, Bf, Rg.ae _, qh _ _ _, trivial⟩) (az.begin (aa HO))
    (ag (zf (b := w.heap.size) (off := 0) rfl aF rfl rfl)
    (ag (fw ll ky (aT 0) [] [.r x] [.r y])
    (ag (sc1 Tryz.func102 (aT 1) (fun W v0 hG h0 => Ox fx h0))
    (ag (dm rfl (aT 2))
    (ag (ma (ts := [Bb, Rg.ax (.bool false)]) rfl (aT 3) (of_decide_eq_true rfl) rfl)
    (ag (ma (ts := [Bb, Rg.ax (.bool false)]) rfl (aT 3) (of_decide_eq_true rfl) rfl)
    (ag (si Hq rfl az.step az.size rfl (uw (by intro j hj; simp at hj; (repeat' (first | (rcases hj with rfl | hj))) <;> first | (subst hj; exact ⟨_, _, _, rfl⟩) | exact ⟨_, _, _, rfl⟩)))
    Rg.bg))))))) ?_
   intro v1 V1 hG1 hv1 hne1
   simp only [Rg.puts, Act.put, tA]
   have e5 : v1 5 = .bool false := hv1 5 (by decide)
   obtain ⟨Zj, e6, xg, Ar⟩ := (show qf 23 zR W0.heap.size V1 (v1 6) from hv1 6 (by decide))
   simp only [e5, e6]
   have hO := hG1.1
   replace hO := Own.add (aa HO) hG1.2 xg Ar
   clear xg Ar
   obtain ⟨Zq, Zu, hy4⟩ := (show Bb V1 (v1 4) from hv1 4 (by decide))
   refine jd hO 0 [] zR [iv Zq, iv Zu] [] rfl Di rfl (show ai [iv Zq, iv Zu] V1 (v1 4) from hy4) rfl rfl rfl ?_
   intro uo gy hk0
   replace hO := gy
   clear gy
   clear HO
   have HO := hide hO
   clear hO hG1 hv1 hne1 hk0
   try clear e5 e6
   go_upto_region 2 with fail
   refine Rg.dz 7 30 (Rg.pick [Rg.ax (.pointer (some ⟨w.heap.size, 4, none⟩)), ai [.r y], qa [ai [iv y.num, iv (y.den : Int)], Rg.ax (.bool true)], qa [ai [iv y.num, iv (y.den : Int)], Rg.ax (.bool true)], ai [iv y.num, iv (y.den : Int)], Rg.ax (.bool true), qf 23 zR uo.heap.size]) (az w _ uo) gm [6] kr rfl (Rg.fq.pick ⟨Rg.ae _, au _, ko ⟨(au _), (Rg.ae _), trivial⟩, ko ⟨(au _), (Rg.ae _), trivial⟩, au _, Rg.ae _, qh _ _ _, trivial⟩) (az.begin (aa HO))
    (ag (xm (b := w.heap.size) (off := 0) rfl aF rfl rfl)
    (ag (fw ll rf (aT 0) [.r x] [.r y] [])
    (ag (sc1 Tryz.func102 (aT 1) (fun W v0 hG h0 => Ow fy h0))
    (ag (dm rfl (aT 2))
    (ag (ma (ts := [ai [iv y.num, iv (y.den : Int)], Rg.ax (.bool true)]) rfl (aT 3) (of_decide_eq_true rfl) rfl)
    (ag (ma (ts := [ai [iv y.num, iv (y.den : Int)], Rg.ax (.bool true)]) rfl (aT 3) (of_decide_eq_true rfl) rfl)
    (ag (si Hq rfl az.step az.size rfl (uw (by intro j hj; simp at hj; (repeat' (first | (rcases hj with rfl | hj))) <;> first | (subst hj; exact ⟨_, _, _, rfl⟩) | exact ⟨_, _, _, rfl⟩)))
    Rg.bg))))))) ?_
   intro v2 V2 hG2 hv2 hne2
   simp only [Rg.puts, Act.put, tA]
   have e5 : v2 5 = .bool true := hv2 5 (by decide)
   obtain ⟨anc, e6, xg, Ar⟩ := (show qf 23 zR uo.heap.size V2 (v2 6) from hv2 6 (by decide))
   simp only [e5, e6]
   have hO := hG2.1
   replace hO := Own.add (aa HO) hG2.2 xg Ar
   clear xg Ar
   refine jd hO 0 [] zR [iv y.num, iv (y.den : Int)] [] rfl Di rfl (show ai [iv y.num, iv (y.den : Int)] V2 (v2 4) from hv2 4 (by decide)) rfl rfl rfl ?_
   intro yg gy hk0
   replace hO := gy
   clear gy
   clear HO
   have HO := hide hO
   clear hO hG2 hv2 hne2 hk0
   try clear e5 e6
   go_upto_region 3 with fail
   refine Rg.dz 6 30 (Rg.pick [Rg.ax (.bool false), Rg.ax (.bool true), Rg.ax (.bool true), Rg.ax undef, Rg.ax undef, Rg.ax (.bool true)]) (az w _ yg) gm [] kr rfl (Rg.fq.pick ⟨Rg.ae _, Rg.ae _, Rg.ae _, Rg.ae _, Rg.ae _, Rg.ae _, trivial⟩) (az.begin (aa HO))
    (ag (dm rfl aF)
    (ag (Bh rfl (aT 0) rfl rfl)
    (ag (dm rfl (aT 1))
    (Rg.ay (Rg.jb (d := 22) rfl kr rfl rfl iy rfl rfl)
    (Rg.ay (Rg.jb (d := 22) rfl kr rfl rfl iy rfl rfl)
    (ag (mr rfl (aT 2) (Rg.je _))
    Rg.bg)))))) ?_
   intro v3 V3 hG3 hv3 mf
   simp only [Rg.puts, Act.put, tA]
   have e5 : v3 5 = .bool true := hv3 5 (by decide)
   simp only [e5]
   have hO := hG3.1
   clear HO
   have HO := hide hO
   clear hO hG3 hv3 mf
   try clear e5
   have hr : t = ⟨0, 0, 0, 0, 3⟩ := by rw [aa HR]; exact if_neg (fun h => fx h.1)
   subst hr
   clear HR fx fy
   go_upto_region 4 with fail
   refine Rg.dz 1 30 (Rg.pick [ai zS]) (az w _ V3) gm [] kr rfl (Rg.fq.pick ⟨au _, trivial⟩) (az.begin (aa HO))
    (ag (ui uj rfl rfl rfl)
    Rg.bg) ?_
   intro v4 V4 hG4 hv4 ry
   simp only [Rg.puts, Act.put, tA]
   have hO := hG4.1
   refine jd hO 2 [] zS zS [] rfl mg rfl (show ai zS V4 (v4 0) from hv4 0 (by decide)) rfl rfl rfl ?_
   intro Ig gy hk0
   replace hO := gy
   clear gy
   clear HO
   have HO := hide hO
   clear hO hG4 hv4 ry hk0
   go_wp2_with fail
   exact yz Tryz.results92 qg rfl rfl (aa HO) rf rfl rfl
  ·
   go_upto_region 1 with fail
   refine Rg.dz 7 30 (Rg.pick [Rg.ax (.pointer (some ⟨w.heap.size, 0, none⟩)), ai [.r x], qa [Bb, Rg.ax (.bool false)], qa [Bb, Rg.ax (.bool false)], Bb, Rg.ax (.bool false), qf 23 zR W0.heap.size]) (az w _ W0) gm [6] kr rfl (Rg.fq.pick ⟨Rg.ae _, au _, ko ⟨(Bf), (Rg.ae _), trivial⟩, ko ⟨(Bf), (Rg.ae _), trivial⟩, Bf, Rg.ae _, qh _ _ _, trivial⟩) (az.begin (aa HO))
    (ag (zf (b := w.heap.size) (off := 0) rfl aF rfl rfl)
    (ag (fw ll ky (aT 0) [] [.r x] [.r y])
    (ag (sc1 Tryz.func102 (aT 1) (fun W v0 hG h0 => Ox fx h0))
    (ag (dm rfl (aT 2))
    (ag (ma (ts := [Bb, Rg.ax (.bool false)]) rfl (aT 3) (of_decide_eq_true rfl) rfl)
    (ag (ma (ts := [Bb, Rg.ax (.bool false)]) rfl (aT 3) (of_decide_eq_true rfl) rfl)
    (ag (si Hq rfl az.step az.size rfl (uw (by intro j hj; simp at hj; (repeat' (first | (rcases hj with rfl | hj))) <;> first | (subst hj; exact ⟨_, _, _, rfl⟩) | exact ⟨_, _, _, rfl⟩)))
    Rg.bg))))))) ?_
   intro v1 V1 hG1 hv1 hne1
   simp only [Rg.puts, Act.put, tA]
   have e5 : v1 5 = .bool false := hv1 5 (by decide)
   obtain ⟨Zj, e6, xg, Ar⟩ := (show qf 23 zR W0.heap.size V1 (v1 6) from hv1 6 (by decide))
   simp only [e5, e6]
   have hO := hG1.1
   replace hO := Own.add (aa HO) hG1.2 xg Ar
   clear xg Ar
   obtain ⟨Zq, Zu, hy4⟩ := (show Bb V1 (v1 4) from hv1 4 (by decide))
   refine jd hO 0 [] zR [iv Zq, iv Zu] [] rfl Di rfl (show ai [iv Zq, iv Zu] V1 (v1 4) from hy4) rfl rfl rfl ?_
   intro uo gy hk0
   replace hO := gy
   clear gy
   clear HO
   have HO := hide hO
   clear hO hG1 hv1 hne1 hk0
   try clear e5 e6
   go_upto_region 2 with fail
   refine Rg.dz 7 30 (Rg.pick [Rg.ax (.pointer (some ⟨w.heap.size, 4, none⟩)), ai [.r y], qa [Bb, Rg.ax (.bool false)], qa [Bb, Rg.ax (.bool false)], Bb, Rg.ax (.bool false), qf 23 zR uo.heap.size]) (az w _ uo) gm [6] kr rfl (Rg.fq.pick ⟨Rg.ae _, au _, ko ⟨(Bf), (Rg.ae _), trivial⟩, ko ⟨(Bf), (Rg.ae _), trivial⟩, Bf, Rg.ae _, qh _ _ _, trivial⟩) (az.begin (aa HO))
    (ag (xm (b := w.heap.size) (off := 0) rfl aF rfl rfl)
    (ag (fw ll rf (aT 0) [.r x] [.r y] [])
    (ag (sc1 Tryz.func102 (aT 1) (fun W v0 hG h0 => Ox fy h0))
    (ag (dm rfl (aT 2))
    (ag (ma (ts := [Bb, Rg.ax (.bool false)]) rfl (aT 3) (of_decide_eq_true rfl) rfl)
    (ag (ma (ts := [Bb, Rg.ax (.bool false)]) rfl (aT 3) (of_decide_eq_true rfl) rfl)
    (ag (si Hq rfl az.step az.size rfl (uw (by intro j hj; simp at hj; (repeat' (first | (rcases hj with rfl | hj))) <;> first | (subst hj; exact ⟨_, _, _, rfl⟩) | exact ⟨_, _, _, rfl⟩)))
    Rg.bg))))))) ?_
   intro v2 V2 hG2 hv2 hne2
   simp only [Rg.puts, Act.put, tA]
   have e5 : v2 5 = .bool false := hv2 5 (by decide)
   obtain ⟨anc, e6, xg, Ar⟩ := (show qf 23 zR uo.heap.size V2 (v2 6) from hv2 6 (by decide))
   simp only [e5, e6]
   have hO := hG2.1
   replace hO := Own.add (aa HO) hG2.2 xg Ar
   clear xg Ar
   obtain ⟨Zp, Zt, hy4⟩ := (show Bb V2 (v2 4) from hv2 4 (by decide))
   refine jd hO 0 [] zR [iv Zp, iv Zt] [] rfl Di rfl (show ai [iv Zp, iv Zt] V2 (v2 4) from hy4) rfl rfl rfl ?_
   intro yg gy hk0
   replace hO := gy
   clear gy
   clear HO
   have HO := hide hO
   clear hO hG2 hv2 hne2 hk0
   try clear e5 e6
   go_upto_region 3 with fail
   refine Rg.dz 6 30 (Rg.pick [Rg.ax (.bool false), Rg.ax (.bool true), Rg.ax (.bool true), Rg.ax undef, Rg.ax undef, Rg.ax (.bool true)]) (az w _ yg) gm [] kr rfl (Rg.fq.pick ⟨Rg.ae _, Rg.ae _, Rg.ae _, Rg.ae _, Rg.ae _, Rg.ae _, trivial⟩) (az.begin (aa HO))
    (ag (dm rfl aF)
    (ag (Bh rfl (aT 0) rfl rfl)
    (ag (dm rfl (aT 1))
    (Rg.ay (Rg.jb (d := 22) rfl kr rfl rfl iy rfl rfl)
    (Rg.ay (Rg.jb (d := 22) rfl kr rfl rfl iy rfl rfl)
    (ag (mr rfl (aT 2) (Rg.je _))
    Rg.bg)))))) ?_
   intro v3 V3 hG3 hv3 mf
   simp only [Rg.puts, Act.put, tA]
   have e5 : v3 5 = .bool true := hv3 5 (by decide)
   simp only [e5]
   have hO := hG3.1
   clear HO
   have HO := hide hO
   clear hO hG3 hv3 mf
   try clear e5
   have hr : t = ⟨0, 0, 0, 0, 3⟩ := by rw [aa HR]; exact if_neg (fun h => fx h.1)
   subst hr
   clear HR fx fy
   go_upto_region 4 with fail
   refine Rg.dz 1 30 (Rg.pick [ai zS]) (az w _ V3) gm [] kr rfl (Rg.fq.pick ⟨au _, trivial⟩) (az.begin (aa HO))
    (ag (ui uj rfl rfl rfl)
    Rg.bg) ?_
   intro v4 V4 hG4 hv4 ry
   simp only [Rg.puts, Act.put, tA]
   have hO := hG4.1
   refine jd hO 2 [] zS zS [] rfl mg rfl (show ai zS V4 (v4 0) from hv4 0 (by decide)) rfl rfl rfl ?_
   intro Ig gy hk0
   replace hO := gy
   clear gy
   clear HO
   have HO := hide hO
   clear hO hG4 hv4 ry hk0
   go_wp2_with fail
   exact yz Tryz.results92 qg rfl rfl (aa HO) rf rfl rfl
end Sb

end Go.Proofs.YtjdnmdlnaoedoaaGreatDoor
namespace Go.Proofs.YtjdnmdlnaoedoaaGreatDoor
open Go.RowKit

namespace Sb
theorem Pg {K : Nat} : ∀ {l : List Rat} {x : Rat}, qd K x → (∀ y ∈ l, qd K y) → qd K (ku x l)
 | [], _, h, _ => h
 | y :: l, x, h, hl => by
  refine Pg (l := l) ?_ (fun z hz => hl z (List.mem_cons_of_mem _ hz))
  show qd K (if iw (y.num * x.den - x.num * y.den) < 0 then y else x)
  split
  ·
   exact hl y List.mem_cons_self
  ·
   exact h
theorem Ja {K : Nat} : ∀ {l : List Rat} {x : Rat}, qd K x → (∀ y ∈ l, qd K y) → qd K (jg x l)
 | [], _, h, _ => h
 | y :: l, x, h, hl => by
  refine Ja (l := l) ?_ (fun z hz => hl z (List.mem_cons_of_mem _ hz))
  show qd K (if 0 < iw (y.num * x.den - x.num * y.den) then y else x)
  split
  ·
   exact hl y List.mem_cons_self
  ·
   exact h
theorem Uq {n m : Nat} (h1 : n + 1 < m) (h2 : m ≤ 1000000) : wrap64 ((n : Int) + 1 + 1) = ((n + 1 + 1 : Nat) : Int) := (IntWalk.wrap64_in _ om).trans om
theorem Zw {n m : Nat} (h1 : n + 1 < m) (h2 : m ≤ 1000000) : Value.int .i64 (wrap64 ((n : Int) + 1 + 1)) = Value.int .i64 ((n + 1 + 1 : Nat) : Int) := by rw [Uq h1 h2]
theorem aai {n m : Nat} (h1 : n + 1 < m) : m - (intOf (Value.int .i64 ((n + 1 + 1 : Nat) : Int))).toNat < m - (intOf (Value.int .i64 ((n + 1 : Nat) : Int))).toNat := by
 simp only [intOf]; omega
theorem Gc : ∀ (l : List Rat), lsize (l.map .r) = 4 * l.length
 | [] => rfl
 | x :: l => by rw [List.map_cons, lsize, Gc l, List.length_cons]; simp [Leaf.size]; omega
theorem ayt {ρ : Operand → Value} {w : World} {d : Option Tmp} {x : Operand} {A : Option Addr} {m c : Nat} {ty : TypeId} {pos : String} {af : Array Edge} {gd : Option (Nat × Bool)} (h : ρ x = .slice A m c) :
  (execOp ρ { dst := d, op := .call { callee := .builtin .len, args := #[x], argTypes := #[154] }, type := ty, pos := pos, after := af, guard := gd }).run Tryz.prog w = .ok (.value (.int .i64 m)) w := by
 simp only [execOp, resolve, invoke, h, List.map_toArray, List.map_cons, List.map_nil]
 simp [go_sem, h, Builtin.len_]
theorem awo {Q : Exit → Act → World → Prop} {l : List Oper} {n : Nat} {T : Nat → World → Value → Prop} {G : World → Prop} {al : List Nat} {a0 : Act} {k d : Nat} {ty : TypeId} {pos : String} {af : Array Edge} {gd : Option (Nat × Bool)} {x : Operand} {A : Option Addr} {m c : Nat} (hal : al.contains k = false) (hx : Rg.ji l n T a0 k x (Rg.ax (.slice A m c))) (hT : T k = Rg.ax (.int .i64 m)) :
  Rg.Step Tryz.prog Q l n T G gm al a0 k { dst := some d, op := .call { callee := .builtin .len, args := #[x], argTypes := #[154] }, type := ty, pos := pos, after := af, guard := gd } := by
 intro a w hG hO hN
 exact pz (P := Tryz.prog) (ayt (hx a w hO hN)) ⟨_, rfl, hG, Below.refl _ _, by rw [hT]; rfl, fun h => by rw [hal] at h; cases h⟩
theorem Ub {x : Rat} {qs : List Rat} {K : Nat} (sx : qd K x) (sq : ∀ y ∈ qs, qd K y) (hm : (x :: qs).length ≤ 1000000) (w : World) (u0 : Value) (h0 : Qw 63 (x :: qs).length ((x :: qs).map .r) w u0) :
  Calls Tryz.prog 108 #[u0] w (il (ai [.r (ku x qs), .r (jg x qs)]) w) := by
 obtain ⟨b0, rfl, hbx⟩ := h0
 have Pz := hide sx
 have HSQ := hide sq
 have HLEN := hide hm
 have HBX := hide hbx
 clear sx sq hbx hm
 go_enter Tryz.func108, Tryz.ntmps108
 go_upto_region 1 with fail
 have hO := (Own.push (T := 100) (ls := zY) (cs := [.slice none 0 0, .bool false, .slice none 0 0, .bool false, .slice none 0 0, .bool false, .slice none 0 0, .bool false]) (Own.nil w) (gu.vs w [.slice none 0 0, .bool false, .slice none 0 0, .bool false, .slice none 0 0, .bool false, .slice none 0 0, .bool false] rfl) (w.heap.size) rfl)
 generalize w.alloc (.cells #[.slice none 0 0, .bool false, .slice none 0 0, .bool false, .slice none 0 0, .bool false, .slice none 0 0, .bool false] 100) = W0 at *
 have HO := hide hO
 clear hO
 go_upto_region 1 with fail
 go_upto_region 1 with fail
 refine Rg.ajo 9 45 (fun _ => 3) (Rg.pick [Rg.ax (.slice (some ⟨b0, 0, none⟩) (x :: qs).length (x :: qs).length), Rg.ax (.pointer (some ⟨b0, 0, none⟩)), ai [.r x], Rg.ax (.slice (some ⟨b0, 0, none⟩) (x :: qs).length (x :: qs).length), Rg.ax (.pointer (some ⟨b0, 0, none⟩)), ai [.r x], ai [.r x, .r x], Jd 100 8 W0.heap.size, Jf 100 [.r x, .r x] W0.heap.size]) (az w _ W0) (EN W0.heap.size 100 [.r x, .r x]) kr kr kr rfl (Rg.fq.pick ⟨(Km _), (Km _), (Db _), (Km _), (Km _), (Db _), (Db _), (aab), (acy), trivial⟩) (az.start (aa HO))
  (Rg.rz (Rg.zk rfl rfl (vv (dm rfl aF)))
   (Rg.rz (Rg.zk rfl rfl (vv (Gs (b := b0) (i := 0) (m := (x :: qs).length) rfl (aT 0) (Rg.je _) (by simp) rfl)))
   (Rg.rz (Rg.zk rfl rfl (vv (xk (b := b0) (off := 0) (TB := 63) (pre := []) (mid := [.r x]) (post := qs.map .r) ll rfl (aT 1) (fun W h => (aa HBX).below h.1.bel) rfl rfl rfl)))
   (Rg.rz (Rg.zk rfl rfl (vv (dm rfl aF)))
   (Rg.rz (Rg.zk rfl rfl (vv (Gs (b := b0) (i := 0) (m := (x :: qs).length) rfl (aT 3) (Rg.je _) (by simp) rfl)))
   (Rg.rz (Rg.zk rfl rfl (vv (xk (b := b0) (off := 0) (TB := 63) (pre := []) (mid := [.r x]) (post := qs.map .r) ll rfl (aT 4) (fun W h => (aa HBX).below h.1.bel) rfl rfl rfl)))
   (Rg.rz (Rg.zk rfl rfl (vv (xx ach rfl (aT 2) (aT 5) rfl rfl rfl)))
   (Rg.rz (Rg.zk rfl rfl (vv (afh bgd rfl rfl az.step az.size rfl)))
   (Rg.rz (afe (aa HO) Jh (aT 7) (aT 6) rfl rfl rfl)
   Rg.aaa))))))))) ?_
 intro v1 V1 hG1 hv1 hne1
 simp only [Rg.puts, Act.put, tA]
 have e0 : v1 0 = .slice (some ⟨b0, 0, none⟩) (x :: qs).length (x :: qs).length := hv1 0 (by decide)
 have e1 : v1 1 = .pointer (some ⟨b0, 0, none⟩) := hv1 1 (by decide)
 have e3 : v1 3 = .slice (some ⟨b0, 0, none⟩) (x :: qs).length (x :: qs).length := hv1 3 (by decide)
 have e4 : v1 4 = .pointer (some ⟨b0, 0, none⟩) := hv1 4 (by decide)
 have e97 : v1 8 = v1 7 := hne1 8 7 (by decide) (by decide) rfl rfl
 obtain ⟨Cz, e7, Kc, Qo⟩ := (show Jf 100 [.r x, .r x] W0.heap.size V1 (v1 8) from hv1 8 (by decide))
 rw [e97] at e7
 clear e97
 simp only [e0, e1, e3, e4, e7]
 have hO := Own.add (aa HO) hG1.2 Kc Qo
 clear Kc Qo
 clear HO
 have HO := hide hO
 clear hO hG1 hv1 hne1
 try clear e0 e1 e3 e4 e7
 go_upto_region 2 with fail
 refine Rg.dz 1 45 (Rg.pick [Rg.ax (.int .i64 1)]) (az w _ V1) gm [] kr rfl (Rg.fq.pick ⟨Rg.ae _, trivial⟩) (az.begin (aa HO))
  (ag (nz rfl (Rg.je _))
  Rg.bg) ?_
 intro v2 V2 hG2 hv2 hne2
 simp only [Rg.puts, Act.put, tA]
 have e0 : v2 0 = .int .i64 1 := hv2 0 (by decide)
 simp only [e0]
 have hO := hG2.1
 clear HO
 have HO := hide hO
 clear hO hG2 hv2 hne2
 try clear e0
 go_wp2_with fail
 go_loopw [4] (fun iv wr => ∃ q1 q2 : List Rat, qs = q1 ++ q2 ∧ iv = .int .i64 (((x :: q1).length : Nat) : Int) ∧ Hid (Own w [(Cz, 100, [.r (ku x q1), .r (jg x q1)]), (w.heap.size, 100, zY)] wr)) (fun iv _ => (x :: qs).length - (intOf iv).toNat)
 case atStart => exact ⟨[], qs, rfl, rfl, HO⟩
 case round =>
  obtain ⟨q1, q2, Dq, rfl, HO⟩ := hrel
  rcases q2 with _ | ⟨y, q2⟩
  ·
   have k1 : decide (((x :: q1).length : Int) < ((x :: qs).length : Int)) = false := decide_eq_false (by rw [Dq]; simp)
   rw [List.append_nil] at Dq
   obtain rfl : q1 = qs := Dq.symm
   go_upto_region 3 with fail
   refine Rg.dz 4 45 (Rg.pick [Rg.ax (.int .i64 ((x :: q1).length : Int)), Rg.ax (.slice (some ⟨b0, 0, none⟩) (x :: q1).length (x :: q1).length), Rg.ax (.int .i64 (((x :: q1).length : Nat) : Int)), Rg.ax (.bool false)]) (az w _ wr) gm [] kr rfl (Rg.fq.pick ⟨Rg.ae _, Rg.ae _, Rg.ae _, Rg.ae _, trivial⟩) (az.begin (aa HO))
    (ag (dm rfl aF)
    (ag (dm rfl aF)
    (ag (awo rfl (aT 1) rfl)
    (ag (Aq rfl (aT 0) (aT 2) rfl k1)
    Rg.bg)))) ?_
   intro v3 V3 hG3 hv3 mf
   simp only [Rg.puts, Act.put, tA]
   have e3 : v3 3 = .bool false := hv3 3 (by decide)
   simp only [e3]
   have hO := hG3.1
   clear HO
   have HO := hide hO
   clear hO hG3 hv3 mf
   try clear e3
   go_upto_region 9 with fail
   refine Rg.dz 1 45 (Rg.pick [ai [.r (ku x q1), .r (jg x q1)]]) (az w _ V3) gm [] kr rfl (Rg.fq.pick ⟨au _, trivial⟩) (az.begin (aa HO))
    (ag (fw afy me0 aF [] [.r (ku x q1), .r (jg x q1)] [])
    Rg.bg) ?_
   intro v4 V4 hG4 hv4 ry
   simp only [Rg.puts, Act.put, tA]
   have hO := hG4.1
   refine jd hO 1 [] zY [.r (ku x q1), .r (jg x q1)] [] rfl Jh rfl (show ai [.r (ku x q1), .r (jg x q1)] V4 (v4 0) from hv4 0 (by decide)) rfl rfl rfl ?_
   intro Ig gy hk0
   replace hO := gy
   clear gy
   clear HO
   have HO := hide hO
   clear hO hG4 hv4 ry hk0
   go_wp2_with fail
   exact xu Tryz.results108 Kv rfl (aa HO) ky rfl rfl
  ·
   have k1 : decide (((x :: q1).length : Int) < ((x :: qs).length : Int)) = true := decide_eq_true (by rw [Dq]; simp; omega)
   have vo := hide (show (x :: q1).length < (x :: qs).length by rw [Dq]; simp)
   have Ip := hide Dq
   have HY := hide ((aa HSQ) y (by rw [Dq]; simp))
   have Lf := hide (fun z (hz : z ∈ q1) => (aa HSQ) z (by rw [Dq]; exact List.mem_append_left _ hz))
   have hB := (aa HBX)
   rw [Dq, List.map_cons, List.map_append, List.map_cons] at hB
   have HB := hide (show Ce w b0 63 ((x :: q1).map .r ++ ([.r y] ++ q2.map .r)) from hB)
   clear hB Dq
   go_upto_region 3 with fail
   refine Rg.dz 4 45 (Rg.pick [Rg.ax (.int .i64 ((x :: q1).length : Int)), Rg.ax (.slice (some ⟨b0, 0, none⟩) (x :: qs).length (x :: qs).length), Rg.ax (.int .i64 (((x :: qs).length : Nat) : Int)), Rg.ax (.bool true)]) (az w _ wr) gm [] kr rfl (Rg.fq.pick ⟨Rg.ae _, Rg.ae _, Rg.ae _, Rg.ae _, trivial⟩) (az.begin (aa HO))
    (ag (dm rfl aF)
    (ag (dm rfl aF)
    (ag (awo rfl (aT 1) rfl)
    (ag (Aq rfl (aT 0) (aT 2) rfl k1)
    Rg.bg)))) ?_
   intro v3 V3 hG3 hv3 mf
   simp only [Rg.puts, Act.put, tA]
   have e3 : v3 3 = .bool true := hv3 3 (by decide)
   simp only [e3]
   have hO := hG3.1
   clear HO
   have HO := hide hO
   clear hO hG3 hv3 mf
   try clear e3
   clear k1
   by_cases g1 : iw (y.num * (ku x q1).den - (ku x q1).num * y.den) < 0
   ·
    have k2 : decide (iw (y.num * (ku x q1).den - (ku x q1).num * y.den) < 0) = true := decide_eq_true g1
    have hm : ku x (q1 ++ [y]) = y := by rw [Qm, if_pos g1]
    have HM := hide hm
    clear g1 hm
    go_upto_region 5 with fail
    refine Rg.region 8 45 (Rg.pick [Rg.ax (.slice (some ⟨b0, 0, none⟩) (x :: qs).length (x :: qs).length), Rg.ax (.int .i64 ((x :: q1).length : Int)), Rg.ax (.pointer (some ⟨b0, 4 * (x :: q1).length, none⟩)), ai [.r y], Rg.ax (.pointer (some ⟨Cz, 0, none⟩)), ai [.r (ku x q1)], Rg.ax (.int .i64 (iw (y.num * (ku x q1).den - (ku x q1).num * y.den))), Rg.ax (.bool true)]) (az w _ V3) gm [] kr kr rfl (Rg.fq.pick ⟨Rg.ae _, Rg.ae _, Rg.ae _, au _, Rg.ae _, au _, Rg.ae _, Rg.ae _, trivial⟩) (az.start (aa HO))
     (ag (dm rfl aF)
     (ag (dm rfl aF)
     (ag (Gs (b := b0) (i := (x :: q1).length) (m := (x :: qs).length) rfl (aT 0) (aT 1) (aa vo) rfl)
     (ag (xk (b := b0) (off := 4 * (x :: q1).length) (TB := 63) (pre := (x :: q1).map .r) (mid := [.r y]) (post := q2.map .r) ll rfl (aT 2) (fun W h => (aa HB).below h.1.bel) (Gc _) rfl rfl)
     (ag (zf (b := Cz) (off := 0) rfl aF rfl rfl)
     (ag (fw ll me0 (aT 4) [] [.r (ku x q1)] [.r (jg x q1)])
     (ag (sc2 Tryz.func71 (aT 3) (aT 5) (fun W v0 v1 hG h0 h1 => Hg (aa HY) (Pg (aa Pz) (aa Lf)) h0 h1))
     (ag (Aq rfl (aT 6) (Rg.je _) rfl k2)
     Rg.bg)))))))) ?_
    intro v4 V4 hG4 hv4 ry
    simp only [Rg.puts, Act.put, tA]
    have e7 : v4 7 = .bool true := hv4 7 (by decide)
    simp only [e7]
    have hO := hG4.1
    clear HO
    have HO := hide hO
    clear hO hG4 hv4 ry
    try clear e7
    clear k2
    go_upto_region 6 with fail
    refine Rg.dz 5 45 (Rg.pick [Rg.ax (.slice (some ⟨b0, 0, none⟩) (x :: qs).length (x :: qs).length), Rg.ax (.int .i64 ((x :: q1).length : Int)), Rg.ax (.pointer (some ⟨b0, 4 * (x :: q1).length, none⟩)), ai [.r y], Rg.ax (.pointer (some ⟨Cz, 0, none⟩))]) (az w _ V4) gm [] kr rfl (Rg.fq.pick ⟨Rg.ae _, Rg.ae _, Rg.ae _, au _, Rg.ae _, trivial⟩) (az.begin (aa HO))
     (ag (dm rfl aF)
     (ag (dm rfl aF)
     (ag (Gs (b := b0) (i := (x :: q1).length) (m := (x :: qs).length) rfl (aT 0) (aT 1) (aa vo) rfl)
     (ag (xk (b := b0) (off := 4 * (x :: q1).length) (TB := 63) (pre := (x :: q1).map .r) (mid := [.r y]) (post := q2.map .r) ll rfl (aT 2) (fun W h => (aa HB).below h.1.bel) (Gc _) rfl rfl)
     (ag (zf (b := Cz) (off := 0) rfl aF rfl rfl)
     Rg.bg))))) ?_
    intro v5 V5 xq hv5 hne5
    simp only [Rg.puts, Act.put, tA]
    have e4 : v5 4 = .pointer (some ⟨Cz, 0, none⟩) := hv5 4 (by decide)
    simp only [e4]
    have hO := xq.1
    refine jd hO 0 [] [.r (ku x q1)] [.r y] [.r (jg x q1)] rfl Bp rfl (show ai [.r y] V5 (v5 3) from hv5 3 (by decide)) rfl rfl rfl ?_
    intro Ld gy hk0
    replace hO := gy
    clear gy
    clear HO
    have HO := hide hO
    clear hO xq hv5 hne5 hk0
    try clear e4
    by_cases g3 : 0 < iw (y.num * (jg x q1).den - (jg x q1).num * y.den)
    ·
     have k3 : decide (0 < iw (y.num * (jg x q1).den - (jg x q1).num * y.den)) = true := decide_eq_true g3
     have hx : jg x (q1 ++ [y]) = y := by rw [Fe, if_pos g3]
     have HX := hide hx
     clear g3 hx
     go_upto_region 7 with fail
     refine Rg.region 8 45 (Rg.pick [Rg.ax (.slice (some ⟨b0, 0, none⟩) (x :: qs).length (x :: qs).length), Rg.ax (.int .i64 ((x :: q1).length : Int)), Rg.ax (.pointer (some ⟨b0, 4 * (x :: q1).length, none⟩)), ai [.r y], Rg.ax (.pointer (some ⟨Cz, 4, none⟩)), ai [.r (jg x q1)], Rg.ax (.int .i64 (iw (y.num * (jg x q1).den - (jg x q1).num * y.den))), Rg.ax (.bool true)]) (az w _ Ld) gm [] kr kr rfl (Rg.fq.pick ⟨Rg.ae _, Rg.ae _, Rg.ae _, au _, Rg.ae _, au _, Rg.ae _, Rg.ae _, trivial⟩) (az.start (aa HO))
      (ag (dm rfl aF)
      (ag (dm rfl aF)
      (ag (Gs (b := b0) (i := (x :: q1).length) (m := (x :: qs).length) rfl (aT 0) (aT 1) (aa vo) rfl)
      (ag (xk (b := b0) (off := 4 * (x :: q1).length) (TB := 63) (pre := (x :: q1).map .r) (mid := [.r y]) (post := q2.map .r) ll rfl (aT 2) (fun W h => (aa HB).below h.1.bel) (Gc _) rfl rfl)
      (ag (xm (b := Cz) (off := 0) rfl aF rfl rfl)
      (ag (fw ll me0 (aT 4) [.r y] [.r (jg x q1)] [])
      (ag (sc2 Tryz.func71 (aT 3) (aT 5) (fun W v0 v1 hG h0 h1 => Hg (aa HY) (Ja (aa Pz) (aa Lf)) h0 h1))
      (ag (Bj rfl (aT 6) (Rg.je _) rfl k3)
      Rg.bg)))))))) ?_
     intro v6 V6 Fh hv6 Gv
     simp only [Rg.puts, Act.put, tA]
     have e7 : v6 7 = .bool true := hv6 7 (by decide)
     simp only [e7]
     have hO := Fh.1
     clear HO
     have HO := hide hO
     clear hO Fh hv6 Gv
     try clear e7
     clear k3
     go_upto_region 8 with fail
     refine Rg.dz 5 45 (Rg.pick [Rg.ax (.slice (some ⟨b0, 0, none⟩) (x :: qs).length (x :: qs).length), Rg.ax (.int .i64 ((x :: q1).length : Int)), Rg.ax (.pointer (some ⟨b0, 4 * (x :: q1).length, none⟩)), ai [.r y], Rg.ax (.pointer (some ⟨Cz, 4, none⟩))]) (az w _ V6) gm [] kr rfl (Rg.fq.pick ⟨Rg.ae _, Rg.ae _, Rg.ae _, au _, Rg.ae _, trivial⟩) (az.begin (aa HO))
      (ag (dm rfl aF)
      (ag (dm rfl aF)
      (ag (Gs (b := b0) (i := (x :: q1).length) (m := (x :: qs).length) rfl (aT 0) (aT 1) (aa vo) rfl)
      (ag (xk (b := b0) (off := 4 * (x :: q1).length) (TB := 63) (pre := (x :: q1).map .r) (mid := [.r y]) (post := q2.map .r) ll rfl (aT 2) (fun W h => (aa HB).below h.1.bel) (Gc _) rfl rfl)
      (ag (xm (b := Cz) (off := 0) rfl aF rfl rfl)
      Rg.bg))))) ?_
     intro v7 V7 hG7 hv7 ags
     simp only [Rg.puts, Act.put, tA]
     have e4 : v7 4 = .pointer (some ⟨Cz, 4, none⟩) := hv7 4 (by decide)
     simp only [e4]
     have hO := hG7.1
     refine jd hO 0 [.r y] [.r (jg x q1)] [.r y] [] rfl Bp rfl (show ai [.r y] V7 (v7 3) from hv7 3 (by decide)) rfl rfl rfl ?_
     intro beu gy hk0
     replace hO := gy
     clear gy
     clear HO
     have HO := hide hO
     clear hO hG7 hv7 ags hk0
     try clear e4
     go_wp2_with fail
     go_roundw
     case rel =>
      have h1 : q1.length + 1 < (x :: qs).length := aa vo
      have h2 := aa HLEN
      refine ⟨q1 ++ [y], q2, by rw [aa Ip]; simp, by rw [show (x :: (q1 ++ [y])).length = q1.length + 1 + 1 by simp]; exact Zw h1 h2, hide ?_⟩
      rw [aa HM, aa HX]
      exact aa HO
     case measure =>
      have h1 : q1.length + 1 < (x :: qs).length := aa vo
      have h2 := aa HLEN
      clear HO Ip HB
      rw [Uq h1 h2]
      exact aai h1
    ·
     have k3 : decide (0 < iw (y.num * (jg x q1).den - (jg x q1).num * y.den)) = false := decide_eq_false g3
     have hx : jg x (q1 ++ [y]) = jg x q1 := by rw [Fe, if_neg g3]
     have HX := hide hx
     clear g3 hx
     go_upto_region 7 with fail
     refine Rg.region 8 45 (Rg.pick [Rg.ax (.slice (some ⟨b0, 0, none⟩) (x :: qs).length (x :: qs).length), Rg.ax (.int .i64 ((x :: q1).length : Int)), Rg.ax (.pointer (some ⟨b0, 4 * (x :: q1).length, none⟩)), ai [.r y], Rg.ax (.pointer (some ⟨Cz, 4, none⟩)), ai [.r (jg x q1)], Rg.ax (.int .i64 (iw (y.num * (jg x q1).den - (jg x q1).num * y.den))), Rg.ax (.bool false)]) (az w _ Ld) gm [] kr kr rfl (Rg.fq.pick ⟨Rg.ae _, Rg.ae _, Rg.ae _, au _, Rg.ae _, au _, Rg.ae _, Rg.ae _, trivial⟩) (az.start (aa HO))
      (ag (dm rfl aF)
      (ag (dm rfl aF)
      (ag (Gs (b := b0) (i := (x :: q1).length) (m := (x :: qs).length) rfl (aT 0) (aT 1) (aa vo) rfl)
      (ag (xk (b := b0) (off := 4 * (x :: q1).length) (TB := 63) (pre := (x :: q1).map .r) (mid := [.r y]) (post := q2.map .r) ll rfl (aT 2) (fun W h => (aa HB).below h.1.bel) (Gc _) rfl rfl)
      (ag (xm (b := Cz) (off := 0) rfl aF rfl rfl)
      (ag (fw ll me0 (aT 4) [.r y] [.r (jg x q1)] [])
      (ag (sc2 Tryz.func71 (aT 3) (aT 5) (fun W v0 v1 hG h0 h1 => Hg (aa HY) (Ja (aa Pz) (aa Lf)) h0 h1))
      (ag (Bj rfl (aT 6) (Rg.je _) rfl k3)
      Rg.bg)))))))) ?_
     intro v6 V6 Fh hv6 Gv
     simp only [Rg.puts, Act.put, tA]
     have e7 : v6 7 = .bool false := hv6 7 (by decide)
     simp only [e7]
     have hO := Fh.1
     clear HO
     have HO := hide hO
     clear hO Fh hv6 Gv
     try clear e7
     clear k3
     go_wp2_with fail
     go_roundw
     case rel =>
      have h1 : q1.length + 1 < (x :: qs).length := aa vo
      have h2 := aa HLEN
      refine ⟨q1 ++ [y], q2, by rw [aa Ip]; simp, by rw [show (x :: (q1 ++ [y])).length = q1.length + 1 + 1 by simp]; exact Zw h1 h2, hide ?_⟩
      rw [aa HM, aa HX]
      exact aa HO
     case measure =>
      have h1 : q1.length + 1 < (x :: qs).length := aa vo
      have h2 := aa HLEN
      clear HO Ip HB
      rw [Uq h1 h2]
      exact aai h1
   ·
    have k2 : decide (iw (y.num * (ku x q1).den - (ku x q1).num * y.den) < 0) = false := decide_eq_false g1
    have hm : ku x (q1 ++ [y]) = ku x q1 := by rw [Qm, if_neg g1]
    have HM := hide hm
    clear g1 hm
    go_upto_region 5 with fail
    refine Rg.region 8 45 (Rg.pick [Rg.ax (.slice (some ⟨b0, 0, none⟩) (x :: qs).length (x :: qs).length), Rg.ax (.int .i64 ((x :: q1).length : Int)), Rg.ax (.pointer (some ⟨b0, 4 * (x :: q1).length, none⟩)), ai [.r y], Rg.ax (.pointer (some ⟨Cz, 0, none⟩)), ai [.r (ku x q1)], Rg.ax (.int .i64 (iw (y.num * (ku x q1).den - (ku x q1).num * y.den))), Rg.ax (.bool false)]) (az w _ V3) gm [] kr kr rfl (Rg.fq.pick ⟨Rg.ae _, Rg.ae _, Rg.ae _, au _, Rg.ae _, au _, Rg.ae _, Rg.ae _, trivial⟩) (az.start (aa HO))
     (ag (dm rfl aF)
     (ag (dm rfl aF)
     (ag (Gs (b := b0) (i := (x :: q1).length) (m := (x :: qs).length) rfl (aT 0) (aT 1) (aa vo) rfl)
     (ag (xk (b := b0) (off := 4 * (x :: q1).length) (TB := 63) (pre := (x :: q1).map .r) (mid := [.r y]) (post := q2.map .r) ll rfl (aT 2) (fun W h => (aa HB).below h.1.bel) (Gc _) rfl rfl)
     (ag (zf (b := Cz) (off := 0) rfl aF rfl rfl)
     (ag (fw ll me0 (aT 4) [] [.r (ku x q1)] [.r (jg x q1)])
     (ag (sc2 Tryz.func71 (aT 3) (aT 5) (fun W v0 v1 hG h0 h1 => Hg (aa HY) (Pg (aa Pz) (aa Lf)) h0 h1))
     (ag (Aq rfl (aT 6) (Rg.je _) rfl k2)
     Rg.bg)))))))) ?_
    intro v4 V4 hG4 hv4 ry
    simp only [Rg.puts, Act.put, tA]
    have e7 : v4 7 = .bool false := hv4 7 (by decide)
    simp only [e7]
    have hO := hG4.1
    clear HO
    have HO := hide hO
    clear hO hG4 hv4 ry
    try clear e7
    clear k2
    by_cases g3 : 0 < iw (y.num * (jg x q1).den - (jg x q1).num * y.den)
    ·
     have k3 : decide (0 < iw (y.num * (jg x q1).den - (jg x q1).num * y.den)) = true := decide_eq_true g3
     have hx : jg x (q1 ++ [y]) = y := by rw [Fe, if_pos g3]
     have HX := hide hx
     clear g3 hx
     go_upto_region 7 with fail
     refine Rg.region 8 45 (Rg.pick [Rg.ax (.slice (some ⟨b0, 0, none⟩) (x :: qs).length (x :: qs).length), Rg.ax (.int .i64 ((x :: q1).length : Int)), Rg.ax (.pointer (some ⟨b0, 4 * (x :: q1).length, none⟩)), ai [.r y], Rg.ax (.pointer (some ⟨Cz, 4, none⟩)), ai [.r (jg x q1)], Rg.ax (.int .i64 (iw (y.num * (jg x q1).den - (jg x q1).num * y.den))), Rg.ax (.bool true)]) (az w _ V4) gm [] kr kr rfl (Rg.fq.pick ⟨Rg.ae _, Rg.ae _, Rg.ae _, au _, Rg.ae _, au _, Rg.ae _, Rg.ae _, trivial⟩) (az.start (aa HO))
      (ag (dm rfl aF)
      (ag (dm rfl aF)
      (ag (Gs (b := b0) (i := (x :: q1).length) (m := (x :: qs).length) rfl (aT 0) (aT 1) (aa vo) rfl)
      (ag (xk (b := b0) (off := 4 * (x :: q1).length) (TB := 63) (pre := (x :: q1).map .r) (mid := [.r y]) (post := q2.map .r) ll rfl (aT 2) (fun W h => (aa HB).below h.1.bel) (Gc _) rfl rfl)
      (ag (xm (b := Cz) (off := 0) rfl aF rfl rfl)
      (ag (fw ll me0 (aT 4) [.r (ku x q1)] [.r (jg x q1)] [])
      (ag (sc2 Tryz.func71 (aT 3) (aT 5) (fun W v0 v1 hG h0 h1 => Hg (aa HY) (Ja (aa Pz) (aa Lf)) h0 h1))
      (ag (Bj rfl (aT 6) (Rg.je _) rfl k3)
      Rg.bg)))))))) ?_
     intro v5 V5 xq hv5 hne5
     simp only [Rg.puts, Act.put, tA]
     have e7 : v5 7 = .bool true := hv5 7 (by decide)
     simp only [e7]
     have hO := xq.1
     clear HO
     have HO := hide hO
     clear hO xq hv5 hne5
     try clear e7
     clear k3
     go_upto_region 8 with fail
     refine Rg.dz 5 45 (Rg.pick [Rg.ax (.slice (some ⟨b0, 0, none⟩) (x :: qs).length (x :: qs).length), Rg.ax (.int .i64 ((x :: q1).length : Int)), Rg.ax (.pointer (some ⟨b0, 4 * (x :: q1).length, none⟩)), ai [.r y], Rg.ax (.pointer (some ⟨Cz, 4, none⟩))]) (az w _ V5) gm [] kr rfl (Rg.fq.pick ⟨Rg.ae _, Rg.ae _, Rg.ae _, au _, Rg.ae _, trivial⟩) (az.begin (aa HO))
      (ag (dm rfl aF)
      (ag (dm rfl aF)
      (ag (Gs (b := b0) (i := (x :: q1).length) (m := (x :: qs).length) rfl (aT 0) (aT 1) (aa vo) rfl)
      (ag (xk (b := b0) (off := 4 * (x :: q1).length) (TB := 63) (pre := (x :: q1).map .r) (mid := [.r y]) (post := q2.map .r) ll rfl (aT 2) (fun W h => (aa HB).below h.1.bel) (Gc _) rfl rfl)
      (ag (xm (b := Cz) (off := 0) rfl aF rfl rfl)
      Rg.bg))))) ?_
     intro v6 V6 Fh hv6 Gv
     simp only [Rg.puts, Act.put, tA]
     have e4 : v6 4 = .pointer (some ⟨Cz, 4, none⟩) := hv6 4 (by decide)
     simp only [e4]
     have hO := Fh.1
     refine jd hO 0 [.r (ku x q1)] [.r (jg x q1)] [.r y] [] rfl Bp rfl (show ai [.r y] V6 (v6 3) from hv6 3 (by decide)) rfl rfl rfl ?_
     intro avz gy hk0
     replace hO := gy
     clear gy
     clear HO
     have HO := hide hO
     clear hO Fh hv6 Gv hk0
     try clear e4
     go_wp2_with fail
     go_roundw
     case rel =>
      have h1 : q1.length + 1 < (x :: qs).length := aa vo
      have h2 := aa HLEN
      refine ⟨q1 ++ [y], q2, by rw [aa Ip]; simp, by rw [show (x :: (q1 ++ [y])).length = q1.length + 1 + 1 by simp]; exact Zw h1 h2, hide ?_⟩
      rw [aa HM, aa HX]
      exact aa HO
     case measure =>
      have h1 : q1.length + 1 < (x :: qs).length := aa vo
      have h2 := aa HLEN
      clear HO Ip HB
      rw [Uq h1 h2]
      exact aai h1
    ·
     have k3 : decide (0 < iw (y.num * (jg x q1).den - (jg x q1).num * y.den)) = false := decide_eq_false g3
     have hx : jg x (q1 ++ [y]) = jg x q1 := by rw [Fe, if_neg g3]
     have HX := hide hx
     clear g3 hx
     go_upto_region 7 with fail
     refine Rg.region 8 45 (Rg.pick [Rg.ax (.slice (some ⟨b0, 0, none⟩) (x :: qs).length (x :: qs).length), Rg.ax (.int .i64 ((x :: q1).length : Int)), Rg.ax (.pointer (some ⟨b0, 4 * (x :: q1).length, none⟩)), ai [.r y], Rg.ax (.pointer (some ⟨Cz, 4, none⟩)), ai [.r (jg x q1)], Rg.ax (.int .i64 (iw (y.num * (jg x q1).den - (jg x q1).num * y.den))), Rg.ax (.bool false)]) (az w _ V4) gm [] kr kr rfl (Rg.fq.pick ⟨Rg.ae _, Rg.ae _, Rg.ae _, au _, Rg.ae _, au _, Rg.ae _, Rg.ae _, trivial⟩) (az.start (aa HO))
      (ag (dm rfl aF)
      (ag (dm rfl aF)
      (ag (Gs (b := b0) (i := (x :: q1).length) (m := (x :: qs).length) rfl (aT 0) (aT 1) (aa vo) rfl)
      (ag (xk (b := b0) (off := 4 * (x :: q1).length) (TB := 63) (pre := (x :: q1).map .r) (mid := [.r y]) (post := q2.map .r) ll rfl (aT 2) (fun W h => (aa HB).below h.1.bel) (Gc _) rfl rfl)
      (ag (xm (b := Cz) (off := 0) rfl aF rfl rfl)
      (ag (fw ll me0 (aT 4) [.r (ku x q1)] [.r (jg x q1)] [])
      (ag (sc2 Tryz.func71 (aT 3) (aT 5) (fun W v0 v1 hG h0 h1 => Hg (aa HY) (Ja (aa Pz) (aa Lf)) h0 h1))
      (ag (Bj rfl (aT 6) (Rg.je _) rfl k3)
      Rg.bg)))))))) ?_
     intro v5 V5 xq hv5 hne5
     simp only [Rg.puts, Act.put, tA]
     have e7 : v5 7 = .bool false := hv5 7 (by decide)
     simp only [e7]
     have hO := xq.1
     clear HO
     have HO := hide hO
     clear hO xq hv5 hne5
     try clear e7
     clear k3
     go_wp2_with fail
     go_roundw
     case rel =>
      have h1 : q1.length + 1 < (x :: qs).length := aa vo
      have h2 := aa HLEN
      refine ⟨q1 ++ [y], q2, by rw [aa Ip]; simp, by rw [show (x :: (q1 ++ [y])).length = q1.length + 1 + 1 by simp]; exact Zw h1 h2, hide ?_⟩
      rw [aa HM, aa HX]
      exact aa HO
     case measure =>
      have h1 : q1.length + 1 < (x :: qs).length := aa vo
      have h2 := aa HLEN
      clear HO Ip HB
      rw [Uq h1 h2]
      exact aai h1
theorem avp {x y v : Rat} {K : Nat} (sx : qd K x) (sy : qd K y) (sv : qd K v) (w : World) (u0 : Value) (h0 : ai [.r x, .r y] w u0) (u1 : Value) (h1 : ai [.r v] w u1) :
  Calls Tryz.prog 90 #[u0, u1] w (il (Rg.ax (.bool (decide (iw (x.num * v.den - v.num * x.den) ≤ 0 ∧ 0 ≤ iw (y.num * v.den - v.num * y.den))))) w) := by
 obtain ⟨rr, hrr⟩ : ∃ rr, rr = decide (iw (x.num * v.den - v.num * x.den) ≤ 0 ∧ 0 ≤ iw (y.num * v.den - v.num * y.den)) := ⟨_, rfl⟩
 rw [← hrr]
 have HR := hide hrr
 have HS := hide (And.intro sx (And.intro sy sv))
 clear hrr sx sy sv
 obtain ⟨ru, c0a, rq, Ee, Mx, Mm, Mf, uy, vg, c0b, ve, Ff, Qx, Qr, Qn, ym, rfl, f0a, Aw⟩ := Wm h0
 obtain ⟨wu, c1a, wm, Gg, B1a, d1a, k1a, Dn, rfl, f1a⟩ := Ue h1
 go_enter Tryz.func90, Tryz.ntmps90
 go_upto_region 1 with fail
 have hO := (Own.push (T := 63) (ls := [.r v]) (cs := [.slice wu (List.length wm) c1a, .bool Gg, .slice B1a (List.length k1a) d1a, .bool Dn]) (Own.push (T := 100) (ls := [.r x, .r y]) (cs := [.slice ru (List.length rq) c0a, .bool Ee, .slice Mx (List.length Mf) Mm, .bool uy, .slice vg (List.length ve) c0b, .bool Ff, .slice Qx (List.length Qn) Qr, .bool ym]) (Own.nil w) (gu.r f0a (gu.r Aw rfl)) (w.heap.size) rfl) (((gu.r f1a rfl) : gu w [.r v] [.slice wu (List.length wm) c1a, .bool Gg, .slice B1a (List.length k1a) d1a, .bool Dn]).below (by repeat (first | exact Below.refl _ _ | refine jc ?_ _))) (w.heap.size + 1) (by simp only [World.size_alloc]))
 generalize (w.alloc (.cells #[.slice ru (List.length rq) c0a, .bool Ee, .slice Mx (List.length Mf) Mm, .bool uy, .slice vg (List.length ve) c0b, .bool Ff, .slice Qx (List.length Qn) Qr, .bool ym] 100)).alloc (.cells #[.slice wu (List.length wm) c1a, .bool Gg, .slice B1a (List.length k1a) d1a, .bool Dn] 63) = W0 at *
 have HO := hide hO
 clear hO
 by_cases g1 : iw (x.num * v.den - v.num * x.den) ≤ 0
 ·
  by_cases g2 : 0 ≤ iw (y.num * v.den - v.num * y.den)
  ·
   have k1 : decide (iw (x.num * v.den - v.num * x.den) ≤ 0) = true := decide_eq_true g1
   have k2 : decide (0 ≤ iw (y.num * v.den - v.num * y.den)) = true := decide_eq_true g2
   have hr : rr = true := by rw [aa HR]; exact decide_eq_true ⟨g1, g2⟩
   subst hr
   clear HR g1 g2
   go_upto_region 1 with fail
   refine Rg.dz 13 17 (Rg.pick [Rg.ax (.pointer (some ⟨w.heap.size, 0, none⟩)), ai [.r x], ai [.r v], Rg.ax (.int .i64 (iw (x.num * v.den - v.num * x.den))), Rg.ax (.bool true), Rg.ax (.bool true), Rg.ax (.pointer (some ⟨w.heap.size, 4, none⟩)), ai [.r y], ai [.r v], Rg.ax (.int .i64 (iw (y.num * v.den - v.num * y.den))), Rg.ax (.bool true), Rg.ax (.bool true), Rg.ax (.bool true)]) (az w _ W0) gm [] kr rfl (Rg.fq.pick ⟨Rg.ae _, au _, au _, Rg.ae _, Rg.ae _, Rg.ae _, Rg.ae _, au _, au _, Rg.ae _, Rg.ae _, Rg.ae _, Rg.ae _, trivial⟩) (az.begin (aa HO))
    (ag (zf (b := w.heap.size) (off := 0) rfl aF rfl rfl)
    (ag (fw ll ky (aT 0) [] [.r x] [.r y])
    (ag (fw ll me0 aF [] [.r v] [])
    (ag (sc2 Tryz.func71 (aT 1) (aT 2) (fun W v0 v1 hG h0 h1 => Hg (aa HS).1 (aa HS).2.2 h0 h1))
    (ag (Li rfl (aT 3) (Rg.je _) rfl k1)
    (ag (dm rfl (aT 4))
    (Rg.ay (Rg.fe (d := 10) rfl kr rfl (xm (b := w.heap.size) (off := 0) rfl aF rfl rfl))
    (Rg.ay (Rg.fe (d := 10) rfl kr rfl (fw ll ky (aT 6) [.r x] [.r y] []))
    (Rg.ay (Rg.fe (d := 10) rfl kr rfl (fw ll me0 aF [] [.r v] []))
    (Rg.ay (Rg.fe (d := 10) rfl kr rfl (yu Tryz.func71 kr rfl az.step (aT 7) (aT 8) (fun W v0 v1 hG h0 h1 => Hg (aa HS).2.1 (aa HS).2.2 h0 h1)))
    (Rg.ay (Rg.fe (d := 10) rfl kr rfl (awp rfl (aT 9) (Rg.je _) rfl k2))
    (ag (mr rfl (aT 5) (aT 10))
    (ag (nz rfl (aT 11))
    Rg.bg))))))))))))) ?_
   intro v1 V1 hG1 hv1 hne1
   simp only [Rg.puts, Act.put, tA]
   have e11 : v1 11 = .bool true := hv1 11 (by decide)
   have e12 : v1 12 = .bool true := hv1 12 (by decide)
   simp only [e11, e12]
   have hO := hG1.1
   clear HO
   have HO := hide hO
   clear hO hG1 hv1 hne1
   try clear e11 e12
   go_wp2_with fail
   exact Bn Tryz.results90 rfl (aa HO).bel rfl
  ·
   have k1 : decide (iw (x.num * v.den - v.num * x.den) ≤ 0) = true := decide_eq_true g1
   have k2 : decide (0 ≤ iw (y.num * v.den - v.num * y.den)) = false := decide_eq_false g2
   have hr : rr = false := by rw [aa HR]; exact decide_eq_false (fun h => g2 h.2)
   subst hr
   clear HR g1 g2
   go_upto_region 1 with fail
   refine Rg.dz 13 17 (Rg.pick [Rg.ax (.pointer (some ⟨w.heap.size, 0, none⟩)), ai [.r x], ai [.r v], Rg.ax (.int .i64 (iw (x.num * v.den - v.num * x.den))), Rg.ax (.bool true), Rg.ax (.bool true), Rg.ax (.pointer (some ⟨w.heap.size, 4, none⟩)), ai [.r y], ai [.r v], Rg.ax (.int .i64 (iw (y.num * v.den - v.num * y.den))), Rg.ax (.bool false), Rg.ax (.bool false), Rg.ax (.bool false)]) (az w _ W0) gm [] kr rfl (Rg.fq.pick ⟨Rg.ae _, au _, au _, Rg.ae _, Rg.ae _, Rg.ae _, Rg.ae _, au _, au _, Rg.ae _, Rg.ae _, Rg.ae _, Rg.ae _, trivial⟩) (az.begin (aa HO))
    (ag (zf (b := w.heap.size) (off := 0) rfl aF rfl rfl)
    (ag (fw ll ky (aT 0) [] [.r x] [.r y])
    (ag (fw ll me0 aF [] [.r v] [])
    (ag (sc2 Tryz.func71 (aT 1) (aT 2) (fun W v0 v1 hG h0 h1 => Hg (aa HS).1 (aa HS).2.2 h0 h1))
    (ag (Li rfl (aT 3) (Rg.je _) rfl k1)
    (ag (dm rfl (aT 4))
    (Rg.ay (Rg.fe (d := 10) rfl kr rfl (xm (b := w.heap.size) (off := 0) rfl aF rfl rfl))
    (Rg.ay (Rg.fe (d := 10) rfl kr rfl (fw ll ky (aT 6) [.r x] [.r y] []))
    (Rg.ay (Rg.fe (d := 10) rfl kr rfl (fw ll me0 aF [] [.r v] []))
    (Rg.ay (Rg.fe (d := 10) rfl kr rfl (yu Tryz.func71 kr rfl az.step (aT 7) (aT 8) (fun W v0 v1 hG h0 h1 => Hg (aa HS).2.1 (aa HS).2.2 h0 h1)))
    (Rg.ay (Rg.fe (d := 10) rfl kr rfl (awp rfl (aT 9) (Rg.je _) rfl k2))
    (ag (mr rfl (aT 5) (aT 10))
    (ag (nz rfl (aT 11))
    Rg.bg))))))))))))) ?_
   intro v1 V1 hG1 hv1 hne1
   simp only [Rg.puts, Act.put, tA]
   have e11 : v1 11 = .bool false := hv1 11 (by decide)
   have e12 : v1 12 = .bool false := hv1 12 (by decide)
   simp only [e11, e12]
   have hO := hG1.1
   clear HO
   have HO := hide hO
   clear hO hG1 hv1 hne1
   try clear e11 e12
   go_wp2_with fail
   exact Bn Tryz.results90 rfl (aa HO).bel rfl
 ·
  have k1 : decide (iw (x.num * v.den - v.num * x.den) ≤ 0) = false := decide_eq_false g1
  have hr : rr = false := by rw [aa HR]; exact decide_eq_false (fun h => g1 h.1)
  subst hr
  clear HR g1
  go_upto_region 1 with fail
  refine Rg.dz 13 17 (Rg.pick [Rg.ax (.pointer (some ⟨w.heap.size, 0, none⟩)), ai [.r x], ai [.r v], Rg.ax (.int .i64 (iw (x.num * v.den - v.num * x.den))), Rg.ax (.bool false), Rg.ax (.bool false), Rg.ax undef, Rg.ax undef, Rg.ax undef, Rg.ax undef, Rg.ax undef, Rg.ax (.bool false), Rg.ax (.bool false)]) (az w _ W0) gm [] kr rfl (Rg.fq.pick ⟨Rg.ae _, au _, au _, Rg.ae _, Rg.ae _, Rg.ae _, Rg.ae _, Rg.ae _, Rg.ae _, Rg.ae _, Rg.ae _, Rg.ae _, Rg.ae _, trivial⟩) (az.begin (aa HO))
   (ag (zf (b := w.heap.size) (off := 0) rfl aF rfl rfl)
   (ag (fw ll ky (aT 0) [] [.r x] [.r y])
   (ag (fw ll me0 aF [] [.r v] [])
   (ag (sc2 Tryz.func71 (aT 1) (aT 2) (fun W v0 v1 hG h0 h1 => Hg (aa HS).1 (aa HS).2.2 h0 h1))
   (ag (Li rfl (aT 3) (Rg.je _) rfl k1)
   (ag (dm rfl (aT 4))
   (Rg.ay (Rg.jb (d := 10) rfl kr rfl rfl iy rfl rfl)
   (Rg.ay (Rg.jb (d := 10) rfl kr rfl rfl iy rfl rfl)
   (Rg.ay (Rg.jb (d := 10) rfl kr rfl rfl iy rfl rfl)
   (Rg.ay (Rg.jb (d := 10) rfl kr rfl rfl iy rfl rfl)
   (Rg.ay (Rg.jb (d := 10) rfl kr rfl rfl iy rfl rfl)
   (ag (qi rfl (aT 5) (Rg.je _))
   (ag (nz rfl (aT 11))
   Rg.bg))))))))))))) ?_
  intro v1 V1 hG1 hv1 hne1
  simp only [Rg.puts, Act.put, tA]
  have e11 : v1 11 = .bool false := hv1 11 (by decide)
  have e12 : v1 12 = .bool false := hv1 12 (by decide)
  simp only [e11, e12]
  have hO := hG1.1
  clear HO
  have HO := hide hO
  clear hO hG1 hv1 hne1
  try clear e11 e12
  go_wp2_with fail
  exact Bn Tryz.results90 rfl (aa HO).bel rfl
theorem bei {x y v : Rat} {K : Nat} (sx : Sm K x) (sy : Sm K y) (sv : Sm K v) (w : World) (u0 : Value) (h0 : ai [.q x, .q y] w u0) (u1 : Value) (h1 : ai [.q v] w u1) :
  Calls Tryz.prog 109 #[u0, u1] w (il (Rg.ax (.bool (decide (iw (x.num * v.den - v.num * x.den) ≤ 0 ∧ iw (v.num * y.den - y.num * v.den) ≤ 0)))) w) := by
 obtain ⟨rr, hrr⟩ : ∃ rr, rr = decide (iw (x.num * v.den - v.num * x.den) ≤ 0 ∧ iw (v.num * y.den - y.num * v.den) ≤ 0) := ⟨_, rfl⟩
 rw [← hrr]
 have HR := hide hrr
 have HS := hide (And.intro sx (And.intro sy sv))
 clear hrr sx sy sv
 obtain ⟨zz, uy, ru, c0a, rq, Bv, ym, vg, c0b, ve, Lp, Lv, Nb, Mq, Me, Lm, Lu, Na, Mo, Md, rfl, f0a, Aw, Vz, Vy⟩ := Px h0
 obtain ⟨Cq, Dn, wu, c1a, wm, Eu, n1b, zt, zq, zo, rfl, f1a, Ps⟩ := Hu h1
 go_enter Tryz.func109, Tryz.ntmps109
 go_upto_region 1 with fail
 have hO := (Own.push (T := 74) (ls := [.q v]) (cs := [.int .i64 Cq, .bool Dn, .slice wu (List.length wm) c1a, .int .i64 Eu, .bool n1b, .slice zt (List.length zo) zq]) (Own.push (T := 108) (ls := [.q x, .q y]) (cs := [.int .i64 zz, .bool uy, .slice ru (List.length rq) c0a, .int .i64 Bv, .bool ym, .slice vg (List.length ve) c0b, .int .i64 Lp, .bool Lv, .slice Nb (List.length Me) Mq, .int .i64 Lm, .bool Lu, .slice Na (List.length Md) Mo]) (Own.nil w) (gu.q f0a Aw (gu.q Vz Vy rfl)) (w.heap.size) rfl) (((gu.q f1a Ps rfl) : gu w [.q v] [.int .i64 Cq, .bool Dn, .slice wu (List.length wm) c1a, .int .i64 Eu, .bool n1b, .slice zt (List.length zo) zq]).below (by repeat (first | exact Below.refl _ _ | refine jc ?_ _))) (w.heap.size + 1) (by simp only [World.size_alloc]))
 generalize (w.alloc (.cells #[.int .i64 zz, .bool uy, .slice ru (List.length rq) c0a, .int .i64 Bv, .bool ym, .slice vg (List.length ve) c0b, .int .i64 Lp, .bool Lv, .slice Nb (List.length Me) Mq, .int .i64 Lm, .bool Lu, .slice Na (List.length Md) Mo] 108)).alloc (.cells #[.int .i64 Cq, .bool Dn, .slice wu (List.length wm) c1a, .int .i64 Eu, .bool n1b, .slice zt (List.length zo) zq] 74) = W0 at *
 have HO := hide hO
 clear hO
 by_cases g1 : iw (x.num * v.den - v.num * x.den) ≤ 0
 ·
  by_cases g2 : iw (v.num * y.den - y.num * v.den) ≤ 0
  ·
   have k1 : decide (iw (x.num * v.den - v.num * x.den) ≤ 0) = true := decide_eq_true g1
   have k2 : decide (iw (v.num * y.den - y.num * v.den) ≤ 0) = true := decide_eq_true g2
   have hr : rr = true := by rw [aa HR]; exact decide_eq_true ⟨g1, g2⟩
   subst hr
   clear HR g1 g2
   go_upto_region 1 with fail
   refine Rg.dz 13 17 (Rg.pick [Rg.ax (.pointer (some ⟨w.heap.size, 0, none⟩)), ai [.q x], ai [.q v], Rg.ax (.int .i64 (iw (x.num * v.den - v.num * x.den))), Rg.ax (.bool true), Rg.ax (.bool true), ai [.q v], Rg.ax (.pointer (some ⟨w.heap.size, 6, none⟩)), ai [.q y], Rg.ax (.int .i64 (iw (v.num * y.den - y.num * v.den))), Rg.ax (.bool true), Rg.ax (.bool true), Rg.ax (.bool true)]) (az w _ W0) gm [] kr rfl (Rg.fq.pick ⟨Rg.ae _, au _, au _, Rg.ae _, Rg.ae _, Rg.ae _, au _, Rg.ae _, au _, Rg.ae _, Rg.ae _, Rg.ae _, Rg.ae _, trivial⟩) (az.begin (aa HO))
    (ag (Bu (b := w.heap.size) (off := 0) rfl aF rfl rfl)
    (ag (fw lu ky (aT 0) [] [.q x] [.q y])
    (ag (fw lu me0 aF [] [.q v] [])
    (ag (sc2 Tryz.func69 (aT 1) (aT 2) (fun W v0 v1 hG h0 h1 => Hr (aa HS).1 (aa HS).2.2 h0 h1))
    (ag (Li rfl (aT 3) (Rg.je _) rfl k1)
    (ag (dm rfl (aT 4))
    (Rg.ay (Rg.fe (d := 10) rfl kr rfl (fw lu me0 aF [] [.q v] []))
    (Rg.ay (Rg.fe (d := 10) rfl kr rfl (Co (b := w.heap.size) (off := 0) rfl aF rfl rfl))
    (Rg.ay (Rg.fe (d := 10) rfl kr rfl (fw lu ky (aT 7) [.q x] [.q y] []))
    (Rg.ay (Rg.fe (d := 10) rfl kr rfl (yu Tryz.func69 kr rfl az.step (aT 6) (aT 8) (fun W v0 v1 hG h0 h1 => Hr (aa HS).2.2 (aa HS).2.1 h0 h1)))
    (Rg.ay (Rg.fe (d := 10) rfl kr rfl (Li rfl (aT 9) (Rg.je _) rfl k2))
    (ag (mr rfl (aT 5) (aT 10))
    (ag (nz rfl (aT 11))
    Rg.bg))))))))))))) ?_
   intro v1 V1 hG1 hv1 hne1
   simp only [Rg.puts, Act.put, tA]
   have e11 : v1 11 = .bool true := hv1 11 (by decide)
   have e12 : v1 12 = .bool true := hv1 12 (by decide)
   simp only [e11, e12]
   have hO := hG1.1
   clear HO
   have HO := hide hO
   clear hO hG1 hv1 hne1
   try clear e11 e12
   go_wp2_with fail
   exact Bn Tryz.results109 rfl (aa HO).bel rfl
  ·
   have k1 : decide (iw (x.num * v.den - v.num * x.den) ≤ 0) = true := decide_eq_true g1
   have k2 : decide (iw (v.num * y.den - y.num * v.den) ≤ 0) = false := decide_eq_false g2
   have hr : rr = false := by rw [aa HR]; exact decide_eq_false (fun h => g2 h.2)
   subst hr
   clear HR g1 g2
   go_upto_region 1 with fail
   refine Rg.dz 13 17 (Rg.pick [Rg.ax (.pointer (some ⟨w.heap.size, 0, none⟩)), ai [.q x], ai [.q v], Rg.ax (.int .i64 (iw (x.num * v.den - v.num * x.den))), Rg.ax (.bool true), Rg.ax (.bool true), ai [.q v], Rg.ax (.pointer (some ⟨w.heap.size, 6, none⟩)), ai [.q y], Rg.ax (.int .i64 (iw (v.num * y.den - y.num * v.den))), Rg.ax (.bool false), Rg.ax (.bool false), Rg.ax (.bool false)]) (az w _ W0) gm [] kr rfl (Rg.fq.pick ⟨Rg.ae _, au _, au _, Rg.ae _, Rg.ae _, Rg.ae _, au _, Rg.ae _, au _, Rg.ae _, Rg.ae _, Rg.ae _, Rg.ae _, trivial⟩) (az.begin (aa HO))
    (ag (Bu (b := w.heap.size) (off := 0) rfl aF rfl rfl)
    (ag (fw lu ky (aT 0) [] [.q x] [.q y])
    (ag (fw lu me0 aF [] [.q v] [])
    (ag (sc2 Tryz.func69 (aT 1) (aT 2) (fun W v0 v1 hG h0 h1 => Hr (aa HS).1 (aa HS).2.2 h0 h1))
    (ag (Li rfl (aT 3) (Rg.je _) rfl k1)
    (ag (dm rfl (aT 4))
    (Rg.ay (Rg.fe (d := 10) rfl kr rfl (fw lu me0 aF [] [.q v] []))
    (Rg.ay (Rg.fe (d := 10) rfl kr rfl (Co (b := w.heap.size) (off := 0) rfl aF rfl rfl))
    (Rg.ay (Rg.fe (d := 10) rfl kr rfl (fw lu ky (aT 7) [.q x] [.q y] []))
    (Rg.ay (Rg.fe (d := 10) rfl kr rfl (yu Tryz.func69 kr rfl az.step (aT 6) (aT 8) (fun W v0 v1 hG h0 h1 => Hr (aa HS).2.2 (aa HS).2.1 h0 h1)))
    (Rg.ay (Rg.fe (d := 10) rfl kr rfl (Li rfl (aT 9) (Rg.je _) rfl k2))
    (ag (mr rfl (aT 5) (aT 10))
    (ag (nz rfl (aT 11))
    Rg.bg))))))))))))) ?_
   intro v1 V1 hG1 hv1 hne1
   simp only [Rg.puts, Act.put, tA]
   have e11 : v1 11 = .bool false := hv1 11 (by decide)
   have e12 : v1 12 = .bool false := hv1 12 (by decide)
   simp only [e11, e12]
   have hO := hG1.1
   clear HO
   have HO := hide hO
   clear hO hG1 hv1 hne1
   try clear e11 e12
   go_wp2_with fail
   exact Bn Tryz.results109 rfl (aa HO).bel rfl
 ·
  have k1 : decide (iw (x.num * v.den - v.num * x.den) ≤ 0) = false := decide_eq_false g1
  have hr : rr = false := by rw [aa HR]; exact decide_eq_false (fun h => g1 h.1)
  subst hr
  clear HR g1
  go_upto_region 1 with fail
  refine Rg.dz 13 17 (Rg.pick [Rg.ax (.pointer (some ⟨w.heap.size, 0, none⟩)), ai [.q x], ai [.q v], Rg.ax (.int .i64 (iw (x.num * v.den - v.num * x.den))), Rg.ax (.bool false), Rg.ax (.bool false), Rg.ax undef, Rg.ax undef, Rg.ax undef, Rg.ax undef, Rg.ax undef, Rg.ax (.bool false), Rg.ax (.bool false)]) (az w _ W0) gm [] kr rfl (Rg.fq.pick ⟨Rg.ae _, au _, au _, Rg.ae _, Rg.ae _, Rg.ae _, Rg.ae _, Rg.ae _, Rg.ae _, Rg.ae _, Rg.ae _, Rg.ae _, Rg.ae _, trivial⟩) (az.begin (aa HO))
   (ag (Bu (b := w.heap.size) (off := 0) rfl aF rfl rfl)
   (ag (fw lu ky (aT 0) [] [.q x] [.q y])
   (ag (fw lu me0 aF [] [.q v] [])
   (ag (sc2 Tryz.func69 (aT 1) (aT 2) (fun W v0 v1 hG h0 h1 => Hr (aa HS).1 (aa HS).2.2 h0 h1))
   (ag (Li rfl (aT 3) (Rg.je _) rfl k1)
   (ag (dm rfl (aT 4))
   (Rg.ay (Rg.jb (d := 10) rfl kr rfl rfl iy rfl rfl)
   (Rg.ay (Rg.jb (d := 10) rfl kr rfl rfl iy rfl rfl)
   (Rg.ay (Rg.jb (d := 10) rfl kr rfl rfl iy rfl rfl)
   (Rg.ay (Rg.jb (d := 10) rfl kr rfl rfl iy rfl rfl)
   (Rg.ay (Rg.jb (d := 10) rfl kr rfl rfl iy rfl rfl)
   (ag (qi rfl (aT 5) (Rg.je _))
   (ag (nz rfl (aT 11))
   Rg.bg))))))))))))) ?_
  intro v1 V1 hG1 hv1 hne1
  simp only [Rg.puts, Act.put, tA]
  have e11 : v1 11 = .bool false := hv1 11 (by decide)
  have e12 : v1 12 = .bool false := hv1 12 (by decide)
  simp only [e11, e12]
  have hO := hG1.1
  clear HO
  have HO := hide hO
  clear hO hG1 hv1 hne1
  try clear e11 e12
  go_wp2_with fail
  exact Bn Tryz.results109 rfl (aa HO).bel rfl
end Sb

end Go.Proofs.YtjdnmdlnaoedoaaGreatDoor
namespace Go.Proofs.YtjdnmdlnaoedoaaGreatDoor
open Go.RowKit

namespace Sb
theorem alh (x y : Rat) : 0 ≤ iw (x.num * y.den - y.num * x.den) ↔ y ≤ x := by
 rw [Rat.le_iff]
 unfold iw; (repeat' split) <;> omega
theorem adv {x y v : Rat} {K : Nat} (sx : qd K x) (sy : qd K y) (sv : qd K v) (w : World) (u0 : Value) (h0 : ai [.r x, .r y] w u0) (u1 : Value) (h1 : ai [.r v] w u1) : Calls Tryz.prog 90 #[u0, u1] w (il (Rg.ax (.bool (decide (x ≤ v ∧ v ≤ y)))) w) := by
 have h := avp sx sy sv w u0 h0 u1 h1
 simp only [Ns, alh] at h
 exact h
theorem ake {x y v : Rat} {K : Nat} (sx : Sm K x) (sy : Sm K y) (sv : Sm K v) (w : World) (u0 : Value) (h0 : ai [.q x, .q y] w u0) (u1 : Value) (h1 : ai [.q v] w u1) : Calls Tryz.prog 109 #[u0, u1] w (il (Rg.ax (.bool (decide (x ≤ v ∧ v ≤ y)))) w) := by
 have h := bei sx sy sv w u0 h0 u1 h1
 simp only [Ns] at h
 exact h
end Sb

end Go.Proofs.YtjdnmdlnaoedoaaGreatDoor
namespace Go.Proofs.YtjdnmdlnaoedoaaGreatDoor
open Go.RowKit

namespace Sb
theorem Sm.inv {x : Rat} {K : Nat} (hx : Sm K x) (h : x.num ≠ 0) : Sm K (x⁻¹) := ⟨hx.1.inv h, hx.2⟩
end Sb

end Go.Proofs.YtjdnmdlnaoedoaaGreatDoor
