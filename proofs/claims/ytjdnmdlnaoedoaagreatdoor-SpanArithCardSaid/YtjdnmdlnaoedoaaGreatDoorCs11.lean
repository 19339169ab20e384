/- Texts beneath a law of layer 1. -/
import Derived.Test.YtjdnmdlnaoedoaaGreatDoorCs10
import Derived.BigQuiet
set_option maxRecDepth 100000
namespace Go.Proofs.YtjdnmdlnaoedoaaGreatDoor
open Go.RowKit

namespace Sb
set_option maxHeartbeats 16000000 in
theorem aos {xn xd yn yd g h a1 b1 n a2 b2 d : Int} (w : World) (u0 : Value) (h0 : ai [.z xn, .z xd] w u0) (u1 : Value) (h1 : ai [.z yn, .z yd] w u1)
  (hg1 : Du w 143 xn yd g)
  (hg2 : Du w 143 yn xd h)
  (ha1 : Du w 144 xn g a1)
  (hb1 : Du w 144 yn h b1)
  (hm1 : Du w 135 a1 b1 n)
  (ha2 : Du w 144 xd h a2)
  (hb2 : Du w 144 yd g b2)
  (hm2 : Du w 135 a2 b2 d) :
  Calls Tryz.prog 111 #[u0, u1] w (jh (ai [.z n, .z d]) w) := by
 have Fe := hide hg1
 have HG2 := hide hg2
 have HA1 := hide ha1
 have HB1 := hide hb1
 have HM1 := hide hm1
 have HA2 := hide ha2
 have HB2 := hide hb2
 have HM2 := hide hm2
 clear hg1 hg2 ha1 hb1 hm1 ha2 hb2 hm2
 obtain ⟨Ak, wh, ry, c0a, rq, Br, xw, uh, c0b, ug, rfl, f0a, zq⟩ := Tc h0
 obtain ⟨zk, xh, qf, c1a, qd, Bh, n1b, qz, qy, qw, rfl, f1a, Di⟩ := Tc h1
 go_enter Tryz.func111, Tryz.ntmps111
 go_upto_region 1 with fail
 have hO := (Own.push (T := 74) (ls := zQ) (cs := [.int .i64 0, .bool false, .slice none 0 0, .int .i64 0, .bool false, .slice none 0 0]) (Own.push (T := 74) (ls := [.z yn, .z yd]) (cs := [.int .i64 zk, .bool xh, .slice qf (List.length qd) c1a, .int .i64 Bh, .bool n1b, .slice qz (List.length qw) qy]) (Own.push (T := 74) (ls := [.z xn, .z xd]) (cs := [.int .i64 Ak, .bool wh, .slice ry (List.length rq) c0a, .int .i64 Br, .bool xw, .slice uh (List.length ug) c0b]) (Own.nil w) (ek.z f0a (ek.z zq rfl)) (w.heap.size) rfl) (((ek.z f1a (ek.z Di rfl)) : ek w [.z yn, .z yd] [.int .i64 zk, .bool xh, .slice qf (List.length qd) c1a, .int .i64 Bh, .bool n1b, .slice qz (List.length qw) qy]).below (by repeat (first | exact Below.refl _ _ | refine ja ?_ _))) (w.heap.size + 1) (by simp only [World.size_alloc])) (((ek.vs w [.int .i64 0, .bool false, .slice none 0 0, .int .i64 0, .bool false, .slice none 0 0] rfl) : ek w zQ [.int .i64 0, .bool false, .slice none 0 0, .int .i64 0, .bool false, .slice none 0 0]).below (by repeat (first | exact Below.refl _ _ | refine ja ?_ _))) (w.heap.size + 2) (by simp only [World.size_alloc]))
 generalize ((w.alloc (.cells #[.int .i64 Ak, .bool wh, .slice ry (List.length rq) c0a, .int .i64 Br, .bool xw, .slice uh (List.length ug) c0b] 74)).alloc (.cells #[.int .i64 zk, .bool xh, .slice qf (List.length qd) c1a, .int .i64 Bh, .bool n1b, .slice qz (List.length qw) qy] 74)).alloc (.cells #[.int .i64 0, .bool false, .slice none 0 0, .int .i64 0, .bool false, .slice none 0 0] 74) = W0 at *
 have HO := hide hO
 clear hO
 go_upto_region 1 with fail
 go_upto_region 1 with fail
 refine Rg.Xq 14 36 (fun k => if k = 12 then 5 else 6) (Rg.pick [Rg.bf (.pointer (some ⟨w.heap.size, 0, none⟩)), ai [.z xn], Rg.bf (.pointer (some ⟨w.heap.size + 1, 3, none⟩)), ai [.z yd], ai [.z g], Rg.bf (.pointer (some ⟨w.heap.size + 1, 0, none⟩)), ai [.z yn], Rg.bf (.pointer (some ⟨w.heap.size, 3, none⟩)), ai [.z xd], ai [.z h], fun _ _ => True, fun _ _ => True, fun _ _ => True, fun _ _ => True]) (ay w [(w.heap.size + 2, 74, zQ), (w.heap.size + 1, 74, [.z yn, .z yd]), (w.heap.size, 74, [.z xn, .z xd])] W0) (EX W0.heap.size 72) (J2 72 3 W0.heap.size 10 11 12 13 [.z g] [.z h]) kr kr kr rfl (Rg.gm.pick ⟨(Lr _), (xm _), (Lr _), (xm _), (xm _), (Lr _), (xm _), (Lr _), (xm _), (xm _), (zw), (zw), (zw), (zw), trivial⟩) (ay.start (aa HO)) (fun _ => J2.start) (fun _ _ _ _ h => J2.congr (n := 14) (by decide) h)
  (Rg.kz (Cq (Hm (b := w.heap.size) (off := 0) rfl (Rg.cz kr rfl) rfl rfl))
   (Rg.kz (Cq (fo qi qo (Rg.ax 0 kr) [] [.z xn] [.z xd]))
   (Rg.kz (Cq (Dn (b := w.heap.size + 1) (off := 0) rfl (Rg.cz kr rfl) rfl rfl))
   (Rg.kz (Cq (fo qi nu (Rg.ax 2 kr) [.z yn] [.z yd] []))
   (Rg.kz (Cq (iw Tryz.func143 kr rfl ay.step (Rg.ax 1 kr) (Rg.ax 3 kr) (fun W v0 v1 hG h0 h1 => i2 (aa Fe) hG.bel h0 h1)))
   (Rg.kz (Cq (Hm (b := w.heap.size + 1) (off := 0) rfl (Rg.cz kr rfl) rfl rfl))
   (Rg.kz (Cq (fo qi nu (Rg.ax 5 kr) [] [.z yn] [.z yd]))
   (Rg.kz (Cq (Dn (b := w.heap.size) (off := 0) rfl (Rg.cz kr rfl) rfl rfl))
   (Rg.kz (Cq (fo qi qo (Rg.ax 7 kr) [.z xn] [.z xd] []))
   (Rg.kz (Cq (iw Tryz.func143 kr rfl ay.step (Rg.ax 6 kr) (Rg.ax 8 kr) (fun W v0 v1 hG h0 h1 => i2 (aa HG2) hG.bel h0 h1)))
   (Rg.kz (Rs Oi rfl rfl rfl)
   (Rg.kz (Tn Oi rfl rfl rfl)
   (Rg.kz (Rq (aa HO) Dv kr (Rg.ax 4 kr) rfl rfl rfl)
   (Rg.kz (Tm (aa HO) Dv kr (Rg.ax 9 kr) rfl rfl rfl)
   Rg.Od)))))))))))))) ?_
 intro v1 V1 hG1 hJ1 hv1 hne1
 simp only [Rg.puts, jr, jq, jo, jm, Act.put, jl, jk, ji]
 obtain ⟨_, _, hd1, hf1, hg1⟩ := hJ1
 obtain ⟨bgc, e10, awz, bbf⟩ := (hf1 trivial).2
 obtain ⟨bgb, e11, awy, bbe⟩ := (hg1 trivial).2
 simp only [e10, e11]
 have hO := Own.Xb (aa HO) hG1.2 awz bbf awy bbe (fun h => hd1 trivial trivial (by rw [e10, e11, h]))
 clear awz bbf awy bbe hd1 hf1 hg1
 clear HO
 have HO := hide hO
 clear hO hG1 hv1 hne1
 try clear e10 e11
 go_upto_region 2 with fail
 refine Rg.region 19 36 (Rg.pick [Rg.bf (.pointer (some ⟨w.heap.size, 0, none⟩)), ai [.z xn], ai [.z g], ai [.z a1], Rg.bf (.pointer (some ⟨w.heap.size + 1, 0, none⟩)), ai [.z yn], ai [.z h], ai [.z b1], ai [.z n], Rg.bf (.pointer (some ⟨w.heap.size, 3, none⟩)), ai [.z xd], ai [.z h], ai [.z a2], Rg.bf (.pointer (some ⟨w.heap.size + 1, 3, none⟩)), ai [.z yd], ai [.z g], ai [.z b2], ai [.z d], ai [.z n, .z d]]) (ay w [(bgb, 72, [.z h]), (bgc, 72, [.z g]), (w.heap.size + 2, 74, zQ), (w.heap.size + 1, 74, [.z yn, .z yd]), (w.heap.size, 74, [.z xn, .z xd])] V1) ik [] kr kr rfl (Rg.gm.pick ⟨Rg.ag _, au _, au _, au _, Rg.ag _, au _, au _, au _, au _, Rg.ag _, au _, au _, au _, Rg.ag _, au _, au _, au _, au _, au _, trivial⟩) (ay.start (aa HO))
  (ae (Hm (b := w.heap.size) (off := 0) rfl (Rg.cz kr rfl) rfl rfl)
  (ae (fo qi Zb (Rg.ax 0 kr) [] [.z xn] [.z xd])
  (ae (fo qi nu (Rg.cz kr rfl) [] [.z g] [])
  (ae (iw Tryz.func144 kr rfl ay.step (Rg.ax 1 kr) (Rg.ax 2 kr) (fun W v0 v1 hG h0 h1 => i2 (aa HA1) hG.bel h0 h1))
  (ae (Hm (b := w.heap.size + 1) (off := 0) rfl (Rg.cz kr rfl) rfl rfl)
  (ae (fo qi Iq (Rg.ax 4 kr) [] [.z yn] [.z yd])
  (ae (fo qi me0 (Rg.cz kr rfl) [] [.z h] [])
  (ae (iw Tryz.func144 kr rfl ay.step (Rg.ax 5 kr) (Rg.ax 6 kr) (fun W v0 v1 hG h0 h1 => i2 (aa HB1) hG.bel h0 h1))
  (ae (iw Tryz.func135 kr rfl ay.step (Rg.ax 3 kr) (Rg.ax 7 kr) (fun W v0 v1 hG h0 h1 => i2 (aa HM1) hG.bel h0 h1))
  (ae (Dn (b := w.heap.size) (off := 0) rfl (Rg.cz kr rfl) rfl rfl)
  (ae (fo qi Zb (Rg.ax 9 kr) [.z xn] [.z xd] [])
  (ae (fo qi me0 (Rg.cz kr rfl) [] [.z h] [])
  (ae (iw Tryz.func144 kr rfl ay.step (Rg.ax 10 kr) (Rg.ax 11 kr) (fun W v0 v1 hG h0 h1 => i2 (aa HA2) hG.bel h0 h1))
  (ae (Dn (b := w.heap.size + 1) (off := 0) rfl (Rg.cz kr rfl) rfl rfl)
  (ae (fo qi Iq (Rg.ax 13 kr) [.z yn] [.z yd] [])
  (ae (fo qi nu (Rg.cz kr rfl) [] [.z g] [])
  (ae (iw Tryz.func144 kr rfl ay.step (Rg.ax 14 kr) (Rg.ax 15 kr) (fun W v0 v1 hG h0 h1 => i2 (aa HB2) hG.bel h0 h1))
  (ae (iw Tryz.func135 kr rfl ay.step (Rg.ax 12 kr) (Rg.ax 16 kr) (fun W v0 v1 hG h0 h1 => i2 (aa HM2) hG.bel h0 h1))
  (ae (yf akj rfl (Rg.ax 8 kr) (Rg.ax 17 kr) rfl rfl rfl)
  Rg.cu))))))))))))))))))) ?_
 intro v2 V2 hG2 hv2 hne2
 simp only [Rg.puts, jr, jq, jo, jm, Act.put, jl, jk, ji]
 have hO := hG2.1
 refine ky hO 2 [] zQ [.z n, .z d] [] rfl Bq rfl (show ai [.z n, .z d] V2 (v2 18) from hv2 18 (by decide)) rfl rfl rfl ?_
 intro Dl iy hk0
 replace hO := iy
 clear iy
 clear HO
 have HO := hide hO
 clear hO hG2 hv2 hne2 hk0
 go_wp2_with fail
 exact zh Tryz.results111 Oy rfl (aa HO) qo rfl rfl
set_option maxHeartbeats 16000000 in
theorem aow {xn xd yn yd g p q m1 m2 n h a e d : Int} (w : World) (u0 : Value) (h0 : ai [.z xn, .z xd] w u0) (u1 : Value) (h1 : ai [.z yn, .z yd] w u1)
  (h1k : Du w 143 xd yd g)
  (h2k : Du w 144 xd g p)
  (h3k : Du w 144 yd g q)
  (h4k : Du w 135 xn q m1)
  (h5k : Du w 135 yn p m2)
  (h6k : Du w 145 m1 m2 n)
  (h7k : Du w 143 g n h)
  (h8k : Du w 144 n h a)
  (h9k : Du w 144 yd h e)
  (bcv : Du w 135 p e d) :
  Calls Tryz.prog 78 #[u0, u1] w (jh (ai [.z a, .z d]) w) := by
 have H1 := hide h1k
 have H2 := hide h2k
 have H3 := hide h3k
 have H4 := hide h4k
 have H5 := hide h5k
 have H6 := hide h6k
 have H7 := hide h7k
 have H8 := hide h8k
 have H9 := hide h9k
 have H10 := hide bcv
 clear h1k h2k h3k h4k h5k h6k h7k h8k h9k bcv
 obtain ⟨Ak, wh, ry, c0a, rq, Br, xw, uh, c0b, ug, rfl, f0a, zq⟩ := Tc h0
 obtain ⟨zk, xh, qf, c1a, qd, Bh, n1b, qz, qy, qw, rfl, f1a, Di⟩ := Tc h1
 go_enter Tryz.func78, Tryz.ntmps78
 go_upto_region 1 with fail
 have hO := (Own.push (T := 74) (ls := zQ) (cs := [.int .i64 0, .bool false, .slice none 0 0, .int .i64 0, .bool false, .slice none 0 0]) (Own.push (T := 74) (ls := [.z yn, .z yd]) (cs := [.int .i64 zk, .bool xh, .slice qf (List.length qd) c1a, .int .i64 Bh, .bool n1b, .slice qz (List.length qw) qy]) (Own.push (T := 74) (ls := [.z xn, .z xd]) (cs := [.int .i64 Ak, .bool wh, .slice ry (List.length rq) c0a, .int .i64 Br, .bool xw, .slice uh (List.length ug) c0b]) (Own.nil w) (ek.z f0a (ek.z zq rfl)) (w.heap.size) rfl) (((ek.z f1a (ek.z Di rfl)) : ek w [.z yn, .z yd] [.int .i64 zk, .bool xh, .slice qf (List.length qd) c1a, .int .i64 Bh, .bool n1b, .slice qz (List.length qw) qy]).below (by repeat (first | exact Below.refl _ _ | refine ja ?_ _))) (w.heap.size + 1) (by simp only [World.size_alloc])) (((ek.vs w [.int .i64 0, .bool false, .slice none 0 0, .int .i64 0, .bool false, .slice none 0 0] rfl) : ek w zQ [.int .i64 0, .bool false, .slice none 0 0, .int .i64 0, .bool false, .slice none 0 0]).below (by repeat (first | exact Below.refl _ _ | refine ja ?_ _))) (w.heap.size + 2) (by simp only [World.size_alloc]))
 generalize ((w.alloc (.cells #[.int .i64 Ak, .bool wh, .slice ry (List.length rq) c0a, .int .i64 Br, .bool xw, .slice uh (List.length ug) c0b] 74)).alloc (.cells #[.int .i64 zk, .bool xh, .slice qf (List.length qd) c1a, .int .i64 Bh, .bool n1b, .slice qz (List.length qw) qy] 74)).alloc (.cells #[.int .i64 0, .bool false, .slice none 0 0, .int .i64 0, .bool false, .slice none 0 0] 74) = W0 at *
 have HO := hide hO
 clear hO
 go_upto_region 1 with fail
 refine Rg.fw 6 45 (Rg.pick [Rg.bf (.pointer (some ⟨w.heap.size, 3, none⟩)), ai [.z xd], Rg.bf (.pointer (some ⟨w.heap.size + 1, 3, none⟩)), ai [.z yd], ai [.z g], tu 72 zZ W0.heap.size]) (ay w [(w.heap.size + 2, 74, zQ), (w.heap.size + 1, 74, [.z yn, .z yd]), (w.heap.size, 74, [.z xn, .z xd])] W0) ik [5] kr rfl (Rg.gm.pick ⟨Rg.ag _, au _, Rg.ag _, au _, au _, uq _ _ _, trivial⟩) (ay.begin (aa HO))
  (ae (Dn (b := w.heap.size) (off := 0) rfl (Rg.cz kr rfl) rfl rfl)
  (ae (fo qi qo (Rg.ax 0 kr) [.z xn] [.z xd] [])
  (ae (Dn (b := w.heap.size + 1) (off := 0) rfl (Rg.cz kr rfl) rfl rfl)
  (ae (fo qi nu (Rg.ax 2 kr) [.z yn] [.z yd] [])
  (ae (iw Tryz.func143 kr rfl ay.step (Rg.ax 1 kr) (Rg.ax 3 kr) (fun W v0 v1 hG h0 h1 => i2 (aa H1) hG.bel h0 h1))
  (ae (xc Oi rfl ay.step ay.size rfl (ym (by intro j hj; simp at hj; (repeat' (first | (rcases hj with rfl | hj))) <;> first | (subst hj; exact ⟨_, _, _, rfl⟩) | exact ⟨_, _, _, rfl⟩)))
  Rg.cu)))))) ?_
 intro v1 V1 hG1 hv1 hne1
 simp only [Rg.puts, jr, jq, jo, jm, Act.put, jl, jk, ji]
 obtain ⟨Dz, e5, Lc, Rb⟩ := (show tu 72 zZ W0.heap.size V1 (v1 5) from hv1 5 (by decide))
 simp only [e5]
 have hO := hG1.1
 replace hO := Own.add (aa HO) hG1.2 Lc Rb
 clear Lc Rb
 refine ky hO 0 [] zZ [.z g] [] rfl Dv rfl (show ai [.z g] V1 (v1 4) from hv1 4 (by decide)) rfl rfl rfl ?_
 intro uy iy hk0
 replace hO := iy
 clear iy
 clear HO
 have HO := hide hO
 clear hO hG1 hv1 hne1 hk0
 try clear e5
 go_upto_region 2 with fail
 go_upto_region 2 with fail
 refine Rg.Xq 12 45 (fun k => if k = 10 then 6 else 7) (Rg.pick [Rg.bf (.pointer (some ⟨w.heap.size, 3, none⟩)), ai [.z xd], ai [.z g], ai [.z p], Rg.bf (.pointer (some ⟨w.heap.size + 1, 3, none⟩)), ai [.z yd], ai [.z g], ai [.z q], fun _ _ => True, fun _ _ => True, fun _ _ => True, fun _ _ => True]) (ay w [(Dz, 72, [.z g]), (w.heap.size + 2, 74, zQ), (w.heap.size + 1, 74, [.z yn, .z yd]), (w.heap.size, 74, [.z xn, .z xd])] uy) (EX uy.heap.size 72) (J2 72 3 uy.heap.size 8 9 10 11 [.z p] [.z q]) kr kr kr rfl (Rg.gm.pick ⟨(Lr _), (xm _), (xm _), (xm _), (Lr _), (xm _), (xm _), (xm _), (zw), (zw), (zw), (zw), trivial⟩) (ay.start (aa HO)) (fun _ => J2.start) (fun _ _ _ _ h => J2.congr (n := 12) (by decide) h)
  (Rg.kz (Cq (Dn (b := w.heap.size) (off := 0) rfl (Rg.cz kr rfl) rfl rfl))
   (Rg.kz (Cq (fo qi Iq (Rg.ax 0 kr) [.z xn] [.z xd] []))
   (Rg.kz (Cq (fo qi me0 (Rg.cz kr rfl) [] [.z g] []))
   (Rg.kz (Cq (iw Tryz.func144 kr rfl ay.step (Rg.ax 1 kr) (Rg.ax 2 kr) (fun W v0 v1 hG h0 h1 => i2 (aa H2) hG.bel h0 h1)))
   (Rg.kz (Cq (Dn (b := w.heap.size + 1) (off := 0) rfl (Rg.cz kr rfl) rfl rfl))
   (Rg.kz (Cq (fo qi qo (Rg.ax 4 kr) [.z yn] [.z yd] []))
   (Rg.kz (Cq (fo qi me0 (Rg.cz kr rfl) [] [.z g] []))
   (Rg.kz (Cq (iw Tryz.func144 kr rfl ay.step (Rg.ax 5 kr) (Rg.ax 6 kr) (fun W v0 v1 hG h0 h1 => i2 (aa H3) hG.bel h0 h1)))
   (Rg.kz (Rs Oi rfl rfl rfl)
   (Rg.kz (Tn Oi rfl rfl rfl)
   (Rg.kz (Rq (aa HO) Dv kr (Rg.ax 3 kr) rfl rfl rfl)
   (Rg.kz (Tm (aa HO) Dv kr (Rg.ax 7 kr) rfl rfl rfl)
   Rg.Od)))))))))))) ?_
 intro v2 V2 hG2 hJ2 hv2 hne2
 simp only [Rg.puts, jr, jq, jo, jm, Act.put, jl, jk, ji]
 obtain ⟨_, _, hd2, hf2, hg2⟩ := hJ2
 obtain ⟨Wz, e8, Qc, Wi⟩ := (hf2 trivial).2
 obtain ⟨avr, e9, ahj, hz9⟩ := (hg2 trivial).2
 simp only [e8, e9]
 have hO := Own.Xb (aa HO) hG2.2 Qc Wi ahj hz9 (fun h => hd2 trivial trivial (by rw [e8, e9, h]))
 clear Qc Wi ahj hz9 hd2 hf2 hg2
 clear HO
 have HO := hide hO
 clear hO hG2 hv2 hne2
 try clear e8 e9
 go_upto_region 3 with fail
 go_upto_region 3 with fail
 refine Rg.ajs 11 45 (fun _ => 8) (Rg.pick [Rg.bf (.pointer (some ⟨w.heap.size, 0, none⟩)), ai [.z xn], ai [.z q], ai [.z m1], Rg.bf (.pointer (some ⟨w.heap.size + 1, 0, none⟩)), ai [.z yn], ai [.z p], ai [.z m2], ai [.z n], Jm 72 3 V2.heap.size, Jo 72 [.z n] V2.heap.size]) (ay w [(avr, 72, [.z q]), (Wz, 72, [.z p]), (Dz, 72, [.z g]), (w.heap.size + 2, 74, zQ), (w.heap.size + 1, 74, [.z yn, .z yd]), (w.heap.size, 74, [.z xn, .z xd])] V2) (EN V2.heap.size 72 [.z n]) kr kr kr rfl (Rg.gm.pick ⟨(Lt _), (Dm _), (Dm _), (Dm _), (Lt _), (Dm _), (Dm _), (Dm _), (Dm _), (aaw), (adv), trivial⟩) (ay.start (aa HO))
  (Rg.uk (Rg.Ac rfl rfl (xk (Hm (b := w.heap.size) (off := 0) rfl (Rg.cz kr rfl) rfl rfl)))
   (Rg.uk (Rg.Ac rfl rfl (xk (fo qi me5 (Rg.ax 0 kr) [] [.z xn] [.z xd])))
   (Rg.uk (Rg.Ac rfl rfl (xk (fo qi me0 (Rg.cz kr rfl) [] [.z q] [])))
   (Rg.uk (Rg.Ac rfl rfl (xk (iw Tryz.func135 kr rfl ay.step (Rg.ax 1 kr) (Rg.ax 2 kr) (fun W v0 v1 hG h0 h1 => i2 (aa H4) hG.bel h0 h1))))
   (Rg.uk (Rg.Ac rfl rfl (xk (Hm (b := w.heap.size + 1) (off := 0) rfl (Rg.cz kr rfl) rfl rfl)))
   (Rg.uk (Rg.Ac rfl rfl (xk (fo qi Zb (Rg.ax 4 kr) [] [.z yn] [.z yd])))
   (Rg.uk (Rg.Ac rfl rfl (xk (fo qi nu (Rg.cz kr rfl) [] [.z p] [])))
   (Rg.uk (Rg.Ac rfl rfl (xk (iw Tryz.func135 kr rfl ay.step (Rg.ax 5 kr) (Rg.ax 6 kr) (fun W v0 v1 hG h0 h1 => i2 (aa H5) hG.bel h0 h1))))
   (Rg.uk (Rg.Ac rfl rfl (xk (iw Tryz.func145 kr rfl ay.step (Rg.ax 3 kr) (Rg.ax 7 kr) (fun W v0 v1 hG h0 h1 => i2 (aa H6) hG.bel h0 h1))))
   (Rg.uk (Rg.Ac rfl rfl (xk (afz Oi rfl rfl ay.step ay.size rfl)))
   (Rg.uk (afy (aa HO) Dv (Rg.ax 9 kr) (Rg.ax 8 kr) rfl rfl rfl)
   Rg.aav))))))))))) ?_
 intro v3 V3 hG3 hv3 qh
 simp only [Rg.puts, jr, jq, jo, jm, Act.put, jl, jk, ji]
 have e0 : v3 0 = .pointer (some ⟨w.heap.size, 0, none⟩) := hv3 0 (by decide)
 have e4 : v3 4 = .pointer (some ⟨w.heap.size + 1, 0, none⟩) := hv3 4 (by decide)
 have e99 : v3 10 = v3 9 := qh 10 9 (by decide) (by decide) rfl rfl
 obtain ⟨bds, e9, ahj, hz9⟩ := (show Jo 72 [.z n] V2.heap.size V3 (v3 10) from hv3 10 (by decide))
 rw [e99] at e9
 clear e99
 simp only [e0, e4, e9]
 have hO := Own.add (aa HO) hG3.2 ahj hz9
 clear ahj hz9
 clear HO
 have HO := hide hO
 clear hO hG3 hv3 qh
 try clear e0 e4 e9
 go_upto_region 4 with fail
 refine Rg.fw 4 45 (Rg.pick [ai [.z g], ai [.z n], ai [.z h], tu 72 zZ V3.heap.size]) (ay w [(bds, 72, [.z n]), (avr, 72, [.z q]), (Wz, 72, [.z p]), (Dz, 72, [.z g]), (w.heap.size + 2, 74, zQ), (w.heap.size + 1, 74, [.z yn, .z yd]), (w.heap.size, 74, [.z xn, .z xd])] V3) ik [3] kr rfl (Rg.gm.pick ⟨au _, au _, au _, uq _ _ _, trivial⟩) (ay.begin (aa HO))
  (ae (fo qi Iq (Rg.cz kr rfl) [] [.z g] [])
  (ae (fo qi me0 (Rg.cz kr rfl) [] [.z n] [])
  (ae (iw Tryz.func143 kr rfl ay.step (Rg.ax 0 kr) (Rg.ax 1 kr) (fun W v0 v1 hG h0 h1 => i2 (aa H7) hG.bel h0 h1))
  (ae (xc Oi rfl ay.step ay.size rfl (ym (by intro j hj; simp at hj; (repeat' (first | (rcases hj with rfl | hj))) <;> first | (subst hj; exact ⟨_, _, _, rfl⟩) | exact ⟨_, _, _, rfl⟩)))
  Rg.cu)))) ?_
 intro v4 V4 hG4 hv4 yg
 simp only [Rg.puts, jr, jq, jo, jm, Act.put, jl, jk, ji]
 obtain ⟨bko, e3, Qd, hz3⟩ := (show tu 72 zZ V3.heap.size V4 (v4 3) from hv4 3 (by decide))
 simp only [e3]
 have hO := hG4.1
 replace hO := Own.add (aa HO) hG4.2 Qd hz3
 clear Qd hz3
 refine ky hO 0 [] zZ [.z h] [] rfl Dv rfl (show ai [.z h] V4 (v4 2) from hv4 2 (by decide)) rfl rfl rfl ?_
 intro Vb iy hk0
 replace hO := iy
 clear iy
 clear HO
 have HO := hide hO
 clear hO hG4 hv4 yg hk0
 try clear e3
 go_upto_region 5 with fail
 refine Rg.region 10 45 (Rg.pick [ai [.z n], ai [.z h], ai [.z a], ai [.z p], Rg.bf (.pointer (some ⟨w.heap.size + 1, 3, none⟩)), ai [.z yd], ai [.z h], ai [.z e], ai [.z d], ai [.z a, .z d]]) (ay w [(bko, 72, [.z h]), (bds, 72, [.z n]), (avr, 72, [.z q]), (Wz, 72, [.z p]), (Dz, 72, [.z g]), (w.heap.size + 2, 74, zQ), (w.heap.size + 1, 74, [.z yn, .z yd]), (w.heap.size, 74, [.z xn, .z xd])] Vb) ik [] kr kr rfl (Rg.gm.pick ⟨au _, au _, au _, au _, Rg.ag _, au _, au _, au _, au _, au _, trivial⟩) (ay.start (aa HO))
  (ae (fo qi nu (Rg.cz kr rfl) [] [.z n] [])
  (ae (fo qi me0 (Rg.cz kr rfl) [] [.z h] [])
  (ae (iw Tryz.func144 kr rfl ay.step (Rg.ax 0 kr) (Rg.ax 1 kr) (fun W v0 v1 hG h0 h1 => i2 (aa H8) hG.bel h0 h1))
  (ae (fo qi Iq (Rg.cz kr rfl) [] [.z p] [])
  (ae (Dn (b := w.heap.size + 1) (off := 0) rfl (Rg.cz kr rfl) rfl rfl)
  (ae (fo qi me6 (Rg.ax 4 kr) [.z yn] [.z yd] [])
  (ae (fo qi me0 (Rg.cz kr rfl) [] [.z h] [])
  (ae (iw Tryz.func144 kr rfl ay.step (Rg.ax 5 kr) (Rg.ax 6 kr) (fun W v0 v1 hG h0 h1 => i2 (aa H9) hG.bel h0 h1))
  (ae (iw Tryz.func135 kr rfl ay.step (Rg.ax 3 kr) (Rg.ax 7 kr) (fun W v0 v1 hG h0 h1 => i2 (aa H10) hG.bel h0 h1))
  (ae (yf akj rfl (Rg.ax 2 kr) (Rg.ax 8 kr) rfl rfl rfl)
  Rg.cu)))))))))) ?_
 intro v5 V5 Ap hv5 hne5
 simp only [Rg.puts, jr, jq, jo, jm, Act.put, jl, jk, ji]
 have hO := Ap.1
 refine ky hO 5 [] zQ [.z a, .z d] [] rfl Bq rfl (show ai [.z a, .z d] V5 (v5 9) from hv5 9 (by decide)) rfl rfl rfl ?_
 intro Ro iy hk0
 replace hO := iy
 clear iy
 clear HO
 have HO := hide hO
 clear hO Ap hv5 hne5 hk0
 go_wp2_with fail
 exact zh Tryz.results78 Oy rfl (aa HO) me5 rfl rfl
end Sb

end Go.Proofs.YtjdnmdlnaoedoaaGreatDoor
namespace Go.Proofs.YtjdnmdlnaoedoaaGreatDoor
open Go.RowKit Sb

theorem acu {w : World} {K : Nat} (hT : rz w) (x y : Rat) (hx : za K x) (hy : za K y) (hK : K + K + 1 ≤ lim) : Hw w 78 x y (x + y) ∧ za (K + K + 1) (x + y) := by
 have dx : (x.den : Int) ≠ 0 := by have := x.den_pos; omega
 have dy : (y.den : Int) ≠ 0 := by have := y.den_pos; omega
 obtain ⟨g, hg⟩ : ∃ g, g = x.den.gcd y.den := ⟨_, rfl⟩
 obtain ⟨xd, hxd⟩ : ∃ z, z = (x.den : Int).tdiv g := ⟨_, rfl⟩
 obtain ⟨yd, hyd⟩ : ∃ z, z = (y.den : Int).tdiv g := ⟨_, rfl⟩
 obtain ⟨m1, hm1⟩ : ∃ z, z = x.num * yd := ⟨_, rfl⟩
 obtain ⟨m2, hm2⟩ : ∃ z, z = y.num * xd := ⟨_, rfl⟩
 obtain ⟨n, hn⟩ : ∃ z, z = m1 + m2 := ⟨_, rfl⟩
 obtain ⟨h, hh⟩ : ∃ h, h = g.gcd n.natAbs := ⟨_, rfl⟩
 obtain ⟨e1, he1⟩ : ∃ z, z = (y.den : Int).tdiv h := ⟨_, rfl⟩
 have hp := Wd.afc x y g h n hg (by rw [hn, hm1, hm2, hxd, hyd]) hh
 have g0 : 0 < g := by rw [hg]; exact Nat.gcd_pos_of_pos_left _ x.den_pos
 have h0 : 0 < h := by rw [hh]; exact Nat.gcd_pos_of_pos_left _ g0
 have sg : Wd.Sz dw K (g : Int) := by
  have := hx.2.gcd_left (b := (y.den : Int)) dx
  simpa [hg] using this
 have sh : Wd.Sz dw K (h : Int) := by
  have := sg.gcd_left (b := n) om
  simpa [hh] using this
 have sxd : Wd.Sz dw K xd := by rw [hxd]; exact hx.2.tdiv _
 have syd : Wd.Sz dw K yd := by rw [hyd]; exact hy.2.tdiv _
 have sm1 : Wd.Sz dw (K + K) m1 := by rw [hm1]; exact hx.1.mul syd
 have sm2 : Wd.Sz dw (K + K) m2 := by rw [hm2]; exact hy.1.mul sxd
 have sn : Wd.Sz dw (K + K + 1) n := by rw [hn]; exact sm1.add vg sm2
 have se1 : Wd.Sz dw K e1 := by rw [he1]; exact hy.2.tdiv _
 have B := vg
 have up : ∀ z, Wd.Sz dw K z → Wd.Sz dw (K + K + 1) z := fun z hz => hz.mono B om
 refine ⟨?_, ⟨by rw [hp.1]; exact sn.tdiv _, by rw [hp.2]; exact ((hx.2.tdiv _).mul (hy.2.tdiv _)).mono B om⟩⟩
 rw [Hw, hp.1, hp.2]
 exact fun s1 dh A1 c1 l1 s2 di A2 c2 l2 s3 Dy A3 c3 l3 s4 Ee A4 c4 l4 W hW f1 f2 f3 f4 => (aow W _ ⟨_, rfl, ek.z f1 (ek.z f2 rfl)⟩ _ ⟨_, rfl, ek.z f3 (ek.z f4 rfl)⟩
  (Rz (hT.below hW) (up _ hx.2) (up _ hy.2) hK (by simp [hg])) (Fj (up _ hx.2) (up _ sg) hK om hxd) (Fj (up _ hy.2) (up _ sg) hK om hyd)
  (Mv (up _ hx.1) (up _ syd) hK hm1) (Mv (up _ hy.1) (up _ sxd) hK hm2) (apl (sm1.mono B om) (sm2.mono B om) hK hn)
  (Rz (hT.below hW) (up _ sg) sn hK (by simp [hh])) (Fj sn (up _ sh) hK om rfl) (Fj (up _ hy.2) (up _ sh) hK om he1) (Mv (up _ sxd) (up _ se1) hK (by rw [hxd, he1]))).mono fun _ _ h => aph h

theorem acs {w : World} {K : Nat} (hT : rz w) (x y : Rat) (hx : za K x) (hy : za K y) (hK : K + K + 1 ≤ lim) : Hw w 111 x y (x * y) ∧ za (K + K) (x * y) := by
 have dx : (x.den : Int) ≠ 0 := by have := x.den_pos; omega
 have dy : (y.den : Int) ≠ 0 := by have := y.den_pos; omega
 obtain ⟨g, hg⟩ : ∃ g, g = x.num.natAbs.gcd y.den := ⟨_, rfl⟩
 obtain ⟨h, hh⟩ : ∃ h, h = y.num.natAbs.gcd x.den := ⟨_, rfl⟩
 obtain ⟨a1, ha1⟩ : ∃ z, z = x.num.tdiv g := ⟨_, rfl⟩
 obtain ⟨b1, hb1⟩ : ∃ z, z = y.num.tdiv h := ⟨_, rfl⟩
 obtain ⟨a2, ha2⟩ : ∃ z, z = (x.den : Int).tdiv h := ⟨_, rfl⟩
 obtain ⟨b2, hb2⟩ : ∃ z, z = (y.den : Int).tdiv g := ⟨_, rfl⟩
 have hp := Wd.aex x y g h hg hh
 have g0 : 0 < g := by rw [hg]; exact Nat.gcd_pos_of_pos_right _ y.den_pos
 have h0 : 0 < h := by rw [hh]; exact Nat.gcd_pos_of_pos_right _ x.den_pos
 have sg : Wd.Sz dw K (g : Int) := by
  have := hy.2.gcd_right (a := x.num) dy
  simpa [hg] using this
 have sh : Wd.Sz dw K (h : Int) := by
  have := hx.2.gcd_right (a := y.num) dx
  simpa [hh] using this
 have sa1 : Wd.Sz dw K a1 := by rw [ha1]; exact hx.1.tdiv _
 have sb1 : Wd.Sz dw K b1 := by rw [hb1]; exact hy.1.tdiv _
 have sa2 : Wd.Sz dw K a2 := by rw [ha2]; exact hx.2.tdiv _
 have sb2 : Wd.Sz dw K b2 := by rw [hb2]; exact hy.2.tdiv _
 have hK1 : K ≤ lim := by omega
 refine ⟨?_, ⟨by rw [hp.1, ← ha1, ← hb1]; exact sa1.mul sb1, by rw [hp.2, ← ha2, ← hb2]; exact sa2.mul sb2⟩⟩
 rw [Hw, hp.1, hp.2]
 exact fun s1 dh A1 c1 l1 s2 di A2 c2 l2 s3 Dy A3 c3 l3 s4 Ee A4 c4 l4 W hW f1 f2 f3 f4 => (aos W _ ⟨_, rfl, ek.z f1 (ek.z f2 rfl)⟩ _ ⟨_, rfl, ek.z f3 (ek.z f4 rfl)⟩
  (Rz (hT.below hW) hx.1 hy.2 hK1 (by simp [hg])) (Rz (hT.below hW) hy.1 hx.2 hK1 (by simp [hh])) (Fj hx.1 sg hK1 om ha1) (Fj hy.1 sh hK1 om hb1)
  (Mv sa1 sb1 hK1 (by rw [ha1, hb1])) (Fj hx.2 sh hK1 om ha2) (Fj hy.2 sg hK1 om hb2) (Mv sa2 sb2 hK1 (by rw [ha2, hb2]))).mono fun _ _ h => aph h

end Go.Proofs.YtjdnmdlnaoedoaaGreatDoor
namespace Go.Proofs.YtjdnmdlnaoedoaaGreatDoor
open Go.RowKit Sb

namespace Sb
theorem aoy {w w' : World} {q : Rat} {e : Ending} (h : jh (ai [.q q]) w e w') : Io w q.num (q.den : Int) e w' := by
 obtain ⟨u, rfl, hb, h⟩ := h
 obtain ⟨s1, n1, A1, c1, l1, s2, n2, A2, c2, l2, rfl, f1, f2⟩ := Gi h
 exact ⟨_, _, _, _, _, _, _, _, _, _, rfl, f1, f2, hb⟩
theorem q1b {F : Nat} {x q : Rat} {w W : World} {v0 : Value} (h : Ql w F x q) (hb : Below w.heap.size w W) (h0 : ai [.q x] W v0) : Calls Tryz.prog F #[v0] W (jh (ai [.q q]) W) := amt (h.mono hb) h0
theorem q2b {F : Nat} {x y q : Rat} {w W : World} {v0 v1 : Value} (h : Hw w F x y q) (hb : Below w.heap.size w W) (h0 : ai [.q x] W v0) (h1 : ai [.q y] W v1) : Calls Tryz.prog F #[v0, v1] W (jh (ai [.q q]) W) := afi (h.mono hb) h0 h1
set_option maxHeartbeats 16000000 in
theorem aoo {x y v q : Rat} (w : World) (u0 : Value) (h0 : ai [.q x] w u0) (u1 : Value) (h1 : ai [.q y] w u1) (g1 : Ql w 134 y v) (g2 : Hw w 78 x v q) :
  Calls Tryz.prog 68 #[u0, u1] w (jh (ai [.q q]) w) := by
 have H1 := hide g1
 have H2 := hide g2
 clear g1 g2
 obtain ⟨Ak, wh, ry, c0a, rq, Br, xw, uh, c0b, ug, rfl, f0a, zq⟩ := Gi h0
 obtain ⟨zk, xh, qf, c1a, qd, Bh, n1b, qz, qy, qw, rfl, f1a, Di⟩ := Gi h1
 go_enter Tryz.func68, Tryz.ntmps68
 go_upto_region 1 with fail
 have hO := (Own.push (T := 74) (ls := zQ) (cs := [.int .i64 0, .bool false, .slice none 0 0, .int .i64 0, .bool false, .slice none 0 0]) (Own.push (T := 74) (ls := [.q y]) (cs := [.int .i64 zk, .bool xh, .slice qf (List.length qd) c1a, .int .i64 Bh, .bool n1b, .slice qz (List.length qw) qy]) (Own.push (T := 74) (ls := [.q x]) (cs := [.int .i64 Ak, .bool wh, .slice ry (List.length rq) c0a, .int .i64 Br, .bool xw, .slice uh (List.length ug) c0b]) (Own.nil w) (ek.q f0a zq rfl) (w.heap.size) rfl) (((ek.q f1a Di rfl) : ek w [.q y] [.int .i64 zk, .bool xh, .slice qf (List.length qd) c1a, .int .i64 Bh, .bool n1b, .slice qz (List.length qw) qy]).below (by repeat (first | exact Below.refl _ _ | refine ja ?_ _))) (w.heap.size + 1) (by simp only [World.size_alloc])) (((ek.vs w [.int .i64 0, .bool false, .slice none 0 0, .int .i64 0, .bool false, .slice none 0 0] rfl) : ek w zQ [.int .i64 0, .bool false, .slice none 0 0, .int .i64 0, .bool false, .slice none 0 0]).below (by repeat (first | exact Below.refl _ _ | refine ja ?_ _))) (w.heap.size + 2) (by simp only [World.size_alloc]))
 generalize ((w.alloc (.cells #[.int .i64 Ak, .bool wh, .slice ry (List.length rq) c0a, .int .i64 Br, .bool xw, .slice uh (List.length ug) c0b] 74)).alloc (.cells #[.int .i64 zk, .bool xh, .slice qf (List.length qd) c1a, .int .i64 Bh, .bool n1b, .slice qz (List.length qw) qy] 74)).alloc (.cells #[.int .i64 0, .bool false, .slice none 0 0, .int .i64 0, .bool false, .slice none 0 0] 74) = W0 at *
 have HO := hide hO
 clear hO
 go_upto_region 1 with fail
 refine Rg.region 4 9 (Rg.pick [ai [.q x], ai [.q y], ai [.q v], ai [.q q]]) (ay w [(w.heap.size + 2, 74, zQ), (w.heap.size + 1, 74, [.q y]), (w.heap.size, 74, [.q x])] W0) ik [] kr kr rfl (Rg.gm.pick ⟨au _, au _, au _, au _, trivial⟩) (ay.start (aa HO))
  (ae (fo nz qo (Rg.cz kr rfl) [] [.q x] [])
  (ae (fo nz nu (Rg.cz kr rfl) [] [.q y] [])
  (ae (jf Tryz.func134 kr rfl ay.step (Rg.ax 1 kr) (fun W v0 hG h0 => q1b (aa H1) hG.bel h0))
  (ae (iw Tryz.func78 kr rfl ay.step (Rg.ax 0 kr) (Rg.ax 2 kr) (fun W v0 v1 hG h0 h1 => q2b (aa H2) hG.bel h0 h1))
  Rg.cu)))) ?_
 intro v1 V1 hG1 hv1 hne1
 simp only [Rg.puts, jr, jq, jo, jm, Act.put, jl, jk, ji]
 have hO := hG1.1
 refine ky hO 0 [] zQ [.q q] [] rfl Bq rfl (show ai [.q q] V1 (v1 3) from hv1 3 (by decide)) rfl rfl rfl ?_
 intro uy iy hk0
 replace hO := iy
 clear iy
 clear HO
 have HO := hide hO
 clear hO hG1 hv1 hne1 hk0
 go_wp2_with fail
 exact zh Tryz.results68 Oy rfl (aa HO) me0 rfl rfl
theorem als {w : World} {x y v q : Rat} (g1 : Ql w 134 y v) (g2 : Hw w 78 x v q) : Hw w 68 x y q :=
 fun _ _ _ _ _ _ _ _ _ _ _ _ _ _ _ _ _ _ _ _ W hW f1 f2 f3 f4 => (aoo W _ ⟨_, rfl, ek.q f1 f2 rfl⟩ _ ⟨_, rfl, ek.q f3 f4 rfl⟩ (g1.mono hW) (g2.mono hW)).mono fun _ _ h => aoy h
set_option maxHeartbeats 16000000 in
theorem aor {x y v q : Rat} (w : World) (u0 : Value) (h0 : ai [.q x] w u0) (u1 : Value) (h1 : ai [.q y] w u1) (g1 : Ql w 79 y v) (g2 : Hw w 111 x v q) :
  Calls Tryz.prog 113 #[u0, u1] w (jh (ai [.q q]) w) := by
 have H1 := hide g1
 have H2 := hide g2
 clear g1 g2
 obtain ⟨Ak, wh, ry, c0a, rq, Br, xw, uh, c0b, ug, rfl, f0a, zq⟩ := Gi h0
 obtain ⟨zk, xh, qf, c1a, qd, Bh, n1b, qz, qy, qw, rfl, f1a, Di⟩ := Gi h1
 go_enter Tryz.func113, Tryz.ntmps113
 go_upto_region 1 with fail
 have hO := (Own.push (T := 74) (ls := zQ) (cs := [.int .i64 0, .bool false, .slice none 0 0, .int .i64 0, .bool false, .slice none 0 0]) (Own.push (T := 74) (ls := [.q y]) (cs := [.int .i64 zk, .bool xh, .slice qf (List.length qd) c1a, .int .i64 Bh, .bool n1b, .slice qz (List.length qw) qy]) (Own.push (T := 74) (ls := [.q x]) (cs := [.int .i64 Ak, .bool wh, .slice ry (List.length rq) c0a, .int .i64 Br, .bool xw, .slice uh (List.length ug) c0b]) (Own.nil w) (ek.q f0a zq rfl) (w.heap.size) rfl) (((ek.q f1a Di rfl) : ek w [.q y] [.int .i64 zk, .bool xh, .slice qf (List.length qd) c1a, .int .i64 Bh, .bool n1b, .slice qz (List.length qw) qy]).below (by repeat (first | exact Below.refl _ _ | refine ja ?_ _))) (w.heap.size + 1) (by simp only [World.size_alloc])) (((ek.vs w [.int .i64 0, .bool false, .slice none 0 0, .int .i64 0, .bool false, .slice none 0 0] rfl) : ek w zQ [.int .i64 0, .bool false, .slice none 0 0, .int .i64 0, .bool false, .slice none 0 0]).below (by repeat (first | exact Below.refl _ _ | refine ja ?_ _))) (w.heap.size + 2) (by simp only [World.size_alloc]))
 generalize ((w.alloc (.cells #[.int .i64 Ak, .bool wh, .slice ry (List.length rq) c0a, .int .i64 Br, .bool xw, .slice uh (List.length ug) c0b] 74)).alloc (.cells #[.int .i64 zk, .bool xh, .slice qf (List.length qd) c1a, .int .i64 Bh, .bool n1b, .slice qz (List.length qw) qy] 74)).alloc (.cells #[.int .i64 0, .bool false, .slice none 0 0, .int .i64 0, .bool false, .slice none 0 0] 74) = W0 at *
 have HO := hide hO
 clear hO
 go_upto_region 1 with fail
 refine Rg.region 4 9 (Rg.pick [ai [.q x], ai [.q y], ai [.q v], ai [.q q]]) (ay w [(w.heap.size + 2, 74, zQ), (w.heap.size + 1, 74, [.q y]), (w.heap.size, 74, [.q x])] W0) ik [] kr kr rfl (Rg.gm.pick ⟨au _, au _, au _, au _, trivial⟩) (ay.start (aa HO))
  (ae (fo nz qo (Rg.cz kr rfl) [] [.q x] [])
  (ae (fo nz nu (Rg.cz kr rfl) [] [.q y] [])
  (ae (jf Tryz.func79 kr rfl ay.step (Rg.ax 1 kr) (fun W v0 hG h0 => q1b (aa H1) hG.bel h0))
  (ae (iw Tryz.func111 kr rfl ay.step (Rg.ax 0 kr) (Rg.ax 2 kr) (fun W v0 v1 hG h0 h1 => q2b (aa H2) hG.bel h0 h1))
  Rg.cu)))) ?_
 intro v1 V1 hG1 hv1 hne1
 simp only [Rg.puts, jr, jq, jo, jm, Act.put, jl, jk, ji]
 have hO := hG1.1
 refine ky hO 0 [] zQ [.q q] [] rfl Bq rfl (show ai [.q q] V1 (v1 3) from hv1 3 (by decide)) rfl rfl rfl ?_
 intro uy iy hk0
 replace hO := iy
 clear iy
 clear HO
 have HO := hide hO
 clear hO hG1 hv1 hne1 hk0
 go_wp2_with fail
 exact zh Tryz.results113 Oy rfl (aa HO) me0 rfl rfl
theorem alu {w : World} {x y v q : Rat} (g1 : Ql w 79 y v) (g2 : Hw w 111 x v q) : Hw w 113 x y q :=
 fun _ _ _ _ _ _ _ _ _ _ _ _ _ _ _ _ _ _ _ _ W hW f1 f2 f3 f4 => (aor W _ ⟨_, rfl, ek.q f1 f2 rfl⟩ _ ⟨_, rfl, ek.q f3 f4 rfl⟩ (g1.mono hW) (g2.mono hW)).mono fun _ _ h => aoy h
end Sb
theorem ajt {w : World} {K : Nat} (hT : rz w) (x y : Rat) (hx : za K x) (hy : za K y) (hK : K + K + 1 ≤ lim) : Hw w 68 x y (x - y) ∧ za (K + K + 1) (x - y) := by
 obtain ⟨a, b⟩ := acu hT x (-y) hx hy.neg hK
 rw [Rat.sub_eq_add_neg]
 exact ⟨als (aju w y) a, b⟩
theorem ayu {w : World} {K : Nat} (hT : rz w) (x y : Rat) (hx : za K x) (hy : za K y) (hK : K + K + 1 ≤ lim) (h0 : y.num ≠ 0) : Hw w 113 x y (x / y) ∧ za (K + K) (x / y) := by
 obtain ⟨a, b⟩ := acs hT x (y⁻¹) hx (hy.inv h0) hK
 rw [Rat.div_def]
 exact ⟨alu (ajv w y h0) a, b⟩

end Go.Proofs.YtjdnmdlnaoedoaaGreatDoor
namespace Go.Proofs.YtjdnmdlnaoedoaaGreatDoor
open Go.RowKit

def OpC (w : World) (F : Nat) (x y : Rat) (o : Int) : Prop := ∀ (s1 : Int) (dh : Bool) (A1 : Option Addr) (c1 : Nat) (l1 : List Nat) (s2 : Int) (di : Bool) (A2 : Option Addr) (c2 : Nat) (l2 : List Nat) (s3 : Int) (Dy : Bool) (A3 : Option Addr) (c3 : Nat) (l3 : List Nat) (s4 : Int) (Ee : Bool) (A4 : Option Addr) (c4 : Nat) (l4 : List Nat) (W : World), Below w.heap.size w W → jc W s1 dh A1 c1 l1 x.num → jc W s2 di A2 c2 l2 (x.den : Int) → jc W s3 Dy A3 c3 l3 y.num → jc W s4 Ee A4 c4 l4 (y.den : Int) → Calls Tryz.prog F #[(Value.agg #[.int .i64 s1, .bool dh, .slice A1 l1.length c1, .int .i64 s2, .bool di, .slice A2 l2.length c2]), (Value.agg #[.int .i64 s3, .bool Dy, .slice A3 l3.length c3, .int .i64 s4, .bool Ee, .slice A4 l4.length c4])] W fun e w' => e = .returned (.int .i64 o) ∧ Below W.heap.size W w'
set_option maxHeartbeats 16000000 in
theorem aou (s1 : Int) (dh : Bool) (A1 : Option Addr) (c1 : Nat) (l1 : List Nat) (s2 : Int) (di : Bool) (A2 : Option Addr) (c2 : Nat) (l2 : List Nat) (s3 : Int) (Dy : Bool) (A3 : Option Addr) (c3 : Nat) (l3 : List Nat) (s4 : Int) (Ee : Bool) (A4 : Option Addr) (c4 : Nat) (l4 : List Nat) (z1 z2 z3 z4 m1 m2 : Int) (w : World) (f1 : jc w s1 dh A1 c1 l1 z1) (f2 : jc w s2 di A2 c2 l2 z2) (f3 : jc w s3 Dy A3 c3 l3 z3) (f4 : jc w s4 Ee A4 c4 l4 z4) (g1 : Du w 135 z1 z4 m1) (g2 : Du w 135 z3 z2 m2) :
  Calls Tryz.prog 69 #[(Value.agg #[.int .i64 s1, .bool dh, .slice A1 l1.length c1, .int .i64 s2, .bool di, .slice A2 l2.length c2]), (Value.agg #[.int .i64 s3, .bool Dy, .slice A3 l3.length c3, .int .i64 s4, .bool Ee, .slice A4 l4.length c4])] w fun e w' => e = .returned (.int .i64 (jw (m1 - m2))) ∧ Below w.heap.size w w' := by
 have H1 := hide f1
 have H2 := hide f2
 have H3 := hide f3
 have H4 := hide f4
 have Fe := hide g1
 have HG2 := hide g2
 obtain ⟨o, ho⟩ : ∃ o, o = jw (m1 - m2) := ⟨_, rfl⟩
 have HCM := hide (fun (s5 : Int) (Ce : Bool) (A5 : Option Addr) (c5 : Nat) (l5 : List Nat) (s6 : Int) (Po : Bool) (A6 : Option Addr) (c6 : Nat) (l6 : List Nat) (W : World) (f5 : jc W s5 Ce A5 c5 l5 m1) (f6 : jc W s6 Po A6 c6 l6 m2) => (show Calls Tryz.prog 136 #[(Value.agg #[.int .i64 s5, .bool Ce, .slice A5 l5.length c5]), (Value.agg #[.int .i64 s6, .bool Po, .slice A6 l6.length c6])] W fun e w' => e = .returned (.int .i64 o) ∧ Below W.heap.size W w' by rw [ho]; exact agx s5 Ce A5 c5 l5 m1 s6 Po A6 c6 l6 m2 W f5 f6))
 rw [← ho]
 clear f1 f2 f3 f4 g1 g2 ho
 go_enter Tryz.func69, Tryz.ntmps69
 go_wp2_with fail
 obtain ⟨n0_, Mw, hsz, hw0⟩ := wy w (.cells #[.int .i64 s1, .bool dh, .slice A1 l1.length c1, .int .i64 s2, .bool di, .slice A2 l2.length c2] 74) (.cells #[.int .i64 s3, .bool Dy, .slice A3 l3.length c3, .int .i64 s4, .bool Ee, .slice A4 l4.length c4] 74)
 generalize ((w.alloc (.cells #[.int .i64 s1, .bool dh, .slice A1 l1.length c1, .int .i64 s2, .bool di, .slice A2 l2.length c2] 74)).alloc (.cells #[.int .i64 s3, .bool Dy, .slice A3 l3.length c3, .int .i64 s4, .bool Ee, .slice A4 l4.length c4] 74)) = W0 at *
 have yu : W0.cell? ⟨w.heap.size, 0, none⟩ = some (.int .i64 s1) := ah n0_ 0
 have yo : W0.cell? ⟨w.heap.size, 1, none⟩ = some (.bool dh) := ah n0_ 1
 have Ba : W0.cell? ⟨w.heap.size, 2, none⟩ = some (.slice A1 l1.length c1) := ah n0_ 2
 have Cf : W0.cell? ⟨w.heap.size, 3, none⟩ = some (.int .i64 s2) := ah n0_ 3
 have Eg : W0.cell? ⟨w.heap.size, 4, none⟩ = some (.bool di) := ah n0_ 4
 have Ef : W0.cell? ⟨w.heap.size, 5, none⟩ = some (.slice A2 l2.length c2) := ah n0_ 5
 have Am : W0.cell? ⟨w.heap.size + 1, 0, none⟩ = some (.int .i64 s3) := ah Mw 0
 have Al : W0.cell? ⟨w.heap.size + 1, 1, none⟩ = some (.bool Dy) := ah Mw 1
 have Ey : W0.cell? ⟨w.heap.size + 1, 2, none⟩ = some (.slice A3 l3.length c3) := ah Mw 2
 have Mh : W0.cell? ⟨w.heap.size + 1, 3, none⟩ = some (.int .i64 s4) := ah Mw 3
 have Un : W0.cell? ⟨w.heap.size + 1, 4, none⟩ = some (.bool Ee) := ah Mw 4
 have Um : W0.cell? ⟨w.heap.size + 1, 5, none⟩ = some (.slice A4 l4.length c4) := ah Mw 5
 have q0 : w.heap.size < W0.heap.size := by omega
 have q1 : w.heap.size + 1 < W0.heap.size := by omega
 clear n0_ Mw hsz
 replace H1 := hide ((aa H1).below hw0)
 replace H2 := hide ((aa H2).below hw0)
 replace H3 := hide ((aa H3).below hw0)
 replace H4 := hide ((aa H4).below hw0)
 have KEEP := hide (show ∀ X, Below W0.heap.size W0 X → X.cell? ⟨w.heap.size, 0, none⟩ = some (.int .i64 s1) ∧ X.cell? ⟨w.heap.size, 1, none⟩ = some (.bool dh) ∧ X.cell? ⟨w.heap.size, 2, none⟩ = some (.slice A1 l1.length c1) ∧ X.cell? ⟨w.heap.size, 3, none⟩ = some (.int .i64 s2) ∧ X.cell? ⟨w.heap.size, 4, none⟩ = some (.bool di) ∧ X.cell? ⟨w.heap.size, 5, none⟩ = some (.slice A2 l2.length c2) ∧ X.cell? ⟨w.heap.size + 1, 0, none⟩ = some (.int .i64 s3) ∧ X.cell? ⟨w.heap.size + 1, 1, none⟩ = some (.bool Dy) ∧ X.cell? ⟨w.heap.size + 1, 2, none⟩ = some (.slice A3 l3.length c3) ∧ X.cell? ⟨w.heap.size + 1, 3, none⟩ = some (.int .i64 s4) ∧ X.cell? ⟨w.heap.size + 1, 4, none⟩ = some (.bool Ee) ∧ X.cell? ⟨w.heap.size + 1, 5, none⟩ = some (.slice A4 l4.length c4) from fun X hX => ⟨iq hX q0 yu, iq hX q0 yo, iq hX q0 Ba, iq hX q0 Cf, iq hX q0 Eg, iq hX q0 Ef, iq hX q1 Am, iq hX q1 Al, iq hX q1 Ey, iq hX q1 Mh, iq hX q1 Un, iq hX q1 Um⟩)
 go_region_held3 (fun w' => w'.cell? ⟨w.heap.size, 0, none⟩ = some (.int .i64 s1) ∧ w'.cell? ⟨w.heap.size, 1, none⟩ = some (.bool dh) ∧ w'.cell? ⟨w.heap.size, 2, none⟩ = some (.slice A1 l1.length c1) ∧ w'.cell? ⟨w.heap.size, 3, none⟩ = some (.int .i64 s2) ∧ w'.cell? ⟨w.heap.size, 4, none⟩ = some (.bool di) ∧ w'.cell? ⟨w.heap.size, 5, none⟩ = some (.slice A2 l2.length c2) ∧ w'.cell? ⟨w.heap.size + 1, 0, none⟩ = some (.int .i64 s3) ∧ w'.cell? ⟨w.heap.size + 1, 1, none⟩ = some (.bool Dy) ∧ w'.cell? ⟨w.heap.size + 1, 2, none⟩ = some (.slice A3 l3.length c3) ∧ w'.cell? ⟨w.heap.size + 1, 3, none⟩ = some (.int .i64 s4) ∧ w'.cell? ⟨w.heap.size + 1, 4, none⟩ = some (.bool Ee) ∧ w'.cell? ⟨w.heap.size + 1, 5, none⟩ = some (.slice A4 l4.length c4)) (exact (aa KEEP) _ bel) (first | (go_at_call_of 135 (Value.agg #[.int .i64 s1, .bool dh, .slice A1 l1.length c1]); refine ((aa Fe) s1 dh A1 c1 l1 s4 Ee A4 c4 l4 _ (bz hw0 bel) (jc.below (aa H1) bel) (jc.below (aa H4) bel)).mono ?_; rintro e w' ⟨s5, Ce, A5, c5, l5, rfl, zo, hb5⟩; have hbw := df (w := W0) bel hb5; have hsw := hbw.size; obtain ⟨hc, hfz⟩ := dz hbw) | (go_at_call_of 135 (Value.agg #[.int .i64 s3, .bool Dy, .slice A3 l3.length c3]); refine ((aa HG2) s3 Dy A3 c3 l3 s2 di A2 c2 l2 _ (bz hw0 bel) (jc.below (aa H3) bel) (jc.below (aa H2) bel)).mono ?_; rintro e w' ⟨s6, Po, A6, c6, l6, rfl, Cu, hb6⟩; have zo := jc.below (jc.below zo bel) hb6; have hbw := df (w := W0) bel hb6; have hsw := hbw.size; obtain ⟨hc, hfz⟩ := dz hbw) | (go_at_call_of 136 (Value.agg #[.int .i64 s5, .bool Ce, .slice A5 l5.length c5]); refine ((aa HCM) s5 Ce A5 c5 l5 s6 Po A6 c6 l6 _ (jc.below zo bel) (jc.below Cu bel)).mono ?_; rintro e w' ⟨rfl, Nj⟩; have hbw := df (w := W0) bel Nj; have hsw := hbw.size; obtain ⟨hc, hfz⟩ := dz hbw))
 all_goals
  have ku : Below w.heap.size w w' := bz hw0 hbw
  go_wp2_with fail
  exact bodyPost_ret (v := .int .i64 o) (by simp [results, Tryz.results69, go_sem]) rfl ⟨rfl, ku⟩
theorem ajw (w : World) {K : Nat} (x y : Rat) (hx : za K x) (hy : za K y) (hK : K ≤ lim) : OpC w 69 x y (jw (x.num * y.den - y.num * x.den)) :=
 fun s1 dh A1 c1 l1 s2 di A2 c2 l2 s3 Dy A3 c3 l3 s4 Ee A4 c4 l4 W hW f1 f2 f3 f4 => aou s1 dh A1 c1 l1 s2 di A2 c2 l2 s3 Dy A3 c3 l3 s4 Ee A4 c4 l4 x.num (x.den : Int) y.num (y.den : Int) _ _ W f1 f2 f3 f4 (Mv hx.1 hy.2 hK rfl) (Mv hy.1 hx.2 hK rfl)

end Go.Proofs.YtjdnmdlnaoedoaaGreatDoor
namespace Go.Proofs.YtjdnmdlnaoedoaaGreatDoor
open Go.RowKit

theorem agi {n d : Int} (h : Wd.xz n d) : za 1 (Wd.qR n d) := by
 obtain ⟨e1, e2⟩ := Wd.Oh h
 obtain ⟨h1, h2, h3, h4, _⟩ := h
 have B : (1000000000000 : Nat) < dw := by rw [jb]; omega
 exact ⟨by rw [e1]; exact Wd.Sz.of_le om vg (Nat.le_refl _), by rw [e2]; exact Wd.Sz.of_le om vg (Nat.le_refl _)⟩
end Go.Proofs.YtjdnmdlnaoedoaaGreatDoor
namespace Go.Proofs.YtjdnmdlnaoedoaaGreatDoor
open Go.RowKit

namespace Sb
def Sm (K : Nat) (x : Rat) : Prop := za K x ∧ K ≤ 1000000
theorem Sm.mono {K L : Nat} {x : Rat} (h : Sm K x) (hk : K ≤ L) (hl : L ≤ 1000000) : Sm L x := ⟨h.1.mono hk, hl⟩
theorem Ej : 100000000 ≤ lim := by unfold lim; omega
variable {W : World} {v0 v1 : Value} {x y : Rat} {K : Nat}
theorem afj (hT : rz W) (hx : Sm K x) (hy : Sm K y) (h0 : ai [.q x] W v0) (h1 : ai [.q y] W v1) : Calls Tryz.prog 78 #[v0, v1] W (jh (ai [.q (x + y)]) W) :=
 afi (acu hT x y hx.1 hy.1 (by have := hx.2; have := Ej; omega)).1 h0 h1
theorem Re (hT : rz W) (hx : Sm K x) (hy : Sm K y) (h0 : ai [.q x] W v0) (h1 : ai [.q y] W v1) : Calls Tryz.prog 111 #[v0, v1] W (jh (ai [.q (x * y)]) W) :=
 afi (acs hT x y hx.1 hy.1 (by have := hx.2; have := Ej; omega)).1 h0 h1
theorem axe (h0 : ai [.q x] W v0) : Calls Tryz.prog 134 #[v0] W (jh (ai [.q (-x)]) W) := amt (aju W x) h0
theorem Ik (hx : Sm K x) (hy : Sm K y) (h0 : ai [.q x] W v0) (h1 : ai [.q y] W v1) : Calls Tryz.prog 69 #[v0, v1] W (jh (Rg.bf (.int .i64 (jw (x.num * y.den - y.num * x.den)))) W) := by
 obtain ⟨s1, n1, A1, c1, l1, s2, n2, A2, c2, l2, rfl, f1, f2⟩ := Gi h0
 obtain ⟨s3, n3, A3, c3, l3, s4, n4, A4, c4, l4, rfl, f3, f4⟩ := Gi h1
 exact (ajw W x y hx.1 hy.1 (by have := hx.2; have := Ej; omega) _ _ _ _ _ _ _ _ _ _ _ _ _ _ _ _ _ _ _ _ W (Below.refl _ _) f1 f2 f3 f4).mono fun e w' h => Wx h
theorem bdk {n d : Int} (ok : Wd.xz n d) (h0 : ai [.v (.int .i64 n), .v (.int .i64 d)] W v0) : Calls Tryz.prog 57 #[v0] W (jh (ai [.q (Wd.qR n d)]) W) := by
 rw [Xa h0]
 obtain ⟨e1, e2⟩ := Wd.Oh ok
 obtain ⟨h1, h2, h3, h4, _⟩ := ok
 refine (acp n d W om om om om).mono fun e w' h => Pm ?_
 rw [e1, e2]; exact h
theorem bfu (h0 : ai [.q x] W v0) : Calls Tryz.prog 59 #[v0] W (jh (Rg.bf (.tuple #[.agg #[.int .i64 (Wd.told x).n, .int .i64 (Wd.told x).d], .int .i64 (Wd.told x).e])) W) := by
 obtain ⟨s1, n1, A1, c1, l1, s2, n2, A2, c2, l2, rfl, f1, f2⟩ := Gi h0
 exact (atd s1 n1 A1 c1 l1 _ s2 n2 A2 c2 l2 _ W f1 f2 x rfl rfl).mono fun e w' h => Wx h
theorem arb (n : Int) (h1 : -9223372036854775808 ≤ n) (h2 : n ≤ 9223372036854775807) (W : World) : Calls Tryz.prog 124 #[.int .i64 n] W (jh (ai [.z n]) W) :=
 (Ky n h1 h2 W).mono fun e w' h => Xx h
theorem ara {a b : Int} (hT : rz W) (hb : b ≠ 0) (ha : Wd.Sz dw K a) (hb2 : Wd.Sz dw K b) (hK : K ≤ 1000000) (h0 : ai [.z a] W v0) (h1 : ai [.z b] W v1) : Calls Tryz.prog 123 #[v0, v1] W (jh (ai [.q (Rat.divInt a b)]) W) := by
 obtain ⟨s1, n1, A1, c1, l1, rfl, f1⟩ := Il h0
 obtain ⟨s2, n2, A2, c2, l2, rfl, f2⟩ := Il h1
 exact (atp s1 n1 A1 c1 l1 s2 n2 A2 c2 l2 a b W hT f1 f2 hb ha hb2 (by have := Ej; omega)).mono fun e w' h => Pm h
theorem ard {a : Int} (h0 : ai [.z a] W v0) : Calls Tryz.prog 147 #[v0] W (jh (ai [.z (-a)]) W) := by
 obtain ⟨s1, n1, A1, c1, l1, rfl, f1⟩ := Il h0
 exact (Sa s1 n1 A1 c1 l1 a W f1).mono fun e w' h => Xx h
theorem Sm.add (hx : Sm K x) (hy : Sm K y) (h : K + K + 1 ≤ 1000000) (w : World) (hT : rz w) : Sm (K + K + 1) (x + y) := ⟨(acu hT x y hx.1 hy.1 (by have := Ej; omega)).2, h⟩
theorem Sm.mul (hx : Sm K x) (hy : Sm K y) (h : K + K ≤ 1000000) (w : World) (hT : rz w) : Sm (K + K) (x * y) := ⟨(acs hT x y hx.1 hy.1 (by have := Ej; omega)).2, h⟩
theorem Sm.quo (hx : Sm K x) (hy : Sm K y) (h : K + K ≤ 1000000) (hn : y.num ≠ 0) (w : World) (hT : rz w) : Sm (K + K) (x / y) := ⟨(ayu hT x y hx.1 hy.1 (by have := Ej; omega) hn).2, h⟩
theorem Sm.neg (hx : Sm K x) : Sm K (-x) := ⟨hx.1.neg, hx.2⟩
theorem yh {n d : Int} (ok : Wd.xz n d) : Sm 1 (Wd.qR n d) := ⟨agi ok, by omega⟩
end Sb

end Go.Proofs.YtjdnmdlnaoedoaaGreatDoor
namespace Go.Proofs.YtjdnmdlnaoedoaaGreatDoor
namespace Wd

def simp : Nat → Nat → Nat → Nat → Nat → Nat × Nat
 | 0, _, _, _, _ => (0, 1)
 | f + 1, a, b, c, d => if b = 1 then (a, 1) else if a / b < c / d then (a / b + 1, 1)
  else (a / b * (simp f d (c - a / b * d) b (a - a / b * b)).1 + (simp f d (c - a / b * d) b (a - a / b * b)).2, (simp f d (c - a / b * d) b (a - a / b * b)).1)

structure aio (a b c d : Nat) : Prop where
 pa : 0 < a
 pb : 0 < b
 pc : 0 < c
 pd : 0 < d
 co : a.Coprime b
 co2 : c.Coprime d
 le : a * d ≤ c * b

theorem Yy (a b : Nat) : a - a / b * b = a % b := by
 have := Nat.div_add_mod a b
 rw [Nat.mul_comm] at this
 omega
theorem aio.step {a b c d : Nat} (h : aio a b c d) (hb : b ≠ 1) (hk : ¬ a / b < c / d) :
  aio d (c - a / b * d) b (a - a / b * b) ∧ c / d = a / b ∧ c - a / b * d = c % d ∧ c - a / b * d < d ∧ a - a / b * b < b := by
 have ha := h.pa; have hb0 := h.pb; have hc := h.pc; have hd := h.pd
 have e1 := Nat.div_add_mod a b
 have r0 : a % b ≠ 0 := fun e => by
  have hdv := Nat.dvd_of_mod_eq_zero e
  have := Nat.Coprime.eq_one_of_dvd h.co.symm hdv
  exact hb this
 have hkd : a / b ≤ c / d := by
  rw [Nat.le_div_iff_mul_le hd]
  have h2 : a / b * b * d ≤ c * b := Nat.le_trans (Nat.mul_le_mul_right _ (Nat.div_mul_le_self a b)) h.le
  rw [Nat.mul_right_comm] at h2
  exact Nat.le_of_mul_le_mul_right h2 hb0
 have hq : c / d = a / b := by omega
 have e2 : c - a / b * d = c % d := by rw [← hq]; exact Yy c d
 have e3 := Yy a b
 have e4 := Nat.div_add_mod c d
 have hle : a % b * d ≤ c % d * b := by
  have hle := h.le
  rw [hq] at e4
  generalize a / b = k at *
  generalize a % b = r at *
  generalize c % d = s at *
  subst e1 e4
  rw [Nat.add_mul, Nat.add_mul] at hle
  have : b * k * d = d * k * b := by rw [Nat.mul_comm b k, Nat.mul_assoc, Nat.mul_comm b d, ← Nat.mul_assoc, Nat.mul_comm k d]
  omega
 have s0 : 0 < c % d := by
  rcases Nat.eq_zero_or_pos (c % d) with e | e
  ·
   rw [e, Nat.zero_mul] at hle
   have := Nat.mul_pos (Nat.pos_of_ne_zero r0) hd
   omega
  ·
   exact e
 rw [e2, e3]
 refine ⟨⟨hd, s0, hb0, Nat.pos_of_ne_zero r0, ?_, ?_, ?_⟩, hq, rfl, Nat.mod_lt _ hd, Nat.mod_lt _ hb0⟩
 ·
  have := h.co2
  unfold Nat.Coprime at *
  rw [Nat.gcd_comm, ← Nat.gcd_rec, Nat.gcd_comm]; exact this
 ·
  have := h.co
  unfold Nat.Coprime at *
  rw [Nat.gcd_comm, ← Nat.gcd_rec, Nat.gcd_comm]; exact this
 ·
  rw [Nat.mul_comm, Nat.mul_comm b]; exact hle
def fr (n d : Nat) : Rat := Rat.divInt (n : Int) (d : Int)
end Wd
end Go.Proofs.YtjdnmdlnaoedoaaGreatDoor
namespace Go.Proofs.YtjdnmdlnaoedoaaGreatDoor
namespace Wd

def cf : Nat → Int → Int → List Int
 | 0, _, _ => []
 | f + 1, n, d => if d = 0 then [] else n / d :: cf f d (n % d)
theorem aqv : ∀ (f : Nat) (n d : Int), (cf f n d).length ≤ f
 | 0, _, _ => Nat.le_refl _
 | f + 1, n, d => by
  unfold cf
  split
  ·
   exact Nat.zero_le _
  ·
   have := aqv f d (n % d)
   rw [List.length_cons]; omega
theorem aze (f : Nat) (n : Int) : cf f n 0 = [] := by
 cases f with
 | zero => rfl
 | succ f => simp [cf]
structure Ot (L l : List Int) (n d : Int) : Prop where
 ok : ∃ f : Nat, d < f ∧ l ++ cf f n d = L ∧ L.length ≤ l.length + f
 d0 : 0 ≤ d
 nb : -1000000000000 ≤ n ∧ n ≤ 1000000000000
 db : d ≤ 1000000000000
theorem Ot.start {n d : Int} (h : xz n d) : Ot (cf (d.toNat + 1) n d) [] n d := by
 obtain ⟨h1, h2, h3, h4, _⟩ := h
 exact ⟨⟨d.toNat + 1, by omega, rfl, by have := aqv (d.toNat + 1) n d; simpa using this⟩, by omega, ⟨by omega, by omega⟩, by omega⟩
theorem Ot.step {L l : List Int} {n d : Int} (h : Ot L l n d) (hd : 0 < d) : Ot L (l ++ [n / d]) d (n % d) ∧ n - n / d * d = n % d ∧ -1000000000000 ≤ n / d ∧ n / d ≤ 1000000000000 ∧ -2000000000000 ≤ n / d * d ∧ n / d * d ≤ 2000000000000 := by
 obtain ⟨⟨f, h1, h2, h3⟩, h4, h5, h6⟩ := h
 have e1 := Int.emod_nonneg n (show d ≠ 0 by omega)
 have e2 := Int.emod_lt_of_pos n hd
 have e3 := Int.mul_ediv_add_emod n d
 rw [Int.mul_comm] at e3
 have lo : -1000000000000 ≤ n / d := by
  rw [Int.le_ediv_iff_mul_le hd]
  omega
 have hi : n / d ≤ 1000000000000 := by
  rcases Int.lt_or_le n 0 with hn | hn
  ·
   have : n / d < 0 := Int.ediv_neg_of_neg_of_pos hn hd
   omega
  ·
   have := Int.ediv_le_self d hn
   omega
 have e4 : n - n / d * d = n % d ∧ -2000000000000 ≤ n / d * d ∧ n / d * d ≤ 2000000000000 := by
  generalize n / d * d = t at *
  generalize n % d = r at *
  exact ⟨by omega, by omega, by omega⟩
 refine ⟨⟨?_, e1, by omega, by omega⟩, e4.1, lo, hi, e4.2.1, e4.2.2⟩
 cases f with
 | zero => omega
 | succ f =>
  refine ⟨f, by omega, ?_, by simp; omega⟩
  rw [← h2]
  simp only [cf, if_neg (show ¬ d = 0 by omega), List.append_assoc, List.cons_append, List.nil_append]
theorem Ot.done {L l : List Int} {n : Int} (h : Ot L l n 0) : l = L := by
 obtain ⟨⟨f, h1, h2, h3⟩, _, _, _⟩ := h
 rw [aze, List.append_nil] at h2
 exact h2
theorem Ot.len {L l : List Int} {n d : Int} (h : Ot L l n d) (hL : L.length ≤ 1000000000001) : l.length ≤ 1000000000001 := by
 obtain ⟨⟨f, h1, h2, h3⟩, _, _, _⟩ := h
 rw [← h2, List.length_append] at hL
 omega
end Wd
end Go.Proofs.YtjdnmdlnaoedoaaGreatDoor
namespace Go.Proofs.YtjdnmdlnaoedoaaGreatDoor
namespace Wd

theorem Er (a : Int) : (Rat.divInt a 1).num = a ∧ ((Rat.divInt a 1).den : Int) = 1 := by
 have h : Rat.divInt a 1 = (a : Rat) := by
  rw [← Rat.num_divInt_den (a : Rat)]; rfl
 rw [h]
 exact ⟨rfl, rfl⟩
def arl (l : List Int) : Prop := 0 < l.length ∧ (∀ i, i < l.length → 1 ≤ i → 1 ≤ l.getD i 0) ∧ (l.length = 1 ∨ l.getD (l.length - 1) 0 ≠ 1)
instance (l : List Int) : Decidable (arl l) := by unfold arl; infer_instance
end Wd
end Go.Proofs.YtjdnmdlnaoedoaaGreatDoor
namespace Go.Proofs.YtjdnmdlnaoedoaaGreatDoor
open Go.RowKit

end Go.Proofs.YtjdnmdlnaoedoaaGreatDoor
namespace Go.Proofs.YtjdnmdlnaoedoaaGreatDoor
open Go.RowKit

end Go.Proofs.YtjdnmdlnaoedoaaGreatDoor
namespace Go.Proofs.YtjdnmdlnaoedoaaGreatDoor
open Go.RowKit

structure NbW (w wr : World) (b0 b1 l0 l1 : Int) : Prop where
 below : Below w.heap.size w wr
 x : wr.heap[w.heap.size]? = some (.cells #[.int .i64 22, .int .i64 7] 23 (0, 0))
 lo : wr.heap[w.heap.size + 1]? = some (.cells #[.int .i64 0, .int .i64 0] 23 (0, 0))
 hi : wr.heap[w.heap.size + 2]? = some (.cells #[.int .i64 0, .int .i64 0] 23 (0, 0))
 bef : wr.heap[w.heap.size + 3]? = some (.cells #[.int .i64 b0, .int .i64 b1] 23 (0, 0))
 last : wr.heap[w.heap.size + 4]? = some (.cells #[.int .i64 l0, .int .i64 l1] 23 (0, 0))
theorem NbW.step {w wr w' : World} {b0 b1 l0 l1 : Int} (h : NbW w wr b0 b1 l0 l1) (hb : Below wr.heap.size wr w') : NbW w w' b0 b1 l0 l1 :=
 ⟨bz h.below hb, (hb.block _ (lt_of_block h.x)).trans h.x, (hb.block _ (lt_of_block h.lo)).trans h.lo, (hb.block _ (lt_of_block h.hi)).trans h.hi, (hb.block _ (lt_of_block h.bef)).trans h.bef, (hb.block _ (lt_of_block h.last)).trans h.last⟩
theorem NbW.set {w wr : World} {b0 b1 l0 l1 : Int} (h : NbW w wr b0 b1 l0 l1) (u0 u1 v0 v1 : Int) :
  NbW w ((((wr.setCell ⟨w.heap.size + 3, 0, none⟩ (.int .i64 u0)).setCell ⟨w.heap.size + 3, 1, none⟩ (.int .i64 u1)).setCell ⟨w.heap.size + 4, 0, none⟩ (.int .i64 v0)).setCell ⟨w.heap.size + 4, 1, none⟩ (.int .i64 v1)) u0 u1 v0 v1 := by
 have g1 := nk wr (w.heap.size + 3) (.int .i64 u0) (.int .i64 u1)
 have g2 := nk ((wr.setCell ⟨w.heap.size + 3, 0, none⟩ (.int .i64 u0)).setCell ⟨w.heap.size + 3, 1, none⟩ (.int .i64 u1)) (w.heap.size + 4) (.int .i64 v0) (.int .i64 v1)
 have s1 := g1.size
 have old : ∀ k, k < w.heap.size + 3 → ((((wr.setCell ⟨w.heap.size + 3, 0, none⟩ (.int .i64 u0)).setCell ⟨w.heap.size + 3, 1, none⟩ (.int .i64 u1)).setCell ⟨w.heap.size + 4, 0, none⟩ (.int .i64 v0)).setCell ⟨w.heap.size + 4, 1, none⟩ (.int .i64 v1)).heap[k]? = wr.heap[k]? := fun k hk => by
  have hl := lt_of_block h.last
  exact (g2.block k om (fun e => by injection e with e; omega)).trans (g1.block k om (fun e => by injection e with e; omega))
 have hl := lt_of_block h.last
 have e1 := Tx (u0 := .int .i64 u0) (u1 := .int .i64 u1) h.bef
 refine ⟨(h.below.grown g1 h.below.size (fun k hk => by injection hk with hk; omega)).grown g2 (by have := h.below.size; omega) (fun k hk => by injection hk with hk; omega), (old _ om).trans h.x, (old _ om).trans h.lo, (old _ om).trans h.hi, ?_, ?_⟩
 ·
  exact (g2.block _ (lt_of_block e1) (fun e => by injection e with e; omega)).trans e1
 ·
  exact Tx ((g1.block _ hl (fun e => by injection e with e; omega)).trans h.last)
end Go.Proofs.YtjdnmdlnaoedoaaGreatDoor
namespace Go.Proofs.YtjdnmdlnaoedoaaGreatDoor
open Go.RowKit

structure IQ (w : World) (zk : Int) (Uh : Bool) (qf : Option Addr) (c1a : Nat) (qd : List Nat) (Bh : Int) (Ug : Bool) (qz : Option Addr) (qy : Nat) (qw : List Nat) (q : Rat) : Prop where
 n : jc w zk Uh qf c1a qd q.num
 d : jc w Bh Ug qz qy qw (q.den : Int)
theorem IQ.below {w w' : World} {zk : Int} {Uh : Bool} {qf : Option Addr} {c1a : Nat} {qd : List Nat} {Bh : Int} {Ug : Bool} {qz : Option Addr} {qy : Nat} {qw : List Nat} {q : Rat} (h : IQ w zk Uh qf c1a qd Bh Ug qz qy qw q) (hb : Below w.heap.size w w') : IQ w' zk Uh qf c1a qd Bh Ug qz qy qw q := ⟨h.n.below hb, h.d.below hb⟩
set_option maxHeartbeats 16000000 in
theorem alk (n : Int) (w : World) (b1 : -9223372036854775808 ≤ n) (b2 : n ≤ 9223372036854775807) :
  Calls Tryz.prog 77 #[.int .i64 n] w fun e w' => Io w (Rat.divInt n 1).num ((Rat.divInt n 1).den : Int) e w' := by
 have hN := hide (fun W => Ky n b1 b2 W)
 have hO := hide (fun W => Ky 1 om om W)
 rw [(Wd.Er n).1, (Wd.Er n).2]
 clear b1 b2
 go_enter Tryz.func77, Tryz.ntmps77
 go_wp2_with fail
 obtain ⟨n0, hsz, hw0⟩ := acv w (.cells #[.int .i64 0, .bool false, .slice none 0 0, .int .i64 0, .bool false, .slice none 0 0] 74)
 generalize w.alloc (.cells #[.int .i64 0, .bool false, .slice none 0 0, .int .i64 0, .bool false, .slice none 0 0] 74) = W0 at *
 have r0 : W0.cell? ⟨w.heap.size, 0, none⟩ = some (.int .i64 0) := ah n0 0
 have f0 := az n0 0
 have r1 : W0.cell? ⟨w.heap.size, 1, none⟩ = some (.bool false) := ah n0 1
 have f1 := az n0 1
 have r2 : W0.cell? ⟨w.heap.size, 2, none⟩ = some (.slice none 0 0) := ah n0 2
 have f2 := az n0 2
 have r3 : W0.cell? ⟨w.heap.size, 3, none⟩ = some (.int .i64 0) := ah n0 3
 have f3 := az n0 3
 have r4 : W0.cell? ⟨w.heap.size, 4, none⟩ = some (.bool false) := ah n0 4
 have f4 := az n0 4
 have r5 : W0.cell? ⟨w.heap.size, 5, none⟩ = some (.slice none 0 0) := ah n0 5
 have f5 := az n0 5
 have q0 := lt_of_block n0
 have NR := Lib.hid n0
 clear n0 hsz
 refine ((aa hN) _).mono ?_
 rintro e W1 ⟨zk, Uh, qf, c1a, qd, rfl, g1, hb⟩
 have G1 := hide g1; have HB := hide hb
 clear g1 hb
 go_wp2_with fail
 refine ((aa hO) _).mono ?_
 rintro e w' ⟨Bh, Ug, qz, qy, qw, rfl, g2, hb2⟩
 have G1' := hide ((aa G1).below hb2)
 have hb := bz (aa HB) hb2
 obtain ⟨hc, hfz⟩ := dz hb
 have hblk := (hb.block _ q0).trans NR.out
 have mr := Lib.hid hblk
 have ku := bz hw0 hb
 have Tg := hide ku
 have G2 := hide g2
 clear g2 hb hb2 ku hblk
 go_wp2_with fail
 exact bodyPost_ret (v := (Value.agg #[.int .i64 zk, .bool Uh, .slice qf qd.length c1a, .int .i64 Bh, .bool Ug, .slice qz qw.length qy])) (by simp [results, Tryz.results77, go_sem, hc, r0, r1, r2, r3, r4, r5, q0]) rfl
  ⟨zk, Uh, qf, c1a, qd, Bh, Ug, qz, qy, qw, rfl, (aa G1').upto mr.out (Da _ _ _ _ _ _ _ _ _ _) (uw _ _ _ _ _ _ _ _), (aa G2).upto mr.out (Da _ _ _ _ _ _ _ _ _ _) (uw _ _ _ _ _ _ _ _), (aa Tg).grown (uw _ _ _ _ _ _ _ _) (aa Tg).size (fun k hk => by injection hk with hk; omega)⟩

end Go.Proofs.YtjdnmdlnaoedoaaGreatDoor
namespace Go.Proofs.YtjdnmdlnaoedoaaGreatDoor
open Go.RowKit

namespace Sb
section
variable {W : World} {v0 v1 : Value} {K : Nat}
theorem bdn {a b : Int} (ha : Wd.Sz dw K a) (hb : Wd.Sz dw K b) (hK : K ≤ 1000000) (h : b ≠ 0) (h0 : ai [.z a] W v0) (h1 : ai [.z b] W v1) : Calls Tryz.prog 144 #[v0, v1] W (jh (ai [.z (a.tdiv b)]) W) :=
 aij (Fj ha hb (by have := Ej; omega) h rfl) h0 h1
theorem arf {a b : Int} (ha : Wd.Sz dw K a) (hb : Wd.Sz dw K b) (hK : K ≤ 1000000) (h0 : ai [.z a] W v0) (h1 : ai [.z b] W v1) : Calls Tryz.prog 135 #[v0, v1] W (jh (ai [.z (a * b)]) W) :=
 aij (Mv ha hb (by have := Ej; omega) rfl) h0 h1
theorem bdo {a b : Int} (ha : Wd.Sz dw K a) (hb : Wd.Sz dw K b) (hK : K ≤ 1000000) (h0 : ai [.z a] W v0) (h1 : ai [.z b] W v1) : Calls Tryz.prog 145 #[v0, v1] W (jh (ai [.z (a + b)]) W) :=
 aij (apl ha hb (by have := Ej; omega) rfl) h0 h1
theorem arh {a b : Int} (h0 : ai [.z a] W v0) (h1 : ai [.z b] W v1) : Calls Tryz.prog 136 #[v0, v1] W (jh (Rg.bf (.int .i64 (jw (a - b)))) W) := by
 obtain ⟨s1, n1, A1, c1, l1, rfl, f1⟩ := Il h0
 obtain ⟨s2, n2, A2, c2, l2, rfl, f2⟩ := Il h1
 exact (agx s1 n1 A1 c1 l1 a s2 n2 A2 c2 l2 b W f1 f2).mono fun e w' h => Wx h
theorem adf (n : Int) (b1 : -9223372036854775808 ≤ n) (b2 : n ≤ 9223372036854775807) (W : World) : Calls Tryz.prog 77 #[.int .i64 n] W (jh (ai [.q (Rat.divInt n 1)]) W) :=
 (alk n W b1 b2).mono fun e w' h => Pm h
theorem ayd {z : Int} (h : 0 < z) : decide (0 < jw z) = true := decide_eq_true (by unfold jw; (repeat' split) <;> omega)
theorem asv {z : Int} (h : ¬ 0 < z) : decide (0 < jw z) = false := decide_eq_false (by unfold jw; (repeat' split) <;> omega)
theorem amo {x y : Int} (hy : 0 < y) : x / y = if 0 < x.tdiv y * y - x then x.tdiv y - 1 else x.tdiv y := by
 have h1 := Int.mul_tdiv_add_tmod x y
 have h2 := Int.mul_ediv_add_emod x y
 have h3 := Int.emod_nonneg x (show y ≠ 0 by omega)
 have h4 := Int.emod_lt_of_pos x hy
 have h5 : x.tmod y < y := Int.tmod_lt_of_pos x hy
 have h6 : -y < x.tmod y := by
  have := Int.lt_tmod_of_pos x hy
  omega
 generalize x.tdiv y = q at *
 generalize x / y = p at *
 generalize x % y = r at *
 generalize x.tmod y = s at *
 have e1 : q * y = y * q := Int.mul_comm _ _
 have e3 : y * p - y * q = y * (p - q) := by rw [Int.mul_sub]
 split
 ·
  have hs : s < 0 := by omega
  have e2 : y * (p - q) = s - r := by omega
  have : p - q < 0 := by
   rcases Int.lt_or_le (p - q) 0 with h | h
   ·
    exact h
   ·
    have := Int.mul_nonneg (Int.le_of_lt hy) h; omega
  have : -2 < p - q := by
   rcases Int.lt_or_le (-2) (p - q) with h | h
   ·
    exact h
   ·
    have := Int.mul_le_mul_of_nonneg_left h (Int.le_of_lt hy); omega
  omega
 ·
  have e2 : y * (p - q) = s - r := by omega
  have : p - q < 1 := by
   rcases Int.lt_or_le (p - q) 1 with h | h
   ·
    exact h
   ·
    have := Int.mul_le_mul_of_nonneg_left h (Int.le_of_lt hy); omega
  have : -1 < p - q := by
   rcases Int.lt_or_le (-1) (p - q) with h | h
   ·
    exact h
   ·
    have := Int.mul_le_mul_of_nonneg_left h (Int.le_of_lt hy); omega
  omega
end
set_option maxHeartbeats 16000000 in
theorem bdm {a b : Int} {K : Nat} (sa : Wd.Sz dw K a) (sb : Wd.Sz dw K (-b)) (hK : K ≤ 1000000) (w : World) (u0 : Value) (h0 : ai [.z a] w u0) (u1 : Value) (h1 : ai [.z b] w u1) :
  Calls Tryz.prog 203 #[u0, u1] w (jh (ai [.z (a - b)]) w) := by
 rw [show a - b = a + -b from Int.sub_eq_add_neg]
 have HSA := hide sa
 have HSB := hide sb
 have HHK := hide hK
 clear sa sb hK
 obtain ⟨Ak, wh, ry, c0a, rq, rfl, f0a⟩ := Il h0
 obtain ⟨zk, xh, qf, c1a, qd, rfl, f1a⟩ := Il h1
 go_enter Tryz.func203, Tryz.ntmps203
 go_upto_region 1 with fail
 have hO := (Own.push (T := 72) (ls := zZ) (cs := [.int .i64 0, .bool false, .slice none 0 0]) (Own.push (T := 72) (ls := [.z b]) (cs := [.int .i64 zk, .bool xh, .slice qf (List.length qd) c1a]) (Own.push (T := 72) (ls := [.z a]) (cs := [.int .i64 Ak, .bool wh, .slice ry (List.length rq) c0a]) (Own.nil w) (ek.z f0a rfl) (w.heap.size) rfl) (((ek.z f1a rfl) : ek w [.z b] [.int .i64 zk, .bool xh, .slice qf (List.length qd) c1a]).below (by repeat (first | exact Below.refl _ _ | refine ja ?_ _))) (w.heap.size + 1) (by simp only [World.size_alloc])) (((ek.vs w [.int .i64 0, .bool false, .slice none 0 0] rfl) : ek w zZ [.int .i64 0, .bool false, .slice none 0 0]).below (by repeat (first | exact Below.refl _ _ | refine ja ?_ _))) (w.heap.size + 2) (by simp only [World.size_alloc]))
 generalize ((w.alloc (.cells #[.int .i64 Ak, .bool wh, .slice ry (List.length rq) c0a] 72)).alloc (.cells #[.int .i64 zk, .bool xh, .slice qf (List.length qd) c1a] 72)).alloc (.cells #[.int .i64 0, .bool false, .slice none 0 0] 72) = W0 at *
 have HO := hide hO
 clear hO
 go_upto_region 1 with fail
 refine Rg.region 4 9 (Rg.pick [ai [.z a], ai [.z b], ai [.z (-b)], ai [.z (a + -b)]]) (ay w [(w.heap.size + 2, 72, zZ), (w.heap.size + 1, 72, [.z b]), (w.heap.size, 72, [.z a])] W0) ik [] kr kr rfl (Rg.gm.pick ⟨au _, au _, au _, au _, trivial⟩) (ay.start (aa HO))
  (ae (fo qi qo (Rg.cz kr rfl) [] [.z a] [])
  (ae (fo qi nu (Rg.cz kr rfl) [] [.z b] [])
  (ae (jf Tryz.func147 kr rfl ay.step (Rg.ax 1 kr) (fun W v0 hG h0 => ard h0))
  (ae (iw Tryz.func145 kr rfl ay.step (Rg.ax 0 kr) (Rg.ax 2 kr) (fun W v0 v1 hG h0 h1 => bdo (aa HSA) (aa HSB) (aa HHK) h0 h1))
  Rg.cu)))) ?_
 intro v1 V1 hG1 hv1 hne1
 simp only [Rg.puts, jr, jq, jo, jm, Act.put, jl, jk, ji]
 have hO := hG1.1
 refine ky hO 0 [] zZ [.z (a + -b)] [] rfl Dv rfl (show ai [.z (a + -b)] V1 (v1 3) from hv1 3 (by decide)) rfl rfl rfl ?_
 intro uy iy hk0
 replace hO := iy
 clear iy
 clear HO
 have HO := hide hO
 clear hO hG1 hv1 hne1 hk0
 go_wp2_with fail
 exact zh Tryz.results203 Xw rfl (aa HO) me0 rfl rfl
theorem bfg {K : Nat} : Wd.Sz dw (K + 1) (-1) := Wd.Sz.of_le (by rw [jb]; omega) vg om
set_option maxHeartbeats 16000000 in
theorem avn {x y : Int} {K : Nat} (sx : Wd.Sz dw (K + 1) x) (sy : Wd.Sz dw (K + 1) y) (hK : K + 1 ≤ 1000000) (hy : 0 < y) (w : World) (u0 : Value) (h0 : ai [.z x] w u0) (u1 : Value) (h1 : ai [.z y] w u1) :
  Calls Tryz.prog 182 #[u0, u1] w (jh (ai [.z (x / y)]) w) := by
 obtain ⟨rr, hrr⟩ : ∃ rr, rr = x / y := ⟨_, rfl⟩
 rw [← hrr]
 rw [amo hy] at hrr
 have HR := hide hrr
 have HX := hide (And.intro sx (And.intro sy (And.intro hK (show y ≠ 0 by omega))))
 clear hrr sx sy hK hy
 obtain ⟨Ak, wh, ry, c0a, rq, rfl, f0a⟩ := Il h0
 obtain ⟨zk, xh, qf, c1a, qd, rfl, f1a⟩ := Il h1
 go_enter Tryz.func182, Tryz.ntmps182
 go_upto_region 1 with fail
 have hO := (Own.push (T := 72) (ls := zZ) (cs := [.int .i64 0, .bool false, .slice none 0 0]) (Own.push (T := 72) (ls := [.z y]) (cs := [.int .i64 zk, .bool xh, .slice qf (List.length qd) c1a]) (Own.push (T := 72) (ls := [.z x]) (cs := [.int .i64 Ak, .bool wh, .slice ry (List.length rq) c0a]) (Own.nil w) (ek.z f0a rfl) (w.heap.size) rfl) (((ek.z f1a rfl) : ek w [.z y] [.int .i64 zk, .bool xh, .slice qf (List.length qd) c1a]).below (by repeat (first | exact Below.refl _ _ | refine ja ?_ _))) (w.heap.size + 1) (by simp only [World.size_alloc])) (((ek.vs w [.int .i64 0, .bool false, .slice none 0 0] rfl) : ek w zZ [.int .i64 0, .bool false, .slice none 0 0]).below (by repeat (first | exact Below.refl _ _ | refine ja ?_ _))) (w.heap.size + 2) (by simp only [World.size_alloc]))
 generalize ((w.alloc (.cells #[.int .i64 Ak, .bool wh, .slice ry (List.length rq) c0a] 72)).alloc (.cells #[.int .i64 zk, .bool xh, .slice qf (List.length qd) c1a] 72)).alloc (.cells #[.int .i64 0, .bool false, .slice none 0 0] 72) = W0 at *
 have HO := hide hO
 clear hO
 go_upto_region 1 with fail
 refine Rg.fw 4 19 (Rg.pick [ai [.z x], ai [.z y], ai [.z (x.tdiv y)], tu 72 zZ W0.heap.size]) (ay w [(w.heap.size + 2, 72, zZ), (w.heap.size + 1, 72, [.z y]), (w.heap.size, 72, [.z x])] W0) ik [3] kr rfl (Rg.gm.pick ⟨au _, au _, au _, uq _ _ _, trivial⟩) (ay.begin (aa HO))
  (ae (fo qi qo (Rg.cz kr rfl) [] [.z x] [])
  (ae (fo qi nu (Rg.cz kr rfl) [] [.z y] [])
  (ae (iw Tryz.func144 kr rfl ay.step (Rg.ax 0 kr) (Rg.ax 1 kr) (fun W v0 v1 hG h0 h1 => bdn (aa HX).1 (aa HX).2.1 (aa HX).2.2.1 (aa HX).2.2.2 h0 h1))
  (ae (xc Oi rfl ay.step ay.size rfl (ym (by intro j hj; simp at hj; (repeat' (first | (rcases hj with rfl | hj))) <;> first | (subst hj; exact ⟨_, _, _, rfl⟩) | exact ⟨_, _, _, rfl⟩)))
  Rg.cu)))) ?_
 intro v1 V1 hG1 hv1 hne1
 simp only [Rg.puts, jr, jq, jo, jm, Act.put, jl, jk, ji]
 obtain ⟨aaj, e3, Qd, hz3⟩ := (show tu 72 zZ W0.heap.size V1 (v1 3) from hv1 3 (by decide))
 simp only [e3]
 have hO := hG1.1
 replace hO := Own.add (aa HO) hG1.2 Qd hz3
 clear Qd hz3
 refine ky hO 0 [] zZ [.z (x.tdiv y)] [] rfl Dv rfl (show ai [.z (x.tdiv y)] V1 (v1 2) from hv1 2 (by decide)) rfl rfl rfl ?_
 intro uy iy hk0
 replace hO := iy
 clear iy
 clear HO
 have HO := hide hO
 clear hO hG1 hv1 hne1 hk0
 try clear e3
 by_cases g : 0 < x.tdiv y * y - x
 ·
  have d1 : decide (0 < jw (x.tdiv y * y - x)) = true := ayd g
  have hr : rr = x.tdiv y - 1 := by rw [(aa HR), if_pos g]
  clear HR g
  subst hr
  go_upto_region 2 with fail
  refine Rg.region 6 19 (Rg.pick [ai [.z (x.tdiv y)], ai [.z y], ai [.z (x.tdiv y * y)], ai [.z x], Rg.bf (.int .i64 (jw (x.tdiv y * y - x))), Rg.bf (.bool true)]) (ay w [(aaj, 72, [.z (x.tdiv y)]), (w.heap.size + 2, 72, zZ), (w.heap.size + 1, 72, [.z y]), (w.heap.size, 72, [.z x])] uy) ik [] kr kr rfl (Rg.gm.pick ⟨au _, au _, au _, au _, Rg.ag _, Rg.ag _, trivial⟩) (ay.start (aa HO))
   (ae (fo qi me0 (Rg.cz kr rfl) [] [.z (x.tdiv y)] [])
   (ae (fo qi qo (Rg.cz kr rfl) [] [.z y] [])
   (ae (iw Tryz.func135 kr rfl ay.step (Rg.ax 0 kr) (Rg.ax 1 kr) (fun W v0 v1 hG h0 h1 => arf ((aa HX).1.tdiv y) (aa HX).2.1 (aa HX).2.2.1 h0 h1))
   (ae (fo qi Iq (Rg.cz kr rfl) [] [.z x] [])
   (ae (iw Tryz.func136 kr rfl ay.step (Rg.ax 2 kr) (Rg.ax 3 kr) (fun W v0 v1 hG h0 h1 => arh h0 h1))
   (ae (Gx rfl (Rg.ax 4 kr) (Rg.mh _) rfl d1)
   Rg.cu)))))) ?_
  intro v2 V2 hG2 hv2 hne2
  simp only [Rg.puts, jr, jq, jo, jm, Act.put, jl, jk, ji]
  have e5 : v2 5 = .bool true := hv2 5 (by decide)
  simp only [e5]
  have hO := hG2.1
  clear HO
  have HO := hide hO
  clear hO hG2 hv2 hne2
  try clear e5
  go_upto_region 3 with fail
  refine Rg.region 3 19 (Rg.pick [ai [.z (x.tdiv y)], ai [.z 1], ai [.z (x.tdiv y - 1)]]) (ay w [(aaj, 72, [.z (x.tdiv y)]), (w.heap.size + 2, 72, zZ), (w.heap.size + 1, 72, [.z y]), (w.heap.size, 72, [.z x])] V2) ik [] kr kr rfl (Rg.gm.pick ⟨au _, au _, au _, trivial⟩) (ay.start (aa HO))
   (ae (fo qi me0 (Rg.cz kr rfl) [] [.z (x.tdiv y)] [])
   (ae (jf Tryz.func124 kr rfl ay.step (Rg.mh _) (fun W v0 hG h0 => by cases h0; exact arb 1 om om W))
   (ae (iw Tryz.func203 kr rfl ay.step (Rg.ax 0 kr) (Rg.ax 1 kr) (fun W v0 v1 hG h0 h1 => bdm ((aa HX).1.tdiv y) bfg (aa HX).2.2.1 W _ h0 _ h1))
   Rg.cu))) ?_
  intro v3 V3 hG3 hv3 qh
  simp only [Rg.puts, jr, jq, jo, jm, Act.put, jl, jk, ji]
  have hO := hG3.1
  refine ky hO 1 [] zZ [.z (x.tdiv y - 1)] [] rfl Dv rfl (show ai [.z (x.tdiv y - 1)] V3 (v3 2) from hv3 2 (by decide)) rfl rfl rfl ?_
  intro Ea iy hk0
  replace hO := iy
  clear iy
  clear HO
  have HO := hide hO
  clear hO hG3 hv3 qh hk0
  go_wp2_with fail
  exact zh Tryz.results182 Xw rfl (aa HO) nu rfl rfl
 ·
  have d1 : decide (0 < jw (x.tdiv y * y - x)) = false := asv g
  have hr : rr = x.tdiv y := by rw [(aa HR), if_neg g]
  clear HR g
  subst hr
  go_upto_region 2 with fail
  refine Rg.region 6 19 (Rg.pick [ai [.z (x.tdiv y)], ai [.z y], ai [.z (x.tdiv y * y)], ai [.z x], Rg.bf (.int .i64 (jw (x.tdiv y * y - x))), Rg.bf (.bool false)]) (ay w [(aaj, 72, [.z (x.tdiv y)]), (w.heap.size + 2, 72, zZ), (w.heap.size + 1, 72, [.z y]), (w.heap.size, 72, [.z x])] uy) ik [] kr kr rfl (Rg.gm.pick ⟨au _, au _, au _, au _, Rg.ag _, Rg.ag _, trivial⟩) (ay.start (aa HO))
   (ae (fo qi me0 (Rg.cz kr rfl) [] [.z (x.tdiv y)] [])
   (ae (fo qi qo (Rg.cz kr rfl) [] [.z y] [])
   (ae (iw Tryz.func135 kr rfl ay.step (Rg.ax 0 kr) (Rg.ax 1 kr) (fun W v0 v1 hG h0 h1 => arf ((aa HX).1.tdiv y) (aa HX).2.1 (aa HX).2.2.1 h0 h1))
   (ae (fo qi Iq (Rg.cz kr rfl) [] [.z x] [])
   (ae (iw Tryz.func136 kr rfl ay.step (Rg.ax 2 kr) (Rg.ax 3 kr) (fun W v0 v1 hG h0 h1 => arh h0 h1))
   (ae (Gx rfl (Rg.ax 4 kr) (Rg.mh _) rfl d1)
   Rg.cu)))))) ?_
  intro v2 V2 hG2 hv2 hne2
  simp only [Rg.puts, jr, jq, jo, jm, Act.put, jl, jk, ji]
  have e5 : v2 5 = .bool false := hv2 5 (by decide)
  simp only [e5]
  have hO := hG2.1
  clear HO
  have HO := hide hO
  clear hO hG2 hv2 hne2
  try clear e5
  go_upto_region 4 with fail
  refine Rg.fw 1 19 (Rg.pick [ai [.z (x.tdiv y)]]) (ay w [(aaj, 72, [.z (x.tdiv y)]), (w.heap.size + 2, 72, zZ), (w.heap.size + 1, 72, [.z y]), (w.heap.size, 72, [.z x])] V2) ik [] kr rfl (Rg.gm.pick ⟨au _, trivial⟩) (ay.begin (aa HO))
   (ae (fo qi me0 (Rg.cz kr rfl) [] [.z (x.tdiv y)] [])
   Rg.cu) ?_
  intro v3 V3 hG3 hv3 qh
  simp only [Rg.puts, jr, jq, jo, jm, Act.put, jl, jk, ji]
  have hO := hG3.1
  refine ky hO 1 [] zZ [.z (x.tdiv y)] [] rfl Dv rfl (show ai [.z (x.tdiv y)] V3 (v3 0) from hv3 0 (by decide)) rfl rfl rfl ?_
  intro Ea iy hk0
  replace hO := iy
  clear iy
  clear HO
  have HO := hide hO
  clear hO hG3 hv3 qh hk0
  go_wp2_with fail
  exact zh Tryz.results182 Xw rfl (aa HO) nu rfl rfl
theorem bjj {W : World} {x : Rat} {v : Value} (h : ai [.q x] W v) : ai [.z x.num, .z (x.den : Int)] W v := by
 obtain ⟨s1, n1, A1, c1, l1, s2, n2, A2, c2, l2, rfl, f1, f2⟩ := Gi h
 exact ⟨_, rfl, ek.z f1 (ek.z f2 rfl)⟩
set_option maxHeartbeats 16000000 in
theorem Yh {x : Rat} {K : Nat} (sx : Sm (K + 1) x) (w : World) (u0 : Value) (h0 : ai [.q x] w u0) :
  Calls Tryz.prog 154 #[u0] w (jh (ai [.z (x.num / (x.den : Int))]) w) := by
 have HX := hide (And.intro sx.1.1 (And.intro sx.1.2 (And.intro sx.2 (show (0 : Int) < (x.den : Int) by have := x.den_pos; omega))))
 clear sx
 replace h0 := bjj h0
 obtain ⟨Ak, wh, ry, c0a, rq, Br, xw, uh, c0b, ug, rfl, f0a, zq⟩ := Tc h0
 go_enter Tryz.func154, Tryz.ntmps154
 go_upto_region 1 with fail
 have hO := (Own.push (T := 72) (ls := zZ) (cs := [.int .i64 0, .bool false, .slice none 0 0]) (Own.push (T := 74) (ls := [.z x.num, .z (x.den : Int)]) (cs := [.int .i64 Ak, .bool wh, .slice ry (List.length rq) c0a, .int .i64 Br, .bool xw, .slice uh (List.length ug) c0b]) (Own.nil w) (ek.z f0a (ek.z zq rfl)) (w.heap.size) rfl) (((ek.vs w [.int .i64 0, .bool false, .slice none 0 0] rfl) : ek w zZ [.int .i64 0, .bool false, .slice none 0 0]).below (by repeat (first | exact Below.refl _ _ | refine ja ?_ _))) (w.heap.size + 1) (by simp only [World.size_alloc]))
 generalize (w.alloc (.cells #[.int .i64 Ak, .bool wh, .slice ry (List.length rq) c0a, .int .i64 Br, .bool xw, .slice uh (List.length ug) c0b] 74)).alloc (.cells #[.int .i64 0, .bool false, .slice none 0 0] 72) = W0 at *
 have HO := hide hO
 clear hO
 go_upto_region 1 with fail
 refine Rg.fw 5 8 (Rg.pick [Rg.bf (.pointer (some ⟨w.heap.size, 0, none⟩)), ai [.z x.num], Rg.bf (.pointer (some ⟨w.heap.size, 3, none⟩)), ai [.z (x.den : Int)], ai [.z (x.num / (x.den : Int))]]) (ay w [(w.heap.size + 1, 72, zZ), (w.heap.size, 74, [.z x.num, .z (x.den : Int)])] W0) ik [] kr rfl (Rg.gm.pick ⟨Rg.ag _, au _, Rg.ag _, au _, au _, trivial⟩) (ay.begin (aa HO))
  (ae (Hm (b := w.heap.size) (off := 0) rfl (Rg.cz kr rfl) rfl rfl)
  (ae (fo qi nu (Rg.ax 0 kr) [] [.z x.num] [.z (x.den : Int)])
  (ae (Dn (b := w.heap.size) (off := 0) rfl (Rg.cz kr rfl) rfl rfl)
  (ae (fo qi nu (Rg.ax 2 kr) [.z x.num] [.z (x.den : Int)] [])
  (ae (iw Tryz.func182 kr rfl ay.step (Rg.ax 1 kr) (Rg.ax 3 kr) (fun W v0 v1 hG h0 h1 => avn (aa HX).1 (aa HX).2.1 (aa HX).2.2.1 (aa HX).2.2.2 W _ h0 _ h1))
  Rg.cu))))) ?_
 intro v1 V1 hG1 hv1 hne1
 simp only [Rg.puts, jr, jq, jo, jm, Act.put, jl, jk, ji]
 have hO := hG1.1
 refine ky hO 0 [] zZ [.z (x.num / (x.den : Int))] [] rfl Dv rfl (show ai [.z (x.num / (x.den : Int))] V1 (v1 4) from hv1 4 (by decide)) rfl rfl rfl ?_
 intro uy iy hk0
 replace hO := iy
 clear iy
 clear HO
 have HO := hide hO
 clear hO hG1 hv1 hne1 hk0
 go_wp2_with fail
 exact zh Tryz.results154 Xw rfl (aa HO) me0 rfl rfl
set_option maxHeartbeats 16000000 in
theorem Sv {n d p e : Int} (ok : Wd.xz n d ∧ Wd.xz p e) (w : World) (u0 : Value) (h0 : ai [iv n, iv d, iv p, iv e] w u0) :
  Calls Tryz.prog 95 #[u0] w (jh (ai [.q (Wd.qR n d), .q (Wd.qR p e)]) w) := by
 have Kl := hide ok
 clear ok
 have hu0 := Af h0
 subst hu0
 go_enter Tryz.func95, Tryz.ntmps95
 go_upto_region 1 with fail
 have hO := (Own.push (T := 108) (ls := zE) (cs := [.int .i64 0, .bool false, .slice none 0 0, .int .i64 0, .bool false, .slice none 0 0, .int .i64 0, .bool false, .slice none 0 0, .int .i64 0, .bool false, .slice none 0 0]) (Own.push (T := 41) (ls := [iv n, iv d, iv p, iv e]) (cs := [.int .i64 n, .int .i64 d, .int .i64 p, .int .i64 e]) (Own.nil w) (ek.v (kg _) (ek.v (kg _) (ek.v (kg _) (ek.v (kg _) rfl)))) (w.heap.size) rfl) (((ek.vs w [.int .i64 0, .bool false, .slice none 0 0, .int .i64 0, .bool false, .slice none 0 0, .int .i64 0, .bool false, .slice none 0 0, .int .i64 0, .bool false, .slice none 0 0] rfl) : ek w zE [.int .i64 0, .bool false, .slice none 0 0, .int .i64 0, .bool false, .slice none 0 0, .int .i64 0, .bool false, .slice none 0 0, .int .i64 0, .bool false, .slice none 0 0]).below (by repeat (first | exact Below.refl _ _ | refine ja ?_ _))) (w.heap.size + 1) (by simp only [World.size_alloc]))
 generalize (w.alloc (.cells #[.int .i64 n, .int .i64 d, .int .i64 p, .int .i64 e] 41)).alloc (.cells #[.int .i64 0, .bool false, .slice none 0 0, .int .i64 0, .bool false, .slice none 0 0, .int .i64 0, .bool false, .slice none 0 0, .int .i64 0, .bool false, .slice none 0 0] 108) = W0 at *
 have HO := hide hO
 clear hO
 go_upto_region 1 with fail
 refine Rg.region 7 10 (Rg.pick [Rg.bf (.pointer (some ⟨w.heap.size, 0, none⟩)), ai [iv n, iv d], ai [.q (Wd.qR n d)], Rg.bf (.pointer (some ⟨w.heap.size, 2, none⟩)), ai [iv p, iv e], ai [.q (Wd.qR p e)], ai [.q (Wd.qR n d), .q (Wd.qR p e)]]) (ay w [(w.heap.size + 1, 108, zE), (w.heap.size, 41, [iv n, iv d, iv p, iv e])] W0) ik [] kr kr rfl (Rg.gm.pick ⟨Rg.ag _, au _, au _, Rg.ag _, au _, au _, au _, trivial⟩) (ay.start (aa HO))
  (ae (Ep (b := w.heap.size) (off := 0) rfl (Rg.cz kr rfl) rfl rfl)
  (ae (fo Bi nu (Rg.ax 0 kr) [] [iv n, iv d] [iv p, iv e])
  (ae (jf Tryz.func57 kr rfl ay.step (Rg.ax 1 kr) (fun W v0 hG h0 => bdk (aa Kl).1 h0))
  (ae (Fu (b := w.heap.size) (off := 0) rfl (Rg.cz kr rfl) rfl rfl)
  (ae (fo Bi nu (Rg.ax 3 kr) [iv n, iv d] [iv p, iv e] [])
  (ae (jf Tryz.func57 kr rfl ay.step (Rg.ax 4 kr) (fun W v0 hG h0 => bdk (aa Kl).2 h0))
  (ae (yf Sy rfl (Rg.ax 2 kr) (Rg.ax 5 kr) rfl rfl rfl)
  Rg.cu))))))) ?_
 intro v1 V1 hG1 hv1 hne1
 simp only [Rg.puts, jr, jq, jo, jm, Act.put, jl, jk, ji]
 have hO := hG1.1
 refine ky hO 0 [] zE [.q (Wd.qR n d), .q (Wd.qR p e)] [] rfl Lp rfl (show ai [.q (Wd.qR n d), .q (Wd.qR p e)] V1 (v1 6) from hv1 6 (by decide)) rfl rfl rfl ?_
 intro uy iy hk0
 replace hO := iy
 clear iy
 clear HO
 have HO := hide hO
 clear hO hG1 hv1 hne1 hk0
 go_wp2_with fail
 exact zh Tryz.results95 Mf rfl (aa HO) me0 rfl rfl
theorem aqy {W : World} {v0 : Value} {x : Rat} (h0 : ai [.q x] W v0) : Calls Tryz.prog 59 #[v0] W (jh (tq [ai [.v (.int .i64 (Wd.told x).n), .v (.int .i64 (Wd.told x).d)], Rg.bf (.int .i64 (Wd.told x).e)]) W) :=
 (bfu h0).mono fun e w' ⟨u, h1, h2, h3⟩ => ⟨u, h1, h2, by
  have h4 : u = _ := h3
  subst h4
  exact ⟨[_, _], rfl, _, _, rfl, Va _ _ _, _, _, rfl, rfl, rfl⟩⟩
set_option maxHeartbeats 16000000 in
theorem aob {x y : Rat} (xn xd xe yn yd ye r1 r2 r3 r4 re : Int) (w : World) (u0 : Value) (h0 : ai [.q x, .q y] w u0)
  (cx : ∀ (W : World) (v0 : Value), ai [.q x] W v0 → Calls Tryz.prog 59 #[v0] W (jh (tq [ai [.v (.int .i64 xn), .v (.int .i64 xd)], Rg.bf (.int .i64 xe)]) W))
  (cy : ∀ (W : World) (v0 : Value), ai [.q y] W v0 → Calls Tryz.prog 59 #[v0] W (jh (tq [ai [.v (.int .i64 yn), .v (.int .i64 yd)], Rg.bf (.int .i64 ye)]) W))
  (hr : (xe ≠ 0 → r1 = 0 ∧ r2 = 0 ∧ r3 = 0 ∧ r4 = 0 ∧ xe = re) ∧ (ye ≠ 0 → r1 = 0 ∧ r2 = 0 ∧ r3 = 0 ∧ r4 = 0 ∧ ye = re) ∧ (xe = 0 → ye = 0 → xn = r1 ∧ xd = r2 ∧ yn = r3 ∧ yd = r4 ∧ re = 0)) :
  Calls Tryz.prog 97 #[u0] w (jh (tq [ai [.v (.int .i64 r1), .v (.int .i64 r2), .v (.int .i64 r3), .v (.int .i64 r4)], Rg.bf (.int .i64 re)]) w) := by
 have HCX := hide cx
 have HCY := hide cy
 have HR := hide hr
 clear cx cy hr
 obtain ⟨Ak, wh, ry, c0a, rq, Br, xw, uh, c0b, ug, Ju, Jw, Kq, Kj, Ka, Jt, Jv, Ko, Ki, Jz, rfl, f0a, zq, Su, Sr⟩ := Ht h0
 go_enter Tryz.func97, Tryz.ntmps97
 go_upto_region 1 with fail
 have hO := (Own.push (T := 41) (ls := zS) (cs := [.int .i64 0, .int .i64 0, .int .i64 0, .int .i64 0]) (Own.push (T := 108) (ls := [.q x, .q y]) (cs := [.int .i64 Ak, .bool wh, .slice ry (List.length rq) c0a, .int .i64 Br, .bool xw, .slice uh (List.length ug) c0b, .int .i64 Ju, .bool Jw, .slice Kq (List.length Ka) Kj, .int .i64 Jt, .bool Jv, .slice Ko (List.length Jz) Ki]) (Own.nil w) (ek.q f0a zq (ek.q Su Sr rfl)) (w.heap.size) rfl) (((ek.vs w [.int .i64 0, .int .i64 0, .int .i64 0, .int .i64 0] rfl) : ek w zS [.int .i64 0, .int .i64 0, .int .i64 0, .int .i64 0]).below (by repeat (first | exact Below.refl _ _ | refine ja ?_ _))) (w.heap.size + 1) (by simp only [World.size_alloc]))
 generalize (w.alloc (.cells #[.int .i64 Ak, .bool wh, .slice ry (List.length rq) c0a, .int .i64 Br, .bool xw, .slice uh (List.length ug) c0b, .int .i64 Ju, .bool Jw, .slice Kq (List.length Ka) Kj, .int .i64 Jt, .bool Jv, .slice Ko (List.length Jz) Ki] 108)).alloc (.cells #[.int .i64 0, .int .i64 0, .int .i64 0, .int .i64 0] 41) = W0 at *
 have HO := hide hO
 clear hO
 go_upto_region 1 with fail
 refine Rg.fw 7 30 (Rg.pick [Rg.bf (.pointer (some ⟨w.heap.size, 0, none⟩)), ai [.q x], tq [ai [iv xn, iv xd], Rg.bf (.int .i64 xe)], tq [ai [iv xn, iv xd], Rg.bf (.int .i64 xe)], ai [iv xn, iv xd], Rg.bf (.int .i64 xe), tu 23 zR W0.heap.size]) (ay w [(w.heap.size + 1, 41, zS), (w.heap.size, 108, [.q x, .q y])] W0) ik [6] kr rfl (Rg.gm.pick ⟨Rg.ag _, au _, oz ⟨(au _), (Rg.ag _), trivial⟩, oz ⟨(au _), (Rg.ag _), trivial⟩, au _, Rg.ag _, uq _ _ _, trivial⟩) (ay.begin (aa HO))
  (ae (Aj (b := w.heap.size) (off := 0) rfl (Rg.cz kr rfl) rfl rfl)
  (ae (fo nz nu (Rg.ax 0 kr) [] [.q x] [.q y])
  (ae (jf Tryz.func59 kr rfl ay.step (Rg.ax 1 kr) (fun W v0 hG h0 => aa HCX W v0 h0))
  (ae (ig rfl (Rg.ax 2 kr))
  (ae (oo (ts := [ai [iv xn, iv xd], Rg.bf (.int .i64 xe)]) rfl (Rg.ax 3 kr) (of_decide_eq_true rfl) rfl)
  (ae (oo (ts := [ai [iv xn, iv xd], Rg.bf (.int .i64 xe)]) rfl (Rg.ax 3 kr) (of_decide_eq_true rfl) rfl)
  (ae (xc Mq rfl ay.step ay.size rfl (ym (by intro j hj; simp at hj; (repeat' (first | (rcases hj with rfl | hj))) <;> first | (subst hj; exact ⟨_, _, _, rfl⟩) | exact ⟨_, _, _, rfl⟩)))
  Rg.cu))))))) ?_
 intro v1 V1 hG1 hv1 hne1
 simp only [Rg.puts, jr, jq, jo, jm, Act.put, jl, jk, ji]
 have e5 : v1 5 = .int .i64 xe := hv1 5 (by decide)
 obtain ⟨Ci, e6, Bj, Dq⟩ := (show tu 23 zR W0.heap.size V1 (v1 6) from hv1 6 (by decide))
 simp only [e5, e6]
 have hO := hG1.1
 replace hO := Own.add (aa HO) hG1.2 Bj Dq
 clear Bj Dq
 refine ky hO 0 [] zR [iv xn, iv xd] [] rfl Gt rfl (show ai [iv xn, iv xd] V1 (v1 4) from hv1 4 (by decide)) rfl rfl rfl ?_
 intro uy iy hk0
 replace hO := iy
 clear iy
 clear HO
 have HO := hide hO
 clear hO hG1 hv1 hne1 hk0
 try clear e5 e6
 by_cases g : xe = 0
 ·
  have hx0 := g
  have d1 : (xe != 0) = false := by simp [bne, beq_iff_eq.2 g]
  clear g
  go_upto_region 2 with fail
  refine Rg.fw 2 30 (Rg.pick [Rg.bf (.int .i64 xe), Rg.bf (.bool false)]) (ay w [(Ci, 23, [iv xn, iv xd]), (w.heap.size + 1, 41, zS), (w.heap.size, 108, [.q x, .q y])] uy) ik [] kr rfl (Rg.gm.pick ⟨Rg.ag _, Rg.ag _, trivial⟩) (ay.begin (aa HO))
   (ae (ig rfl (Rg.cz kr rfl))
   (ae (Hg rfl (Rg.ax 0 kr) (Rg.mh _) rfl d1)
   Rg.cu)) ?_
  intro v2 V2 hG2 hv2 hne2
  simp only [Rg.puts, jr, jq, jo, jm, Act.put, jl, jk, ji]
  have e1 : v2 1 = .bool false := hv2 1 (by decide)
  simp only [e1]
  have hO := hG2.1
  clear HO
  have HO := hide hO
  clear hO hG2 hv2 hne2
  try clear e1
  go_upto_region 4 with fail
  refine Rg.fw 7 30 (Rg.pick [Rg.bf (.pointer (some ⟨w.heap.size, 6, none⟩)), ai [.q y], tq [ai [iv yn, iv yd], Rg.bf (.int .i64 ye)], tq [ai [iv yn, iv yd], Rg.bf (.int .i64 ye)], ai [iv yn, iv yd], Rg.bf (.int .i64 ye), tu 23 zR V2.heap.size]) (ay w [(Ci, 23, [iv xn, iv xd]), (w.heap.size + 1, 41, zS), (w.heap.size, 108, [.q x, .q y])] V2) ik [6] kr rfl (Rg.gm.pick ⟨Rg.ag _, au _, oz ⟨(au _), (Rg.ag _), trivial⟩, oz ⟨(au _), (Rg.ag _), trivial⟩, au _, Rg.ag _, uq _ _ _, trivial⟩) (ay.begin (aa HO))
   (ae (Bf (b := w.heap.size) (off := 0) rfl (Rg.cz kr rfl) rfl rfl)
   (ae (fo nz qo (Rg.ax 0 kr) [.q x] [.q y] [])
   (ae (jf Tryz.func59 kr rfl ay.step (Rg.ax 1 kr) (fun W v0 hG h0 => aa HCY W v0 h0))
   (ae (ig rfl (Rg.ax 2 kr))
   (ae (oo (ts := [ai [iv yn, iv yd], Rg.bf (.int .i64 ye)]) rfl (Rg.ax 3 kr) (of_decide_eq_true rfl) rfl)
   (ae (oo (ts := [ai [iv yn, iv yd], Rg.bf (.int .i64 ye)]) rfl (Rg.ax 3 kr) (of_decide_eq_true rfl) rfl)
   (ae (xc Mq rfl ay.step ay.size rfl (ym (by intro j hj; simp at hj; (repeat' (first | (rcases hj with rfl | hj))) <;> first | (subst hj; exact ⟨_, _, _, rfl⟩) | exact ⟨_, _, _, rfl⟩)))
   Rg.cu))))))) ?_
  intro v3 V3 hG3 hv3 qh
  simp only [Rg.puts, jr, jq, jo, jm, Act.put, jl, jk, ji]
  have e5 : v3 5 = .int .i64 ye := hv3 5 (by decide)
  obtain ⟨amx, e6, Bj, Dq⟩ := (show tu 23 zR V2.heap.size V3 (v3 6) from hv3 6 (by decide))
  simp only [e5, e6]
  have hO := hG3.1
  replace hO := Own.add (aa HO) hG3.2 Bj Dq
  clear Bj Dq
  refine ky hO 0 [] zR [iv yn, iv yd] [] rfl Gt rfl (show ai [iv yn, iv yd] V3 (v3 4) from hv3 4 (by decide)) rfl rfl rfl ?_
  intro Ea iy hk0
  replace hO := iy
  clear iy
  clear HO
  have HO := hide hO
  clear hO hG3 hv3 qh hk0
  try clear e5 e6
  by_cases g2 : ye = 0
  ·
   have d2 : (ye != 0) = false := by simp [bne, beq_iff_eq.2 g2]
   have hr := (aa HR).2.2 hx0 g2
   clear HR
   obtain ⟨rfl, rfl, rfl, rfl, rfl⟩ := hr
   go_upto_region 5 with fail
   refine Rg.fw 2 30 (Rg.pick [Rg.bf (.int .i64 ye), Rg.bf (.bool false)]) (ay w [(amx, 23, [iv yn, iv yd]), (Ci, 23, [iv xn, iv xd]), (w.heap.size + 1, 41, zS), (w.heap.size, 108, [.q x, .q y])] Ea) ik [] kr rfl (Rg.gm.pick ⟨Rg.ag _, Rg.ag _, trivial⟩) (ay.begin (aa HO))
    (ae (ig rfl (Rg.cz kr rfl))
    (ae (Hg rfl (Rg.ax 0 kr) (Rg.mh _) rfl d2)
    Rg.cu)) ?_
   intro v4 V4 hG4 hv4 yg
   simp only [Rg.puts, jr, jq, jo, jm, Act.put, jl, jk, ji]
   have e1 : v4 1 = .bool false := hv4 1 (by decide)
   simp only [e1]
   have hO := hG4.1
   clear HO
   have HO := hide hO
   clear hO hG4 hv4 yg
   try clear e1
   go_upto_region 7 with fail
   refine Rg.fw 3 30 (Rg.pick [ai [iv xn, iv xd], ai [iv yn, iv yd], ai [iv xn, iv xd, iv yn, iv yd]]) (ay w [(amx, 23, [iv yn, iv yd]), (Ci, 23, [iv xn, iv xd]), (w.heap.size + 1, 41, zS), (w.heap.size, 108, [.q x, .q y])] V4) ik [] kr rfl (Rg.gm.pick ⟨au _, au _, au _, trivial⟩) (ay.begin (aa HO))
    (ae (fo Bi nu (Rg.cz kr rfl) [] [iv xn, iv xd] [])
    (ae (fo Bi me0 (Rg.cz kr rfl) [] [iv yn, iv yd] [])
    (ae (yf Sw rfl (Rg.ax 0 kr) (Rg.ax 1 kr) rfl rfl rfl)
    Rg.cu))) ?_
   intro v5 V5 Ap hv5 hne5
   simp only [Rg.puts, jr, jq, jo, jm, Act.put, jl, jk, ji]
   have hO := Ap.1
   refine ky hO 2 [] zS [iv xn, iv xd, iv yn, iv yd] [] rfl uj rfl (show ai [iv xn, iv xd, iv yn, iv yd] V5 (v5 2) from hv5 2 (by decide)) rfl rfl rfl ?_
   intro Ro iy hk0
   replace hO := iy
   clear iy
   clear HO
   have HO := hide hO
   clear hO Ap hv5 hne5 hk0
   go_wp2_with fail
   exact yx Tryz.results97 xg rfl rfl (aa HO) qo rfl rfl
  ·
   have d2 : (ye != 0) = true := by simp [bne, beq_eq_false_iff_ne.2 g2]
   have hr := (aa HR).2.1 g2
   clear HR
   obtain ⟨rfl, rfl, rfl, rfl, rfl⟩ := hr
   go_upto_region 5 with fail
   refine Rg.fw 2 30 (Rg.pick [Rg.bf (.int .i64 ye), Rg.bf (.bool true)]) (ay w [(amx, 23, [iv yn, iv yd]), (Ci, 23, [iv xn, iv xd]), (w.heap.size + 1, 41, zS), (w.heap.size, 108, [.q x, .q y])] Ea) ik [] kr rfl (Rg.gm.pick ⟨Rg.ag _, Rg.ag _, trivial⟩) (ay.begin (aa HO))
    (ae (ig rfl (Rg.cz kr rfl))
    (ae (Hg rfl (Rg.ax 0 kr) (Rg.mh _) rfl d2)
    Rg.cu)) ?_
   intro v4 V4 hG4 hv4 yg
   simp only [Rg.puts, jr, jq, jo, jm, Act.put, jl, jk, ji]
   have e1 : v4 1 = .bool true := hv4 1 (by decide)
   simp only [e1]
   have hO := hG4.1
   clear HO
   have HO := hide hO
   clear hO hG4 hv4 yg
   try clear e1
   go_upto_region 6 with fail
   refine Rg.fw 2 30 (Rg.pick [ai zS, Rg.bf (.int .i64 ye)]) (ay w [(amx, 23, [iv yn, iv yd]), (Ci, 23, [iv xn, iv xd]), (w.heap.size + 1, 41, zS), (w.heap.size, 108, [.q x, .q y])] V4) ik [] kr rfl (Rg.gm.pick ⟨au _, Rg.ag _, trivial⟩) (ay.begin (aa HO))
    (ae (De Dg rfl rfl rfl)
    (ae (ig rfl (Rg.cz kr rfl))
    Rg.cu)) ?_
   intro v5 V5 Ap hv5 hne5
   simp only [Rg.puts, jr, jq, jo, jm, Act.put, jl, jk, ji]
   have e1 : v5 1 = .int .i64 ye := hv5 1 (by decide)
   simp only [e1]
   have hO := Ap.1
   refine ky hO 2 [] zS zS [] rfl uj rfl (show ai zS V5 (v5 0) from hv5 0 (by decide)) rfl rfl rfl ?_
   intro Ro iy hk0
   replace hO := iy
   clear iy
   clear HO
   have HO := hide hO
   clear hO Ap hv5 hne5 hk0
   try clear e1
   go_wp2_with fail
   exact yx Tryz.results97 xg rfl rfl (aa HO) qo rfl rfl
 ·
  have d1 : (xe != 0) = true := by simp [bne, beq_eq_false_iff_ne.2 g]
  have hr := (aa HR).1 g
  clear HR
  obtain ⟨rfl, rfl, rfl, rfl, rfl⟩ := hr
  go_upto_region 2 with fail
  refine Rg.fw 2 30 (Rg.pick [Rg.bf (.int .i64 xe), Rg.bf (.bool true)]) (ay w [(Ci, 23, [iv xn, iv xd]), (w.heap.size + 1, 41, zS), (w.heap.size, 108, [.q x, .q y])] uy) ik [] kr rfl (Rg.gm.pick ⟨Rg.ag _, Rg.ag _, trivial⟩) (ay.begin (aa HO))
   (ae (ig rfl (Rg.cz kr rfl))
   (ae (Hg rfl (Rg.ax 0 kr) (Rg.mh _) rfl d1)
   Rg.cu)) ?_
  intro v2 V2 hG2 hv2 hne2
  simp only [Rg.puts, jr, jq, jo, jm, Act.put, jl, jk, ji]
  have e1 : v2 1 = .bool true := hv2 1 (by decide)
  simp only [e1]
  have hO := hG2.1
  clear HO
  have HO := hide hO
  clear hO hG2 hv2 hne2
  try clear e1
  go_upto_region 3 with fail
  refine Rg.fw 2 30 (Rg.pick [ai zS, Rg.bf (.int .i64 xe)]) (ay w [(Ci, 23, [iv xn, iv xd]), (w.heap.size + 1, 41, zS), (w.heap.size, 108, [.q x, .q y])] V2) ik [] kr rfl (Rg.gm.pick ⟨au _, Rg.ag _, trivial⟩) (ay.begin (aa HO))
   (ae (De Dg rfl rfl rfl)
   (ae (ig rfl (Rg.cz kr rfl))
   Rg.cu)) ?_
  intro v3 V3 hG3 hv3 qh
  simp only [Rg.puts, jr, jq, jo, jm, Act.put, jl, jk, ji]
  have e1 : v3 1 = .int .i64 xe := hv3 1 (by decide)
  simp only [e1]
  have hO := hG3.1
  refine ky hO 1 [] zS zS [] rfl uj rfl (show ai zS V3 (v3 0) from hv3 0 (by decide)) rfl rfl rfl ?_
  intro Ea iy hk0
  replace hO := iy
  clear iy
  clear HO
  have HO := hide hO
  clear hO hG3 hv3 qh hk0
  try clear e1
  go_wp2_with fail
  exact yx Tryz.results97 xg rfl rfl (aa HO) nu rfl rfl
structure Gj where
 a : Int
 b : Int
 c : Int
 d : Int
 e : Int
def Cx (x y : Rat) : Gj := if Wd.fits x ∧ Wd.fits y then ⟨x.num, x.den, y.num, y.den, 0⟩ else ⟨0, 0, 0, 0, 3⟩
abbrev Ga (t : Gj) : World → Value → Prop := tq [ai [.v (.int .i64 t.a), .v (.int .i64 t.b), .v (.int .i64 t.c), .v (.int .i64 t.d)], Rg.bf (.int .i64 t.e)]
theorem aqx {x y : Rat} (w : World) (u0 : Value) (h0 : ai [.q x, .q y] w u0) : Calls Tryz.prog 97 #[u0] w (jh (Ga (Cx x y)) w) := by
 refine aob _ _ _ _ _ _ _ _ _ _ _ w u0 h0 (fun W v h => aqy h) (fun W v h => aqy h) ?_
 unfold Cx Wd.told
 by_cases f1 : Wd.fits x <;> by_cases f2 : Wd.fits y <;> simp [f1, f2]
end Sb

end Go.Proofs.YtjdnmdlnaoedoaaGreatDoor
