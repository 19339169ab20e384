/- Texts beneath a law of layer 1. -/
import Derived.Test.YtjdnmdlnaoedoaaGreatDoorCs15
set_option maxRecDepth 100000
namespace Go.Proofs.YtjdnmdlnaoedoaaGreatDoor
open Go.RowKit

namespace Sb
theorem afh {W : World} {v0 v1 : Value} {x y : Rat} {K : Nat} (hT : rz W) (hx : Sm K x) (hy : Sm K y) (h0 : ai [.q x] W v0) (h1 : ai [.q y] W v1) : Calls Tryz.prog 68 #[v0, v1] W (jh (ai [.q (x - y)]) W) :=
 afi (ajt hT x y hx.1 hy.1 (by have := hx.2; have := Ej; omega)).1 h0 h1
theorem axf {W : World} {v0 : Value} {x : Rat} (h : x.num ≠ 0) (h0 : ai [.q x] W v0) : Calls Tryz.prog 79 #[v0] W (jh (ai [.q (x⁻¹)]) W) := amt (ajv W x h) h0
theorem Sm.sub {x y : Rat} {K : Nat} (hx : Sm K x) (hy : Sm K y) (h : K + K + 1 ≤ 1000000) (w : World) (hT : rz w) : Sm (K + K + 1) (x - y) := ⟨(ajt hT x y hx.1 hy.1 (by have := Ej; omega)).2, h⟩
theorem Sm.inv {x : Rat} {K : Nat} (hx : Sm K x) (h : x.num ≠ 0) : Sm K (x⁻¹) := ⟨hx.1.inv h, hx.2⟩
set_option maxHeartbeats 16000000 in
theorem bdi {x y a b : Rat} {K : Nat} (sx : Sm K x) (sy : Sm K y) (sa : Sm K a) (sb : Sm K b) (w : World) (hT : rz w) (u0 : Value) (h0 : ai [.q x, .q y] w u0) (u1 : Value) (h1 : ai [.q a, .q b] w u1) :
  Calls Tryz.prog 149 #[u0, u1] w (jh (ai [.q (x + a), .q (y + b)]) w) := by
 have HS := hide (And.intro sx (And.intro sy (And.intro sa sb)))
 have HT := hide hT
 clear sx sy sa sb hT
 obtain ⟨Ak, wh, ry, c0a, rq, Br, xw, uh, c0b, ug, Ju, Jw, Kq, Kj, Ka, Jt, Jv, Ko, Ki, Jz, rfl, f0a, zq, Su, Sr⟩ := Ht h0
 obtain ⟨zk, xh, qf, c1a, qd, Bh, n1b, qz, qy, qw, Ph, n1c, Qp, Qi, Pt, Pg, Pp, Qo, Qh, Ps, rfl, f1a, Di, f1c, f1d⟩ := Ht h1
 go_enter Tryz.func149, Tryz.ntmps149
 go_upto_region 1 with fail
 have hO := (Own.push (T := 108) (ls := zE) (cs := [.int .i64 0, .bool false, .slice none 0 0, .int .i64 0, .bool false, .slice none 0 0, .int .i64 0, .bool false, .slice none 0 0, .int .i64 0, .bool false, .slice none 0 0]) (Own.push (T := 108) (ls := [.q a, .q b]) (cs := [.int .i64 zk, .bool xh, .slice qf (List.length qd) c1a, .int .i64 Bh, .bool n1b, .slice qz (List.length qw) qy, .int .i64 Ph, .bool n1c, .slice Qp (List.length Pt) Qi, .int .i64 Pg, .bool Pp, .slice Qo (List.length Ps) Qh]) (Own.push (T := 108) (ls := [.q x, .q y]) (cs := [.int .i64 Ak, .bool wh, .slice ry (List.length rq) c0a, .int .i64 Br, .bool xw, .slice uh (List.length ug) c0b, .int .i64 Ju, .bool Jw, .slice Kq (List.length Ka) Kj, .int .i64 Jt, .bool Jv, .slice Ko (List.length Jz) Ki]) (Own.nil w) (ek.q f0a zq (ek.q Su Sr rfl)) (w.heap.size) rfl) (((ek.q f1a Di (ek.q f1c f1d rfl)) : ek w [.q a, .q b] [.int .i64 zk, .bool xh, .slice qf (List.length qd) c1a, .int .i64 Bh, .bool n1b, .slice qz (List.length qw) qy, .int .i64 Ph, .bool n1c, .slice Qp (List.length Pt) Qi, .int .i64 Pg, .bool Pp, .slice Qo (List.length Ps) Qh]).below (by repeat (first | exact Below.refl _ _ | refine ja ?_ _))) (w.heap.size + 1) (by simp only [World.size_alloc])) (((ek.vs w [.int .i64 0, .bool false, .slice none 0 0, .int .i64 0, .bool false, .slice none 0 0, .int .i64 0, .bool false, .slice none 0 0, .int .i64 0, .bool false, .slice none 0 0] rfl) : ek w zE [.int .i64 0, .bool false, .slice none 0 0, .int .i64 0, .bool false, .slice none 0 0, .int .i64 0, .bool false, .slice none 0 0, .int .i64 0, .bool false, .slice none 0 0]).below (by repeat (first | exact Below.refl _ _ | refine ja ?_ _))) (w.heap.size + 2) (by simp only [World.size_alloc]))
 generalize ((w.alloc (.cells #[.int .i64 Ak, .bool wh, .slice ry (List.length rq) c0a, .int .i64 Br, .bool xw, .slice uh (List.length ug) c0b, .int .i64 Ju, .bool Jw, .slice Kq (List.length Ka) Kj, .int .i64 Jt, .bool Jv, .slice Ko (List.length Jz) Ki] 108)).alloc (.cells #[.int .i64 zk, .bool xh, .slice qf (List.length qd) c1a, .int .i64 Bh, .bool n1b, .slice qz (List.length qw) qy, .int .i64 Ph, .bool n1c, .slice Qp (List.length Pt) Qi, .int .i64 Pg, .bool Pp, .slice Qo (List.length Ps) Qh] 108)).alloc (.cells #[.int .i64 0, .bool false, .slice none 0 0, .int .i64 0, .bool false, .slice none 0 0, .int .i64 0, .bool false, .slice none 0 0, .int .i64 0, .bool false, .slice none 0 0] 108) = W0 at *
 have HO := hide hO
 clear hO
 go_upto_region 1 with fail
 refine Rg.region 11 16 (Rg.pick [Rg.bf (.pointer (some ⟨w.heap.size, 0, none⟩)), ai [.q x], Rg.bf (.pointer (some ⟨w.heap.size + 1, 0, none⟩)), ai [.q a], ai [.q (x + a)], Rg.bf (.pointer (some ⟨w.heap.size, 6, none⟩)), ai [.q y], Rg.bf (.pointer (some ⟨w.heap.size + 1, 6, none⟩)), ai [.q b], ai [.q (y + b)], ai [.q (x + a), .q (y + b)]]) (ay w [(w.heap.size + 2, 108, zE), (w.heap.size + 1, 108, [.q a, .q b]), (w.heap.size, 108, [.q x, .q y])] W0) ik [] kr kr rfl (Rg.gm.pick ⟨Rg.ag _, au _, Rg.ag _, au _, au _, Rg.ag _, au _, Rg.ag _, au _, au _, au _, trivial⟩) (ay.start (aa HO))
  (ae (Aj (b := w.heap.size) (off := 0) rfl (Rg.cz kr rfl) rfl rfl)
  (ae (fo nz qo (Rg.ax 0 kr) [] [.q x] [.q y])
  (ae (Aj (b := w.heap.size + 1) (off := 0) rfl (Rg.cz kr rfl) rfl rfl)
  (ae (fo nz nu (Rg.ax 2 kr) [] [.q a] [.q b])
  (ae (iw Tryz.func78 kr rfl ay.step (Rg.ax 1 kr) (Rg.ax 3 kr) (fun W v0 v1 hG h0 h1 => afj ((aa HT).below hG.bel) (aa HS).1 (aa HS).2.2.1 h0 h1))
  (ae (Bf (b := w.heap.size) (off := 0) rfl (Rg.cz kr rfl) rfl rfl)
  (ae (fo nz qo (Rg.ax 5 kr) [.q x] [.q y] [])
  (ae (Bf (b := w.heap.size + 1) (off := 0) rfl (Rg.cz kr rfl) rfl rfl)
  (ae (fo nz nu (Rg.ax 7 kr) [.q a] [.q b] [])
  (ae (iw Tryz.func78 kr rfl ay.step (Rg.ax 6 kr) (Rg.ax 8 kr) (fun W v0 v1 hG h0 h1 => afj ((aa HT).below hG.bel) (aa HS).2.1 (aa HS).2.2.2 h0 h1))
  (ae (yf Sy rfl (Rg.ax 4 kr) (Rg.ax 9 kr) rfl rfl rfl)
  Rg.cu))))))))))) ?_
 intro v1 V1 hG1 hv1 hne1
 simp only [Rg.puts, jr, jq, jo, jm, Act.put, jl, jk, ji]
 have hO := hG1.1
 refine ky hO 0 [] zE [.q (x + a), .q (y + b)] [] rfl Lp rfl (show ai [.q (x + a), .q (y + b)] V1 (v1 10) from hv1 10 (by decide)) rfl rfl rfl ?_
 intro uy iy hk0
 replace hO := iy
 clear iy
 clear HO
 have HO := hide hO
 clear hO hG1 hv1 hne1 hk0
 go_wp2_with fail
 exact zh Tryz.results149 Mf rfl (aa HO) me0 rfl rfl
set_option maxHeartbeats 16000000 in
theorem azi {x y a b : Rat} {K : Nat} (sx : Sm K x) (sy : Sm K y) (sa : Sm K a) (sb : Sm K b) (w : World) (hT : rz w) (u0 : Value) (h0 : ai [.q x, .q y] w u0) (u1 : Value) (h1 : ai [.q a, .q b] w u1) :
  Calls Tryz.prog 150 #[u0, u1] w (jh (ai [.q (x - b), .q (y - a)]) w) := by
 have HS := hide (And.intro sx (And.intro sy (And.intro sa sb)))
 have HT := hide hT
 clear sx sy sa sb hT
 obtain ⟨Ak, wh, ry, c0a, rq, Br, xw, uh, c0b, ug, Ju, Jw, Kq, Kj, Ka, Jt, Jv, Ko, Ki, Jz, rfl, f0a, zq, Su, Sr⟩ := Ht h0
 obtain ⟨zk, xh, qf, c1a, qd, Bh, n1b, qz, qy, qw, Ph, n1c, Qp, Qi, Pt, Pg, Pp, Qo, Qh, Ps, rfl, f1a, Di, f1c, f1d⟩ := Ht h1
 go_enter Tryz.func150, Tryz.ntmps150
 go_upto_region 1 with fail
 have hO := (Own.push (T := 108) (ls := zE) (cs := [.int .i64 0, .bool false, .slice none 0 0, .int .i64 0, .bool false, .slice none 0 0, .int .i64 0, .bool false, .slice none 0 0, .int .i64 0, .bool false, .slice none 0 0]) (Own.push (T := 108) (ls := [.q a, .q b]) (cs := [.int .i64 zk, .bool xh, .slice qf (List.length qd) c1a, .int .i64 Bh, .bool n1b, .slice qz (List.length qw) qy, .int .i64 Ph, .bool n1c, .slice Qp (List.length Pt) Qi, .int .i64 Pg, .bool Pp, .slice Qo (List.length Ps) Qh]) (Own.push (T := 108) (ls := [.q x, .q y]) (cs := [.int .i64 Ak, .bool wh, .slice ry (List.length rq) c0a, .int .i64 Br, .bool xw, .slice uh (List.length ug) c0b, .int .i64 Ju, .bool Jw, .slice Kq (List.length Ka) Kj, .int .i64 Jt, .bool Jv, .slice Ko (List.length Jz) Ki]) (Own.nil w) (ek.q f0a zq (ek.q Su Sr rfl)) (w.heap.size) rfl) (((ek.q f1a Di (ek.q f1c f1d rfl)) : ek w [.q a, .q b] [.int .i64 zk, .bool xh, .slice qf (List.length qd) c1a, .int .i64 Bh, .bool n1b, .slice qz (List.length qw) qy, .int .i64 Ph, .bool n1c, .slice Qp (List.length Pt) Qi, .int .i64 Pg, .bool Pp, .slice Qo (List.length Ps) Qh]).below (by repeat (first | exact Below.refl _ _ | refine ja ?_ _))) (w.heap.size + 1) (by simp only [World.size_alloc])) (((ek.vs w [.int .i64 0, .bool false, .slice none 0 0, .int .i64 0, .bool false, .slice none 0 0, .int .i64 0, .bool false, .slice none 0 0, .int .i64 0, .bool false, .slice none 0 0] rfl) : ek w zE [.int .i64 0, .bool false, .slice none 0 0, .int .i64 0, .bool false, .slice none 0 0, .int .i64 0, .bool false, .slice none 0 0, .int .i64 0, .bool false, .slice none 0 0]).below (by repeat (first | exact Below.refl _ _ | refine ja ?_ _))) (w.heap.size + 2) (by simp only [World.size_alloc]))
 generalize ((w.alloc (.cells #[.int .i64 Ak, .bool wh, .slice ry (List.length rq) c0a, .int .i64 Br, .bool xw, .slice uh (List.length ug) c0b, .int .i64 Ju, .bool Jw, .slice Kq (List.length Ka) Kj, .int .i64 Jt, .bool Jv, .slice Ko (List.length Jz) Ki] 108)).alloc (.cells #[.int .i64 zk, .bool xh, .slice qf (List.length qd) c1a, .int .i64 Bh, .bool n1b, .slice qz (List.length qw) qy, .int .i64 Ph, .bool n1c, .slice Qp (List.length Pt) Qi, .int .i64 Pg, .bool Pp, .slice Qo (List.length Ps) Qh] 108)).alloc (.cells #[.int .i64 0, .bool false, .slice none 0 0, .int .i64 0, .bool false, .slice none 0 0, .int .i64 0, .bool false, .slice none 0 0, .int .i64 0, .bool false, .slice none 0 0] 108) = W0 at *
 have HO := hide hO
 clear hO
 go_upto_region 1 with fail
 refine Rg.region 11 16 (Rg.pick [Rg.bf (.pointer (some ⟨w.heap.size, 0, none⟩)), ai [.q x], Rg.bf (.pointer (some ⟨w.heap.size + 1, 6, none⟩)), ai [.q b], ai [.q (x - b)], Rg.bf (.pointer (some ⟨w.heap.size, 6, none⟩)), ai [.q y], Rg.bf (.pointer (some ⟨w.heap.size + 1, 0, none⟩)), ai [.q a], ai [.q (y - a)], ai [.q (x - b), .q (y - a)]]) (ay w [(w.heap.size + 2, 108, zE), (w.heap.size + 1, 108, [.q a, .q b]), (w.heap.size, 108, [.q x, .q y])] W0) ik [] kr kr rfl (Rg.gm.pick ⟨Rg.ag _, au _, Rg.ag _, au _, au _, Rg.ag _, au _, Rg.ag _, au _, au _, au _, trivial⟩) (ay.start (aa HO))
  (ae (Aj (b := w.heap.size) (off := 0) rfl (Rg.cz kr rfl) rfl rfl)
  (ae (fo nz qo (Rg.ax 0 kr) [] [.q x] [.q y])
  (ae (Bf (b := w.heap.size + 1) (off := 0) rfl (Rg.cz kr rfl) rfl rfl)
  (ae (fo nz nu (Rg.ax 2 kr) [.q a] [.q b] [])
  (ae (iw Tryz.func68 kr rfl ay.step (Rg.ax 1 kr) (Rg.ax 3 kr) (fun W v0 v1 hG h0 h1 => afh ((aa HT).below hG.bel) (aa HS).1 (aa HS).2.2.2 h0 h1))
  (ae (Bf (b := w.heap.size) (off := 0) rfl (Rg.cz kr rfl) rfl rfl)
  (ae (fo nz qo (Rg.ax 5 kr) [.q x] [.q y] [])
  (ae (Aj (b := w.heap.size + 1) (off := 0) rfl (Rg.cz kr rfl) rfl rfl)
  (ae (fo nz nu (Rg.ax 7 kr) [] [.q a] [.q b])
  (ae (iw Tryz.func68 kr rfl ay.step (Rg.ax 6 kr) (Rg.ax 8 kr) (fun W v0 v1 hG h0 h1 => afh ((aa HT).below hG.bel) (aa HS).2.1 (aa HS).2.2.1 h0 h1))
  (ae (yf Sy rfl (Rg.ax 4 kr) (Rg.ax 9 kr) rfl rfl rfl)
  Rg.cu))))))))))) ?_
 intro v1 V1 hG1 hv1 hne1
 simp only [Rg.puts, jr, jq, jo, jm, Act.put, jl, jk, ji]
 have hO := hG1.1
 refine ky hO 0 [] zE [.q (x - b), .q (y - a)] [] rfl Lp rfl (show ai [.q (x - b), .q (y - a)] V1 (v1 10) from hv1 10 (by decide)) rfl rfl rfl ?_
 intro uy iy hk0
 replace hO := iy
 clear iy
 clear HO
 have HO := hide hO
 clear hO hG1 hv1 hne1 hk0
 go_wp2_with fail
 exact zh Tryz.results150 Mf rfl (aa HO) me0 rfl rfl
set_option maxHeartbeats 16000000 in
theorem bdj {x y a b : Rat} {K : Nat} (sx : Sm K x) (sy : Sm K y) (sa : Sm K a) (sb : Sm K b) (hK : K + K ≤ 1000000) (ha : a.num ≠ 0) (hb : b.num ≠ 0) (w : World) (hT : rz w) (u0 : Value) (h0 : ai [.q x, .q y] w u0) (u1 : Value) (h1 : ai [.q a, .q b] w u1) :
  Calls Tryz.prog 152 #[u0, u1] w (jh (ai [.q (ko (x * b⁻¹) [x * a⁻¹, y * b⁻¹, y * a⁻¹]), .q (jd (x * b⁻¹) [x * a⁻¹, y * b⁻¹, y * a⁻¹])]) w) := by
 have HS := hide (And.intro sx (And.intro sy (And.intro sa (And.intro sb (And.intro hK (And.intro ha hb))))))
 have HT := hide hT
 clear sx sy sa sb hK ha hb hT
 obtain ⟨Ak, wh, ry, c0a, rq, Br, xw, uh, c0b, ug, Ju, Jw, Kq, Kj, Ka, Jt, Jv, Ko, Ki, Jz, rfl, f0a, zq, Su, Sr⟩ := Ht h0
 obtain ⟨zk, xh, qf, c1a, qd, Bh, n1b, qz, qy, qw, Ph, n1c, Qp, Qi, Pt, Pg, Pp, Qo, Qh, Ps, rfl, f1a, Di, f1c, f1d⟩ := Ht h1
 go_enter Tryz.func152, Tryz.ntmps152
 go_upto_region 1 with fail
 have hO := (Own.push (T := 108) (ls := zE) (cs := [.int .i64 0, .bool false, .slice none 0 0, .int .i64 0, .bool false, .slice none 0 0, .int .i64 0, .bool false, .slice none 0 0, .int .i64 0, .bool false, .slice none 0 0]) (Own.push (T := 108) (ls := [.q a, .q b]) (cs := [.int .i64 zk, .bool xh, .slice qf (List.length qd) c1a, .int .i64 Bh, .bool n1b, .slice qz (List.length qw) qy, .int .i64 Ph, .bool n1c, .slice Qp (List.length Pt) Qi, .int .i64 Pg, .bool Pp, .slice Qo (List.length Ps) Qh]) (Own.push (T := 108) (ls := [.q x, .q y]) (cs := [.int .i64 Ak, .bool wh, .slice ry (List.length rq) c0a, .int .i64 Br, .bool xw, .slice uh (List.length ug) c0b, .int .i64 Ju, .bool Jw, .slice Kq (List.length Ka) Kj, .int .i64 Jt, .bool Jv, .slice Ko (List.length Jz) Ki]) (Own.nil w) (ek.q f0a zq (ek.q Su Sr rfl)) (w.heap.size) rfl) (((ek.q f1a Di (ek.q f1c f1d rfl)) : ek w [.q a, .q b] [.int .i64 zk, .bool xh, .slice qf (List.length qd) c1a, .int .i64 Bh, .bool n1b, .slice qz (List.length qw) qy, .int .i64 Ph, .bool n1c, .slice Qp (List.length Pt) Qi, .int .i64 Pg, .bool Pp, .slice Qo (List.length Ps) Qh]).below (by repeat (first | exact Below.refl _ _ | refine ja ?_ _))) (w.heap.size + 1) (by simp only [World.size_alloc])) (((ek.vs w [.int .i64 0, .bool false, .slice none 0 0, .int .i64 0, .bool false, .slice none 0 0, .int .i64 0, .bool false, .slice none 0 0, .int .i64 0, .bool false, .slice none 0 0] rfl) : ek w zE [.int .i64 0, .bool false, .slice none 0 0, .int .i64 0, .bool false, .slice none 0 0, .int .i64 0, .bool false, .slice none 0 0, .int .i64 0, .bool false, .slice none 0 0]).below (by repeat (first | exact Below.refl _ _ | refine ja ?_ _))) (w.heap.size + 2) (by simp only [World.size_alloc]))
 generalize ((w.alloc (.cells #[.int .i64 Ak, .bool wh, .slice ry (List.length rq) c0a, .int .i64 Br, .bool xw, .slice uh (List.length ug) c0b, .int .i64 Ju, .bool Jw, .slice Kq (List.length Ka) Kj, .int .i64 Jt, .bool Jv, .slice Ko (List.length Jz) Ki] 108)).alloc (.cells #[.int .i64 zk, .bool xh, .slice qf (List.length qd) c1a, .int .i64 Bh, .bool n1b, .slice qz (List.length qw) qy, .int .i64 Ph, .bool n1c, .slice Qp (List.length Pt) Qi, .int .i64 Pg, .bool Pp, .slice Qo (List.length Ps) Qh] 108)).alloc (.cells #[.int .i64 0, .bool false, .slice none 0 0, .int .i64 0, .bool false, .slice none 0 0, .int .i64 0, .bool false, .slice none 0 0, .int .i64 0, .bool false, .slice none 0 0] 108) = W0 at *
 have HO := hide hO
 clear hO
 go_upto_region 1 with fail
 refine Rg.region 9 14 (Rg.pick [ai [.q x, .q y], Rg.bf (.pointer (some ⟨w.heap.size + 1, 6, none⟩)), ai [.q b], ai [.q (b⁻¹)], Rg.bf (.pointer (some ⟨w.heap.size + 1, 0, none⟩)), ai [.q a], ai [.q (a⁻¹)], ai [.q (b⁻¹), .q (a⁻¹)], ai [.q (ko (x * b⁻¹) [x * a⁻¹, y * b⁻¹, y * a⁻¹]), .q (jd (x * b⁻¹) [x * a⁻¹, y * b⁻¹, y * a⁻¹])]]) (ay w [(w.heap.size + 2, 108, zE), (w.heap.size + 1, 108, [.q a, .q b]), (w.heap.size, 108, [.q x, .q y])] W0) ik [] kr kr rfl (Rg.gm.pick ⟨au _, Rg.ag _, au _, au _, Rg.ag _, au _, au _, au _, au _, trivial⟩) (ay.start (aa HO))
  (ae (fo apr qo (Rg.cz kr rfl) [] [.q x, .q y] [])
  (ae (Bf (b := w.heap.size + 1) (off := 0) rfl (Rg.cz kr rfl) rfl rfl)
  (ae (fo nz nu (Rg.ax 1 kr) [.q a] [.q b] [])
  (ae (jf Tryz.func79 kr rfl ay.step (Rg.ax 2 kr) (fun W v0 hG h0 => axf (aa HS).2.2.2.2.2.2 h0))
  (ae (Aj (b := w.heap.size + 1) (off := 0) rfl (Rg.cz kr rfl) rfl rfl)
  (ae (fo nz nu (Rg.ax 4 kr) [] [.q a] [.q b])
  (ae (jf Tryz.func79 kr rfl ay.step (Rg.ax 5 kr) (fun W v0 hG h0 => axf (aa HS).2.2.2.2.2.1 h0))
  (ae (yf Sy rfl (Rg.ax 3 kr) (Rg.ax 6 kr) rfl rfl rfl)
  (ae (iw Tryz.func151 kr rfl ay.step (Rg.ax 0 kr) (Rg.ax 7 kr) (fun W v0 v1 hG h0 h1 => akg (aa HS).1 (aa HS).2.1 ((aa HS).2.2.2.1.inv (aa HS).2.2.2.2.2.2) ((aa HS).2.2.1.inv (aa HS).2.2.2.2.2.1) (aa HS).2.2.2.2.1 W ((aa HT).below hG.bel) _ h0 _ h1))
  Rg.cu))))))))) ?_
 intro v1 V1 hG1 hv1 hne1
 simp only [Rg.puts, jr, jq, jo, jm, Act.put, jl, jk, ji]
 have hO := hG1.1
 refine ky hO 0 [] zE [.q (ko (x * b⁻¹) [x * a⁻¹, y * b⁻¹, y * a⁻¹]), .q (jd (x * b⁻¹) [x * a⁻¹, y * b⁻¹, y * a⁻¹])] [] rfl Lp rfl (show ai [.q (ko (x * b⁻¹) [x * a⁻¹, y * b⁻¹, y * a⁻¹]), .q (jd (x * b⁻¹) [x * a⁻¹, y * b⁻¹, y * a⁻¹])] V1 (v1 8) from hv1 8 (by decide)) rfl rfl rfl ?_
 intro uy iy hk0
 replace hO := iy
 clear iy
 clear HO
 have HO := hide hO
 clear hO hG1 hv1 hne1 hk0
 go_wp2_with fail
 exact zh Tryz.results152 Mf rfl (aa HO) me0 rfl rfl
end Sb

end Go.Proofs.YtjdnmdlnaoedoaaGreatDoor
namespace Go.Proofs.YtjdnmdlnaoedoaaGreatDoor
open Go.RowKit

namespace Sb
section
variable {P : Program} {F : Nat} {vs : Array Value} {W : World}
theorem Uc {a b X Y : Rat} (hX : X = a) (hY : Y = b) (h : Calls P F vs W (jh (ai [.q a, .q b]) W)) : Calls P F vs W (jh (ai [.q X, .q Y]) W) := by subst hX hY; exact h
theorem Xu {a b X Y : Rat} (hX : X = a) (hY : Y = b) (h : Calls P F vs W (jh (ai [.r a, .r b]) W)) : Calls P F vs W (jh (ai [.r X, .r Y]) W) := by subst hX hY; exact h
theorem Qw {t u : Gj} (e : t = u) (h : Calls P F vs W (jh (Ga u) W)) : Calls P F vs W (jh (Ga t) W) := by subst e; exact h
end
set_option maxHeartbeats 16000000 in
theorem avh {fe eu fu fq ic ib gy gu : Int} {g : Int} (FN : Nat) (fn : Func) (X Y p q r s : Rat) (t : Gj) (w : World) (hT : rz w) (u0 : Value) (h0 : ai [iv fe, iv eu, iv fu, iv fq] w u0) (u1 : Value) (h1 : ai [iv ic, iv ib, iv gy, iv gu] w u1)
  (hv : p = (Wd.qR fe eu) ∧ q = (Wd.qR fu fq) ∧ r = (Wd.qR ic ib) ∧ s = (Wd.qR gy gu))
  (hF : Tryz.prog.funcs[FN]? = some fn ∧ (!(fn.name == "runtime.NumGoroutine") && fn.body.isSome) = true)
  (hcb : ∀ (W : World) (v0 v1 : Value), rz W → (Ae fe eu fu fq ∧ Ae ic ib gy gu ∧ 1 ≤ g ∧ g ≤ 1000000) → ai [.q p, .q q] W v0 → ai [.q r, .q s] W v1 → Calls Tryz.prog FN #[v0, v1] W (jh (ai [.q X, .q Y]) W))
  (hsm : (Ae fe eu fu fq ∧ Ae ic ib gy gu ∧ 1 ≤ g ∧ g ≤ 1000000) → Sm (2 + 1) X ∧ Sm (2 + 1) Y)
  (hok : wu (ui [⟨fe, eu, fu, fq⟩, ⟨ic, ib, gy, gu⟩]) g = 0 → (Ae fe eu fu fq ∧ Ae ic ib gy gu ∧ 1 ≤ g ∧ g ≤ 1000000))
  (hr : (wu (ui [⟨fe, eu, fu, fq⟩, ⟨ic, ib, gy, gu⟩]) g ≠ 0 → t = ⟨0, 0, 0, 0, wu (ui [⟨fe, eu, fu, fq⟩, ⟨ic, ib, gy, gu⟩]) g⟩) ∧ (wu (ui [⟨fe, eu, fu, fq⟩, ⟨ic, ib, gy, gu⟩]) g = 0 → t = Cx (wz X g) (Cj Y g))) :
  Calls Tryz.prog 148 #[u0, u1, .int .i64 g, .func (.func FN) #[] #[]] w (jh (Ga t) w) := by
 have HV := hide hv
 clear hv
 have HFN := hide hF
 have HCB := hide hcb
 have Gr := hide hsm
 have Kl := hide hok
 have HR := hide hr
 have HT := hide hT
 clear hF hcb hsm hok hr hT
 have hu0 := Af h0
 subst hu0
 have hu1 := Af h1
 subst hu1
 go_enter Tryz.func148, Tryz.ntmps148
 go_upto_region 1 with fail
 have hO := (Own.push (T := 41) (ls := zS) (cs := [.int .i64 0, .int .i64 0, .int .i64 0, .int .i64 0]) (Own.push (T := 41) (ls := [iv ic, iv ib, iv gy, iv gu]) (cs := [.int .i64 ic, .int .i64 ib, .int .i64 gy, .int .i64 gu]) (Own.push (T := 41) (ls := [iv fe, iv eu, iv fu, iv fq]) (cs := [.int .i64 fe, .int .i64 eu, .int .i64 fu, .int .i64 fq]) (Own.nil w) (ek.v (kg _) (ek.v (kg _) (ek.v (kg _) (ek.v (kg _) rfl)))) (w.heap.size) rfl) (((ek.v (kg _) (ek.v (kg _) (ek.v (kg _) (ek.v (kg _) rfl)))) : ek w [iv ic, iv ib, iv gy, iv gu] [.int .i64 ic, .int .i64 ib, .int .i64 gy, .int .i64 gu]).below (by repeat (first | exact Below.refl _ _ | refine ja ?_ _))) (w.heap.size + 1) (by simp only [World.size_alloc])) (((ek.vs w [.int .i64 0, .int .i64 0, .int .i64 0, .int .i64 0] rfl) : ek w zS [.int .i64 0, .int .i64 0, .int .i64 0, .int .i64 0]).below (by repeat (first | exact Below.refl _ _ | refine ja ?_ _))) (w.heap.size + 2) (by simp only [World.size_alloc]))
 generalize ((w.alloc (.cells #[.int .i64 fe, .int .i64 eu, .int .i64 fu, .int .i64 fq] 41)).alloc (.cells #[.int .i64 ic, .int .i64 ib, .int .i64 gy, .int .i64 gu] 41)).alloc (.cells #[.int .i64 0, .int .i64 0, .int .i64 0, .int .i64 0] 41) = W0 at *
 have HO := hide hO
 clear hO
 go_upto_region 1 with fail
 refine Rg.fw 7 32 (Rg.pick [ai [iv fe, iv eu, iv fu, iv fq], ai [iv ic, iv ib, iv gy, iv gu], Zh 41 2 [iv fe, iv eu, iv fu, iv fq, iv ic, iv ib, iv gy, iv gu], Rg.bf (.int .i64 (ui [⟨fe, eu, fu, fq⟩, ⟨ic, ib, gy, gu⟩])), Rg.bf (.int .i64 g), Rg.bf (.int .i64 (wu (ui [⟨fe, eu, fu, fq⟩, ⟨ic, ib, gy, gu⟩]) g)), Rg.bf (.int .i64 (wu (ui [⟨fe, eu, fu, fq⟩, ⟨ic, ib, gy, gu⟩]) g))]) (ay w [(w.heap.size + 2, 41, zS), (w.heap.size + 1, 41, [iv ic, iv ib, iv gy, iv gu]), (w.heap.size, 41, [iv fe, iv eu, iv fu, iv fq])] W0) ik [] kr rfl (Rg.gm.pick ⟨au _, au _, Xo _ _ _, Rg.ag _, Rg.ag _, Rg.ag _, Rg.ag _, trivial⟩) (ay.begin (aa HO))
  (ae (fo qp qo (Rg.cz kr rfl) [] [iv fe, iv eu, iv fu, iv fq] [])
  (ae (fo qp nu (Rg.cz kr rfl) [] [iv ic, iv ib, iv gy, iv gu] [])
  (ae (Qx (ps := [(0, .tmp 11), (1, .tmp 12)]) (gs := [[iv fe, iv eu, iv fu, iv fq], [iv ic, iv ib, iv gy, iv gu]]) aby rfl ay.step rfl (Ar.cons (Rg.ax 0 kr) rfl (Ar.cons (Rg.ax 1 kr) rfl Ar.nil)) rfl)
  (ae (jf Tryz.func104 kr rfl ay.step (Rg.ax 2 kr) (fun W v0 hG h0 => arc (ss := [⟨fe, eu, fu, fq⟩, ⟨ic, ib, gy, gu⟩]) (by simp) W ((aa HT).below hG.bel) _ h0))
  (ae (ig rfl (Rg.cz kr rfl))
  (ae (iw Tryz.func94 kr rfl ay.step (Rg.ax 3 kr) (Rg.ax 4 kr) (fun W v0 v1 hG h0 h1 => by cases h0; cases h1; exact ari _ _ W))
  (ae (og rfl (Rg.ax 5 kr))
  Rg.cu))))))) ?_
 intro v1 V1 hG1 hv1 hne1
 simp only [Rg.puts, jr, jq, jo, jm, Act.put, jl, jk, ji]
 have e5 : v1 5 = .int .i64 (wu (ui [⟨fe, eu, fu, fq⟩, ⟨ic, ib, gy, gu⟩]) g) := hv1 5 (by decide)
 have e6 : v1 6 = .int .i64 (wu (ui [⟨fe, eu, fu, fq⟩, ⟨ic, ib, gy, gu⟩]) g) := hv1 6 (by decide)
 simp only [e5, e6]
 have hO := hG1.1
 clear HO
 have HO := hide hO
 clear hO hG1 hv1 hne1
 try clear e5 e6
 by_cases g0 : wu (ui [⟨fe, eu, fu, fq⟩, ⟨ic, ib, gy, gu⟩]) g = 0
 ·
  have k1 : (wu (ui [⟨fe, eu, fu, fq⟩, ⟨ic, ib, gy, gu⟩]) g != 0) = false := by simp [bne, beq_iff_eq.2 g0]
  have hr := (aa HR).2 g0
  have HQ := hide ((aa Kl) g0)
  have HT2 := hide hr
  clear HR Kl hr
  go_upto_region 2 with fail
  refine Rg.fw 2 32 (Rg.pick [Rg.bf (.int .i64 (wu (ui [⟨fe, eu, fu, fq⟩, ⟨ic, ib, gy, gu⟩]) g)), Rg.bf (.bool false)]) (ay w [(w.heap.size + 2, 41, zS), (w.heap.size + 1, 41, [iv ic, iv ib, iv gy, iv gu]), (w.heap.size, 41, [iv fe, iv eu, iv fu, iv fq])] V1) ik [] kr rfl (Rg.gm.pick ⟨Rg.ag _, Rg.ag _, trivial⟩) (ay.begin (aa HO))
   (ae (ig rfl (Rg.cz kr rfl))
   (ae (Hg rfl (Rg.ax 0 kr) (Rg.mh _) rfl k1)
   Rg.cu)) ?_
  intro v2 V2 hG2 hv2 hne2
  simp only [Rg.puts, jr, jq, jo, jm, Act.put, jl, jk, ji]
  have e1 : v2 1 = .bool false := hv2 1 (by decide)
  simp only [e1]
  have hO := hG2.1
  clear HO
  have HO := hide hO
  clear hO hG2 hv2 hne2
  try clear e1
  clear k1 g0
  go_upto_region 4 with fail
  refine Rg.region 13 32 (Rg.pick [Rg.bf (.func (.func FN) #[] #[]), ai [iv fe, iv eu, iv fu, iv fq], ai [.q p, .q q], ai [iv ic, iv ib, iv gy, iv gu], ai [.q r, .q s], ai [.q X, .q Y], Rg.bf (.int .i64 g), ai [.q (wz X g), .q (Cj Y g)], tq [ai [iv t.a, iv t.b, iv t.c, iv t.d], Rg.bf (.int .i64 t.e)], ai [iv t.a, iv t.b, iv t.c, iv t.d], Rg.bf (.int .i64 t.e), StT (w.heap.size + 2, 41, [iv t.a, iv t.b, iv t.c, iv t.d]), Rg.bf (.int .i64 t.e)]) (GS w [(w.heap.size + 2, 41, zS), (w.heap.size + 1, 41, [iv ic, iv ib, iv gy, iv gu]), (w.heap.size, 41, [iv fe, iv eu, iv fu, iv fq])] (w.heap.size + 2, 41, [iv t.a, iv t.b, iv t.c, iv t.d]) (w.heap.size + 2, 41, [iv t.a, iv t.b, iv t.c, iv t.d])) (ES (w.heap.size + 2, 41, [iv t.a, iv t.b, iv t.c, iv t.d]) (w.heap.size + 2, 41, [iv t.a, iv t.b, iv t.c, iv t.d])) [] kr kr rfl (Rg.gm.pick ⟨(Gc _), (xq _), (xq _), (xq _), (xq _), (xq _), (Gc _), (xq _), (adu ⟨(xq _), (Gc _), trivial⟩), (xq _), (Gc _), (Ls (.inr rfl) (.inl rfl)), (Gc _), trivial⟩) (GS.start (aa HO))
   (Rg.bg (Rg.plain rfl (rf (ig rfl (Rg.cz kr rfl))))
    (Rg.bg (Rg.plain rfl (rf (Bd (b := w.heap.size) (off := 0) (TB := 41) (pre := []) (mid := [iv fe, iv eu, iv fu, iv fq]) (post := []) qp rfl (Rg.cz kr rfl) (fun W h => GS.get qo (fun h => absurd (show (w.heap.size + 2 : Nat) = w.heap.size from h) (by first | omega | (intro h; exact _root_.trivial h))) (fun h => absurd (show (w.heap.size + 2 : Nat) = w.heap.size from h) (by first | omega | (intro h; exact _root_.trivial h))) h) rfl rfl rfl)))
    (Rg.bg (Rg.plain rfl (rf (jf Tryz.func95 kr rfl GS.step (Rg.ax 1 kr) (fun W v0 hG h0 => Uc (aa HV).1 (aa HV).2.1 (Sv ⟨(aa HQ).1.1, (aa HQ).1.2.1⟩ W _ h0)))))
    (Rg.bg (Rg.plain rfl (rf (Bd (b := w.heap.size + 1) (off := 0) (TB := 41) (pre := []) (mid := [iv ic, iv ib, iv gy, iv gu]) (post := []) qp rfl (Rg.cz kr rfl) (fun W h => GS.get nu (fun h => absurd (show (w.heap.size + 2 : Nat) = w.heap.size + 1 from h) (by first | omega | (intro h; exact _root_.trivial h))) (fun h => absurd (show (w.heap.size + 2 : Nat) = w.heap.size + 1 from h) (by first | omega | (intro h; exact _root_.trivial h))) h) rfl rfl rfl)))
    (Rg.bg (Rg.plain rfl (rf (jf Tryz.func95 kr rfl GS.step (Rg.ax 3 kr) (fun W v0 hG h0 => Uc (aa HV).2.2.1 (aa HV).2.2.2 (Sv ⟨(aa HQ).2.1.1, (aa HQ).2.1.2.1⟩ W _ h0)))))
    (Rg.bg (Rg.plain rfl (rf (asw (aa HFN).1 (aa HFN).2 rfl GS.step (Rg.ax 0 kr) (Rg.ax 2 kr) (Rg.ax 4 kr) (fun W v0 v1 hG h0 h1 => aa HCB W v0 v1 ((aa HT).below hG.bel) (aa HQ) h0 h1))))
    (Rg.bg (Rg.plain rfl (rf (ig rfl (Rg.cz kr rfl))))
    (Rg.bg (Rg.plain rfl (rf (iw Tryz.func96 kr rfl GS.step (Rg.ax 5 kr) (Rg.ax 6 kr) (fun W v0 v1 hG h0 h1 => by cases h1; exact aep ((aa Gr) (aa HQ)).1 ((aa Gr) (aa HQ)).2 (aa HQ).2.2.1 (aa HQ).2.2.2 om W ((aa HT).below hG.bel) _ h0))))
    (Rg.bg (Rg.plain rfl (rf (jf Tryz.func97 kr rfl GS.step (Rg.ax 7 kr) (fun W v0 hG h0 => Qw (aa HT2) (aqx W _ h0)))))
    (Rg.bg (Rg.plain rfl (rf (oo (ts := [ai [iv t.a, iv t.b, iv t.c, iv t.d], Rg.bf (.int .i64 t.e)]) rfl (Rg.ax 8 kr) (of_decide_eq_true rfl) rfl)))
    (Rg.bg (Rg.plain rfl (rf (oo (ts := [ai [iv t.a, iv t.b, iv t.c, iv t.d], Rg.bf (.int .i64 t.e)]) rfl (Rg.ax 8 kr) (of_decide_eq_true rfl) rfl)))
    (Rg.bg (Rg.plain rfl (Lv (b := w.heap.size + 2) (old := zS) (new := [iv t.a, iv t.b, iv t.c, iv t.d]) uj rfl (Rg.cz kr rfl) (Rg.ax 9 kr) me0 (aa HO).nd (.inl rfl) (.inr rfl) rfl rfl rfl))
    (Rg.bg (Rg.plain rfl (rf (og rfl (Rg.ax 10 kr))))
    Rg.cu))))))))))))) ?_
  intro v3 V3 hG3 hv3 qh
  simp only [Rg.puts, jr, jq, jo, jm, Act.put, jl, jk, ji]
  have e0 : v3 0 = .func (.func FN) #[] #[] := hv3 0 (by decide)
  have e6 : v3 6 = .int .i64 g := hv3 6 (by decide)
  have e10 : v3 10 = .int .i64 t.e := hv3 10 (by decide)
  have e12 : v3 12 = .int .i64 t.e := hv3 12 (by decide)
  simp only [e0, e6, e10, e12]
  have hO : Own w [(w.heap.size + 2, 41, [iv t.a, iv t.b, iv t.c, iv t.d]), (w.heap.size + 1, 41, [iv ic, iv ib, iv gy, iv gu]), (w.heap.size, 41, [iv fe, iv eu, iv fu, iv fq])] V3 := by
   refine ⟨hG3.bel, (aa HO).nd, fun b T ls hm => ?_⟩
   rcases List.mem_cons.1 hm with e | hm
   ·
    cases e; exact ⟨(hG3.box _ _ _ me0).1, hv3 11 (by decide)⟩
   rcases List.mem_cons.1 hm with e | hm
   ·
    cases e; exact ⟨(hG3.box _ _ _ nu).1, GS.get nu (fun h => absurd (show (w.heap.size + 2 : Nat) = w.heap.size + 1 from h) (by first | omega | (intro h; exact _root_.trivial h))) (fun h => absurd (show (w.heap.size + 2 : Nat) = w.heap.size + 1 from h) (by first | omega | (intro h; exact _root_.trivial h))) hG3⟩
   rcases List.mem_cons.1 hm with e | hm
   ·
    cases e; exact ⟨(hG3.box _ _ _ qo).1, GS.get qo (fun h => absurd (show (w.heap.size + 2 : Nat) = w.heap.size from h) (by first | omega | (intro h; exact _root_.trivial h))) (fun h => absurd (show (w.heap.size + 2 : Nat) = w.heap.size from h) (by first | omega | (intro h; exact _root_.trivial h))) hG3⟩
   cases hm
  clear HO
  have HO := hide hO
  clear hO hG3 hv3 qh
  try clear e0 e6 e10 e12
  go_wp2_with fail
  exact yx Tryz.results148 xg rfl rfl (aa HO) me0 rfl rfl
 ·
  have k1 : (wu (ui [⟨fe, eu, fu, fq⟩, ⟨ic, ib, gy, gu⟩]) g != 0) = true := by simp [bne, beq_eq_false_iff_ne.2 g0]
  have hr := (aa HR).1 g0
  clear HR
  subst hr
  clear Kl
  go_upto_region 2 with fail
  refine Rg.fw 2 32 (Rg.pick [Rg.bf (.int .i64 (wu (ui [⟨fe, eu, fu, fq⟩, ⟨ic, ib, gy, gu⟩]) g)), Rg.bf (.bool true)]) (ay w [(w.heap.size + 2, 41, zS), (w.heap.size + 1, 41, [iv ic, iv ib, iv gy, iv gu]), (w.heap.size, 41, [iv fe, iv eu, iv fu, iv fq])] V1) ik [] kr rfl (Rg.gm.pick ⟨Rg.ag _, Rg.ag _, trivial⟩) (ay.begin (aa HO))
   (ae (ig rfl (Rg.cz kr rfl))
   (ae (Hg rfl (Rg.ax 0 kr) (Rg.mh _) rfl k1)
   Rg.cu)) ?_
  intro v2 V2 hG2 hv2 hne2
  simp only [Rg.puts, jr, jq, jo, jm, Act.put, jl, jk, ji]
  have e1 : v2 1 = .bool true := hv2 1 (by decide)
  simp only [e1]
  have hO := hG2.1
  clear HO
  have HO := hide hO
  clear hO hG2 hv2 hne2
  try clear e1
  go_upto_region 3 with fail
  refine Rg.fw 2 32 (Rg.pick [ai zS, Rg.bf (.int .i64 (wu (ui [⟨fe, eu, fu, fq⟩, ⟨ic, ib, gy, gu⟩]) g))]) (ay w [(w.heap.size + 2, 41, zS), (w.heap.size + 1, 41, [iv ic, iv ib, iv gy, iv gu]), (w.heap.size, 41, [iv fe, iv eu, iv fu, iv fq])] V2) ik [] kr rfl (Rg.gm.pick ⟨au _, Rg.ag _, trivial⟩) (ay.begin (aa HO))
   (ae (De Dg rfl rfl rfl)
   (ae (ig rfl (Rg.cz kr rfl))
   Rg.cu)) ?_
  intro v3 V3 hG3 hv3 qh
  simp only [Rg.puts, jr, jq, jo, jm, Act.put, jl, jk, ji]
  have e1 : v3 1 = .int .i64 (wu (ui [⟨fe, eu, fu, fq⟩, ⟨ic, ib, gy, gu⟩]) g) := hv3 1 (by decide)
  simp only [e1]
  have hO := hG3.1
  refine ky hO 0 [] zS zS [] rfl uj rfl (show ai zS V3 (v3 0) from hv3 0 (by decide)) rfl rfl rfl ?_
  intro Ea iy hk0
  replace hO := iy
  clear iy
  clear HO
  have HO := hide hO
  clear hO hG3 hv3 qh hk0
  try clear e1
  go_wp2_with fail
  exact yx Tryz.results148 xg rfl rfl (aa HO) me0 rfl rfl
theorem aai {fe eu fu fq ic ib gy gu : Int} {g : Int} (FN : Nat) (fn : Func) (X Y : Rat) (t : Gj) (w : World) (hT : rz w) (u0 : Value) (h0 : ai [iv fe, iv eu, iv fu, iv fq] w u0) (u1 : Value) (h1 : ai [iv ic, iv ib, iv gy, iv gu] w u1)
  (hF : Tryz.prog.funcs[FN]? = some fn ∧ (!(fn.name == "runtime.NumGoroutine") && fn.body.isSome) = true)
  (hcb : ∀ (W : World) (v0 v1 : Value), rz W → (Ae fe eu fu fq ∧ Ae ic ib gy gu ∧ 1 ≤ g ∧ g ≤ 1000000) → ai [.q (Wd.qR fe eu), .q (Wd.qR fu fq)] W v0 → ai [.q (Wd.qR ic ib), .q (Wd.qR gy gu)] W v1 → Calls Tryz.prog FN #[v0, v1] W (jh (ai [.q X, .q Y]) W))
  (hsm : (Ae fe eu fu fq ∧ Ae ic ib gy gu ∧ 1 ≤ g ∧ g ≤ 1000000) → Sm (2 + 1) X ∧ Sm (2 + 1) Y)
  (hok : wu (ui [⟨fe, eu, fu, fq⟩, ⟨ic, ib, gy, gu⟩]) g = 0 → (Ae fe eu fu fq ∧ Ae ic ib gy gu ∧ 1 ≤ g ∧ g ≤ 1000000))
  (hr : (wu (ui [⟨fe, eu, fu, fq⟩, ⟨ic, ib, gy, gu⟩]) g ≠ 0 → t = ⟨0, 0, 0, 0, wu (ui [⟨fe, eu, fu, fq⟩, ⟨ic, ib, gy, gu⟩]) g⟩) ∧ (wu (ui [⟨fe, eu, fu, fq⟩, ⟨ic, ib, gy, gu⟩]) g = 0 → t = Cx (wz X g) (Cj Y g))) :
  Calls Tryz.prog 148 #[u0, u1, .int .i64 g, .func (.func FN) #[] #[]] w (jh (Ga t) w) := avh FN fn X Y _ _ _ _ t w hT u0 h0 u1 h1 ⟨rfl, rfl, rfl, rfl⟩ hF hcb hsm hok hr
set_option maxHeartbeats 16000000 in
theorem avs {fe eu fu fq ic ib gy gu : Int} {g : Int} (t : Gj) (w : World) (hT : rz w) (u0 : Value) (h0 : ai [iv fe, iv eu, iv fu, iv fq] w u0) (u1 : Value) (h1 : ai [iv ic, iv ib, iv gy, iv gu] w u1)
  (hc : ∀ (W : World) (v0 v1 : Value), rz W → ai [iv fe, iv eu, iv fu, iv fq] W v0 → ai [iv ic, iv ib, iv gy, iv gu] W v1 → Calls Tryz.prog 148 #[v0, v1, .int .i64 g, .func (.func 149) #[] #[]] W (jh (Ga t) W)) :
  Calls Tryz.prog 81 #[u0, u1, .int .i64 g] w (jh (Ga t) w) := by
 have HC := hide hc
 have HT := hide hT
 clear hc hT
 have hu0 := Af h0
 subst hu0
 have hu1 := Af h1
 subst hu1
 go_enter Tryz.func81, Tryz.ntmps81
 go_upto_region 1 with fail
 have hO := (Own.push (T := 41) (ls := zS) (cs := [.int .i64 0, .int .i64 0, .int .i64 0, .int .i64 0]) (Own.push (T := 41) (ls := [iv ic, iv ib, iv gy, iv gu]) (cs := [.int .i64 ic, .int .i64 ib, .int .i64 gy, .int .i64 gu]) (Own.push (T := 41) (ls := [iv fe, iv eu, iv fu, iv fq]) (cs := [.int .i64 fe, .int .i64 eu, .int .i64 fu, .int .i64 fq]) (Own.nil w) (ek.v (kg _) (ek.v (kg _) (ek.v (kg _) (ek.v (kg _) rfl)))) (w.heap.size) rfl) (((ek.v (kg _) (ek.v (kg _) (ek.v (kg _) (ek.v (kg _) rfl)))) : ek w [iv ic, iv ib, iv gy, iv gu] [.int .i64 ic, .int .i64 ib, .int .i64 gy, .int .i64 gu]).below (by repeat (first | exact Below.refl _ _ | refine ja ?_ _))) (w.heap.size + 1) (by simp only [World.size_alloc])) (((ek.vs w [.int .i64 0, .int .i64 0, .int .i64 0, .int .i64 0] rfl) : ek w zS [.int .i64 0, .int .i64 0, .int .i64 0, .int .i64 0]).below (by repeat (first | exact Below.refl _ _ | refine ja ?_ _))) (w.heap.size + 2) (by simp only [World.size_alloc]))
 generalize ((w.alloc (.cells #[.int .i64 fe, .int .i64 eu, .int .i64 fu, .int .i64 fq] 41)).alloc (.cells #[.int .i64 ic, .int .i64 ib, .int .i64 gy, .int .i64 gu] 41)).alloc (.cells #[.int .i64 0, .int .i64 0, .int .i64 0, .int .i64 0] 41) = W0 at *
 have HO := hide hO
 clear hO
 go_upto_region 1 with fail
 refine Rg.fw 6 14 (Rg.pick [ai [iv fe, iv eu, iv fu, iv fq], ai [iv ic, iv ib, iv gy, iv gu], Rg.bf (.int .i64 g), tq [ai [iv t.a, iv t.b, iv t.c, iv t.d], Rg.bf (.int .i64 t.e)], ai [iv t.a, iv t.b, iv t.c, iv t.d], Rg.bf (.int .i64 t.e)]) (ay w [(w.heap.size + 2, 41, zS), (w.heap.size + 1, 41, [iv ic, iv ib, iv gy, iv gu]), (w.heap.size, 41, [iv fe, iv eu, iv fu, iv fq])] W0) ik [] kr rfl (Rg.gm.pick ⟨au _, au _, Rg.ag _, oz ⟨(au _), (Rg.ag _), trivial⟩, au _, Rg.ag _, trivial⟩) (ay.begin (aa HO))
  (ae (fo qp qo (Rg.cz kr rfl) [] [iv fe, iv eu, iv fu, iv fq] [])
  (ae (fo qp nu (Rg.cz kr rfl) [] [iv ic, iv ib, iv gy, iv gu] [])
  (ae (ig rfl (Rg.cz kr rfl))
  (ae (Ru Tryz.func148 kr rfl ay.step (Rg.ax 0 kr) (Rg.ax 1 kr) (Rg.ax 2 kr) (ana _) (fun W v0 v1 v2 v3 hG h0 h1 h2 h3 => by cases h2; cases h3; exact aa HC W v0 v1 ((aa HT).below hG.bel) h0 h1))
  (ae (oo (ts := [ai [iv t.a, iv t.b, iv t.c, iv t.d], Rg.bf (.int .i64 t.e)]) rfl (Rg.ax 3 kr) (of_decide_eq_true rfl) rfl)
  (ae (oo (ts := [ai [iv t.a, iv t.b, iv t.c, iv t.d], Rg.bf (.int .i64 t.e)]) rfl (Rg.ax 3 kr) (of_decide_eq_true rfl) rfl)
  Rg.cu)))))) ?_
 intro v1 V1 hG1 hv1 hne1
 simp only [Rg.puts, jr, jq, jo, jm, Act.put, jl, jk, ji]
 have e5 : v1 5 = .int .i64 t.e := hv1 5 (by decide)
 simp only [e5]
 have hO := hG1.1
 refine ky hO 0 [] zS [iv t.a, iv t.b, iv t.c, iv t.d] [] rfl uj rfl (show ai [iv t.a, iv t.b, iv t.c, iv t.d] V1 (v1 4) from hv1 4 (by decide)) rfl rfl rfl ?_
 intro uy iy hk0
 replace hO := iy
 clear iy
 clear HO
 have HO := hide hO
 clear hO hG1 hv1 hne1 hk0
 try clear e5
 go_wp2_with fail
 exact yx Tryz.results81 xg rfl rfl (aa HO) me0 rfl rfl
set_option maxHeartbeats 16000000 in
theorem asu {fe eu fu fq ic ib gy gu : Int} {g : Int} (t : Gj) (w : World) (hT : rz w) (u0 : Value) (h0 : ai [iv fe, iv eu, iv fu, iv fq] w u0) (u1 : Value) (h1 : ai [iv ic, iv ib, iv gy, iv gu] w u1)
  (hc : ∀ (W : World) (v0 v1 : Value), rz W → ai [iv fe, iv eu, iv fu, iv fq] W v0 → ai [iv ic, iv ib, iv gy, iv gu] W v1 → Calls Tryz.prog 148 #[v0, v1, .int .i64 g, .func (.func 150) #[] #[]] W (jh (Ga t) W)) :
  Calls Tryz.prog 82 #[u0, u1, .int .i64 g] w (jh (Ga t) w) := by
 have HC := hide hc
 have HT := hide hT
 clear hc hT
 have hu0 := Af h0
 subst hu0
 have hu1 := Af h1
 subst hu1
 go_enter Tryz.func82, Tryz.ntmps82
 go_upto_region 1 with fail
 have hO := (Own.push (T := 41) (ls := zS) (cs := [.int .i64 0, .int .i64 0, .int .i64 0, .int .i64 0]) (Own.push (T := 41) (ls := [iv ic, iv ib, iv gy, iv gu]) (cs := [.int .i64 ic, .int .i64 ib, .int .i64 gy, .int .i64 gu]) (Own.push (T := 41) (ls := [iv fe, iv eu, iv fu, iv fq]) (cs := [.int .i64 fe, .int .i64 eu, .int .i64 fu, .int .i64 fq]) (Own.nil w) (ek.v (kg _) (ek.v (kg _) (ek.v (kg _) (ek.v (kg _) rfl)))) (w.heap.size) rfl) (((ek.v (kg _) (ek.v (kg _) (ek.v (kg _) (ek.v (kg _) rfl)))) : ek w [iv ic, iv ib, iv gy, iv gu] [.int .i64 ic, .int .i64 ib, .int .i64 gy, .int .i64 gu]).below (by repeat (first | exact Below.refl _ _ | refine ja ?_ _))) (w.heap.size + 1) (by simp only [World.size_alloc])) (((ek.vs w [.int .i64 0, .int .i64 0, .int .i64 0, .int .i64 0] rfl) : ek w zS [.int .i64 0, .int .i64 0, .int .i64 0, .int .i64 0]).below (by repeat (first | exact Below.refl _ _ | refine ja ?_ _))) (w.heap.size + 2) (by simp only [World.size_alloc]))
 generalize ((w.alloc (.cells #[.int .i64 fe, .int .i64 eu, .int .i64 fu, .int .i64 fq] 41)).alloc (.cells #[.int .i64 ic, .int .i64 ib, .int .i64 gy, .int .i64 gu] 41)).alloc (.cells #[.int .i64 0, .int .i64 0, .int .i64 0, .int .i64 0] 41) = W0 at *
 have HO := hide hO
 clear hO
 go_upto_region 1 with fail
 refine Rg.fw 6 14 (Rg.pick [ai [iv fe, iv eu, iv fu, iv fq], ai [iv ic, iv ib, iv gy, iv gu], Rg.bf (.int .i64 g), tq [ai [iv t.a, iv t.b, iv t.c, iv t.d], Rg.bf (.int .i64 t.e)], ai [iv t.a, iv t.b, iv t.c, iv t.d], Rg.bf (.int .i64 t.e)]) (ay w [(w.heap.size + 2, 41, zS), (w.heap.size + 1, 41, [iv ic, iv ib, iv gy, iv gu]), (w.heap.size, 41, [iv fe, iv eu, iv fu, iv fq])] W0) ik [] kr rfl (Rg.gm.pick ⟨au _, au _, Rg.ag _, oz ⟨(au _), (Rg.ag _), trivial⟩, au _, Rg.ag _, trivial⟩) (ay.begin (aa HO))
  (ae (fo qp qo (Rg.cz kr rfl) [] [iv fe, iv eu, iv fu, iv fq] [])
  (ae (fo qp nu (Rg.cz kr rfl) [] [iv ic, iv ib, iv gy, iv gu] [])
  (ae (ig rfl (Rg.cz kr rfl))
  (ae (Ru Tryz.func148 kr rfl ay.step (Rg.ax 0 kr) (Rg.ax 1 kr) (Rg.ax 2 kr) (ana _) (fun W v0 v1 v2 v3 hG h0 h1 h2 h3 => by cases h2; cases h3; exact aa HC W v0 v1 ((aa HT).below hG.bel) h0 h1))
  (ae (oo (ts := [ai [iv t.a, iv t.b, iv t.c, iv t.d], Rg.bf (.int .i64 t.e)]) rfl (Rg.ax 3 kr) (of_decide_eq_true rfl) rfl)
  (ae (oo (ts := [ai [iv t.a, iv t.b, iv t.c, iv t.d], Rg.bf (.int .i64 t.e)]) rfl (Rg.ax 3 kr) (of_decide_eq_true rfl) rfl)
  Rg.cu)))))) ?_
 intro v1 V1 hG1 hv1 hne1
 simp only [Rg.puts, jr, jq, jo, jm, Act.put, jl, jk, ji]
 have e5 : v1 5 = .int .i64 t.e := hv1 5 (by decide)
 simp only [e5]
 have hO := hG1.1
 refine ky hO 0 [] zS [iv t.a, iv t.b, iv t.c, iv t.d] [] rfl uj rfl (show ai [iv t.a, iv t.b, iv t.c, iv t.d] V1 (v1 4) from hv1 4 (by decide)) rfl rfl rfl ?_
 intro uy iy hk0
 replace hO := iy
 clear iy
 clear HO
 have HO := hide hO
 clear hO hG1 hv1 hne1 hk0
 try clear e5
 go_wp2_with fail
 exact yx Tryz.results82 xg rfl rfl (aa HO) me0 rfl rfl
theorem Xz {fe eu fu fq ic ib gy gu : Int} {g : Int} (h : wu (ui [⟨fe, eu, fu, fq⟩, ⟨ic, ib, gy, gu⟩]) g = 0) : Ae fe eu fu fq ∧ Ae ic ib gy gu ∧ 1 ≤ g ∧ g ≤ 1000000 := by
 obtain ⟨h1, h2, h3⟩ := bcw h
 exact ⟨h1 ⟨fe, eu, fu, fq⟩ (by simp), h1 ⟨ic, ib, gy, gu⟩ (by simp), h2, h3⟩
theorem apn {x : Rat} (h : x ≠ 0) : x.num ≠ 0 := fun e => h (by rw [← Wd.ayr x, e]; exact Rat.zero_divInt _)
theorem bdc {a b c d : Int} (h : Ae a b c d) (hn : ¬ (Wd.qR a b ≤ Rat.divInt 0 1 ∧ Rat.divInt 0 1 ≤ Wd.qR c d)) : (Wd.qR a b).num ≠ 0 ∧ (Wd.qR c d).num ≠ 0 := by
 have hl := apm h
 have e0 : Rat.divInt 0 1 = 0 := rfl
 rw [e0] at hn
 generalize Wd.qR a b = x at *
 generalize Wd.qR c d = y at *
 clear h e0
 refine ⟨apn (fun e => hn ?_), apn (fun e => hn ?_)⟩ <;> subst e
 ·
  exact ⟨Rat.le_refl, hl⟩
 ·
  exact ⟨hl, Rat.le_refl⟩
theorem sm4 {fe eu fu fq ic ib gy gu : Int} {p q r s : Rat} (hv : p = (Wd.qR fe eu) ∧ q = (Wd.qR fu fq) ∧ r = (Wd.qR ic ib) ∧ s = (Wd.qR gy gu)) (h1 : Ae fe eu fu fq) (h2 : Ae ic ib gy gu) : Sm 1 p ∧ Sm 1 q ∧ Sm 1 r ∧ Sm 1 s := by
 obtain ⟨rfl, rfl, rfl, rfl⟩ := hv
 exact ⟨yh h1.1, yh h1.2.1, yh h2.1, yh h2.2.1⟩
theorem nz4 {p q r s : Rat} {fe eu fu fq ic ib gy gu : Int} (hv : p = (Wd.qR fe eu) ∧ q = (Wd.qR fu fq) ∧ r = (Wd.qR ic ib) ∧ s = (Wd.qR gy gu)) (h2 : Ae ic ib gy gu) (h : ¬ (r ≤ Rat.divInt 0 1 ∧ Rat.divInt 0 1 ≤ s)) : r.num ≠ 0 ∧ s.num ≠ 0 := by
 obtain ⟨rfl, rfl, rfl, rfl⟩ := hv
 exact bdc h2 h
theorem atj {p q r s : Rat} (h : Sm 1 p ∧ Sm 1 q ∧ Sm 1 r ∧ Sm 1 s) (hz : r.num ≠ 0 ∧ s.num ≠ 0) (w : World) (hT : rz w) : Sm (1 + 1) (ko (p * s⁻¹) [p * r⁻¹, q * s⁻¹, q * r⁻¹]) ∧ Sm (1 + 1) (jd (p * s⁻¹) [p * r⁻¹, q * s⁻¹, q * r⁻¹]) := by
 have k := Zo (K := 1) h.1 h.2.1 (h.2.2.2.inv hz.2) (h.2.2.1.inv hz.1) om w hT
 exact ⟨Sd k.1 k.2, Md k.1 k.2⟩
set_option maxHeartbeats 16000000 in
theorem azd {fe eu fu fq ic ib gy gu : Int} {g : Int} (p q r s a b : Rat) (t : Gj) (w : World) (hT : rz w) (u0 : Value) (h0 : ai [iv fe, iv eu, iv fu, iv fq] w u0) (u1 : Value) (h1 : ai [iv ic, iv ib, iv gy, iv gu] w u1)
  (hv : p = (Wd.qR fe eu) ∧ q = (Wd.qR fu fq) ∧ r = (Wd.qR ic ib) ∧ s = (Wd.qR gy gu)) (he : a = ko (p * s⁻¹) [p * r⁻¹, q * s⁻¹, q * r⁻¹] ∧ b = jd (p * s⁻¹) [p * r⁻¹, q * s⁻¹, q * r⁻¹])
  (hr : (wu (ui [⟨fe, eu, fu, fq⟩, ⟨ic, ib, gy, gu⟩]) g ≠ 0 → t = ⟨0, 0, 0, 0, wu (ui [⟨fe, eu, fu, fq⟩, ⟨ic, ib, gy, gu⟩]) g⟩) ∧ (wu (ui [⟨fe, eu, fu, fq⟩, ⟨ic, ib, gy, gu⟩]) g = 0 → ((r ≤ Rat.divInt 0 1 ∧ Rat.divInt 0 1 ≤ s) → t = ⟨0, 0, 0, 0, 4⟩) ∧ (¬ (r ≤ Rat.divInt 0 1 ∧ Rat.divInt 0 1 ≤ s) → t = Cx (wz a g) (Cj b g)))) :
  Calls Tryz.prog 84 #[u0, u1, .int .i64 g] w (jh (Ga t) w) := by
 have HV := hide hv
 have HE := hide he
 have HR := hide hr
 have HT := hide hT
 clear hv he hr hT
 have hu0 := Af h0
 subst hu0
 have hu1 := Af h1
 subst hu1
 go_enter Tryz.func84, Tryz.ntmps84
 go_upto_region 1 with fail
 have hO := (Own.push (T := 41) (ls := zS) (cs := [.int .i64 0, .int .i64 0, .int .i64 0, .int .i64 0]) (Own.push (T := 41) (ls := [iv ic, iv ib, iv gy, iv gu]) (cs := [.int .i64 ic, .int .i64 ib, .int .i64 gy, .int .i64 gu]) (Own.push (T := 41) (ls := [iv fe, iv eu, iv fu, iv fq]) (cs := [.int .i64 fe, .int .i64 eu, .int .i64 fu, .int .i64 fq]) (Own.nil w) (ek.v (kg _) (ek.v (kg _) (ek.v (kg _) (ek.v (kg _) rfl)))) (w.heap.size) rfl) (((ek.v (kg _) (ek.v (kg _) (ek.v (kg _) (ek.v (kg _) rfl)))) : ek w [iv ic, iv ib, iv gy, iv gu] [.int .i64 ic, .int .i64 ib, .int .i64 gy, .int .i64 gu]).below (by repeat (first | exact Below.refl _ _ | refine ja ?_ _))) (w.heap.size + 1) (by simp only [World.size_alloc])) (((ek.vs w [.int .i64 0, .int .i64 0, .int .i64 0, .int .i64 0] rfl) : ek w zS [.int .i64 0, .int .i64 0, .int .i64 0, .int .i64 0]).below (by repeat (first | exact Below.refl _ _ | refine ja ?_ _))) (w.heap.size + 2) (by simp only [World.size_alloc]))
 generalize ((w.alloc (.cells #[.int .i64 fe, .int .i64 eu, .int .i64 fu, .int .i64 fq] 41)).alloc (.cells #[.int .i64 ic, .int .i64 ib, .int .i64 gy, .int .i64 gu] 41)).alloc (.cells #[.int .i64 0, .int .i64 0, .int .i64 0, .int .i64 0] 41) = W0 at *
 have HO := hide hO
 clear hO
 go_upto_region 1 with fail
 refine Rg.fw 7 34 (Rg.pick [ai [iv fe, iv eu, iv fu, iv fq], ai [iv ic, iv ib, iv gy, iv gu], Zh 41 2 [iv fe, iv eu, iv fu, iv fq, iv ic, iv ib, iv gy, iv gu], Rg.bf (.int .i64 (ui [⟨fe, eu, fu, fq⟩, ⟨ic, ib, gy, gu⟩])), Rg.bf (.int .i64 g), Rg.bf (.int .i64 (wu (ui [⟨fe, eu, fu, fq⟩, ⟨ic, ib, gy, gu⟩]) g)), Rg.bf (.int .i64 (wu (ui [⟨fe, eu, fu, fq⟩, ⟨ic, ib, gy, gu⟩]) g))]) (ay w [(w.heap.size + 2, 41, zS), (w.heap.size + 1, 41, [iv ic, iv ib, iv gy, iv gu]), (w.heap.size, 41, [iv fe, iv eu, iv fu, iv fq])] W0) ik [] kr rfl (Rg.gm.pick ⟨au _, au _, Xo _ _ _, Rg.ag _, Rg.ag _, Rg.ag _, Rg.ag _, trivial⟩) (ay.begin (aa HO))
  (ae (fo qp qo (Rg.cz kr rfl) [] [iv fe, iv eu, iv fu, iv fq] [])
  (ae (fo qp nu (Rg.cz kr rfl) [] [iv ic, iv ib, iv gy, iv gu] [])
  (ae (Qx (ps := [(0, .tmp 9), (1, .tmp 10)]) (gs := [[iv fe, iv eu, iv fu, iv fq], [iv ic, iv ib, iv gy, iv gu]]) aby rfl ay.step rfl (Ar.cons (Rg.ax 0 kr) rfl (Ar.cons (Rg.ax 1 kr) rfl Ar.nil)) rfl)
  (ae (jf Tryz.func104 kr rfl ay.step (Rg.ax 2 kr) (fun W v0 hG h0 => arc (ss := [⟨fe, eu, fu, fq⟩, ⟨ic, ib, gy, gu⟩]) (by simp) W ((aa HT).below hG.bel) _ h0))
  (ae (ig rfl (Rg.cz kr rfl))
  (ae (iw Tryz.func94 kr rfl ay.step (Rg.ax 3 kr) (Rg.ax 4 kr) (fun W v0 v1 hG h0 h1 => by cases h0; cases h1; exact ari _ _ W))
  (ae (og rfl (Rg.ax 5 kr))
  Rg.cu))))))) ?_
 intro v1 V1 hG1 hv1 hne1
 simp only [Rg.puts, jr, jq, jo, jm, Act.put, jl, jk, ji]
 have e5 : v1 5 = .int .i64 (wu (ui [⟨fe, eu, fu, fq⟩, ⟨ic, ib, gy, gu⟩]) g) := hv1 5 (by decide)
 have e6 : v1 6 = .int .i64 (wu (ui [⟨fe, eu, fu, fq⟩, ⟨ic, ib, gy, gu⟩]) g) := hv1 6 (by decide)
 simp only [e5, e6]
 have hO := hG1.1
 clear HO
 have HO := hide hO
 clear hO hG1 hv1 hne1
 try clear e5 e6
 by_cases g0 : wu (ui [⟨fe, eu, fu, fq⟩, ⟨ic, ib, gy, gu⟩]) g = 0
 ·
  have k1 : (wu (ui [⟨fe, eu, fu, fq⟩, ⟨ic, ib, gy, gu⟩]) g != 0) = false := by simp [bne, beq_iff_eq.2 g0]
  have HR2 := hide ((aa HR).2 g0)
  have HQ := hide (Xz g0)
  have HS := hide (sm4 (aa HV) (aa HQ).1 (aa HQ).2.1)
  clear HR
  go_upto_region 2 with fail
  refine Rg.fw 2 34 (Rg.pick [Rg.bf (.int .i64 (wu (ui [⟨fe, eu, fu, fq⟩, ⟨ic, ib, gy, gu⟩]) g)), Rg.bf (.bool false)]) (ay w [(w.heap.size + 2, 41, zS), (w.heap.size + 1, 41, [iv ic, iv ib, iv gy, iv gu]), (w.heap.size, 41, [iv fe, iv eu, iv fu, iv fq])] V1) ik [] kr rfl (Rg.gm.pick ⟨Rg.ag _, Rg.ag _, trivial⟩) (ay.begin (aa HO))
   (ae (ig rfl (Rg.cz kr rfl))
   (ae (Hg rfl (Rg.ax 0 kr) (Rg.mh _) rfl k1)
   Rg.cu)) ?_
  intro v2 V2 hG2 hv2 hne2
  simp only [Rg.puts, jr, jq, jo, jm, Act.put, jl, jk, ji]
  have e1 : v2 1 = .bool false := hv2 1 (by decide)
  simp only [e1]
  have hO := hG2.1
  clear HO
  have HO := hide hO
  clear hO hG2 hv2 hne2
  try clear e1
  clear k1 g0
  by_cases g1 : r ≤ Rat.divInt 0 1 ∧ Rat.divInt 0 1 ≤ s
  ·
   have k2 : (decide (r ≤ Rat.divInt 0 1 ∧ Rat.divInt 0 1 ≤ s)) = true := decide_eq_true g1
   have hr := (aa HR2).1 g1
   clear HR2
   subst hr
   go_upto_region 4 with fail
   refine Rg.fw 4 34 (Rg.pick [ai [iv ic, iv ib, iv gy, iv gu], ai [.q r, .q s], ai [.q (Rat.divInt 0 1)], Rg.bf (.bool true)]) (ay w [(w.heap.size + 2, 41, zS), (w.heap.size + 1, 41, [iv ic, iv ib, iv gy, iv gu]), (w.heap.size, 41, [iv fe, iv eu, iv fu, iv fq])] V2) ik [] kr rfl (Rg.gm.pick ⟨au _, au _, au _, Rg.ag _, trivial⟩) (ay.begin (aa HO))
    (ae (fo qp nu (Rg.cz kr rfl) [] [iv ic, iv ib, iv gy, iv gu] [])
    (ae (jf Tryz.func95 kr rfl ay.step (Rg.ax 0 kr) (fun W v0 hG h0 => Uc (aa HV).2.2.1 (aa HV).2.2.2 (Sv ⟨(aa HQ).2.1.1, (aa HQ).2.1.2.1⟩ W _ h0)))
    (ae (jf Tryz.func77 kr rfl ay.step (Rg.mh _) (fun W v0 hG h0 => by cases h0; exact adf 0 om om W))
    (ae (iw Tryz.func109 kr rfl ay.step (Rg.ax 1 kr) (Rg.ax 2 kr) (fun W v0 v1 hG h0 h1 => k2 ▸ aki (aa HS).2.2.1 (aa HS).2.2.2 (afu om om) W _ h0 _ h1))
    Rg.cu)))) ?_
   intro v3 V3 hG3 hv3 qh
   simp only [Rg.puts, jr, jq, jo, jm, Act.put, jl, jk, ji]
   have e3 : v3 3 = .bool true := hv3 3 (by decide)
   simp only [e3]
   have hO := hG3.1
   clear HO
   have HO := hide hO
   clear hO hG3 hv3 qh
   try clear e3
   go_upto_region 5 with fail
   refine Rg.fw 1 34 (Rg.pick [ai zS]) (ay w [(w.heap.size + 2, 41, zS), (w.heap.size + 1, 41, [iv ic, iv ib, iv gy, iv gu]), (w.heap.size, 41, [iv fe, iv eu, iv fu, iv fq])] V3) ik [] kr rfl (Rg.gm.pick ⟨au _, trivial⟩) (ay.begin (aa HO))
    (ae (De Dg rfl rfl rfl)
    Rg.cu) ?_
   intro v4 V4 hG4 hv4 yg
   simp only [Rg.puts, jr, jq, jo, jm, Act.put, jl, jk, ji]
   have hO := hG4.1
   refine ky hO 0 [] zS zS [] rfl uj rfl (show ai zS V4 (v4 0) from hv4 0 (by decide)) rfl rfl rfl ?_
   intro Vb iy hk0
   replace hO := iy
   clear iy
   clear HO
   have HO := hide hO
   clear hO hG4 hv4 yg hk0
   go_wp2_with fail
   exact yx Tryz.results84 xg rfl rfl (aa HO) me0 rfl rfl
  ·
   have k2 : (decide (r ≤ Rat.divInt 0 1 ∧ Rat.divInt 0 1 ≤ s)) = false := decide_eq_false g1
   have HT2 := hide ((aa HR2).2 g1)
   have HZ := hide (nz4 (aa HV) (aa HQ).2.1 g1)
   have HW := hide (atj (aa HS) (aa HZ) w (aa HT))
   clear HR2
   go_upto_region 4 with fail
   refine Rg.fw 4 34 (Rg.pick [ai [iv ic, iv ib, iv gy, iv gu], ai [.q r, .q s], ai [.q (Rat.divInt 0 1)], Rg.bf (.bool false)]) (ay w [(w.heap.size + 2, 41, zS), (w.heap.size + 1, 41, [iv ic, iv ib, iv gy, iv gu]), (w.heap.size, 41, [iv fe, iv eu, iv fu, iv fq])] V2) ik [] kr rfl (Rg.gm.pick ⟨au _, au _, au _, Rg.ag _, trivial⟩) (ay.begin (aa HO))
    (ae (fo qp nu (Rg.cz kr rfl) [] [iv ic, iv ib, iv gy, iv gu] [])
    (ae (jf Tryz.func95 kr rfl ay.step (Rg.ax 0 kr) (fun W v0 hG h0 => Uc (aa HV).2.2.1 (aa HV).2.2.2 (Sv ⟨(aa HQ).2.1.1, (aa HQ).2.1.2.1⟩ W _ h0)))
    (ae (jf Tryz.func77 kr rfl ay.step (Rg.mh _) (fun W v0 hG h0 => by cases h0; exact adf 0 om om W))
    (ae (iw Tryz.func109 kr rfl ay.step (Rg.ax 1 kr) (Rg.ax 2 kr) (fun W v0 v1 hG h0 h1 => k2 ▸ aki (aa HS).2.2.1 (aa HS).2.2.2 (afu om om) W _ h0 _ h1))
    Rg.cu)))) ?_
   intro v3 V3 hG3 hv3 qh
   simp only [Rg.puts, jr, jq, jo, jm, Act.put, jl, jk, ji]
   have e3 : v3 3 = .bool false := hv3 3 (by decide)
   simp only [e3]
   have hO := hG3.1
   clear HO
   have HO := hide hO
   clear hO hG3 hv3 qh
   try clear e3
   clear k2 g1
   go_upto_region 6 with fail
   refine Rg.region 12 34 (Rg.pick [ai [iv fe, iv eu, iv fu, iv fq], ai [.q p, .q q], ai [iv ic, iv ib, iv gy, iv gu], ai [.q r, .q s], ai [.q a, .q b], Rg.bf (.int .i64 g), ai [.q (wz a g), .q (Cj b g)], tq [ai [iv t.a, iv t.b, iv t.c, iv t.d], Rg.bf (.int .i64 t.e)], ai [iv t.a, iv t.b, iv t.c, iv t.d], Rg.bf (.int .i64 t.e), StT (w.heap.size + 2, 41, [iv t.a, iv t.b, iv t.c, iv t.d]), Rg.bf (.int .i64 t.e)]) (GS w [(w.heap.size + 2, 41, zS), (w.heap.size + 1, 41, [iv ic, iv ib, iv gy, iv gu]), (w.heap.size, 41, [iv fe, iv eu, iv fu, iv fq])] (w.heap.size + 2, 41, [iv t.a, iv t.b, iv t.c, iv t.d]) (w.heap.size + 2, 41, [iv t.a, iv t.b, iv t.c, iv t.d])) (ES (w.heap.size + 2, 41, [iv t.a, iv t.b, iv t.c, iv t.d]) (w.heap.size + 2, 41, [iv t.a, iv t.b, iv t.c, iv t.d])) [] kr kr rfl (Rg.gm.pick ⟨(xq _), (xq _), (xq _), (xq _), (xq _), (Gc _), (xq _), (adu ⟨(xq _), (Gc _), trivial⟩), (xq _), (Gc _), (Ls (.inr rfl) (.inl rfl)), (Gc _), trivial⟩) (GS.start (aa HO))
    (Rg.bg (Rg.plain rfl (rf (Bd (b := w.heap.size) (off := 0) (TB := 41) (pre := []) (mid := [iv fe, iv eu, iv fu, iv fq]) (post := []) qp rfl (Rg.cz kr rfl) (fun W h => GS.get qo (fun h => absurd (show (w.heap.size + 2 : Nat) = w.heap.size from h) (by first | omega | (intro h; exact _root_.trivial h))) (fun h => absurd (show (w.heap.size + 2 : Nat) = w.heap.size from h) (by first | omega | (intro h; exact _root_.trivial h))) h) rfl rfl rfl)))
     (Rg.bg (Rg.plain rfl (rf (jf Tryz.func95 kr rfl GS.step (Rg.ax 0 kr) (fun W v0 hG h0 => Uc (aa HV).1 (aa HV).2.1 (Sv ⟨(aa HQ).1.1, (aa HQ).1.2.1⟩ W _ h0)))))
     (Rg.bg (Rg.plain rfl (rf (Bd (b := w.heap.size + 1) (off := 0) (TB := 41) (pre := []) (mid := [iv ic, iv ib, iv gy, iv gu]) (post := []) qp rfl (Rg.cz kr rfl) (fun W h => GS.get nu (fun h => absurd (show (w.heap.size + 2 : Nat) = w.heap.size + 1 from h) (by first | omega | (intro h; exact _root_.trivial h))) (fun h => absurd (show (w.heap.size + 2 : Nat) = w.heap.size + 1 from h) (by first | omega | (intro h; exact _root_.trivial h))) h) rfl rfl rfl)))
     (Rg.bg (Rg.plain rfl (rf (jf Tryz.func95 kr rfl GS.step (Rg.ax 2 kr) (fun W v0 hG h0 => Uc (aa HV).2.2.1 (aa HV).2.2.2 (Sv ⟨(aa HQ).2.1.1, (aa HQ).2.1.2.1⟩ W _ h0)))))
     (Rg.bg (Rg.plain rfl (rf (iw Tryz.func152 kr rfl GS.step (Rg.ax 1 kr) (Rg.ax 3 kr) (fun W v0 v1 hG h0 h1 => Uc (aa HE).1 (aa HE).2 (bdj (K := 1) (aa HS).1 (aa HS).2.1 (aa HS).2.2.1 (aa HS).2.2.2 om (aa HZ).1 (aa HZ).2 W ((aa HT).below hG.bel) _ h0 _ h1)))))
     (Rg.bg (Rg.plain rfl (rf (ig rfl (Rg.cz kr rfl))))
     (Rg.bg (Rg.plain rfl (rf (iw Tryz.func96 kr rfl GS.step (Rg.ax 4 kr) (Rg.ax 5 kr) (fun W v0 v1 hG h0 h1 => by cases h1; exact aep ((aa HE).1 ▸ (aa HW).1) ((aa HE).2 ▸ (aa HW).2) (aa HQ).2.2.1 (aa HQ).2.2.2 om W ((aa HT).below hG.bel) _ h0))))
     (Rg.bg (Rg.plain rfl (rf (jf Tryz.func97 kr rfl GS.step (Rg.ax 6 kr) (fun W v0 hG h0 => Qw (aa HT2) (aqx W _ h0)))))
     (Rg.bg (Rg.plain rfl (rf (oo (ts := [ai [iv t.a, iv t.b, iv t.c, iv t.d], Rg.bf (.int .i64 t.e)]) rfl (Rg.ax 7 kr) (of_decide_eq_true rfl) rfl)))
     (Rg.bg (Rg.plain rfl (rf (oo (ts := [ai [iv t.a, iv t.b, iv t.c, iv t.d], Rg.bf (.int .i64 t.e)]) rfl (Rg.ax 7 kr) (of_decide_eq_true rfl) rfl)))
     (Rg.bg (Rg.plain rfl (Lv (b := w.heap.size + 2) (old := zS) (new := [iv t.a, iv t.b, iv t.c, iv t.d]) uj rfl (Rg.cz kr rfl) (Rg.ax 8 kr) me0 (aa HO).nd (.inl rfl) (.inr rfl) rfl rfl rfl))
     (Rg.bg (Rg.plain rfl (rf (og rfl (Rg.ax 9 kr))))
     Rg.cu)))))))))))) ?_
   intro v4 V4 hG4 hv4 yg
   simp only [Rg.puts, jr, jq, jo, jm, Act.put, jl, jk, ji]
   have e5 : v4 5 = .int .i64 g := hv4 5 (by decide)
   have e9 : v4 9 = .int .i64 t.e := hv4 9 (by decide)
   have e11 : v4 11 = .int .i64 t.e := hv4 11 (by decide)
   simp only [e5, e9, e11]
   have hO : Own w [(w.heap.size + 2, 41, [iv t.a, iv t.b, iv t.c, iv t.d]), (w.heap.size + 1, 41, [iv ic, iv ib, iv gy, iv gu]), (w.heap.size, 41, [iv fe, iv eu, iv fu, iv fq])] V4 := by
    refine ⟨hG4.bel, (aa HO).nd, fun b T ls hm => ?_⟩
    rcases List.mem_cons.1 hm with e | hm
    ·
     cases e; exact ⟨(hG4.box _ _ _ me0).1, hv4 10 (by decide)⟩
    rcases List.mem_cons.1 hm with e | hm
    ·
     cases e; exact ⟨(hG4.box _ _ _ nu).1, GS.get nu (fun h => absurd (show (w.heap.size + 2 : Nat) = w.heap.size + 1 from h) (by first | omega | (intro h; exact _root_.trivial h))) (fun h => absurd (show (w.heap.size + 2 : Nat) = w.heap.size + 1 from h) (by first | omega | (intro h; exact _root_.trivial h))) hG4⟩
    rcases List.mem_cons.1 hm with e | hm
    ·
     cases e; exact ⟨(hG4.box _ _ _ qo).1, GS.get qo (fun h => absurd (show (w.heap.size + 2 : Nat) = w.heap.size from h) (by first | omega | (intro h; exact _root_.trivial h))) (fun h => absurd (show (w.heap.size + 2 : Nat) = w.heap.size from h) (by first | omega | (intro h; exact _root_.trivial h))) hG4⟩
    cases hm
   clear HO
   have HO := hide hO
   clear hO hG4 hv4 yg
   try clear e5 e9 e11
   go_wp2_with fail
   exact yx Tryz.results84 xg rfl rfl (aa HO) me0 rfl rfl
 ·
  have k1 : (wu (ui [⟨fe, eu, fu, fq⟩, ⟨ic, ib, gy, gu⟩]) g != 0) = true := by simp [bne, beq_eq_false_iff_ne.2 g0]
  have hr := (aa HR).1 g0
  clear HR
  subst hr
  go_upto_region 2 with fail
  refine Rg.fw 2 34 (Rg.pick [Rg.bf (.int .i64 (wu (ui [⟨fe, eu, fu, fq⟩, ⟨ic, ib, gy, gu⟩]) g)), Rg.bf (.bool true)]) (ay w [(w.heap.size + 2, 41, zS), (w.heap.size + 1, 41, [iv ic, iv ib, iv gy, iv gu]), (w.heap.size, 41, [iv fe, iv eu, iv fu, iv fq])] V1) ik [] kr rfl (Rg.gm.pick ⟨Rg.ag _, Rg.ag _, trivial⟩) (ay.begin (aa HO))
   (ae (ig rfl (Rg.cz kr rfl))
   (ae (Hg rfl (Rg.ax 0 kr) (Rg.mh _) rfl k1)
   Rg.cu)) ?_
  intro v2 V2 hG2 hv2 hne2
  simp only [Rg.puts, jr, jq, jo, jm, Act.put, jl, jk, ji]
  have e1 : v2 1 = .bool true := hv2 1 (by decide)
  simp only [e1]
  have hO := hG2.1
  clear HO
  have HO := hide hO
  clear hO hG2 hv2 hne2
  try clear e1
  go_upto_region 3 with fail
  refine Rg.fw 2 34 (Rg.pick [ai zS, Rg.bf (.int .i64 (wu (ui [⟨fe, eu, fu, fq⟩, ⟨ic, ib, gy, gu⟩]) g))]) (ay w [(w.heap.size + 2, 41, zS), (w.heap.size + 1, 41, [iv ic, iv ib, iv gy, iv gu]), (w.heap.size, 41, [iv fe, iv eu, iv fu, iv fq])] V2) ik [] kr rfl (Rg.gm.pick ⟨au _, Rg.ag _, trivial⟩) (ay.begin (aa HO))
   (ae (De Dg rfl rfl rfl)
   (ae (ig rfl (Rg.cz kr rfl))
   Rg.cu)) ?_
  intro v3 V3 hG3 hv3 qh
  simp only [Rg.puts, jr, jq, jo, jm, Act.put, jl, jk, ji]
  have e1 : v3 1 = .int .i64 (wu (ui [⟨fe, eu, fu, fq⟩, ⟨ic, ib, gy, gu⟩]) g) := hv3 1 (by decide)
  simp only [e1]
  have hO := hG3.1
  refine ky hO 0 [] zS zS [] rfl uj rfl (show ai zS V3 (v3 0) from hv3 0 (by decide)) rfl rfl rfl ?_
  intro Ea iy hk0
  replace hO := iy
  clear iy
  clear HO
  have HO := hide hO
  clear hO hG3 hv3 qh hk0
  try clear e1
  go_wp2_with fail
  exact yx Tryz.results84 xg rfl rfl (aa HO) me0 rfl rfl
theorem ave {fe eu fu fq ic ib gy gu : Int} {g : Int} (t : Gj) (w : World) (hT : rz w) (u0 : Value) (h0 : ai [iv fe, iv eu, iv fu, iv fq] w u0) (u1 : Value) (h1 : ai [iv ic, iv ib, iv gy, iv gu] w u1)
  (hr : (wu (ui [⟨fe, eu, fu, fq⟩, ⟨ic, ib, gy, gu⟩]) g ≠ 0 → t = ⟨0, 0, 0, 0, wu (ui [⟨fe, eu, fu, fq⟩, ⟨ic, ib, gy, gu⟩]) g⟩) ∧ (wu (ui [⟨fe, eu, fu, fq⟩, ⟨ic, ib, gy, gu⟩]) g = 0 → (((Wd.qR ic ib) ≤ Rat.divInt 0 1 ∧ Rat.divInt 0 1 ≤ (Wd.qR gy gu)) → t = ⟨0, 0, 0, 0, 4⟩) ∧ (¬ ((Wd.qR ic ib) ≤ Rat.divInt 0 1 ∧ Rat.divInt 0 1 ≤ (Wd.qR gy gu)) → t = Cx (wz (ko ((Wd.qR fe eu) * (Wd.qR gy gu)⁻¹) [(Wd.qR fe eu) * (Wd.qR ic ib)⁻¹, (Wd.qR fu fq) * (Wd.qR gy gu)⁻¹, (Wd.qR fu fq) * (Wd.qR ic ib)⁻¹]) g) (Cj (jd ((Wd.qR fe eu) * (Wd.qR gy gu)⁻¹) [(Wd.qR fe eu) * (Wd.qR ic ib)⁻¹, (Wd.qR fu fq) * (Wd.qR gy gu)⁻¹, (Wd.qR fu fq) * (Wd.qR ic ib)⁻¹]) g)))) :
  Calls Tryz.prog 84 #[u0, u1, .int .i64 g] w (jh (Ga t) w) := azd _ _ _ _ _ _ t w hT u0 h0 u1 h1 ⟨rfl, rfl, rfl, rfl⟩ ⟨rfl, rfl⟩ hr
end Sb

end Go.Proofs.YtjdnmdlnaoedoaaGreatDoor
namespace Go.Proofs.YtjdnmdlnaoedoaaGreatDoor
open Go.RowKit

namespace Sb
theorem Nq : 1 < dm := by rw [gp]; omega
theorem Zp {K : Nat} {n d : Int} (hd : d ≠ 0) (hn : Wd.Sz dm K n) (hdd : Wd.Sz dm K d) : Wd.za dm K (Rat.divInt n d) := by
 obtain ⟨h1, h2⟩ := Wd.Qe n d hd
 exact ⟨by rw [h1]; exact hn.tdiv _, by rw [h2]; exact hdd.tdiv _⟩
theorem ou.mono {K L : Nat} {x : Rat} (h : ou K x) (hk : K ≤ L) (hl : L ≤ 1000000) : ou L x := ⟨⟨h.1.1.mono Nq hk, h.1.2.mono Nq hk⟩, hl⟩
theorem ou.mul {K : Nat} {x y : Rat} (hx : ou K x) (hy : ou K y) (h : K + K ≤ 1000000) : ou (K + K) (x * y) := by
 refine ⟨?_, h⟩
 rw [Wd.aly]
 have d1 := x.den_nz; have d2 := y.den_nz
 exact Zp (Int.mul_ne_zero om om) (hx.1.1.mul hy.1.1) (hx.1.2.mul hy.1.2)
theorem ou.add {K : Nat} {x y : Rat} (hx : ou K x) (hy : ou K y) (h : K + K + 1 ≤ 1000000) : ou (K + K + 1) (x + y) := by
 refine ⟨?_, h⟩
 rw [Wd.anb]
 have d1 := x.den_nz; have d2 := y.den_nz
 exact Zp (Int.mul_ne_zero om om) ((hx.1.1.mul hy.1.2).add Nq (hy.1.1.mul hx.1.2)) ((hx.1.2.mul hy.1.2).mono Nq om)
theorem ou.neg {K : Nat} {x : Rat} (hx : ou K x) : ou K (-x) := ⟨⟨by rw [Rat.neg_num]; exact hx.1.1.neg, by rw [Rat.neg_den]; exact hx.1.2⟩, hx.2⟩
theorem ou.sub {K : Nat} {x y : Rat} (hx : ou K x) (hy : ou K y) (h : K + K + 1 ≤ 1000000) : ou (K + K + 1) (x - y) := by rw [Rat.sub_eq_add_neg]; exact hx.add hy.neg h
theorem ou.inv {K : Nat} {x : Rat} (hx : ou K x) (h0 : x.num ≠ 0) : ou K (x⁻¹) := by
 have hp := Wd.We x h0
 refine ⟨?_, hx.2⟩
 by_cases hn : x.num < 0
 ·
  exact ⟨by rw [(hp.1 hn).1]; exact hx.1.2.neg, by rw [(hp.1 hn).2]; exact hx.1.1.neg⟩
 ·
  exact ⟨by rw [(hp.2 hn).1]; exact hx.1.2, by rw [(hp.2 hn).2]; exact hx.1.1⟩
theorem aax {K : Nat} {z : Int} (h : Wd.Sz dm (K + 1) z) (hK : K + 1 ≤ 1000000) : ou (K + 1) (Rat.divInt z 1) := ⟨Zp (by omega) h (Wd.Sz.of_le (by rw [gp]; omega) Nq om), hK⟩
theorem adt {K : Nat} {a : Int} (h : Wd.Sz dm K a) (b : Int) : Wd.Sz dm K (a / b) := h.le (Int.natAbs_ediv_le_natAbs a b)
theorem ayz (a g : Int) : Rat.divInt a 1 / Rat.divInt g 1 = Rat.divInt a g := by
 rw [Rat.div_def, Rat.inv_divInt, Rat.divInt_mul_divInt] <;> simp
theorem bfn (a : Int) : -Rat.divInt a 1 = Rat.divInt (-a) 1 := by rw [Rat.neg_divInt]
section
variable {W : World} {v0 v1 : Value} {x y : Rat} {K : Nat}
theorem awj (hx : ou K x) (hy : ou K y) (h0 : ai [.r x] W v0) (h1 : ai [.r y] W v1) : Calls Tryz.prog 51 #[v0, v1] W (jh (ai [.r (x - y)]) W) :=
 (Go.Proofs.YtjdnmdlnaoedoaaGreatDoor.afh hx.1 hy.1 (by have := hx.2; omega) W v0 v1 (Ku h0) (Ku h1)).mono fun e w' h => Kw h
theorem Xt (hx : ou (K + 1) x) (hn : x.num ≠ 0) (h0 : ai [.r x] W v0) : Calls Tryz.prog 75 #[v0] W (jh (ai [.r (x⁻¹)]) W) := by
 obtain ⟨A1, c1, l1, m1, A2, c2, l2, m2, rfl, h1⟩ := Yj h0
 refine (anu (K + 1) A1 c1 l1 m1 A2 c2 l2 m2 x W h1 hx.1 om (by have := hx.2; omega) hn).mono fun e w' h => ?_
 have h2 := Kw (Iy h)
 rwa [Rat.div_def, show Rat.divInt 1 1 = 1 from rfl, Rat.one_mul] at h2
theorem bfi (n : Int) (b1 : -9223372036854775808 ≤ n) (b2 : n ≤ 9223372036854775807) (W : World) : Calls Tryz.prog 80 #[.int .i64 n] W (jh (ai [.r (Rat.divInt n 1)]) W) :=
 (Go.Proofs.YtjdnmdlnaoedoaaGreatDoor.bfx n b1 b2 W).mono fun e w' h => Kw h
theorem ayq (hx : ou K x) (h0 : ai [.r x] W v0) : Calls Tryz.prog 63 #[v0] W (jh (ai [.r (Rat.divInt (x.num / (x.den : Int)) 1)]) W) :=
 (Go.Proofs.YtjdnmdlnaoedoaaGreatDoor.Yh hx.1 (by have := hx.2; omega) W v0 (Ku h0)).mono fun e w' h => Kw h
theorem bat (hx : ou K x) (h0 : ai [.r x] W v0) : Calls Tryz.prog 153 #[v0] W (jh (ai [.r (Rat.divInt (-((-x).num / ((-x).den : Int))) 1)]) W) := by
 obtain ⟨A1, c1, l1, m1, A2, c2, l2, m2, rfl, h1⟩ := Yj h0
 refine (ale K A1 c1 l1 m1 A2 c2 l2 m2 x W h1 hx.1 (by have := hx.2; omega)).mono fun e w' h => ?_
 have h2 := Kw (Iy h)
 rwa [bfn] at h2
theorem aox {a g : Int} (ha : ou K (Rat.divInt a 1)) (hg : ou K (Rat.divInt g 1)) (g0 : g ≠ 0) (h0 : ai [.r (Rat.divInt a 1)] W v0) (h1 : ai [.r (Rat.divInt g 1)] W v1) : Calls Tryz.prog 54 #[v0, v1] W (jh (ai [.r (Rat.divInt a g)]) W) := by
 have h := Go.Proofs.YtjdnmdlnaoedoaaGreatDoor.bfy ha.1 hg.1 (by have := ha.2; omega) (by rw [(Wd.Er g).1]; exact g0) W v0 v1 (Ku h0) (Ku h1)
 rw [ayz] at h
 exact h.mono fun e w' h => Kw h
end
set_option maxHeartbeats 16000000 in
theorem azf {x y a b : Rat} {K : Nat} (sx : ou K x) (sy : ou K y) (sa : ou K a) (sb : ou K b) (w : World) (u0 : Value) (h0 : ai [.r x, .r y] w u0) (u1 : Value) (h1 : ai [.r a, .r b] w u1) :
  Calls Tryz.prog 87 #[u0, u1] w (jh (ai [.r (x + a), .r (y + b)]) w) := by
 have HS := hide (And.intro sx (And.intro sy (And.intro sa sb)))
 clear sx sy sa sb
 obtain ⟨ry, c0a, rq, Ct, Kn, Kh, Kc, wh, uh, c0b, ug, Cs, Km, Kg, Kb, xw, rfl, f0a, zq⟩ := Hr h0
 obtain ⟨qf, c1a, qd, Bg, Li, Ld, La, xh, qz, qy, qw, Bv, Qn, Qf, Pv, n1b, rfl, f1a, Di⟩ := Hr h1
 go_enter Tryz.func87, Tryz.ntmps87
 go_upto_region 1 with fail
 have hO := (Own.push (T := 100) (ls := zY) (cs := [.slice none 0 0, .bool false, .slice none 0 0, .bool false, .slice none 0 0, .bool false, .slice none 0 0, .bool false]) (Own.push (T := 100) (ls := [.r a, .r b]) (cs := [.slice qf (List.length qd) c1a, .bool Bg, .slice Li (List.length La) Ld, .bool xh, .slice qz (List.length qw) qy, .bool Bv, .slice Qn (List.length Pv) Qf, .bool n1b]) (Own.push (T := 100) (ls := [.r x, .r y]) (cs := [.slice ry (List.length rq) c0a, .bool Ct, .slice Kn (List.length Kc) Kh, .bool wh, .slice uh (List.length ug) c0b, .bool Cs, .slice Km (List.length Kb) Kg, .bool xw]) (Own.nil w) (ek.r f0a (ek.r zq rfl)) (w.heap.size) rfl) (((ek.r f1a (ek.r Di rfl)) : ek w [.r a, .r b] [.slice qf (List.length qd) c1a, .bool Bg, .slice Li (List.length La) Ld, .bool xh, .slice qz (List.length qw) qy, .bool Bv, .slice Qn (List.length Pv) Qf, .bool n1b]).below (by repeat (first | exact Below.refl _ _ | refine ja ?_ _))) (w.heap.size + 1) (by simp only [World.size_alloc])) (((ek.vs w [.slice none 0 0, .bool false, .slice none 0 0, .bool false, .slice none 0 0, .bool false, .slice none 0 0, .bool false] rfl) : ek w zY [.slice none 0 0, .bool false, .slice none 0 0, .bool false, .slice none 0 0, .bool false, .slice none 0 0, .bool false]).below (by repeat (first | exact Below.refl _ _ | refine ja ?_ _))) (w.heap.size + 2) (by simp only [World.size_alloc]))
 generalize ((w.alloc (.cells #[.slice ry (List.length rq) c0a, .bool Ct, .slice Kn (List.length Kc) Kh, .bool wh, .slice uh (List.length ug) c0b, .bool Cs, .slice Km (List.length Kb) Kg, .bool xw] 100)).alloc (.cells #[.slice qf (List.length qd) c1a, .bool Bg, .slice Li (List.length La) Ld, .bool xh, .slice qz (List.length qw) qy, .bool Bv, .slice Qn (List.length Pv) Qf, .bool n1b] 100)).alloc (.cells #[.slice none 0 0, .bool false, .slice none 0 0, .bool false, .slice none 0 0, .bool false, .slice none 0 0, .bool false] 100) = W0 at *
 have HO := hide hO
 clear hO
 go_upto_region 1 with fail
 refine Rg.region 11 16 (Rg.pick [Rg.bf (.pointer (some ⟨w.heap.size, 0, none⟩)), ai [.r x], Rg.bf (.pointer (some ⟨w.heap.size + 1, 0, none⟩)), ai [.r a], ai [.r (x + a)], Rg.bf (.pointer (some ⟨w.heap.size, 4, none⟩)), ai [.r y], Rg.bf (.pointer (some ⟨w.heap.size + 1, 4, none⟩)), ai [.r b], ai [.r (y + b)], ai [.r (x + a), .r (y + b)]]) (ay w [(w.heap.size + 2, 100, zY), (w.heap.size + 1, 100, [.r a, .r b]), (w.heap.size, 100, [.r x, .r y])] W0) ik [] kr kr rfl (Rg.gm.pick ⟨Rg.ag _, au _, Rg.ag _, au _, au _, Rg.ag _, au _, Rg.ag _, au _, au _, au _, trivial⟩) (ay.start (aa HO))
  (ae (xu (b := w.heap.size) (off := 0) rfl (Rg.cz kr rfl) rfl rfl)
  (ae (fo mq qo (Rg.ax 0 kr) [] [.r x] [.r y])
  (ae (xu (b := w.heap.size + 1) (off := 0) rfl (Rg.cz kr rfl) rfl rfl)
  (ae (fo mq nu (Rg.ax 2 kr) [] [.r a] [.r b])
  (ae (iw Tryz.func50 kr rfl ay.step (Rg.ax 1 kr) (Rg.ax 3 kr) (fun W v0 v1 hG h0 h1 => awk (aa HS).1 (aa HS).2.2.1 h0 h1))
  (ae (vw (b := w.heap.size) (off := 0) rfl (Rg.cz kr rfl) rfl rfl)
  (ae (fo mq qo (Rg.ax 5 kr) [.r x] [.r y] [])
  (ae (vw (b := w.heap.size + 1) (off := 0) rfl (Rg.cz kr rfl) rfl rfl)
  (ae (fo mq nu (Rg.ax 7 kr) [.r a] [.r b] [])
  (ae (iw Tryz.func50 kr rfl ay.step (Rg.ax 6 kr) (Rg.ax 8 kr) (fun W v0 v1 hG h0 h1 => awk (aa HS).2.1 (aa HS).2.2.2 h0 h1))
  (ae (yf Pb rfl (Rg.ax 4 kr) (Rg.ax 9 kr) rfl rfl rfl)
  Rg.cu))))))))))) ?_
 intro v1 V1 hG1 hv1 hne1
 simp only [Rg.puts, jr, jq, jo, jm, Act.put, jl, jk, ji]
 have hO := hG1.1
 refine ky hO 0 [] zY [.r (x + a), .r (y + b)] [] rfl Cy rfl (show ai [.r (x + a), .r (y + b)] V1 (v1 10) from hv1 10 (by decide)) rfl rfl rfl ?_
 intro uy iy hk0
 replace hO := iy
 clear iy
 clear HO
 have HO := hide hO
 clear hO hG1 hv1 hne1 hk0
 go_wp2_with fail
 exact zh Tryz.results87 Me rfl (aa HO) me0 rfl rfl
set_option maxHeartbeats 16000000 in
theorem azh {x y a b : Rat} {K : Nat} (sx : ou K x) (sy : ou K y) (sa : ou K a) (sb : ou K b) (w : World) (u0 : Value) (h0 : ai [.r x, .r y] w u0) (u1 : Value) (h1 : ai [.r a, .r b] w u1) :
  Calls Tryz.prog 88 #[u0, u1] w (jh (ai [.r (x - b), .r (y - a)]) w) := by
 have HS := hide (And.intro sx (And.intro sy (And.intro sa sb)))
 clear sx sy sa sb
 obtain ⟨ry, c0a, rq, Ct, Kn, Kh, Kc, wh, uh, c0b, ug, Cs, Km, Kg, Kb, xw, rfl, f0a, zq⟩ := Hr h0
 obtain ⟨qf, c1a, qd, Bg, Li, Ld, La, xh, qz, qy, qw, Bv, Qn, Qf, Pv, n1b, rfl, f1a, Di⟩ := Hr h1
 go_enter Tryz.func88, Tryz.ntmps88
 go_upto_region 1 with fail
 have hO := (Own.push (T := 100) (ls := zY) (cs := [.slice none 0 0, .bool false, .slice none 0 0, .bool false, .slice none 0 0, .bool false, .slice none 0 0, .bool false]) (Own.push (T := 100) (ls := [.r a, .r b]) (cs := [.slice qf (List.length qd) c1a, .bool Bg, .slice Li (List.length La) Ld, .bool xh, .slice qz (List.length qw) qy, .bool Bv, .slice Qn (List.length Pv) Qf, .bool n1b]) (Own.push (T := 100) (ls := [.r x, .r y]) (cs := [.slice ry (List.length rq) c0a, .bool Ct, .slice Kn (List.length Kc) Kh, .bool wh, .slice uh (List.length ug) c0b, .bool Cs, .slice Km (List.length Kb) Kg, .bool xw]) (Own.nil w) (ek.r f0a (ek.r zq rfl)) (w.heap.size) rfl) (((ek.r f1a (ek.r Di rfl)) : ek w [.r a, .r b] [.slice qf (List.length qd) c1a, .bool Bg, .slice Li (List.length La) Ld, .bool xh, .slice qz (List.length qw) qy, .bool Bv, .slice Qn (List.length Pv) Qf, .bool n1b]).below (by repeat (first | exact Below.refl _ _ | refine ja ?_ _))) (w.heap.size + 1) (by simp only [World.size_alloc])) (((ek.vs w [.slice none 0 0, .bool false, .slice none 0 0, .bool false, .slice none 0 0, .bool false, .slice none 0 0, .bool false] rfl) : ek w zY [.slice none 0 0, .bool false, .slice none 0 0, .bool false, .slice none 0 0, .bool false, .slice none 0 0, .bool false]).below (by repeat (first | exact Below.refl _ _ | refine ja ?_ _))) (w.heap.size + 2) (by simp only [World.size_alloc]))
 generalize ((w.alloc (.cells #[.slice ry (List.length rq) c0a, .bool Ct, .slice Kn (List.length Kc) Kh, .bool wh, .slice uh (List.length ug) c0b, .bool Cs, .slice Km (List.length Kb) Kg, .bool xw] 100)).alloc (.cells #[.slice qf (List.length qd) c1a, .bool Bg, .slice Li (List.length La) Ld, .bool xh, .slice qz (List.length qw) qy, .bool Bv, .slice Qn (List.length Pv) Qf, .bool n1b] 100)).alloc (.cells #[.slice none 0 0, .bool false, .slice none 0 0, .bool false, .slice none 0 0, .bool false, .slice none 0 0, .bool false] 100) = W0 at *
 have HO := hide hO
 clear hO
 go_upto_region 1 with fail
 refine Rg.region 11 16 (Rg.pick [Rg.bf (.pointer (some ⟨w.heap.size, 0, none⟩)), ai [.r x], Rg.bf (.pointer (some ⟨w.heap.size + 1, 4, none⟩)), ai [.r b], ai [.r (x - b)], Rg.bf (.pointer (some ⟨w.heap.size, 4, none⟩)), ai [.r y], Rg.bf (.pointer (some ⟨w.heap.size + 1, 0, none⟩)), ai [.r a], ai [.r (y - a)], ai [.r (x - b), .r (y - a)]]) (ay w [(w.heap.size + 2, 100, zY), (w.heap.size + 1, 100, [.r a, .r b]), (w.heap.size, 100, [.r x, .r y])] W0) ik [] kr kr rfl (Rg.gm.pick ⟨Rg.ag _, au _, Rg.ag _, au _, au _, Rg.ag _, au _, Rg.ag _, au _, au _, au _, trivial⟩) (ay.start (aa HO))
  (ae (xu (b := w.heap.size) (off := 0) rfl (Rg.cz kr rfl) rfl rfl)
  (ae (fo mq qo (Rg.ax 0 kr) [] [.r x] [.r y])
  (ae (vw (b := w.heap.size + 1) (off := 0) rfl (Rg.cz kr rfl) rfl rfl)
  (ae (fo mq nu (Rg.ax 2 kr) [.r a] [.r b] [])
  (ae (iw Tryz.func51 kr rfl ay.step (Rg.ax 1 kr) (Rg.ax 3 kr) (fun W v0 v1 hG h0 h1 => awj (aa HS).1 (aa HS).2.2.2 h0 h1))
  (ae (vw (b := w.heap.size) (off := 0) rfl (Rg.cz kr rfl) rfl rfl)
  (ae (fo mq qo (Rg.ax 5 kr) [.r x] [.r y] [])
  (ae (xu (b := w.heap.size + 1) (off := 0) rfl (Rg.cz kr rfl) rfl rfl)
  (ae (fo mq nu (Rg.ax 7 kr) [] [.r a] [.r b])
  (ae (iw Tryz.func51 kr rfl ay.step (Rg.ax 6 kr) (Rg.ax 8 kr) (fun W v0 v1 hG h0 h1 => awj (aa HS).2.1 (aa HS).2.2.1 h0 h1))
  (ae (yf Pb rfl (Rg.ax 4 kr) (Rg.ax 9 kr) rfl rfl rfl)
  Rg.cu))))))))))) ?_
 intro v1 V1 hG1 hv1 hne1
 simp only [Rg.puts, jr, jq, jo, jm, Act.put, jl, jk, ji]
 have hO := hG1.1
 refine ky hO 0 [] zY [.r (x - b), .r (y - a)] [] rfl Cy rfl (show ai [.r (x - b), .r (y - a)] V1 (v1 10) from hv1 10 (by decide)) rfl rfl rfl ?_
 intro uy iy hk0
 replace hO := iy
 clear iy
 clear HO
 have HO := hide hO
 clear hO hG1 hv1 hne1 hk0
 go_wp2_with fail
 exact zh Tryz.results88 Me rfl (aa HO) me0 rfl rfl
theorem adx {x y a b : Rat} {K : Nat} (sx : ou K x) (sy : ou K y) (sa : ou K a) (sb : ou K b) (hK : K + K ≤ 1000000) : ou (K + K) (x * a) ∧ ∀ z ∈ [x * b, y * a, y * b], ou (K + K) z :=
 ⟨sx.mul sa hK, aod (sx.mul sb hK) (sy.mul sa hK) (sy.mul sb hK)⟩
set_option maxHeartbeats 16000000 in
theorem aii {x y a b : Rat} {K : Nat} (sx : ou K x) (sy : ou K y) (sa : ou K a) (sb : ou K b) (hK : K + K ≤ 1000000) (w : World) (u0 : Value) (h0 : ai [.r x, .r y] w u0) (u1 : Value) (h1 : ai [.r a, .r b] w u1) :
  Calls Tryz.prog 89 #[u0, u1] w (jh (ai [.r (ko (x * a) [x * b, y * a, y * b]), .r (jd (x * a) [x * b, y * a, y * b])]) w) := by
 have HS := hide (And.intro sx (And.intro sy (And.intro sa (And.intro sb hK))))
 have HP := hide (adx sx sy sa sb hK)
 clear sx sy sa sb hK
 obtain ⟨ry, c0a, rq, Ct, Kn, Kh, Kc, wh, uh, c0b, ug, Cs, Km, Kg, Kb, xw, rfl, f0a, zq⟩ := Hr h0
 obtain ⟨qf, c1a, qd, Bg, Li, Ld, La, xh, qz, qy, qw, Bv, Qn, Qf, Pv, n1b, rfl, f1a, Di⟩ := Hr h1
 go_enter Tryz.func89, Tryz.ntmps89
 go_upto_region 1 with fail
 have hO := (Own.push (T := 100) (ls := zY) (cs := [.slice none 0 0, .bool false, .slice none 0 0, .bool false, .slice none 0 0, .bool false, .slice none 0 0, .bool false]) (Own.push (T := 100) (ls := [.r a, .r b]) (cs := [.slice qf (List.length qd) c1a, .bool Bg, .slice Li (List.length La) Ld, .bool xh, .slice qz (List.length qw) qy, .bool Bv, .slice Qn (List.length Pv) Qf, .bool n1b]) (Own.push (T := 100) (ls := [.r x, .r y]) (cs := [.slice ry (List.length rq) c0a, .bool Ct, .slice Kn (List.length Kc) Kh, .bool wh, .slice uh (List.length ug) c0b, .bool Cs, .slice Km (List.length Kb) Kg, .bool xw]) (Own.nil w) (ek.r f0a (ek.r zq rfl)) (w.heap.size) rfl) (((ek.r f1a (ek.r Di rfl)) : ek w [.r a, .r b] [.slice qf (List.length qd) c1a, .bool Bg, .slice Li (List.length La) Ld, .bool xh, .slice qz (List.length qw) qy, .bool Bv, .slice Qn (List.length Pv) Qf, .bool n1b]).below (by repeat (first | exact Below.refl _ _ | refine ja ?_ _))) (w.heap.size + 1) (by simp only [World.size_alloc])) (((ek.vs w [.slice none 0 0, .bool false, .slice none 0 0, .bool false, .slice none 0 0, .bool false, .slice none 0 0, .bool false] rfl) : ek w zY [.slice none 0 0, .bool false, .slice none 0 0, .bool false, .slice none 0 0, .bool false, .slice none 0 0, .bool false]).below (by repeat (first | exact Below.refl _ _ | refine ja ?_ _))) (w.heap.size + 2) (by simp only [World.size_alloc]))
 generalize ((w.alloc (.cells #[.slice ry (List.length rq) c0a, .bool Ct, .slice Kn (List.length Kc) Kh, .bool wh, .slice uh (List.length ug) c0b, .bool Cs, .slice Km (List.length Kb) Kg, .bool xw] 100)).alloc (.cells #[.slice qf (List.length qd) c1a, .bool Bg, .slice Li (List.length La) Ld, .bool xh, .slice qz (List.length qw) qy, .bool Bv, .slice Qn (List.length Pv) Qf, .bool n1b] 100)).alloc (.cells #[.slice none 0 0, .bool false, .slice none 0 0, .bool false, .slice none 0 0, .bool false, .slice none 0 0, .bool false] 100) = W0 at *
 have HO := hide hO
 clear hO
 go_upto_region 1 with fail
 refine Rg.region 22 27 (Rg.pick [Rg.bf (.pointer (some ⟨w.heap.size, 0, none⟩)), ai [.r x], Rg.bf (.pointer (some ⟨w.heap.size + 1, 0, none⟩)), ai [.r a], ai [.r (x * a)], Rg.bf (.pointer (some ⟨w.heap.size, 0, none⟩)), ai [.r x], Rg.bf (.pointer (some ⟨w.heap.size + 1, 4, none⟩)), ai [.r b], ai [.r (x * b)], Rg.bf (.pointer (some ⟨w.heap.size, 4, none⟩)), ai [.r y], Rg.bf (.pointer (some ⟨w.heap.size + 1, 0, none⟩)), ai [.r a], ai [.r (y * a)], Rg.bf (.pointer (some ⟨w.heap.size, 4, none⟩)), ai [.r y], Rg.bf (.pointer (some ⟨w.heap.size + 1, 4, none⟩)), ai [.r b], ai [.r (y * b)], Zh 63 4 [.r (x * a), .r (x * b), .r (y * a), .r (y * b)], ai [.r (ko (x * a) [x * b, y * a, y * b]), .r (jd (x * a) [x * b, y * a, y * b])]]) (ay w [(w.heap.size + 2, 100, zY), (w.heap.size + 1, 100, [.r a, .r b]), (w.heap.size, 100, [.r x, .r y])] W0) ik [] kr kr rfl (Rg.gm.pick ⟨Rg.ag _, au _, Rg.ag _, au _, au _, Rg.ag _, au _, Rg.ag _, au _, au _, Rg.ag _, au _, Rg.ag _, au _, au _, Rg.ag _, au _, Rg.ag _, au _, au _, Xo _ _ _, au _, trivial⟩) (ay.start (aa HO))
  (ae (xu (b := w.heap.size) (off := 0) rfl (Rg.cz kr rfl) rfl rfl)
  (ae (fo mq qo (Rg.ax 0 kr) [] [.r x] [.r y])
  (ae (xu (b := w.heap.size + 1) (off := 0) rfl (Rg.cz kr rfl) rfl rfl)
  (ae (fo mq nu (Rg.ax 2 kr) [] [.r a] [.r b])
  (ae (iw Tryz.func52 kr rfl ay.step (Rg.ax 1 kr) (Rg.ax 3 kr) (fun W v0 v1 hG h0 h1 => Xr (aa HS).1 (aa HS).2.2.1 h0 h1))
  (ae (xu (b := w.heap.size) (off := 0) rfl (Rg.cz kr rfl) rfl rfl)
  (ae (fo mq qo (Rg.ax 5 kr) [] [.r x] [.r y])
  (ae (vw (b := w.heap.size + 1) (off := 0) rfl (Rg.cz kr rfl) rfl rfl)
  (ae (fo mq nu (Rg.ax 7 kr) [.r a] [.r b] [])
  (ae (iw Tryz.func52 kr rfl ay.step (Rg.ax 6 kr) (Rg.ax 8 kr) (fun W v0 v1 hG h0 h1 => Xr (aa HS).1 (aa HS).2.2.2.1 h0 h1))
  (ae (vw (b := w.heap.size) (off := 0) rfl (Rg.cz kr rfl) rfl rfl)
  (ae (fo mq qo (Rg.ax 10 kr) [.r x] [.r y] [])
  (ae (xu (b := w.heap.size + 1) (off := 0) rfl (Rg.cz kr rfl) rfl rfl)
  (ae (fo mq nu (Rg.ax 12 kr) [] [.r a] [.r b])
  (ae (iw Tryz.func52 kr rfl ay.step (Rg.ax 11 kr) (Rg.ax 13 kr) (fun W v0 v1 hG h0 h1 => Xr (aa HS).2.1 (aa HS).2.2.1 h0 h1))
  (ae (vw (b := w.heap.size) (off := 0) rfl (Rg.cz kr rfl) rfl rfl)
  (ae (fo mq qo (Rg.ax 15 kr) [.r x] [.r y] [])
  (ae (vw (b := w.heap.size + 1) (off := 0) rfl (Rg.cz kr rfl) rfl rfl)
  (ae (fo mq nu (Rg.ax 17 kr) [.r a] [.r b] [])
  (ae (iw Tryz.func52 kr rfl ay.step (Rg.ax 16 kr) (Rg.ax 18 kr) (fun W v0 v1 hG h0 h1 => Xr (aa HS).2.1 (aa HS).2.2.2.1 h0 h1))
  (ae (Qx (ps := [(0, .tmp 9), (1, .tmp 14), (2, .tmp 19), (3, .tmp 24)]) (gs := [[.r (x * a)], [.r (x * b)], [.r (y * a)], [.r (y * b)]]) amu rfl ay.step rfl (Ar.cons (Rg.ax 4 kr) rfl (Ar.cons (Rg.ax 9 kr) rfl (Ar.cons (Rg.ax 14 kr) rfl (Ar.cons (Rg.ax 19 kr) rfl Ar.nil)))) rfl)
  (ae (jf Tryz.func108 kr rfl ay.step (Rg.ax 20 kr) (fun W v0 hG h0 => avl (qs := [x * b, y * a, y * b]) (aa HP).1 (aa HP).2 (by simp) W _ h0))
  Rg.cu)))))))))))))))))))))) ?_
 intro v1 V1 hG1 hv1 hne1
 simp only [Rg.puts, jr, jq, jo, jm, Act.put, jl, jk, ji]
 have hO := hG1.1
 refine ky hO 0 [] zY [.r (ko (x * a) [x * b, y * a, y * b]), .r (jd (x * a) [x * b, y * a, y * b])] [] rfl Cy rfl (show ai [.r (ko (x * a) [x * b, y * a, y * b]), .r (jd (x * a) [x * b, y * a, y * b])] V1 (v1 21) from hv1 21 (by decide)) rfl rfl rfl ?_
 intro uy iy hk0
 replace hO := iy
 clear iy
 clear HO
 have HO := hide hO
 clear hO hG1 hv1 hne1 hk0
 go_wp2_with fail
 exact zh Tryz.results89 Me rfl (aa HO) me0 rfl rfl
set_option maxHeartbeats 16000000 in
theorem azg {x y a b : Rat} {K : Nat} (sx : ou (K + 1) x) (sy : ou (K + 1) y) (sa : ou (K + 1) a) (sb : ou (K + 1) b) (hK : K + 1 + (K + 1) ≤ 1000000) (ha : a.num ≠ 0) (hb : b.num ≠ 0) (w : World) (u0 : Value) (h0 : ai [.r x, .r y] w u0) (u1 : Value) (h1 : ai [.r a, .r b] w u1) :
  Calls Tryz.prog 91 #[u0, u1] w (jh (ai [.r (ko (x * b⁻¹) [x * a⁻¹, y * b⁻¹, y * a⁻¹]), .r (jd (x * b⁻¹) [x * a⁻¹, y * b⁻¹, y * a⁻¹])]) w) := by
 have HS := hide (And.intro sx (And.intro sy (And.intro sa (And.intro sb (And.intro hK (And.intro ha hb))))))
 clear sx sy sa sb hK ha hb
 obtain ⟨ry, c0a, rq, Ct, Kn, Kh, Kc, wh, uh, c0b, ug, Cs, Km, Kg, Kb, xw, rfl, f0a, zq⟩ := Hr h0
 obtain ⟨qf, c1a, qd, Bg, Li, Ld, La, xh, qz, qy, qw, Bv, Qn, Qf, Pv, n1b, rfl, f1a, Di⟩ := Hr h1
 go_enter Tryz.func91, Tryz.ntmps91
 go_upto_region 1 with fail
 have hO := (Own.push (T := 100) (ls := zY) (cs := [.slice none 0 0, .bool false, .slice none 0 0, .bool false, .slice none 0 0, .bool false, .slice none 0 0, .bool false]) (Own.push (T := 100) (ls := [.r a, .r b]) (cs := [.slice qf (List.length qd) c1a, .bool Bg, .slice Li (List.length La) Ld, .bool xh, .slice qz (List.length qw) qy, .bool Bv, .slice Qn (List.length Pv) Qf, .bool n1b]) (Own.push (T := 100) (ls := [.r x, .r y]) (cs := [.slice ry (List.length rq) c0a, .bool Ct, .slice Kn (List.length Kc) Kh, .bool wh, .slice uh (List.length ug) c0b, .bool Cs, .slice Km (List.length Kb) Kg, .bool xw]) (Own.nil w) (ek.r f0a (ek.r zq rfl)) (w.heap.size) rfl) (((ek.r f1a (ek.r Di rfl)) : ek w [.r a, .r b] [.slice qf (List.length qd) c1a, .bool Bg, .slice Li (List.length La) Ld, .bool xh, .slice qz (List.length qw) qy, .bool Bv, .slice Qn (List.length Pv) Qf, .bool n1b]).below (by repeat (first | exact Below.refl _ _ | refine ja ?_ _))) (w.heap.size + 1) (by simp only [World.size_alloc])) (((ek.vs w [.slice none 0 0, .bool false, .slice none 0 0, .bool false, .slice none 0 0, .bool false, .slice none 0 0, .bool false] rfl) : ek w zY [.slice none 0 0, .bool false, .slice none 0 0, .bool false, .slice none 0 0, .bool false, .slice none 0 0, .bool false]).below (by repeat (first | exact Below.refl _ _ | refine ja ?_ _))) (w.heap.size + 2) (by simp only [World.size_alloc]))
 generalize ((w.alloc (.cells #[.slice ry (List.length rq) c0a, .bool Ct, .slice Kn (List.length Kc) Kh, .bool wh, .slice uh (List.length ug) c0b, .bool Cs, .slice Km (List.length Kb) Kg, .bool xw] 100)).alloc (.cells #[.slice qf (List.length qd) c1a, .bool Bg, .slice Li (List.length La) Ld, .bool xh, .slice qz (List.length qw) qy, .bool Bv, .slice Qn (List.length Pv) Qf, .bool n1b] 100)).alloc (.cells #[.slice none 0 0, .bool false, .slice none 0 0, .bool false, .slice none 0 0, .bool false, .slice none 0 0, .bool false] 100) = W0 at *
 have HO := hide hO
 clear hO
 go_upto_region 1 with fail
 refine Rg.region 9 14 (Rg.pick [ai [.r x, .r y], Rg.bf (.pointer (some ⟨w.heap.size + 1, 4, none⟩)), ai [.r b], ai [.r (b⁻¹)], Rg.bf (.pointer (some ⟨w.heap.size + 1, 0, none⟩)), ai [.r a], ai [.r (a⁻¹)], ai [.r (b⁻¹), .r (a⁻¹)], ai [.r (ko (x * b⁻¹) [x * a⁻¹, y * b⁻¹, y * a⁻¹]), .r (jd (x * b⁻¹) [x * a⁻¹, y * b⁻¹, y * a⁻¹])]]) (ay w [(w.heap.size + 2, 100, zY), (w.heap.size + 1, 100, [.r a, .r b]), (w.heap.size, 100, [.r x, .r y])] W0) ik [] kr kr rfl (Rg.gm.pick ⟨au _, Rg.ag _, au _, au _, Rg.ag _, au _, au _, au _, au _, trivial⟩) (ay.start (aa HO))
  (ae (fo Dh qo (Rg.cz kr rfl) [] [.r x, .r y] [])
  (ae (vw (b := w.heap.size + 1) (off := 0) rfl (Rg.cz kr rfl) rfl rfl)
  (ae (fo mq nu (Rg.ax 1 kr) [.r a] [.r b] [])
  (ae (jf Tryz.func75 kr rfl ay.step (Rg.ax 2 kr) (fun W v0 hG h0 => Xt (aa HS).2.2.2.1 (aa HS).2.2.2.2.2.2 h0))
  (ae (xu (b := w.heap.size + 1) (off := 0) rfl (Rg.cz kr rfl) rfl rfl)
  (ae (fo mq nu (Rg.ax 4 kr) [] [.r a] [.r b])
  (ae (jf Tryz.func75 kr rfl ay.step (Rg.ax 5 kr) (fun W v0 hG h0 => Xt (aa HS).2.2.1 (aa HS).2.2.2.2.2.1 h0))
  (ae (yf Pb rfl (Rg.ax 3 kr) (Rg.ax 6 kr) rfl rfl rfl)
  (ae (iw Tryz.func89 kr rfl ay.step (Rg.ax 0 kr) (Rg.ax 7 kr) (fun W v0 v1 hG h0 h1 => aii (aa HS).1 (aa HS).2.1 ((aa HS).2.2.2.1.inv (aa HS).2.2.2.2.2.2) ((aa HS).2.2.1.inv (aa HS).2.2.2.2.2.1) (aa HS).2.2.2.2.1 W _ h0 _ h1))
  Rg.cu))))))))) ?_
 intro v1 V1 hG1 hv1 hne1
 simp only [Rg.puts, jr, jq, jo, jm, Act.put, jl, jk, ji]
 have hO := hG1.1
 refine ky hO 0 [] zY [.r (ko (x * b⁻¹) [x * a⁻¹, y * b⁻¹, y * a⁻¹]), .r (jd (x * b⁻¹) [x * a⁻¹, y * b⁻¹, y * a⁻¹])] [] rfl Cy rfl (show ai [.r (ko (x * b⁻¹) [x * a⁻¹, y * b⁻¹, y * a⁻¹]), .r (jd (x * b⁻¹) [x * a⁻¹, y * b⁻¹, y * a⁻¹])] V1 (v1 8) from hv1 8 (by decide)) rfl rfl rfl ?_
 intro uy iy hk0
 replace hO := iy
 clear iy
 clear HO
 have HO := hide hO
 clear hO hG1 hv1 hne1 hk0
 go_wp2_with fail
 exact zh Tryz.results91 Me rfl (aa HO) me0 rfl rfl
structure bgd (x y : Rat) (g : Int) (K : Nat) : Prop where
 g1 : 1 ≤ g
 g2 : g ≤ 1000000
 g0 : g ≠ 0
 sx : ou (K + 1) x
 sy : ou (K + 1) y
 sg : ou (K + 1) (Rat.divInt g 1)
 sxg : ou (K + 1 + K + 1) (x * Rat.divInt g 1)
 syg : ou (K + 1 + K + 1) (y * Rat.divInt g 1)
 zx : ou (K + 1 + K + 1) (Rat.divInt ((x * Rat.divInt g 1).num / ((x * Rat.divInt g 1).den : Int)) 1)
 zy : ou (K + 1 + K + 1) (Rat.divInt (-((-(y * Rat.divInt g 1)).num / ((-(y * Rat.divInt g 1)).den : Int))) 1)
 zg : ou (K + 1 + K + 1) (Rat.divInt g 1)
theorem bfe {x y : Rat} {g : Int} {K : Nat} (sx : ou (K + 1) x) (sy : ou (K + 1) y) (g1 : 1 ≤ g) (g2 : g ≤ 1000000) (hK : K + 1 + (K + 1) ≤ 1000000) : bgd x y g K := by
 have sg : ou (K + 1) (Rat.divInt g 1) := aax (Wd.Sz.of_le (by rw [gp]; omega) Nq om) om
 have s1 := sx.mul sg hK
 have s2 := sy.mul sg hK
 exact ⟨g1, g2, by omega, sx, sy, sg, s1, s2, aax (adt s1.1.1 _) hK, aax (adt s2.neg.1.1 _).neg hK, sg.mono om hK⟩
set_option maxHeartbeats 16000000 in
theorem Ye {x y : Rat} {g : Int} {K : Nat} (sx : ou (K + 1) x) (sy : ou (K + 1) y) (g1 : 1 ≤ g) (g2 : g ≤ 1000000) (hK : K + 1 + (K + 1) ≤ 1000000) (w : World) (u0 : Value) (h0 : ai [.r x, .r y] w u0) :
  Calls Tryz.prog 93 #[u0, .int .i64 g] w (jh (ai [.r (wz x g), .r (Cj y g)]) w) := by
 have HR := hide (bfe sx sy g1 g2 hK)
 clear sx sy g1 g2 hK
 obtain ⟨ry, c0a, rq, Ct, Kn, Kh, Kc, wh, uh, c0b, ug, Cs, Km, Kg, Kb, xw, rfl, f0a, zq⟩ := Hr h0
 go_enter Tryz.func93, Tryz.ntmps93
 go_upto_region 1 with fail
 have hO := (Own.push (T := 100) (ls := zY) (cs := [.slice none 0 0, .bool false, .slice none 0 0, .bool false, .slice none 0 0, .bool false, .slice none 0 0, .bool false]) (Own.push (T := 100) (ls := [.r x, .r y]) (cs := [.slice ry (List.length rq) c0a, .bool Ct, .slice Kn (List.length Kc) Kh, .bool wh, .slice uh (List.length ug) c0b, .bool Cs, .slice Km (List.length Kb) Kg, .bool xw]) (Own.nil w) (ek.r f0a (ek.r zq rfl)) (w.heap.size) rfl) (((ek.vs w [.slice none 0 0, .bool false, .slice none 0 0, .bool false, .slice none 0 0, .bool false, .slice none 0 0, .bool false] rfl) : ek w zY [.slice none 0 0, .bool false, .slice none 0 0, .bool false, .slice none 0 0, .bool false, .slice none 0 0, .bool false]).below (by repeat (first | exact Below.refl _ _ | refine ja ?_ _))) (w.heap.size + 1) (by simp only [World.size_alloc]))
 generalize (w.alloc (.cells #[.slice ry (List.length rq) c0a, .bool Ct, .slice Kn (List.length Kc) Kh, .bool wh, .slice uh (List.length ug) c0b, .bool Cs, .slice Km (List.length Kb) Kg, .bool xw] 100)).alloc (.cells #[.slice none 0 0, .bool false, .slice none 0 0, .bool false, .slice none 0 0, .bool false, .slice none 0 0, .bool false] 100) = W0 at *
 have HO := hide hO
 clear hO
 go_upto_region 1 with fail
 refine Rg.fw 3 23 (Rg.pick [Rg.bf (.int .i64 g), ai [.r (Rat.divInt g 1)], tu 63 zX W0.heap.size]) (ay w [(w.heap.size + 1, 100, zY), (w.heap.size, 100, [.r x, .r y])] W0) ik [2] kr rfl (Rg.gm.pick ⟨Rg.ag _, au _, uq _ _ _, trivial⟩) (ay.begin (aa HO))
  (ae (ig rfl (Rg.cz kr rfl))
  (ae (jf Tryz.func80 kr rfl ay.step (Rg.ax 0 kr) (fun W v0 hG h0 => by cases h0; exact bfi g (by have := (aa HR).g1; omega) (by have := (aa HR).g2; omega) W))
  (ae (xc bfm rfl ay.step ay.size rfl (ym (by intro j hj; simp at hj; (repeat' (first | (rcases hj with rfl | hj))) <;> first | (subst hj; exact ⟨_, _, _, rfl⟩) | exact ⟨_, _, _, rfl⟩)))
  Rg.cu))) ?_
 intro v1 V1 hG1 hv1 hne1
 simp only [Rg.puts, jr, jq, jo, jm, Act.put, jl, jk, ji]
 obtain ⟨bkq, e2, Wt, hz2⟩ := (show tu 63 zX W0.heap.size V1 (v1 2) from hv1 2 (by decide))
 simp only [e2]
 have hO := hG1.1
 replace hO := Own.add (aa HO) hG1.2 Wt hz2
 clear Wt hz2
 refine ky hO 0 [] zX [.r (Rat.divInt g 1)] [] rfl Dw rfl (show ai [.r (Rat.divInt g 1)] V1 (v1 1) from hv1 1 (by decide)) rfl rfl rfl ?_
 intro uy iy hk0
 replace hO := iy
 clear iy
 clear HO
 have HO := hide hO
 clear hO hG1 hv1 hne1 hk0
 try clear e2
 go_upto_region 2 with fail
 refine Rg.region 15 23 (Rg.pick [Rg.bf (.pointer (some ⟨w.heap.size, 0, none⟩)), ai [.r x], ai [.r (Rat.divInt g 1)], ai [.r (x * Rat.divInt g 1)], ai [.r (Rat.divInt ((x * Rat.divInt g 1).num / ((x * Rat.divInt g 1).den : Int)) 1)], ai [.r (Rat.divInt g 1)], ai [.r (wz x g)], Rg.bf (.pointer (some ⟨w.heap.size, 4, none⟩)), ai [.r y], ai [.r (Rat.divInt g 1)], ai [.r (y * Rat.divInt g 1)], ai [.r (Rat.divInt (-((-(y * Rat.divInt g 1)).num / ((-(y * Rat.divInt g 1)).den : Int))) 1)], ai [.r (Rat.divInt g 1)], ai [.r (Cj y g)], ai [.r (wz x g), .r (Cj y g)]]) (ay w [(bkq, 63, [.r (Rat.divInt g 1)]), (w.heap.size + 1, 100, zY), (w.heap.size, 100, [.r x, .r y])] uy) ik [] kr kr rfl (Rg.gm.pick ⟨Rg.ag _, au _, au _, au _, au _, au _, au _, Rg.ag _, au _, au _, au _, au _, au _, au _, au _, trivial⟩) (ay.start (aa HO))
  (ae (xu (b := w.heap.size) (off := 0) rfl (Rg.cz kr rfl) rfl rfl)
  (ae (fo mq qo (Rg.ax 0 kr) [] [.r x] [.r y])
  (ae (fo mq me0 (Rg.cz kr rfl) [] [.r (Rat.divInt g 1)] [])
  (ae (iw Tryz.func52 kr rfl ay.step (Rg.ax 1 kr) (Rg.ax 2 kr) (fun W v0 v1 hG h0 h1 => Xr (aa HR).sx (aa HR).sg h0 h1))
  (ae (jf Tryz.func63 kr rfl ay.step (Rg.ax 3 kr) (fun W v0 hG h0 => ayq (aa HR).sxg h0))
  (ae (fo mq me0 (Rg.cz kr rfl) [] [.r (Rat.divInt g 1)] [])
  (ae (iw Tryz.func54 kr rfl ay.step (Rg.ax 4 kr) (Rg.ax 5 kr) (fun W v0 v1 hG h0 h1 => aox (aa HR).zx (aa HR).zg (aa HR).g0 h0 h1))
  (ae (vw (b := w.heap.size) (off := 0) rfl (Rg.cz kr rfl) rfl rfl)
  (ae (fo mq qo (Rg.ax 7 kr) [.r x] [.r y] [])
  (ae (fo mq me0 (Rg.cz kr rfl) [] [.r (Rat.divInt g 1)] [])
  (ae (iw Tryz.func52 kr rfl ay.step (Rg.ax 8 kr) (Rg.ax 9 kr) (fun W v0 v1 hG h0 h1 => Xr (aa HR).sy (aa HR).sg h0 h1))
  (ae (jf Tryz.func153 kr rfl ay.step (Rg.ax 10 kr) (fun W v0 hG h0 => bat (aa HR).syg h0))
  (ae (fo mq me0 (Rg.cz kr rfl) [] [.r (Rat.divInt g 1)] [])
  (ae (iw Tryz.func54 kr rfl ay.step (Rg.ax 11 kr) (Rg.ax 12 kr) (fun W v0 v1 hG h0 h1 => aox (aa HR).zy (aa HR).zg (aa HR).g0 h0 h1))
  (ae (yf Pb rfl (Rg.ax 6 kr) (Rg.ax 13 kr) rfl rfl rfl)
  Rg.cu))))))))))))))) ?_
 intro v2 V2 hG2 hv2 hne2
 simp only [Rg.puts, jr, jq, jo, jm, Act.put, jl, jk, ji]
 have hO := hG2.1
 refine ky hO 1 [] zY [.r (wz x g), .r (Cj y g)] [] rfl Cy rfl (show ai [.r (wz x g), .r (Cj y g)] V2 (v2 14) from hv2 14 (by decide)) rfl rfl rfl ?_
 intro Dl iy hk0
 replace hO := iy
 clear iy
 clear HO
 have HO := hide hO
 clear hO hG2 hv2 hne2 hk0
 go_wp2_with fail
 exact zh Tryz.results93 Me rfl (aa HO) nu rfl rfl
end Sb

end Go.Proofs.YtjdnmdlnaoedoaaGreatDoor
namespace Go.Proofs.YtjdnmdlnaoedoaaGreatDoor
open Go.RowKit

set_option maxHeartbeats 2000000 in
theorem adr (g : Int) (b : Bool) (hb : b = decide (1 ≤ g ∧ g ≤ 1000000)) (w : World) : Calls Tryz.prog 65 #[.int .i64 g] w fun e w' => e = .returned (.bool b) ∧ w' = w := by
 by_cases h1 : 1 ≤ g
 ·
  by_cases h2 : g ≤ 1000000
  ·
   obtain rfl : b = true := by rw [hb]; exact decide_eq_true ⟨h1, h2⟩
   have d1 : decide (1 ≤ g) = true := decide_eq_true h1
   have d2 : decide (g ≤ 1000000) = true := decide_eq_true h2
   clear hb h1 h2
   go_enter Tryz.func65, Tryz.ntmps65
   go_wp2
   all_goals first | go_ret | skip
   all_goals exact ⟨rfl, rfl⟩
  ·
   obtain rfl : b = false := by rw [hb]; exact decide_eq_false om
   have d1 : decide (1 ≤ g) = true := decide_eq_true h1
   have d2 : decide (g ≤ 1000000) = false := decide_eq_false h2
   clear hb h1 h2
   go_enter Tryz.func65, Tryz.ntmps65
   go_wp2
   all_goals first | go_ret | skip
   all_goals exact ⟨rfl, rfl⟩
 ·
  obtain rfl : b = false := by rw [hb]; exact decide_eq_false om
  have d1 : decide (1 ≤ g) = false := decide_eq_false h1
  clear hb h1
  go_enter Tryz.func65, Tryz.ntmps65
  go_wp2
  all_goals first | go_ret | skip
  all_goals exact ⟨rfl, rfl⟩
end Go.Proofs.YtjdnmdlnaoedoaaGreatDoor
