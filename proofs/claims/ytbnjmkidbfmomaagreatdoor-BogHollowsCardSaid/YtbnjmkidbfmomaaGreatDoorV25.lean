/- Xj -/
import Derived.Test.YtbnjmkidbfmomaaGreatDoorV06
import Derived.Test.YtbnjmkidbfmomaaGreatDoorV22
import Derived.Test.YtbnjmkidbfmomaaGreatDoorV23
set_option linter.unusedVariables false
set_option linter.unusedSimpArgs false
set_option maxRecDepth 100000
namespace Go.Proofs.YtbnjmkidbfmomaaGreatDoor
open Go.Sx Go.RowKit Go.Bt Go.Lib Go.Sand
noncomputable def newI (W K : List (List Int)) (g : List Int) (need : Int) : Int := if C.validI W ≠ 0 then C.validI W else if H.validI K g ≠ 0 then H.validI K g else if g.length ≠ W.length then 1 else M.vI (C.dep W : Nat) (W.length : Nat) need
section
variable {W K : List (List Int)} {g : List Int} {need : Int}
theorem new_1 (h : C.validI W ≠ 0) : newI W K g need = C.validI W := by unfold newI; rw [if_pos h]
theorem new_2 (h : ¬ C.validI W ≠ 0) (h2 : H.validI K g ≠ 0) : newI W K g need = H.validI K g := by unfold newI; rw [if_neg h, if_pos h2]
theorem new_3 (h : ¬ C.validI W ≠ 0) (h2 : ¬ H.validI K g ≠ 0) (h3 : g.length ≠ W.length) : newI W K g need = 1 := by unfold newI; rw [if_neg h, if_neg h2, if_pos h3]
theorem new_4 (h : ¬ C.validI W ≠ 0) (h2 : ¬ H.validI K g ≠ 0) (h3 : ¬ g.length ≠ W.length) : newI W K g need = M.vI (C.dep W : Nat) (W.length : Nat) need := by unfold newI; rw [if_neg h, if_neg h2, if_neg h3]
theorem sv_of (h : newI W K g need = 0) : SV ⟨W, K, g, need⟩ := by
  by_cases h1 : C.validI W ≠ 0
  · exact absurd h (by rw [new_1 h1]; exact h1)
  by_cases h2 : H.validI K g ≠ 0
  · exact absurd h (by rw [new_2 h1 h2]; exact h2)
  by_cases h3 : g.length ≠ W.length
  · rw [new_3 h1 h2 h3] at h; cases h
  rw [new_4 h1 h2 h3] at h
  obtain ⟨m, hm, e1, e2, e3⟩ := M.vI_is h
  have e : St.md ⟨W, K, g, need⟩ = m := by
    obtain ⟨R, C9, K9⟩ := m
    show Mo.Md.mk (C.dep W) W.length need.toNat = _
    simp only at e1 e2 e3
    rw [show C.dep W = R by omega, show W.length = C9 by omega, show need.toNat = K9 by omega]
  exact ⟨Decidable.of_not_not h1, Decidable.of_not_not h2, Decidable.of_not_not h3, by rw [e]; exact hm, by show need = (need.toNat : Int); omega⟩
theorem sv_valid {s : St} (h : SV s) : newI s.W s.K s.g s.need = 0 := by
  rw [new_4 (by rw [h.vw]; decide) (by rw [h.vh]; decide) (fun e => e h.len)]
  have := M.vI_ok h.mo
  rw [h.nd]; exact this
theorem kl_of (h : ¬ H.validI K g ≠ 0) (k : Nat) : (K.getD k []).length ≤ 5 := by
  have hb := H.hb_of h
  by_cases hk : k < K.length
  · have h1 := H.num_len (hb.row k hk)
    have := hb.n
    omega
  · have e : K.getD k [] = [] := by rw [List.getD_eq_getElem?_getD, List.getElem?_eq_none (by omega)]; rfl
    rw [e]; exact Nat.zero_le _
theorem wl_of (h : ¬ C.validI W ≠ 0) (k : Nat) : (W.getD k []).length ≤ 4 := by
  have vb := C.vb_of h
  have := vb.d
  by_cases hk : k < W.length
  · have h1 := vb.c k hk
    omega
  · have e : W.getD k [] = [] := by rw [List.getD_eq_getElem?_getD, List.getElem?_eq_none (by omega)]; rfl
    rw [e]; exact Nat.zero_le _
end
theorem goI_cap {h : HD} {l : List Int} (ho : goI (h, l)) : l.length ≤ gc h := by
  obtain _ | ⟨b, cap, sp⟩ := h
  · have h0 : l.length = 0 := ho.2
    omega
  · exact ho.2.2
abbrev suN (yw yk : HD × List RW) (yg : HD) : SU := ⟨gp yw.1, gc yw.1, yw.2.map fun r => (gp r.h, gc r.h), gp yk.1, gc yk.1, gp yg, gc yg⟩
abbrev zN (s : St) (yw yk : HD × List RW) (yg : HD) (bH bT : Nat) : Heap := (bT, Obj.cells (intsA (List.replicate s.W.length 0)) 3 (0, 0)) :: (bH, Obj.cells (intsA (List.replicate s.W.length 0)) 3 (0, 0)) :: (gbI (yg, s.g) ++ ((gbR rwR 25 yk.1 yk.2 ++ rwB yk.2) ++ (gbR rwR 25 yw.1 yw.2 ++ rwB yw.2)))
abbrev tvN (s : St) (bH bT : Nat) : TV := ⟨some ⟨bH, 0, none⟩, s.W.length, some ⟨bT, 0, none⟩, s.W.length⟩
theorem site_new {s : St} {yw yk : HD × List RW} {yg : HD} {bH bT : Nat} (hw : goR rwR yw.1 yw.2 ∧ rwOk yw.2 ∧ yw.2.map RW.l = s.W) (hk : goR rwR yk.1 yk.2 ∧ rwOk yk.2 ∧ yk.2.map RW.l = s.K) (hg : goI (yg, s.g)) {w1 w9 : World} (hn : New w1 w9 (zN s yw yk yg bH bT)) : SiteAt w9 s (suN yw yk yg) := by
  have mw : ∀ y ∈ gbR rwR 25 yw.1 yw.2, y ∈ zN s yw yk yg bH bT := fun y hy => .tail _ (.tail _ (List.mem_append_right _ (List.mem_append_right _ (List.mem_append_left _ hy))))
  have mw2 : ∀ y ∈ rwB yw.2, y ∈ zN s yw yk yg bH bT := fun y hy => .tail _ (.tail _ (List.mem_append_right _ (List.mem_append_right _ (List.mem_append_right _ hy))))
  have mk : ∀ y ∈ gbR rwR 25 yk.1 yk.2, y ∈ zN s yw yk yg bH bT := fun y hy => .tail _ (.tail _ (List.mem_append_right _ (List.mem_append_left _ (List.mem_append_left _ hy))))
  have mk2 : ∀ y ∈ rwB yk.2, y ∈ zN s yw yk yg bH bT := fun y hy => .tail _ (.tail _ (List.mem_append_right _ (List.mem_append_left _ (List.mem_append_right _ hy))))
  have mg : ∀ y ∈ gbI (yg, s.g), y ∈ zN s yw yk yg bH bT := fun y hy => .tail _ (.tail _ (List.mem_append_left _ hy))
  refine ⟨fun j hj => ?_, hk.2.2 ▸ LsAt.rw hn mk mk2 hk.1 hk.2.1, IntsAt.g (x := (yg, s.g)) hn mg hg⟩
  have hl : yw.2.length = s.W.length := by rw [← hw.2.2, List.length_map]
  have hj2 : j < yw.2.length := by omega
  obtain ⟨q, hq, hc⟩ := RecsAt.s (R := rwR) hn mw hw.1 j hj2
  have hmem := rw_at hj2
  have h1 := hw.2.1 _ hmem
  have c0 := hc 0 _ rfl
  rw [gval_eq h1, addr_add_add] at c0
  have e : s.W.getD j [] = (yw.2.getD j default).l := by rw [← hw.2.2]; simp [List.getD, hj2]
  have e2 : (yw.2.map fun r => (gp r.h, gc r.h)).getD j (none, 0) = (gp (yw.2.getD j default).h, gc (yw.2.getD j default).h) := by simp [List.getD, hj2]
  refine ⟨q, hq, ?_⟩
  show w9.cell? _ = some (.slice ((yw.2.map fun r => (gp r.h, gc r.h)).getD j (none, 0)).1 _ ((yw.2.map fun r => (gp r.h, gc r.h)).getD j (none, 0)).2) ∧ IntsAt w9 ((yw.2.map fun r => (gp r.h, gc r.h)).getD j (none, 0)).1 _ ∧ _ ≤ ((yw.2.map fun r => (gp r.h, gc r.h)).getD j (none, 0)).2
  rw [e, e2]
  exact ⟨c0, IntsAt.g (x := ((yw.2.getD j default).h, (yw.2.getD j default).l)) hn (fun y hy => mw2 y (rwB_mem hmem y hy)) h1, goI_cap h1⟩
theorem tur_new {s : St} {yw yk : HD × List RW} {yg : HD} {bH bT : Nat} {w1 w9 : World} (hn : New w1 w9 (zN s yw yk yg bH bT)) : TurAt w9 (co0 s) (tvN s bH bT) :=
  ⟨IntsAt.arr hn (.tail _ (.head _)), IntsAt.arr hn (.head _)⟩
theorem fill_90 (a b c d e f : Value) : Instr.fill ([(0, 1), (1, 2), (3, 3)][·]?) #[.slice none 0 0, .slice none 0 0, .slice none 0 0, .int .i64 0, .int .i64 0, .int .i64 0] [(0, .agg #[a]), (1, .agg #[b, c]), (2, .agg #[d, e, f])] = some #[a, b, c, d, e, f] := by kernel_rfl
theorem fill_101 (p q : Option Addr) (k l m n : Nat) : Instr.fill ([(0, 7), (7, 1), (8, 1)][·]?) #[.int .i64 0, .int .i64 0, .int .i64 0, .int .i64 0, .int .i64 0, .int .i64 0, .bool false, .slice none 0 0, .slice none 0 0] [(1, .slice p k l), (2, .slice q m n)] = some #[.int .i64 0, .int .i64 0, .int .i64 0, .int .i64 0, .int .i64 0, .int .i64 0, .bool false, .slice p k l, .slice q m n] := by kernel_rfl
theorem fill_103 (a b c d e f a0 a1 a2 a3 a4 a5 a6 a7 a8 : Value) : Instr.fill ([(0, 6), (6, 2), (8, 9), (17, 1)][·]?) #[.slice none 0 0, .slice none 0 0, .slice none 0 0, .int .i64 0, .int .i64 0, .int .i64 0, .int .i32 0, .int .u32 0, .int .i64 0, .int .i64 0, .int .i64 0, .int .i64 0, .int .i64 0, .int .i64 0, .bool false, .slice none 0 0, .slice none 0 0, .slice none 0 0] [(0, .agg #[a, b, c, d, e, f]), (2, .agg #[a0, a1, a2, a3, a4, a5, a6, a7, a8])] = some #[a, b, c, d, e, f, .int .i32 0, .int .u32 0, a0, a1, a2, a3, a4, a5, a6, a7, a8, .slice none 0 0] := by kernel_rfl
theorem fill_27 (p q : Option Addr) (k l m n : Nat) : Instr.fill ([(0, 1), (1, 1)][·]?) #[.slice none 0 0, .slice none 0 0] [(0, .slice p k l), (1, .slice q m n)] = some #[.slice p k l, .slice q m n] := by kernel_rfl
theorem fill_241 (p : Option Addr) (k l : Nat) : Instr.fill ([(0, 1)][·]?) #[.slice none 0 0] [(0, .slice p k l)] = some #[.slice p k l] := by kernel_rfl
theorem coL_0 (s : St) (u : SU) (v : TV) : coL s u 0 (co0 s) v (.slice none 0 0) = [.slice u.pw s.W.length u.cw, .slice u.pk s.K.length u.ck, .slice u.pg s.g.length u.cg, .int .i64 (C.dep s.W : Nat), .int .i64 (s.W.length : Nat), .int .i64 s.need, .int .i32 0, .int .u32 0,
    .int .i64 0, .int .i64 0, .int .i64 0, .int .i64 0, .int .i64 0, .int .i64 0, .bool false, .slice v.ph s.W.length v.ch, .slice v.pt s.W.length v.ct, .slice none 0 0] := by
  show [_, _, _, _, _, _, _, _, _, _, _, _, _, _, _, Value.slice v.ph (List.replicate s.W.length (0 : Int)).length v.ch, .slice v.pt (List.replicate s.W.length (0 : Int)).length v.ct, _] = _
  rw [List.length_replicate]; rfl
section
variable {n : Nat} {w0 : World} {E : Env} {G : Heap} {d : Option Nat} {ty : TypeId} {pos : String} {aft : Array Edge} {g : Option (Nat × Bool)} {ps : List (Nat × Operand)}
theorem B24 {p : Option Addr} {k l : Nat} (hx : evp E ps = some [(0, .slice p k l)]) : PV Tryz.prog n w0 E G ⟨d, .build 24 ps.toArray, ty, pos, aft, g⟩ (.agg #[.slice p k l]) := PV.build hx Tb.zero_24 Tb.pl_24 (fill_241 _ _ _)
theorem B27 {p q : Option Addr} {k l m n' : Nat} (hx : evp E ps = some [(0, .slice p k l), (1, .slice q m n')]) : PV Tryz.prog n w0 E G ⟨d, .build 27 ps.toArray, ty, pos, aft, g⟩ (.agg #[.slice p k l, .slice q m n']) := PV.build hx Tb.zero_27 Tb.pl_27 (fill_27 _ _ _ _ _ _)
theorem B90 {a b c e f h : Value} (hx : evp E ps = some [(0, .agg #[a]), (1, .agg #[b, c]), (2, .agg #[e, f, h])]) : PV Tryz.prog n w0 E G ⟨d, .build 90 ps.toArray, ty, pos, aft, g⟩ (.agg #[a, b, c, e, f, h]) := PV.build hx Tb.zero_90 Tb.pl_90 (fill_90 _ _ _ _ _ _)
theorem B101 {p q : Option Addr} {k l m n' : Nat} (hx : evp E ps = some [(1, .slice p k l), (2, .slice q m n')]) : PV Tryz.prog n w0 E G ⟨d, .build 101 ps.toArray, ty, pos, aft, g⟩ (.agg #[.int .i64 0, .int .i64 0, .int .i64 0, .int .i64 0, .int .i64 0, .int .i64 0, .bool false, .slice p k l, .slice q m n']) := PV.build hx Tb.zero_101 Tb.pl_101 (fill_101 _ _ _ _ _ _)
theorem B103 {a b c e f h a0 a1 a2 a3 a4 a5 a6 a7 a8 : Value} (hx : evp E ps = some [(0, .agg #[a, b, c, e, f, h]), (2, .agg #[a0, a1, a2, a3, a4, a5, a6, a7, a8])]) : PV Tryz.prog n w0 E G ⟨d, .build 103 ps.toArray, ty, pos, aft, g⟩ (.agg #[a, b, c, e, f, h, .int .i32 0, .int .u32 0, a0, a1, a2, a3, a4, a5, a6, a7, a8, .slice none 0 0]) := PV.build hx Tb.zero_103 Tb.pl_103 (fill_103 _ _ _ _ _ _ _ _ _ _ _ _ _ _ _)
end
abbrev nNH (s : St) (yw yk : HD × List RW) (yg : HD) (bH bT bC : Nat) (R : Heap) : Heap := (bC, Obj.cells (coL s (suN yw yk yg) 0 (co0 s) (tvN s bH bT) (.slice none 0 0)).toArray 103 (0, 0)) :: (zN s yw yk yg bH bT ++ R)
theorem pN {A B : Heap} (h : ∀ c9 : (Nat × Obj) → Nat, (A.map c9).sum = (B.map c9).sum := by intro c9; unfold nNH; rw [coL_0]; simp only [List.map_append, List.sum_append, List.map_cons, List.sum_cons, List.map_nil, List.sum_nil, Value.cells]; omega) : List.Perm A B := perm_of h
theorem nF {s : St} {yw yk : HD × List RW} {yg : HD} {bH bT bC : Nat} {R : Heap} (hw : goR rwR yw.1 yw.2 ∧ rwOk yw.2 ∧ yw.2.map RW.l = s.W) (hk : goR rwR yk.1 yk.2 ∧ rwOk yk.2 ∧ yk.2.map RW.l = s.K) (hg : goI (yg, s.g)) :
    ∃ y : Nat × SU × TV × Heap, Value.tuple #[.pointer (some ⟨bC, 0, none⟩), .int .i64 0] = .tuple #[.pointer (some ⟨y.1, 0, none⟩), .int .i64 0] ∧ (∀ w1 w9, New w1 w9 y.2.2.2 → SiteAt w9 s y.2.1 ∧ TurAt w9 (co0 s) y.2.2.1) ∧ List.Sublist (coB y.1 s y.2.1 0 (co0 s) y.2.2.1 none :: y.2.2.2) (nNH s yw yk yg bH bT bC R) :=
  ⟨(bC, suN yw yk yg, tvN s bH bT, zN s yw yk yg bH bT), rfl, fun w1 w9 hn => ⟨site_new hw hk hg hn, tur_new hn⟩, List.Sublist.cons_cons _ (List.sublist_append_left _ _)⟩
theorem New_e (w0 : World) (p : Option Addr) (cp : Nat) (W : List (List Int)) (hr : LsAt w0 p W) (q : Option Addr) (cq : Nat) (K : List (List Int)) (hk : LsAt w0 q K) (hkl : ∀ k, (K.getD k []).length ≤ 1000000) (r : Option Addr) (cr : Nat) (g : List Int) (hg : IntsAt w0 r g) (hgl : g.length ≤ 1000000) (need : Int) (he : newI W K g need ≠ 0) :
    Calls Tryz.prog 59 #[.agg #[.slice p W.length cp], .agg #[.slice q K.length cq, .slice r g.length cr], .int .i64 need] w0 (Post (X := Unit) (fun _ => .tuple #[.pointer none, .int .i64 (newI W K g need)]) (fun _ => True) (fun _ => []) w0) := by
  refine calls Tryz.func59 rfl (n := 66) rfl (by simp) ?_
  refine zr (TL.box rfl rfl dc (fun b0 hb0 => ?_))
  refine TL.box rfl rfl dc (fun b1 hb1 => ?_)
  refine za rfl (za rfl (zn (TC.seq (zr (zq (PV.loadBox (cs := [.slice p W.length cp]) rfl Tb.agg_24 m9z rfl) rfl ?_)))))
  refine TL.call rfl Tb.gofn_96 (fun a w hs => C.validate_ok w p cp W (hr.new hs.new)) rfl dc (fun _ _ => ?_)
  refine za rfl (zk (zm rfl (zq (PV.neq rfl rfl) rfl (zn (TC.cd rfl (fun c1 => ?_) (fun c1 => ?_))))))
  refine zr (zm rfl (za rfl (za rfl (zt (TQ.thenR (TQ.retE2 rfl rfl rfl ?_))))))
  exact ⟨(), by rw [new_1 c1], trivial, nils⟩
  refine TC.skip (TQ.thenC (TC.seq (zr (zq (PV.loadBox (cs := [.slice q K.length cq, .slice r g.length cr]) rfl Tb.agg_27 m9z rfl) rfl ?_))))
  refine TL.call rfl Tb.gofn_97 (fun a w hs => H.validate_ok w q cq K (hk.new hs.new) r cr g (hg.new hs.new) hkl) rfl dc (fun _ _ => ?_)
  refine za rfl (zk (zm rfl (zq (PV.neq rfl rfl) rfl (zn (TC.cd rfl (fun c2 => ?_) (fun c2 => ?_))))))
  refine zr (zm rfl (za rfl (za rfl (zt (TQ.thenR (TQ.retE2 rfl rfl rfl ?_))))))
  exact ⟨(), by rw [new_2 c1 c2], trivial, nils⟩
  refine TC.skip (TQ.thenC (TC.seq ?_))
  obtain ⟨q1, q1p, pj, cj, q1c, q1i⟩ := hr 0 (by have := (C.vb_of c1).n; omega)
  refine TC.mixV [true, true, true, true, true, true, true, true, true, true] [(b1, Obj.cells #[.slice q K.length cq, .slice r g.length cr] 27 (0, 0)), (b0, Obj.cells #[.slice p W.length cp] 24 (0, 0))] 10 Tb.mixed rfl kr kr kr kr s9z ?_
  refine zv 0 rfl kr (PV.fieldAddr rfl Tb.fo_24_0) rfl (zv 1 rfl kr (PV.load rfl Tb.one_22 m9z rfl) rfl ?_)
  refine zv 2 rfl kr (PV.len rfl Tb.sl_22) rfl (zv 3 rfl kr (PV.fieldAddr rfl Tb.fo_24_0) rfl (zv 4 rfl kr (PV.load rfl Tb.one_22 m9z rfl) rfl ?_))
  refine zv 5 rfl kr (PV.indexA (j := 0) rfl q1p rfl Tb.elm_22 rfl (C.vb_of c1).n.1) rfl (zv 6 rfl kr (PV.loadOld rfl Tb.one_25 q1c) rfl (zv 7 rfl kr (PV.len rfl Tb.sl_25) rfl (zv 8 rfl kr (PV.assign rfl) rfl (zv 9 rfl kr (PV.assign rfl) rfl (TV.done kr ?_)))))
  refine TQ.thenC (TC.seq (zr (zq (PV.fieldAddr rfl Tb.fo_27_1) rfl (zq (PV.load rfl Tb.one_25 m9z rfl) rfl ?_))))
  refine zq (PV.len rfl Tb.sl_25) rfl (zm rfl (zq (PV.neq rfl rfl) rfl (zn (TC.cd rfl (fun c3 => ?_) (fun c3 => ?_)))))
  have c3 : g.length ≠ W.length := by omega
  refine zr (za rfl (za rfl (zt (TQ.thenR (TQ.retE2 rfl rfl rfl ?_)))))
  exact ⟨(), by rw [new_3 c1 c2 c3], trivial, nils⟩
  have c3 : ¬ g.length ≠ W.length := by omega
  refine TC.skip (TQ.thenC (zr (zm rfl (zm rfl (zm rfl (zq (PV.build rfl Tb.zero_52 Tb.pl_52 rfl) rfl (TL.alloc Tb.zero_52 rfl dc (fun b2 hb2 => ?_))))))))
  refine TL.storeAgg (vs := [.int .i64 (C.dep W : Nat), .int .i64 (W.length : Nat), .int .i64 need]) rfl rfl Tb.cells_52 u9z rfl rfl rfl rfl rfl ?_
  refine zn (TC.seq (zr (zq (PV.loadBox (cs := [.int .i64 (C.dep W : Nat), .int .i64 (W.length : Nat), .int .i64 need]) rfl Tb.agg_52 m9z rfl) rfl ?_)))
  refine TL.call rfl Tb.gofn_98 (fun a w hs => M.validate_ok w _ _ _) rfl dc (fun _ _ => ?_)
  refine za rfl (zk (zm rfl (zq (PV.neq rfl rfl) rfl (zn (TC.cd rfl (fun c4 => ?_) (fun c4 => ?_))))))
  refine zr (zm rfl (za rfl (za rfl (zt (TQ.thenR (TQ.retE2 rfl rfl rfl ?_))))))
  exact ⟨(), by rw [new_4 c1 c2 c3], trivial, nils⟩
  exact absurd (by rw [new_4 c1 c2 c3]; exact Decidable.of_not_not c4) he
set_option maxHeartbeats 8000000 in
theorem New_y (w0 : World) (p : Option Addr) (cp : Nat) (W : List (List Int)) (hr : LsAt w0 p W) (q : Option Addr) (cq : Nat) (K : List (List Int)) (hk : LsAt w0 q K) (hkl : ∀ k, (K.getD k []).length ≤ 1000000) (r : Option Addr) (cr : Nat) (g : List Int) (hg : IntsAt w0 r g) (hgl : g.length ≤ 1000000) (need : Int) (he : newI W K g need = 0) :
    Calls Tryz.prog 59 #[.agg #[.slice p W.length cp], .agg #[.slice q K.length cq, .slice r g.length cr], .int .i64 need] w0 (Post (X := Nat × SU × TV × Heap) (fun y => .tuple #[.pointer (some ⟨y.1, 0, none⟩), .int .i64 0]) (fun y => ∀ w1 w9, New w1 w9 y.2.2.2 → SiteAt w9 ⟨W, K, g, need⟩ y.2.1 ∧ TurAt w9 (co0 ⟨W, K, g, need⟩) y.2.2.1) (fun y => coB y.1 ⟨W, K, g, need⟩ y.2.1 0 (co0 ⟨W, K, g, need⟩) y.2.2.1 none :: y.2.2.2) w0) := by
  refine calls Tryz.func59 rfl (n := 66) rfl (by simp) ?_
  refine zr (TL.box rfl rfl dc (fun b0 hb0 => ?_))
  refine TL.box rfl rfl dc (fun b1 hb1 => ?_)
  refine za rfl (za rfl (zn (TC.seq (zr (zq (PV.loadBox (cs := [.slice p W.length cp]) rfl Tb.agg_24 m9z rfl) rfl ?_)))))
  refine TL.call rfl Tb.gofn_96 (fun a w hs => C.validate_ok w p cp W (hr.new hs.new)) rfl dc (fun _ _ => ?_)
  refine za rfl (zk (zm rfl (zq (PV.neq rfl rfl) rfl (zn (TC.cd rfl (fun c1 => ?_) (fun c1 => ?_))))))
  exact absurd he (by rw [new_1 c1]; exact c1)
  refine TC.skip (TQ.thenC (TC.seq (zr (zq (PV.loadBox (cs := [.slice q K.length cq, .slice r g.length cr]) rfl Tb.agg_27 m9z rfl) rfl ?_))))
  refine TL.call rfl Tb.gofn_97 (fun a w hs => H.validate_ok w q cq K (hk.new hs.new) r cr g (hg.new hs.new) hkl) rfl dc (fun _ _ => ?_)
  refine za rfl (zk (zm rfl (zq (PV.neq rfl rfl) rfl (zn (TC.cd rfl (fun c2 => ?_) (fun c2 => ?_))))))
  exact absurd he (by rw [new_2 c1 c2]; exact c2)
  refine TC.skip (TQ.thenC (TC.seq ?_))
  obtain ⟨q1, q1p, pj, cj, q1c, q1i⟩ := hr 0 (by have := (C.vb_of c1).n; omega)
  refine TC.mixV [true, true, true, true, true, true, true, true, true, true] [(b1, Obj.cells #[.slice q K.length cq, .slice r g.length cr] 27 (0, 0)), (b0, Obj.cells #[.slice p W.length cp] 24 (0, 0))] 10 Tb.mixed rfl kr kr kr kr s9z ?_
  refine zv 0 rfl kr (PV.fieldAddr rfl Tb.fo_24_0) rfl (zv 1 rfl kr (PV.load rfl Tb.one_22 m9z rfl) rfl ?_)
  refine zv 2 rfl kr (PV.len rfl Tb.sl_22) rfl (zv 3 rfl kr (PV.fieldAddr rfl Tb.fo_24_0) rfl (zv 4 rfl kr (PV.load rfl Tb.one_22 m9z rfl) rfl ?_))
  refine zv 5 rfl kr (PV.indexA (j := 0) rfl q1p rfl Tb.elm_22 rfl (C.vb_of c1).n.1) rfl (zv 6 rfl kr (PV.loadOld rfl Tb.one_25 q1c) rfl (zv 7 rfl kr (PV.len rfl Tb.sl_25) rfl (zv 8 rfl kr (PV.assign rfl) rfl (zv 9 rfl kr (PV.assign rfl) rfl (TV.done kr ?_)))))
  refine TQ.thenC (TC.seq (zr (zq (PV.fieldAddr rfl Tb.fo_27_1) rfl (zq (PV.load rfl Tb.one_25 m9z rfl) rfl ?_))))
  refine zq (PV.len rfl Tb.sl_25) rfl (zm rfl (zq (PV.neq rfl rfl) rfl (zn (TC.cd rfl (fun c3 => ?_) (fun c3 => ?_)))))
  have c3 : g.length ≠ W.length := by omega
  exact absurd he (by rw [new_3 c1 c2 (by first | exact c3 | omega)]; decide)
  have c3 : ¬ g.length ≠ W.length := by omega
  refine TC.skip (TQ.thenC (zr (zm rfl (zm rfl (zm rfl (zq (PV.build rfl Tb.zero_52 Tb.pl_52 rfl) rfl (TL.alloc Tb.zero_52 rfl dc (fun b2 hb2 => ?_))))))))
  refine TL.storeAgg (vs := [.int .i64 (C.dep W : Nat), .int .i64 (W.length : Nat), .int .i64 need]) rfl rfl Tb.cells_52 u9z rfl rfl rfl rfl rfl ?_
  refine zn (TC.seq (zr (zq (PV.loadBox (cs := [.int .i64 (C.dep W : Nat), .int .i64 (W.length : Nat), .int .i64 need]) rfl Tb.agg_52 m9z rfl) rfl ?_)))
  refine TL.call rfl Tb.gofn_98 (fun a w hs => M.validate_ok w _ _ _) rfl dc (fun _ _ => ?_)
  refine za rfl (zk (zm rfl (zq (PV.neq rfl rfl) rfl (zn (TC.cd rfl (fun c4 => ?_) (fun c4 => ?_))))))
  exact absurd he (by rw [new_4 c1 c2 c3]; exact c4)
  refine TC.skip (TQ.thenC (TC.seq ?_))
  have cW := fun w (h : LsAt w p W) => copied_v w p cp W h (by have := (C.vb_of c1).n; omega) (fun k => by have := wl_of c1 k; omega)
  have cK := fun w (h : LsAt w q K) => copied_v w q cq K h (by have := H.hb_of c2; have := this.n; have := (H.hb_of c2).len; omega) (fun k => by have := kl_of c2 k; omega)
  refine TC.mixV [true, true, false, true, true, true, false, true, true, false, true, true, true, true, false, true, false, true, true, false, true, true] [(b2, Obj.cells #[.int .i64 (C.dep W : Nat), .int .i64 (W.length : Nat), .int .i64 need] 52 (0, 0)), (b1, Obj.cells #[.slice q K.length cq, .slice r g.length cr] 27 (0, 0)), (b0, Obj.cells #[.slice p W.length cp] 24 (0, 0))] 22 Tb.mixed rfl kr kr kr kr s9z ?_
  refine zv 0 rfl kr (PV.fieldAddr rfl Tb.fo_24_0) rfl (zv 1 rfl kr (PV.load rfl Tb.one_22 m9z rfl) rfl ?_)
  refine zv 4 rfl kr (PV.fieldAddr rfl Tb.fo_27_0) rfl (zv 5 rfl kr (PV.load rfl Tb.one_22 m9z rfl) rfl ?_)
  refine zv 7 rfl kr (PV.fieldAddr rfl Tb.fo_27_1) rfl (zv 8 rfl kr (PV.load rfl Tb.one_25 m9z rfl) rfl ?_)
  refine zv 11 rfl kr (PV.loadBox (cs := [.int .i64 (C.dep W : Nat), .int .i64 (W.length : Nat), .int .i64 need]) rfl Tb.agg_52 m9z rfl) rfl ?_
  refine zv 13 rfl kr (PV.move rfl) rfl (zv 15 rfl kr (PV.move rfl) rfl (TV.step [2, 14, 16] kr dc rfl ⟨⟨_, rfl, ?_⟩, ⟨_, rfl, ?_⟩, ⟨_, rfl, ?_⟩, trivial⟩))
  refine TL.call rfl Tb.gofn_99 (fun a w hs => cW w (hr.new hs.new)) rfl dc (fun yw hyw => ?_)
  refine TL.nil (TV.next (.inl s9z) ?_)
  refine zv 3 rfl kr (B24 rfl) rfl (TV.step [6, 14, 16] kr dc rfl ⟨⟨_, rfl, ?_⟩, ⟨_, rfl, ?_⟩, ⟨_, rfl, ?_⟩, trivial⟩)
  refine TL.call rfl Tb.gofn_99 (fun a w hs => cK w (hk.new hs.new)) rfl dc (fun yk hyk => ?_)
  refine TL.nil (TV.next (.inl s9z) ?_)
  refine TV.step [9, 14, 16] kr dc rfl ⟨⟨_, rfl, ?_⟩, ⟨_, rfl, ?_⟩, ⟨_, rfl, ?_⟩, trivial⟩
  refine TL.call rfl Tb.gofn_67 (fun a w hs => clone_v w r cr g (hg.new hs.new) hgl) rfl dc (fun yg hyg => ?_)
  refine TL.nil (TV.next (.inl s9z) ?_)
  refine zv 10 rfl kr (B27 rfl) rfl (zv 12 rfl kr (B90 rfl) rfl (TV.step [14, 16] kr dc rfl ⟨⟨_, rfl, ?_⟩, ⟨_, rfl, ?_⟩, trivial⟩))
  refine TL.makeI rfl rfl Tb.sl_25 Tb.zi_3 rfl om om rfl dc (fun bH hbH => ?_)
  refine TL.nil (TV.next (.inl s9z) ?_)
  refine TV.step [16] kr dc rfl ⟨⟨_, rfl, ?_⟩, trivial⟩
  refine TL.makeI rfl rfl Tb.sl_25 Tb.zi_3 rfl om om rfl dc (fun bT hbT => ?_)
  refine TL.nil (TV.next (.inl s9z) ?_)
  refine zv 17 rfl kr (B101 rfl) rfl (zv 18 rfl kr (B103 rfl) rfl (TV.step [19] kr dc rfl ⟨⟨_, rfl, ?_⟩, trivial⟩))
  refine TL.box rfl rfl dc (fun bC hbC => ?_)
  refine TL.nil (TV.next (.inl s9z) ?_)
  refine zv 20 rfl kr (PV.assign rfl) rfl (zv 21 rfl kr (PV.assign rfl) rfl (TV.done kr ?_))
  refine zc (TQ.perm (G' := nNH ⟨W, K, g, need⟩ yw yk yg bH bT bC [(b2, Obj.cells #[.int .i64 (C.dep W : Nat), .int .i64 (W.length : Nat), .int .i64 need] 52 (0, 0)), (b1, Obj.cells #[.slice q K.length cq, .slice r g.length cr] 27 (0, 0)), (b0, Obj.cells #[.slice p W.length cp] 24 (0, 0))]) pN ?_)
  refine TQ.retE2 rfl rfl rfl ?_
  exact nF hyw hyk hyg
  refine TL.makeI rfl rfl Tb.sl_25 Tb.zi_3 rfl om om rfl dc (fun bT hbT => ?_)
  refine TL.nil (TV.next (.inl s9z) ?_)
  refine TV.step [14] kr dc rfl ⟨⟨_, rfl, ?_⟩, trivial⟩
  refine TL.makeI rfl rfl Tb.sl_25 Tb.zi_3 rfl om om rfl dc (fun bH hbH => ?_)
  refine TL.nil (TV.next (.inl s9z) ?_)
  refine zv 17 rfl kr (B101 rfl) rfl (zv 18 rfl kr (B103 rfl) rfl (TV.step [19] kr dc rfl ⟨⟨_, rfl, ?_⟩, trivial⟩))
  refine TL.box rfl rfl dc (fun bC hbC => ?_)
  refine TL.nil (TV.next (.inl s9z) ?_)
  refine zv 20 rfl kr (PV.assign rfl) rfl (zv 21 rfl kr (PV.assign rfl) rfl (TV.done kr ?_))
  refine zc (TQ.perm (G' := nNH ⟨W, K, g, need⟩ yw yk yg bH bT bC [(b2, Obj.cells #[.int .i64 (C.dep W : Nat), .int .i64 (W.length : Nat), .int .i64 need] 52 (0, 0)), (b1, Obj.cells #[.slice q K.length cq, .slice r g.length cr] 27 (0, 0)), (b0, Obj.cells #[.slice p W.length cp] 24 (0, 0))]) pN ?_)
  refine TQ.retE2 rfl rfl rfl ?_
  exact nF hyw hyk hyg
  refine TL.makeI rfl rfl Tb.sl_25 Tb.zi_3 rfl om om rfl dc (fun bH hbH => ?_)
  refine TL.nil (TV.next (.inl s9z) ?_)
  refine TV.step [9, 16] kr dc rfl ⟨⟨_, rfl, ?_⟩, ⟨_, rfl, ?_⟩, trivial⟩
  refine TL.call rfl Tb.gofn_67 (fun a w hs => clone_v w r cr g (hg.new hs.new) hgl) rfl dc (fun yg hyg => ?_)
  refine TL.nil (TV.next (.inl s9z) ?_)
  refine zv 10 rfl kr (B27 rfl) rfl (zv 12 rfl kr (B90 rfl) rfl (TV.step [16] kr dc rfl ⟨⟨_, rfl, ?_⟩, trivial⟩))
  refine TL.makeI rfl rfl Tb.sl_25 Tb.zi_3 rfl om om rfl dc (fun bT hbT => ?_)
  refine TL.nil (TV.next (.inl s9z) ?_)
  refine zv 17 rfl kr (B101 rfl) rfl (zv 18 rfl kr (B103 rfl) rfl (TV.step [19] kr dc rfl ⟨⟨_, rfl, ?_⟩, trivial⟩))
  refine TL.box rfl rfl dc (fun bC hbC => ?_)
  refine TL.nil (TV.next (.inl s9z) ?_)
  refine zv 20 rfl kr (PV.assign rfl) rfl (zv 21 rfl kr (PV.assign rfl) rfl (TV.done kr ?_))
  refine zc (TQ.perm (G' := nNH ⟨W, K, g, need⟩ yw yk yg bH bT bC [(b2, Obj.cells #[.int .i64 (C.dep W : Nat), .int .i64 (W.length : Nat), .int .i64 need] 52 (0, 0)), (b1, Obj.cells #[.slice q K.length cq, .slice r g.length cr] 27 (0, 0)), (b0, Obj.cells #[.slice p W.length cp] 24 (0, 0))]) pN ?_)
  refine TQ.retE2 rfl rfl rfl ?_
  exact nF hyw hyk hyg
  refine TL.makeI rfl rfl Tb.sl_25 Tb.zi_3 rfl om om rfl dc (fun bT hbT => ?_)
  refine TL.nil (TV.next (.inl s9z) ?_)
  refine zv 17 rfl kr (B101 rfl) rfl (TV.step [9] kr dc rfl ⟨⟨_, rfl, ?_⟩, trivial⟩)
  refine TL.call rfl Tb.gofn_67 (fun a w hs => clone_v w r cr g (hg.new hs.new) hgl) rfl dc (fun yg hyg => ?_)
  refine TL.nil (TV.next (.inl s9z) ?_)
  refine zv 10 rfl kr (B27 rfl) rfl (zv 12 rfl kr (B90 rfl) rfl (zv 18 rfl kr (B103 rfl) rfl (TV.step [19] kr dc rfl ⟨⟨_, rfl, ?_⟩, trivial⟩)))
  refine TL.box rfl rfl dc (fun bC hbC => ?_)
  refine TL.nil (TV.next (.inl s9z) ?_)
  refine zv 20 rfl kr (PV.assign rfl) rfl (zv 21 rfl kr (PV.assign rfl) rfl (TV.done kr ?_))
  refine zc (TQ.perm (G' := nNH ⟨W, K, g, need⟩ yw yk yg bH bT bC [(b2, Obj.cells #[.int .i64 (C.dep W : Nat), .int .i64 (W.length : Nat), .int .i64 need] 52 (0, 0)), (b1, Obj.cells #[.slice q K.length cq, .slice r g.length cr] 27 (0, 0)), (b0, Obj.cells #[.slice p W.length cp] 24 (0, 0))]) pN ?_)
  refine TQ.retE2 rfl rfl rfl ?_
  exact nF hyw hyk hyg
  refine TL.makeI rfl rfl Tb.sl_25 Tb.zi_3 rfl om om rfl dc (fun bT hbT => ?_)
  refine TL.nil (TV.next (.inl s9z) ?_)
  refine TV.step [9, 14] kr dc rfl ⟨⟨_, rfl, ?_⟩, ⟨_, rfl, ?_⟩, trivial⟩
  refine TL.call rfl Tb.gofn_67 (fun a w hs => clone_v w r cr g (hg.new hs.new) hgl) rfl dc (fun yg hyg => ?_)
  refine TL.nil (TV.next (.inl s9z) ?_)
  refine zv 10 rfl kr (B27 rfl) rfl (zv 12 rfl kr (B90 rfl) rfl (TV.step [14] kr dc rfl ⟨⟨_, rfl, ?_⟩, trivial⟩))
  refine TL.makeI rfl rfl Tb.sl_25 Tb.zi_3 rfl om om rfl dc (fun bH hbH => ?_)
  refine TL.nil (TV.next (.inl s9z) ?_)
  refine zv 17 rfl kr (B101 rfl) rfl (zv 18 rfl kr (B103 rfl) rfl (TV.step [19] kr dc rfl ⟨⟨_, rfl, ?_⟩, trivial⟩))
  refine TL.box rfl rfl dc (fun bC hbC => ?_)
  refine TL.nil (TV.next (.inl s9z) ?_)
  refine zv 20 rfl kr (PV.assign rfl) rfl (zv 21 rfl kr (PV.assign rfl) rfl (TV.done kr ?_))
  refine zc (TQ.perm (G' := nNH ⟨W, K, g, need⟩ yw yk yg bH bT bC [(b2, Obj.cells #[.int .i64 (C.dep W : Nat), .int .i64 (W.length : Nat), .int .i64 need] 52 (0, 0)), (b1, Obj.cells #[.slice q K.length cq, .slice r g.length cr] 27 (0, 0)), (b0, Obj.cells #[.slice p W.length cp] 24 (0, 0))]) pN ?_)
  refine TQ.retE2 rfl rfl rfl ?_
  exact nF hyw hyk hyg
  refine TL.makeI rfl rfl Tb.sl_25 Tb.zi_3 rfl om om rfl dc (fun bH hbH => ?_)
  refine TL.nil (TV.next (.inl s9z) ?_)
  refine zv 17 rfl kr (B101 rfl) rfl (TV.step [9] kr dc rfl ⟨⟨_, rfl, ?_⟩, trivial⟩)
  refine TL.call rfl Tb.gofn_67 (fun a w hs => clone_v w r cr g (hg.new hs.new) hgl) rfl dc (fun yg hyg => ?_)
  refine TL.nil (TV.next (.inl s9z) ?_)
  refine zv 10 rfl kr (B27 rfl) rfl (zv 12 rfl kr (B90 rfl) rfl (zv 18 rfl kr (B103 rfl) rfl (TV.step [19] kr dc rfl ⟨⟨_, rfl, ?_⟩, trivial⟩)))
  refine TL.box rfl rfl dc (fun bC hbC => ?_)
  refine TL.nil (TV.next (.inl s9z) ?_)
  refine zv 20 rfl kr (PV.assign rfl) rfl (zv 21 rfl kr (PV.assign rfl) rfl (TV.done kr ?_))
  refine zc (TQ.perm (G' := nNH ⟨W, K, g, need⟩ yw yk yg bH bT bC [(b2, Obj.cells #[.int .i64 (C.dep W : Nat), .int .i64 (W.length : Nat), .int .i64 need] 52 (0, 0)), (b1, Obj.cells #[.slice q K.length cq, .slice r g.length cr] 27 (0, 0)), (b0, Obj.cells #[.slice p W.length cp] 24 (0, 0))]) pN ?_)
  refine TQ.retE2 rfl rfl rfl ?_
  exact nF hyw hyk hyg
  refine TL.makeI rfl rfl Tb.sl_25 Tb.zi_3 rfl om om rfl dc (fun bH hbH => ?_)
  refine TL.nil (TV.next (.inl s9z) ?_)
  refine TV.step [6, 16] kr dc rfl ⟨⟨_, rfl, ?_⟩, ⟨_, rfl, ?_⟩, trivial⟩
  refine TL.call rfl Tb.gofn_99 (fun a w hs => cK w (hk.new hs.new)) rfl dc (fun yk hyk => ?_)
  refine TL.nil (TV.next (.inl s9z) ?_)
  refine TV.step [9, 16] kr dc rfl ⟨⟨_, rfl, ?_⟩, ⟨_, rfl, ?_⟩, trivial⟩
  refine TL.call rfl Tb.gofn_67 (fun a w hs => clone_v w r cr g (hg.new hs.new) hgl) rfl dc (fun yg hyg => ?_)
  refine TL.nil (TV.next (.inl s9z) ?_)
  refine zv 10 rfl kr (B27 rfl) rfl (zv 12 rfl kr (B90 rfl) rfl (TV.step [16] kr dc rfl ⟨⟨_, rfl, ?_⟩, trivial⟩))
  refine TL.makeI rfl rfl Tb.sl_25 Tb.zi_3 rfl om om rfl dc (fun bT hbT => ?_)
  refine TL.nil (TV.next (.inl s9z) ?_)
  refine zv 17 rfl kr (B101 rfl) rfl (zv 18 rfl kr (B103 rfl) rfl (TV.step [19] kr dc rfl ⟨⟨_, rfl, ?_⟩, trivial⟩))
  refine TL.box rfl rfl dc (fun bC hbC => ?_)
  refine TL.nil (TV.next (.inl s9z) ?_)
  refine zv 20 rfl kr (PV.assign rfl) rfl (zv 21 rfl kr (PV.assign rfl) rfl (TV.done kr ?_))
  refine zc (TQ.perm (G' := nNH ⟨W, K, g, need⟩ yw yk yg bH bT bC [(b2, Obj.cells #[.int .i64 (C.dep W : Nat), .int .i64 (W.length : Nat), .int .i64 need] 52 (0, 0)), (b1, Obj.cells #[.slice q K.length cq, .slice r g.length cr] 27 (0, 0)), (b0, Obj.cells #[.slice p W.length cp] 24 (0, 0))]) pN ?_)
  refine TQ.retE2 rfl rfl rfl ?_
  exact nF hyw hyk hyg
  refine TL.makeI rfl rfl Tb.sl_25 Tb.zi_3 rfl om om rfl dc (fun bT hbT => ?_)
  refine TL.nil (TV.next (.inl s9z) ?_)
  refine zv 17 rfl kr (B101 rfl) rfl (TV.step [9] kr dc rfl ⟨⟨_, rfl, ?_⟩, trivial⟩)
  refine TL.call rfl Tb.gofn_67 (fun a w hs => clone_v w r cr g (hg.new hs.new) hgl) rfl dc (fun yg hyg => ?_)
  refine TL.nil (TV.next (.inl s9z) ?_)
  refine zv 10 rfl kr (B27 rfl) rfl (zv 12 rfl kr (B90 rfl) rfl (zv 18 rfl kr (B103 rfl) rfl (TV.step [19] kr dc rfl ⟨⟨_, rfl, ?_⟩, trivial⟩)))
  refine TL.box rfl rfl dc (fun bC hbC => ?_)
  refine TL.nil (TV.next (.inl s9z) ?_)
  refine zv 20 rfl kr (PV.assign rfl) rfl (zv 21 rfl kr (PV.assign rfl) rfl (TV.done kr ?_))
  refine zc (TQ.perm (G' := nNH ⟨W, K, g, need⟩ yw yk yg bH bT bC [(b2, Obj.cells #[.int .i64 (C.dep W : Nat), .int .i64 (W.length : Nat), .int .i64 need] 52 (0, 0)), (b1, Obj.cells #[.slice q K.length cq, .slice r g.length cr] 27 (0, 0)), (b0, Obj.cells #[.slice p W.length cp] 24 (0, 0))]) pN ?_)
  refine TQ.retE2 rfl rfl rfl ?_
  exact nF hyw hyk hyg
  refine TL.makeI rfl rfl Tb.sl_25 Tb.zi_3 rfl om om rfl dc (fun bT hbT => ?_)
  refine TL.nil (TV.next (.inl s9z) ?_)
  refine zv 17 rfl kr (B101 rfl) rfl (TV.step [6] kr dc rfl ⟨⟨_, rfl, ?_⟩, trivial⟩)
  refine TL.call rfl Tb.gofn_99 (fun a w hs => cK w (hk.new hs.new)) rfl dc (fun yk hyk => ?_)
  refine TL.nil (TV.next (.inl s9z) ?_)
  refine TV.step [9] kr dc rfl ⟨⟨_, rfl, ?_⟩, trivial⟩
  refine TL.call rfl Tb.gofn_67 (fun a w hs => clone_v w r cr g (hg.new hs.new) hgl) rfl dc (fun yg hyg => ?_)
  refine TL.nil (TV.next (.inl s9z) ?_)
  refine zv 10 rfl kr (B27 rfl) rfl (zv 12 rfl kr (B90 rfl) rfl (zv 18 rfl kr (B103 rfl) rfl (TV.step [19] kr dc rfl ⟨⟨_, rfl, ?_⟩, trivial⟩)))
  refine TL.box rfl rfl dc (fun bC hbC => ?_)
  refine TL.nil (TV.next (.inl s9z) ?_)
  refine zv 20 rfl kr (PV.assign rfl) rfl (zv 21 rfl kr (PV.assign rfl) rfl (TV.done kr ?_))
  refine zc (TQ.perm (G' := nNH ⟨W, K, g, need⟩ yw yk yg bH bT bC [(b2, Obj.cells #[.int .i64 (C.dep W : Nat), .int .i64 (W.length : Nat), .int .i64 need] 52 (0, 0)), (b1, Obj.cells #[.slice q K.length cq, .slice r g.length cr] 27 (0, 0)), (b0, Obj.cells #[.slice p W.length cp] 24 (0, 0))]) pN ?_)
  refine TQ.retE2 rfl rfl rfl ?_
  exact nF hyw hyk hyg
  refine TL.makeI rfl rfl Tb.sl_25 Tb.zi_3 rfl om om rfl dc (fun bT hbT => ?_)
  refine TL.nil (TV.next (.inl s9z) ?_)
  refine TV.step [6, 14] kr dc rfl ⟨⟨_, rfl, ?_⟩, ⟨_, rfl, ?_⟩, trivial⟩
  refine TL.call rfl Tb.gofn_99 (fun a w hs => cK w (hk.new hs.new)) rfl dc (fun yk hyk => ?_)
  refine TL.nil (TV.next (.inl s9z) ?_)
  refine TV.step [9, 14] kr dc rfl ⟨⟨_, rfl, ?_⟩, ⟨_, rfl, ?_⟩, trivial⟩
  refine TL.call rfl Tb.gofn_67 (fun a w hs => clone_v w r cr g (hg.new hs.new) hgl) rfl dc (fun yg hyg => ?_)
  refine TL.nil (TV.next (.inl s9z) ?_)
  refine zv 10 rfl kr (B27 rfl) rfl (zv 12 rfl kr (B90 rfl) rfl (TV.step [14] kr dc rfl ⟨⟨_, rfl, ?_⟩, trivial⟩))
  refine TL.makeI rfl rfl Tb.sl_25 Tb.zi_3 rfl om om rfl dc (fun bH hbH => ?_)
  refine TL.nil (TV.next (.inl s9z) ?_)
  refine zv 17 rfl kr (B101 rfl) rfl (zv 18 rfl kr (B103 rfl) rfl (TV.step [19] kr dc rfl ⟨⟨_, rfl, ?_⟩, trivial⟩))
  refine TL.box rfl rfl dc (fun bC hbC => ?_)
  refine TL.nil (TV.next (.inl s9z) ?_)
  refine zv 20 rfl kr (PV.assign rfl) rfl (zv 21 rfl kr (PV.assign rfl) rfl (TV.done kr ?_))
  refine zc (TQ.perm (G' := nNH ⟨W, K, g, need⟩ yw yk yg bH bT bC [(b2, Obj.cells #[.int .i64 (C.dep W : Nat), .int .i64 (W.length : Nat), .int .i64 need] 52 (0, 0)), (b1, Obj.cells #[.slice q K.length cq, .slice r g.length cr] 27 (0, 0)), (b0, Obj.cells #[.slice p W.length cp] 24 (0, 0))]) pN ?_)
  refine TQ.retE2 rfl rfl rfl ?_
  exact nF hyw hyk hyg
  refine TL.makeI rfl rfl Tb.sl_25 Tb.zi_3 rfl om om rfl dc (fun bH hbH => ?_)
  refine TL.nil (TV.next (.inl s9z) ?_)
  refine zv 17 rfl kr (B101 rfl) rfl (TV.step [9] kr dc rfl ⟨⟨_, rfl, ?_⟩, trivial⟩)
  refine TL.call rfl Tb.gofn_67 (fun a w hs => clone_v w r cr g (hg.new hs.new) hgl) rfl dc (fun yg hyg => ?_)
  refine TL.nil (TV.next (.inl s9z) ?_)
  refine zv 10 rfl kr (B27 rfl) rfl (zv 12 rfl kr (B90 rfl) rfl (zv 18 rfl kr (B103 rfl) rfl (TV.step [19] kr dc rfl ⟨⟨_, rfl, ?_⟩, trivial⟩)))
  refine TL.box rfl rfl dc (fun bC hbC => ?_)
  refine TL.nil (TV.next (.inl s9z) ?_)
  refine zv 20 rfl kr (PV.assign rfl) rfl (zv 21 rfl kr (PV.assign rfl) rfl (TV.done kr ?_))
  refine zc (TQ.perm (G' := nNH ⟨W, K, g, need⟩ yw yk yg bH bT bC [(b2, Obj.cells #[.int .i64 (C.dep W : Nat), .int .i64 (W.length : Nat), .int .i64 need] 52 (0, 0)), (b1, Obj.cells #[.slice q K.length cq, .slice r g.length cr] 27 (0, 0)), (b0, Obj.cells #[.slice p W.length cp] 24 (0, 0))]) pN ?_)
  refine TQ.retE2 rfl rfl rfl ?_
  exact nF hyw hyk hyg
  refine TL.makeI rfl rfl Tb.sl_25 Tb.zi_3 rfl om om rfl dc (fun bH hbH => ?_)
  refine TL.nil (TV.next (.inl s9z) ?_)
  refine zv 17 rfl kr (B101 rfl) rfl (TV.step [6] kr dc rfl ⟨⟨_, rfl, ?_⟩, trivial⟩)
  refine TL.call rfl Tb.gofn_99 (fun a w hs => cK w (hk.new hs.new)) rfl dc (fun yk hyk => ?_)
  refine TL.nil (TV.next (.inl s9z) ?_)
  refine TV.step [9] kr dc rfl ⟨⟨_, rfl, ?_⟩, trivial⟩
  refine TL.call rfl Tb.gofn_67 (fun a w hs => clone_v w r cr g (hg.new hs.new) hgl) rfl dc (fun yg hyg => ?_)
  refine TL.nil (TV.next (.inl s9z) ?_)
  refine zv 10 rfl kr (B27 rfl) rfl (zv 12 rfl kr (B90 rfl) rfl (zv 18 rfl kr (B103 rfl) rfl (TV.step [19] kr dc rfl ⟨⟨_, rfl, ?_⟩, trivial⟩)))
  refine TL.box rfl rfl dc (fun bC hbC => ?_)
  refine TL.nil (TV.next (.inl s9z) ?_)
  refine zv 20 rfl kr (PV.assign rfl) rfl (zv 21 rfl kr (PV.assign rfl) rfl (TV.done kr ?_))
  refine zc (TQ.perm (G' := nNH ⟨W, K, g, need⟩ yw yk yg bH bT bC [(b2, Obj.cells #[.int .i64 (C.dep W : Nat), .int .i64 (W.length : Nat), .int .i64 need] 52 (0, 0)), (b1, Obj.cells #[.slice q K.length cq, .slice r g.length cr] 27 (0, 0)), (b0, Obj.cells #[.slice p W.length cp] 24 (0, 0))]) pN ?_)
  refine TQ.retE2 rfl rfl rfl ?_
  exact nF hyw hyk hyg
  refine TL.makeI rfl rfl Tb.sl_25 Tb.zi_3 rfl om om rfl dc (fun bH hbH => ?_)
  refine TL.nil (TV.next (.inl s9z) ?_)
  refine TV.step [2, 16] kr dc rfl ⟨⟨_, rfl, ?_⟩, ⟨_, rfl, ?_⟩, trivial⟩
  refine TL.call rfl Tb.gofn_99 (fun a w hs => cW w (hr.new hs.new)) rfl dc (fun yw hyw => ?_)
  refine TL.nil (TV.next (.inl s9z) ?_)
  refine zv 3 rfl kr (B24 rfl) rfl (TV.step [6, 16] kr dc rfl ⟨⟨_, rfl, ?_⟩, ⟨_, rfl, ?_⟩, trivial⟩)
  refine TL.call rfl Tb.gofn_99 (fun a w hs => cK w (hk.new hs.new)) rfl dc (fun yk hyk => ?_)
  refine TL.nil (TV.next (.inl s9z) ?_)
  refine TV.step [9, 16] kr dc rfl ⟨⟨_, rfl, ?_⟩, ⟨_, rfl, ?_⟩, trivial⟩
  refine TL.call rfl Tb.gofn_67 (fun a w hs => clone_v w r cr g (hg.new hs.new) hgl) rfl dc (fun yg hyg => ?_)
  refine TL.nil (TV.next (.inl s9z) ?_)
  refine zv 10 rfl kr (B27 rfl) rfl (zv 12 rfl kr (B90 rfl) rfl (TV.step [16] kr dc rfl ⟨⟨_, rfl, ?_⟩, trivial⟩))
  refine TL.makeI rfl rfl Tb.sl_25 Tb.zi_3 rfl om om rfl dc (fun bT hbT => ?_)
  refine TL.nil (TV.next (.inl s9z) ?_)
  refine zv 17 rfl kr (B101 rfl) rfl (zv 18 rfl kr (B103 rfl) rfl (TV.step [19] kr dc rfl ⟨⟨_, rfl, ?_⟩, trivial⟩))
  refine TL.box rfl rfl dc (fun bC hbC => ?_)
  refine TL.nil (TV.next (.inl s9z) ?_)
  refine zv 20 rfl kr (PV.assign rfl) rfl (zv 21 rfl kr (PV.assign rfl) rfl (TV.done kr ?_))
  refine zc (TQ.perm (G' := nNH ⟨W, K, g, need⟩ yw yk yg bH bT bC [(b2, Obj.cells #[.int .i64 (C.dep W : Nat), .int .i64 (W.length : Nat), .int .i64 need] 52 (0, 0)), (b1, Obj.cells #[.slice q K.length cq, .slice r g.length cr] 27 (0, 0)), (b0, Obj.cells #[.slice p W.length cp] 24 (0, 0))]) pN ?_)
  refine TQ.retE2 rfl rfl rfl ?_
  exact nF hyw hyk hyg
  refine TL.makeI rfl rfl Tb.sl_25 Tb.zi_3 rfl om om rfl dc (fun bT hbT => ?_)
  refine TL.nil (TV.next (.inl s9z) ?_)
  refine zv 17 rfl kr (B101 rfl) rfl (TV.step [9] kr dc rfl ⟨⟨_, rfl, ?_⟩, trivial⟩)
  refine TL.call rfl Tb.gofn_67 (fun a w hs => clone_v w r cr g (hg.new hs.new) hgl) rfl dc (fun yg hyg => ?_)
  refine TL.nil (TV.next (.inl s9z) ?_)
  refine zv 10 rfl kr (B27 rfl) rfl (zv 12 rfl kr (B90 rfl) rfl (zv 18 rfl kr (B103 rfl) rfl (TV.step [19] kr dc rfl ⟨⟨_, rfl, ?_⟩, trivial⟩)))
  refine TL.box rfl rfl dc (fun bC hbC => ?_)
  refine TL.nil (TV.next (.inl s9z) ?_)
  refine zv 20 rfl kr (PV.assign rfl) rfl (zv 21 rfl kr (PV.assign rfl) rfl (TV.done kr ?_))
  refine zc (TQ.perm (G' := nNH ⟨W, K, g, need⟩ yw yk yg bH bT bC [(b2, Obj.cells #[.int .i64 (C.dep W : Nat), .int .i64 (W.length : Nat), .int .i64 need] 52 (0, 0)), (b1, Obj.cells #[.slice q K.length cq, .slice r g.length cr] 27 (0, 0)), (b0, Obj.cells #[.slice p W.length cp] 24 (0, 0))]) pN ?_)
  refine TQ.retE2 rfl rfl rfl ?_
  exact nF hyw hyk hyg
  refine TL.makeI rfl rfl Tb.sl_25 Tb.zi_3 rfl om om rfl dc (fun bT hbT => ?_)
  refine TL.nil (TV.next (.inl s9z) ?_)
  refine zv 17 rfl kr (B101 rfl) rfl (TV.step [6] kr dc rfl ⟨⟨_, rfl, ?_⟩, trivial⟩)
  refine TL.call rfl Tb.gofn_99 (fun a w hs => cK w (hk.new hs.new)) rfl dc (fun yk hyk => ?_)
  refine TL.nil (TV.next (.inl s9z) ?_)
  refine TV.step [9] kr dc rfl ⟨⟨_, rfl, ?_⟩, trivial⟩
  refine TL.call rfl Tb.gofn_67 (fun a w hs => clone_v w r cr g (hg.new hs.new) hgl) rfl dc (fun yg hyg => ?_)
  refine TL.nil (TV.next (.inl s9z) ?_)
  refine zv 10 rfl kr (B27 rfl) rfl (zv 12 rfl kr (B90 rfl) rfl (zv 18 rfl kr (B103 rfl) rfl (TV.step [19] kr dc rfl ⟨⟨_, rfl, ?_⟩, trivial⟩)))
  refine TL.box rfl rfl dc (fun bC hbC => ?_)
  refine TL.nil (TV.next (.inl s9z) ?_)
  refine zv 20 rfl kr (PV.assign rfl) rfl (zv 21 rfl kr (PV.assign rfl) rfl (TV.done kr ?_))
  refine zc (TQ.perm (G' := nNH ⟨W, K, g, need⟩ yw yk yg bH bT bC [(b2, Obj.cells #[.int .i64 (C.dep W : Nat), .int .i64 (W.length : Nat), .int .i64 need] 52 (0, 0)), (b1, Obj.cells #[.slice q K.length cq, .slice r g.length cr] 27 (0, 0)), (b0, Obj.cells #[.slice p W.length cp] 24 (0, 0))]) pN ?_)
  refine TQ.retE2 rfl rfl rfl ?_
  exact nF hyw hyk hyg
  refine TL.makeI rfl rfl Tb.sl_25 Tb.zi_3 rfl om om rfl dc (fun bT hbT => ?_)
  refine TL.nil (TV.next (.inl s9z) ?_)
  refine zv 17 rfl kr (B101 rfl) rfl (TV.step [2] kr dc rfl ⟨⟨_, rfl, ?_⟩, trivial⟩)
  refine TL.call rfl Tb.gofn_99 (fun a w hs => cW w (hr.new hs.new)) rfl dc (fun yw hyw => ?_)
  refine TL.nil (TV.next (.inl s9z) ?_)
  refine zv 3 rfl kr (B24 rfl) rfl (TV.step [6] kr dc rfl ⟨⟨_, rfl, ?_⟩, trivial⟩)
  refine TL.call rfl Tb.gofn_99 (fun a w hs => cK w (hk.new hs.new)) rfl dc (fun yk hyk => ?_)
  refine TL.nil (TV.next (.inl s9z) ?_)
  refine TV.step [9] kr dc rfl ⟨⟨_, rfl, ?_⟩, trivial⟩
  refine TL.call rfl Tb.gofn_67 (fun a w hs => clone_v w r cr g (hg.new hs.new) hgl) rfl dc (fun yg hyg => ?_)
  refine TL.nil (TV.next (.inl s9z) ?_)
  refine zv 10 rfl kr (B27 rfl) rfl (zv 12 rfl kr (B90 rfl) rfl (zv 18 rfl kr (B103 rfl) rfl (TV.step [19] kr dc rfl ⟨⟨_, rfl, ?_⟩, trivial⟩)))
  refine TL.box rfl rfl dc (fun bC hbC => ?_)
  refine TL.nil (TV.next (.inl s9z) ?_)
  refine zv 20 rfl kr (PV.assign rfl) rfl (zv 21 rfl kr (PV.assign rfl) rfl (TV.done kr ?_))
  refine zc (TQ.perm (G' := nNH ⟨W, K, g, need⟩ yw yk yg bH bT bC [(b2, Obj.cells #[.int .i64 (C.dep W : Nat), .int .i64 (W.length : Nat), .int .i64 need] 52 (0, 0)), (b1, Obj.cells #[.slice q K.length cq, .slice r g.length cr] 27 (0, 0)), (b0, Obj.cells #[.slice p W.length cp] 24 (0, 0))]) pN ?_)
  refine TQ.retE2 rfl rfl rfl ?_
  exact nF hyw hyk hyg
  refine TL.makeI rfl rfl Tb.sl_25 Tb.zi_3 rfl om om rfl dc (fun bT hbT => ?_)
  refine TL.nil (TV.next (.inl s9z) ?_)
  refine TV.step [2, 14] kr dc rfl ⟨⟨_, rfl, ?_⟩, ⟨_, rfl, ?_⟩, trivial⟩
  refine TL.call rfl Tb.gofn_99 (fun a w hs => cW w (hr.new hs.new)) rfl dc (fun yw hyw => ?_)
  refine TL.nil (TV.next (.inl s9z) ?_)
  refine zv 3 rfl kr (B24 rfl) rfl (TV.step [6, 14] kr dc rfl ⟨⟨_, rfl, ?_⟩, ⟨_, rfl, ?_⟩, trivial⟩)
  refine TL.call rfl Tb.gofn_99 (fun a w hs => cK w (hk.new hs.new)) rfl dc (fun yk hyk => ?_)
  refine TL.nil (TV.next (.inl s9z) ?_)
  refine TV.step [9, 14] kr dc rfl ⟨⟨_, rfl, ?_⟩, ⟨_, rfl, ?_⟩, trivial⟩
  refine TL.call rfl Tb.gofn_67 (fun a w hs => clone_v w r cr g (hg.new hs.new) hgl) rfl dc (fun yg hyg => ?_)
  refine TL.nil (TV.next (.inl s9z) ?_)
  refine zv 10 rfl kr (B27 rfl) rfl (zv 12 rfl kr (B90 rfl) rfl (TV.step [14] kr dc rfl ⟨⟨_, rfl, ?_⟩, trivial⟩))
  refine TL.makeI rfl rfl Tb.sl_25 Tb.zi_3 rfl om om rfl dc (fun bH hbH => ?_)
  refine TL.nil (TV.next (.inl s9z) ?_)
  refine zv 17 rfl kr (B101 rfl) rfl (zv 18 rfl kr (B103 rfl) rfl (TV.step [19] kr dc rfl ⟨⟨_, rfl, ?_⟩, trivial⟩))
  refine TL.box rfl rfl dc (fun bC hbC => ?_)
  refine TL.nil (TV.next (.inl s9z) ?_)
  refine zv 20 rfl kr (PV.assign rfl) rfl (zv 21 rfl kr (PV.assign rfl) rfl (TV.done kr ?_))
  refine zc (TQ.perm (G' := nNH ⟨W, K, g, need⟩ yw yk yg bH bT bC [(b2, Obj.cells #[.int .i64 (C.dep W : Nat), .int .i64 (W.length : Nat), .int .i64 need] 52 (0, 0)), (b1, Obj.cells #[.slice q K.length cq, .slice r g.length cr] 27 (0, 0)), (b0, Obj.cells #[.slice p W.length cp] 24 (0, 0))]) pN ?_)
  refine TQ.retE2 rfl rfl rfl ?_
  exact nF hyw hyk hyg
  refine TL.makeI rfl rfl Tb.sl_25 Tb.zi_3 rfl om om rfl dc (fun bH hbH => ?_)
  refine TL.nil (TV.next (.inl s9z) ?_)
  refine zv 17 rfl kr (B101 rfl) rfl (TV.step [9] kr dc rfl ⟨⟨_, rfl, ?_⟩, trivial⟩)
  refine TL.call rfl Tb.gofn_67 (fun a w hs => clone_v w r cr g (hg.new hs.new) hgl) rfl dc (fun yg hyg => ?_)
  refine TL.nil (TV.next (.inl s9z) ?_)
  refine zv 10 rfl kr (B27 rfl) rfl (zv 12 rfl kr (B90 rfl) rfl (zv 18 rfl kr (B103 rfl) rfl (TV.step [19] kr dc rfl ⟨⟨_, rfl, ?_⟩, trivial⟩)))
  refine TL.box rfl rfl dc (fun bC hbC => ?_)
  refine TL.nil (TV.next (.inl s9z) ?_)
  refine zv 20 rfl kr (PV.assign rfl) rfl (zv 21 rfl kr (PV.assign rfl) rfl (TV.done kr ?_))
  refine zc (TQ.perm (G' := nNH ⟨W, K, g, need⟩ yw yk yg bH bT bC [(b2, Obj.cells #[.int .i64 (C.dep W : Nat), .int .i64 (W.length : Nat), .int .i64 need] 52 (0, 0)), (b1, Obj.cells #[.slice q K.length cq, .slice r g.length cr] 27 (0, 0)), (b0, Obj.cells #[.slice p W.length cp] 24 (0, 0))]) pN ?_)
  refine TQ.retE2 rfl rfl rfl ?_
  exact nF hyw hyk hyg
  refine TL.makeI rfl rfl Tb.sl_25 Tb.zi_3 rfl om om rfl dc (fun bH hbH => ?_)
  refine TL.nil (TV.next (.inl s9z) ?_)
  refine zv 17 rfl kr (B101 rfl) rfl (TV.step [6] kr dc rfl ⟨⟨_, rfl, ?_⟩, trivial⟩)
  refine TL.call rfl Tb.gofn_99 (fun a w hs => cK w (hk.new hs.new)) rfl dc (fun yk hyk => ?_)
  refine TL.nil (TV.next (.inl s9z) ?_)
  refine TV.step [9] kr dc rfl ⟨⟨_, rfl, ?_⟩, trivial⟩
  refine TL.call rfl Tb.gofn_67 (fun a w hs => clone_v w r cr g (hg.new hs.new) hgl) rfl dc (fun yg hyg => ?_)
  refine TL.nil (TV.next (.inl s9z) ?_)
  refine zv 10 rfl kr (B27 rfl) rfl (zv 12 rfl kr (B90 rfl) rfl (zv 18 rfl kr (B103 rfl) rfl (TV.step [19] kr dc rfl ⟨⟨_, rfl, ?_⟩, trivial⟩)))
  refine TL.box rfl rfl dc (fun bC hbC => ?_)
  refine TL.nil (TV.next (.inl s9z) ?_)
  refine zv 20 rfl kr (PV.assign rfl) rfl (zv 21 rfl kr (PV.assign rfl) rfl (TV.done kr ?_))
  refine zc (TQ.perm (G' := nNH ⟨W, K, g, need⟩ yw yk yg bH bT bC [(b2, Obj.cells #[.int .i64 (C.dep W : Nat), .int .i64 (W.length : Nat), .int .i64 need] 52 (0, 0)), (b1, Obj.cells #[.slice q K.length cq, .slice r g.length cr] 27 (0, 0)), (b0, Obj.cells #[.slice p W.length cp] 24 (0, 0))]) pN ?_)
  refine TQ.retE2 rfl rfl rfl ?_
  exact nF hyw hyk hyg
  refine TL.makeI rfl rfl Tb.sl_25 Tb.zi_3 rfl om om rfl dc (fun bH hbH => ?_)
  refine TL.nil (TV.next (.inl s9z) ?_)
  refine zv 17 rfl kr (B101 rfl) rfl (TV.step [2] kr dc rfl ⟨⟨_, rfl, ?_⟩, trivial⟩)
  refine TL.call rfl Tb.gofn_99 (fun a w hs => cW w (hr.new hs.new)) rfl dc (fun yw hyw => ?_)
  refine TL.nil (TV.next (.inl s9z) ?_)
  refine zv 3 rfl kr (B24 rfl) rfl (TV.step [6] kr dc rfl ⟨⟨_, rfl, ?_⟩, trivial⟩)
  refine TL.call rfl Tb.gofn_99 (fun a w hs => cK w (hk.new hs.new)) rfl dc (fun yk hyk => ?_)
  refine TL.nil (TV.next (.inl s9z) ?_)
  refine TV.step [9] kr dc rfl ⟨⟨_, rfl, ?_⟩, trivial⟩
  refine TL.call rfl Tb.gofn_67 (fun a w hs => clone_v w r cr g (hg.new hs.new) hgl) rfl dc (fun yg hyg => ?_)
  refine TL.nil (TV.next (.inl s9z) ?_)
  refine zv 10 rfl kr (B27 rfl) rfl (zv 12 rfl kr (B90 rfl) rfl (zv 18 rfl kr (B103 rfl) rfl (TV.step [19] kr dc rfl ⟨⟨_, rfl, ?_⟩, trivial⟩)))
  refine TL.box rfl rfl dc (fun bC hbC => ?_)
  refine TL.nil (TV.next (.inl s9z) ?_)
  refine zv 20 rfl kr (PV.assign rfl) rfl (zv 21 rfl kr (PV.assign rfl) rfl (TV.done kr ?_))
  refine zc (TQ.perm (G' := nNH ⟨W, K, g, need⟩ yw yk yg bH bT bC [(b2, Obj.cells #[.int .i64 (C.dep W : Nat), .int .i64 (W.length : Nat), .int .i64 need] 52 (0, 0)), (b1, Obj.cells #[.slice q K.length cq, .slice r g.length cr] 27 (0, 0)), (b0, Obj.cells #[.slice p W.length cp] 24 (0, 0))]) pN ?_)
  refine TQ.retE2 rfl rfl rfl ?_
  exact nF hyw hyk hyg
end Go.Proofs.YtbnjmkidbfmomaaGreatDoor
