/- Xd Xe BD -/
import Derived.Test.YtbnjmkidbfmomaaGreatDoorV06
import Derived.Test.YtbnjmkidbfmomaaGreatDoorV08
import Derived.Test.YtbnjmkidbfmomaaGreatDoorV20
set_option linter.unusedVariables false
set_option linter.unusedSimpArgs false
set_option maxRecDepth 100000
namespace Go.Proofs.YtbnjmkidbfmomaaGreatDoor
open Go.Sx Go.RowKit Go.Bt Go.Lib Go.Sand
theorem sq_60 {s : St} (hv : SV s) {r k : Int} (hr : 0 ≤ r ∧ r < C.dep s.W) (hk : 0 ≤ k ∧ k < s.W.length) : s.sq r k ≤ 60 := by
  obtain ⟨r9, rfl⟩ := Int.eq_ofNat_of_zero_le hr.1
  obtain ⟨k9, rfl⟩ := Int.eq_ofNat_of_zero_le hk.1
  have := sq_lt (s := s) (r := r9) (c := k9) (by omega) (by omega)
  have := hv.N36
  omega
theorem cut_0 {s : St} {c : Co} {k : Nat} (h : actI s c ⟨1, [(k : Int)]⟩ = 0) : C.opB s.W (C.pad6 c.hol) k = true := by
  rw [cut_e, Int.toNat_natCast] at h
  split at h
  · cases h
  split at h
  · cases h
  split at h
  · cases h
  rename_i h3
  cases h9 : C.opB s.W (C.pad6 c.hol) k with
  | true => rfl
  | false => exact absurd (Or.inl h9) h3
theorem op_lt {s : St} {c : Co} (hi : Inv s c) {k : Nat} (h : C.opB s.W (C.pad6 c.hol) k = true) : c.hol.getD k 0 < C.dep s.W := by
  have h1 := C.op_ne h
  rw [C.pad_at] at h1
  have := hi.ho.toNB.at_ k
  omega
theorem pad_hol {s : St} {c : Co} {k : Nat} (hk : k < s.W.length) : ((k : Int) ∈ opL s c) ↔ C.opB s.W (C.pad6 c.hol) k = true := by
  have := C.mem_op (ls := s.W) (xs := C.pad6 c.hol) (n := s.W.length) (v := (k : Int)) (by omega) (by omega)
  rw [Int.toNat_natCast] at this
  exact this
theorem wet_ok (w0 w : World) (s : St) (hv : SV s) (u : SU) (c : Co) (v : TV) (hi : Inv s c) (b : Nat) (Z : Heap) (hN : New w0 w ((b, .cells (tyL c v).toArray 101 (0, 0)) :: Z)) (Zf : Heap) (hZf : List.Sublist Zf Z) (hS : ∀ w9, New w0 w9 Zf → SiteAt w9 s u) (hT : ∀ w9, New w0 w9 Zf → TurAt w9 c v) (r k : Int) (hr : 0 ≤ r ∧ r ≤ 999) (hk : 0 ≤ k ∧ k ≤ 999) :
    Calls Tryz.prog 153 #[.agg (siL s u).toArray, .pointer (some ⟨b, 0, none⟩), .int .i64 r, .int .i64 k] w (Post (X := TV × Heap) (fun _ => .int .i64 (actI s c ⟨3, [r, k]⟩)) (fun y => ∀ w9, New w0 w9 (y.2 ++ Zf) → TurAt w9 (chgC s c ⟨3, [r, k]⟩) y.1) (fun y => (b, Obj.cells (tyL (chgC s c ⟨3, [r, k]⟩) y.1).toArray 101 (0, 0)) :: (y.2 ++ Z)) w0) := by
  have hNZ := hN.sub (hZf.trans (List.sublist_cons_self _ _))
  have hwl := hi.wl
  have h63 := wet63 hv hwl
  have hbn := hi.bnd hv
  have h5 := hv.n5
  have h4 := hv.d4
  have hhl := hi.hl
  have htl := hi.tl' hv
  have hbm := hbn.bm
  have hbl := hbn.bl
  have hbg := hbn.bg
  have hbd := hbn.bd
  have hbc := hbn.bc
  have hbt := hbn.bt
  have hbh := hbn.bh
  refine callsM hN Tryz.func153 rfl (n := 52) rfl (by simp) ?_
  refine zr (TL.box rfl rfl dc (fun b0 hb0 => ?_))
  refine za rfl (zn (TC.seq (zr (zm rfl (zq (PV.fieldAddr rfl Tb.fo_90_2) rfl (zq (PV.fieldAddr rfl Tb.fo_52_0) rfl (zq (PV.load rfl Tb.one_3 m9z rfl) rfl ?_)))))))
  refine zq (PV.geq rfl rfl) rfl (zm rfl (TL.sp 14 rfl (fun g0 => ?_) (fun g0 => ?_)))
  refine zx rfl (zx rfl (zx rfl (zx rfl (zx rfl (zq (PV.pickT rfl rfl) rfl (zn (TC.condT rfl (zr (za rfl (zt (TQ.thenR (TQ.retE1 rfl rfl ?_))))))))))))
  have hE : actI s c ⟨3, [r, k]⟩ = 4 := by rw [wet_e, if_pos (by omega)]
  have hC := chg_no (s := s) (c := c) (o := ⟨3, [r, k]⟩) (by rw [hE]; decide)
  exact ⟨(v, []), by rw [hE], by rw [hC]; exact hT, by rw [hC]; exact s9z⟩
  refine zm rfl (zq (PV.fieldAddr rfl Tb.fo_90_2) rfl (zq (PV.fieldAddr rfl Tb.fo_52_1) rfl (zq (PV.load rfl Tb.one_3 m9z rfl) rfl ?_)))
  refine zq (PV.geq rfl rfl) rfl (zq (PV.pickF rfl rfl) rfl (zn (TC.cd rfl (fun g1 => ?_) (fun g1 => ?_))))
  refine zr (za rfl (zt (TQ.thenR (TQ.retE1 rfl rfl ?_))))
  have hE : actI s c ⟨3, [r, k]⟩ = 4 := by rw [wet_e, if_pos (by omega)]
  have hC := chg_no (s := s) (c := c) (o := ⟨3, [r, k]⟩) (by rw [hE]; decide)
  exact ⟨(v, []), by rw [hE], by rw [hC]; exact hT, by rw [hC]; exact s9z⟩
  refine TC.skip (TQ.thenC (TC.seq (TC.seq ?_)))
  obtain ⟨k, rfl⟩ := Int.eq_ofNat_of_zero_le hk.1
  obtain ⟨q, qp, qv⟩ := ints_now (fun w9 h9 => (hT w9 h9).ah) hNZ (k := k) (by omega)
  have hat := hi.ho.toNB.at_ k
  refine TC.region (zm rfl (zm rfl (zq (PV.nilCheck rfl) rfl (zq (PV.fieldAddr rfl Tb.fo_101_1) rfl (zq (PV.load rfl Tb.one_25 m9z rfl) rfl ?_)))))
  refine zm rfl (zq (PV.indexA rfl qp rfl Tb.elm_25 rfl om) rfl (zq (PV.loadN rfl Tb.one_3 (hZf.trans s9z) qv) rfl ?_))
  refine zq (PV.geq rfl rfl) rfl (zn (TC.cd rfl (fun g2 => ?_) (fun g2 => ?_)))
  refine zr (za rfl (zt (TQ.thenR (TQ.retE1 rfl rfl ?_))))
  have hE : actI s c ⟨3, [r, (k : Int)]⟩ = 8 := by rw [wet_e, if_neg (by omega), Int.toNat_natCast, if_pos g2]
  have hC := chg_no (s := s) (c := c) (o := ⟨3, [r, (k : Int)]⟩) (by rw [hE]; decide)
  exact ⟨(v, []), by rw [hE], by rw [hC]; exact hT, by rw [hC]; exact s9z⟩
  refine TC.skip (TQ.thenC (TC.seq (TC.seq ?_)))
  have hq60 := sq_60 hv (r := r) (k := (k : Int)) (by omega) (by omega)
  refine TC.region (zm rfl (zq (PV.nilCheck rfl) rfl (zq (PV.loadBox (cs := tyL c v) rfl Tb.agg_101 m9z rfl) rfl ?_)))
  refine zm rfl (zm rfl (TL.call rfl Tb.gofn_186 (fun a w hs => isWet_ok w s c v hhl om h63 r (k : Int) om om hq60) rfl dc (fun _ _ => ?_)))
  refine zn (TC.cd rfl (fun g3 => ?_) (fun g3 => ?_))
  refine zr (za rfl (zt (TQ.thenR (TQ.retE1 rfl rfl ?_))))
  have hE : actI s c ⟨3, [r, (k : Int)]⟩ = 5 := by rw [wet_e, if_neg (by omega), Int.toNat_natCast, if_neg g2, if_pos g3]
  have hC := chg_no (s := s) (c := c) (o := ⟨3, [r, (k : Int)]⟩) (by rw [hE]; decide)
  exact ⟨(v, []), by rw [hE], by rw [hC]; exact hT, by rw [hC]; exact s9z⟩
  refine TC.skip (TQ.thenC (TC.seqK [8] (X := Unit) (fun x => True) (fun x => []) (fun x => (b, Obj.cells (tyL { c with wet := c.wet ||| 2 ^ s.sq r (k : Int) } v).toArray 101 (0, 0)) :: Z) ?_ ?_))
  refine TC.mixV [true, true, true, true, false, true, true, false, true, true, false, true, true, true, true, true, false] [] 17 Tb.mixed rfl kr kr kr kr s9z ?_
  refine zv 0 rfl kr (PV.move rfl) rfl (zv 1 rfl kr (PV.nilCheck rfl) rfl (zv 2 rfl kr (PV.fieldAddr rfl Tb.fo_101_0) rfl (zv 3 rfl kr (PV.fieldAddr rfl Tb.fo_99_1) rfl (zv 5 rfl kr (PV.move rfl) rfl (zv 6 rfl kr (PV.nilCheck rfl) rfl (zv 8 rfl kr (PV.move rfl) rfl (zv 9 rfl kr (PV.move rfl) rfl (TV.step [4, 7] kr dc rfl ⟨⟨_, rfl, ?_⟩, ⟨_, rfl, ?_⟩, trivial⟩))))))))
  refine zq (PV.load rfl Tb.one_3 m9z rfl) rfl ?_
  refine TL.nil (TV.next (.inl s9z) ?_)
  refine TV.step [7] kr dc rfl ⟨⟨_, rfl, ?_⟩, trivial⟩
  refine zq (PV.loadBox (cs := tyL c v) rfl Tb.agg_101 m9z rfl) rfl ?_
  refine TL.nil (TV.next (.inl s9z) ?_)
  refine TV.step [10] kr dc rfl ⟨⟨_, rfl, ?_⟩, trivial⟩
  refine TL.call rfl Tb.gofn_160 (fun a w hs => square_ok w s c v hhl om r (k : Int) om om) rfl dc (fun _ _ => ?_)
  refine TL.nil (TV.next (.inl s9z) ?_)
  refine zv 11 rfl kr (M.PV.shlK rfl rfl om om (M.shl_nat hq60)) rfl (zv 12 rfl kr (M.PV.orK rfl rfl (M.or_nat h63 (M.p63 om))) rfl (zv 13 rfl kr (PV.nilCheck rfl) rfl (zv 14 rfl kr (PV.fieldAddr rfl Tb.fo_101_0) rfl (zv 15 rfl kr (PV.fieldAddr rfl Tb.fo_99_1) rfl (TV.step [16] kr dc rfl ⟨⟨_, rfl, ?_⟩, trivial⟩)))))
  refine TL.store rfl rfl Tb.cells_3 rfl u9z d9z rfl rfl ?_
  refine TL.nil (TV.next (.inl s9z) ?_)
  refine TV.done kr ?_
  refine TQ.thenN (TQ.midK () l9z l9z (List.Sublist.cons _ (List.Sublist.refl _)) (by first | trivial | omega))
  refine zq (PV.loadBox (cs := tyL c v) rfl Tb.agg_101 m9z rfl) rfl ?_
  refine TL.nil (TV.next (.inl s9z) ?_)
  refine TV.step [4, 10] kr dc rfl ⟨⟨_, rfl, ?_⟩, ⟨_, rfl, ?_⟩, trivial⟩
  refine zq (PV.load rfl Tb.one_3 m9z rfl) rfl ?_
  refine TL.nil (TV.next (.inl s9z) ?_)
  refine TV.step [10] kr dc rfl ⟨⟨_, rfl, ?_⟩, trivial⟩
  refine TL.call rfl Tb.gofn_160 (fun a w hs => square_ok w s c v hhl om r (k : Int) om om) rfl dc (fun _ _ => ?_)
  refine TL.nil (TV.next (.inl s9z) ?_)
  refine zv 11 rfl kr (M.PV.shlK rfl rfl om om (M.shl_nat hq60)) rfl (zv 12 rfl kr (M.PV.orK rfl rfl (M.or_nat h63 (M.p63 om))) rfl (zv 13 rfl kr (PV.nilCheck rfl) rfl (zv 14 rfl kr (PV.fieldAddr rfl Tb.fo_101_0) rfl (zv 15 rfl kr (PV.fieldAddr rfl Tb.fo_99_1) rfl (TV.step [16] kr dc rfl ⟨⟨_, rfl, ?_⟩, trivial⟩)))))
  refine TL.store rfl rfl Tb.cells_3 rfl u9z d9z rfl rfl ?_
  refine TL.nil (TV.next (.inl s9z) ?_)
  refine TV.done kr ?_
  refine TQ.thenN (TQ.midK () l9z l9z (List.Sublist.cons _ (List.Sublist.refl _)) (by first | trivial | omega))
  refine TL.call rfl Tb.gofn_160 (fun a w hs => square_ok w s c v hhl om r (k : Int) om om) rfl dc (fun _ _ => ?_)
  refine TL.nil (TV.next (.inl s9z) ?_)
  refine zv 11 rfl kr (M.PV.shlK rfl rfl om om (M.shl_nat hq60)) rfl (TV.step [4] kr dc rfl ⟨⟨_, rfl, ?_⟩, trivial⟩)
  refine zq (PV.load rfl Tb.one_3 m9z rfl) rfl ?_
  refine TL.nil (TV.next (.inl s9z) ?_)
  refine zv 12 rfl kr (M.PV.orK rfl rfl (M.or_nat h63 (M.p63 om))) rfl (zv 13 rfl kr (PV.nilCheck rfl) rfl (zv 14 rfl kr (PV.fieldAddr rfl Tb.fo_101_0) rfl (zv 15 rfl kr (PV.fieldAddr rfl Tb.fo_99_1) rfl (TV.step [16] kr dc rfl ⟨⟨_, rfl, ?_⟩, trivial⟩))))
  refine TL.store rfl rfl Tb.cells_3 rfl u9z d9z rfl rfl ?_
  refine TL.nil (TV.next (.inl s9z) ?_)
  refine TV.done kr ?_
  refine TQ.thenN (TQ.midK () l9z l9z (List.Sublist.cons _ (List.Sublist.refl _)) (by first | trivial | omega))
  intro x hx8
  refine zr (za rfl (zt (TQ.retE1 rfl rfl ?_)))
  have hE : actI s c ⟨3, [r, (k : Int)]⟩ = 0 := by rw [wet_e, if_neg (by omega), Int.toNat_natCast, if_neg g2, if_neg (by rw [g3]; decide)]
  have hC := chg_yes (s := s) (c := c) (o := ⟨3, [r, (k : Int)]⟩) hE
  rw [wet_c] at hC
  exact ⟨(v, []), by rw [hE], by rw [hC]; exact fun w9 hn => ⟨(hT w9 hn).ah, (hT w9 hn).at_⟩, by rw [hC]; exact s9z⟩
set_option maxHeartbeats 1000000 in
theorem cut_ok (w0 w : World) (s : St) (hv : SV s) (u : SU) (c : Co) (v : TV) (hi : Inv s c) (b : Nat) (Z : Heap) (hN : New w0 w ((b, .cells (tyL c v).toArray 101 (0, 0)) :: Z)) (Zf : Heap) (hZf : List.Sublist Zf Z) (hS : ∀ w9, New w0 w9 Zf → SiteAt w9 s u) (hT : ∀ w9, New w0 w9 Zf → TurAt w9 c v) (a : Int) (ha : 0 ≤ a ∧ a ≤ 999) :
    Calls Tryz.prog 151 #[.agg (siL s u).toArray, .pointer (some ⟨b, 0, none⟩), .int .i64 a] w (Post (X := TV × Heap) (fun _ => .int .i64 (actI s c ⟨1, [a]⟩)) (fun y => ∀ w9, New w0 w9 (y.2 ++ Zf) → TurAt w9 (chgC s c ⟨1, [a]⟩) y.1) (fun y => (b, Obj.cells (tyL (chgC s c ⟨1, [a]⟩) y.1).toArray 101 (0, 0)) :: (y.2 ++ Z)) w0) := by
  have hNZ := hN.sub (hZf.trans (List.sublist_cons_self _ _))
  have hwl := hi.wl
  have h63 := wet63 hv hwl
  have hbn := hi.bnd hv
  have h5 := hv.n5
  have h4 := hv.d4
  have hhl := hi.hl
  have htl := hi.tl' hv
  have hbm := hbn.bm
  have hbl := hbn.bl
  have hbg := hbn.bg
  have hbd := hbn.bd
  have hbc := hbn.bc
  have hbt := hbn.bt
  have hbh := hbn.bh
  refine callsM hN Tryz.func151 rfl (n := 126) rfl (by simp) ?_
  refine zr (TL.box rfl rfl dc (fun b0 hb0 => ?_))
  refine za rfl (zn (TC.seq (zr (zm rfl (zq (PV.fieldAddr rfl Tb.fo_90_2) rfl (zq (PV.fieldAddr rfl Tb.fo_52_1) rfl (zq (PV.load rfl Tb.one_3 m9z rfl) rfl ?_)))))))
  refine zq (PV.geq rfl rfl) rfl (zn (TC.cd rfl (fun g1 => ?_) (fun g1 => ?_)))
  refine zr (za rfl (zt (TQ.thenR (TQ.retE1 rfl rfl ?_))))
  have hE : actI s c ⟨1, [a]⟩ = 4 := by rw [cut_e, if_pos g1]
  have hC := chg_no (s := s) (c := c) (o := ⟨1, [a]⟩) (by rw [hE]; decide)
  exact ⟨(v, []), by rw [hE], by rw [hC]; exact hT, by rw [hC]; exact s9z⟩
  refine TC.skip (TQ.thenC (TC.seq (zr (zm rfl (zq (PV.nilCheck rfl) rfl (zq (PV.fieldAddr rfl Tb.fo_101_0) rfl (zq (PV.fieldAddr rfl Tb.fo_99_6) rfl (zq (PV.load rfl Tb.one_4 m9z rfl) rfl ?_))))))))
  refine zn (TC.cd rfl (fun g2 => ?_) (fun g2 => ?_))
  refine zr (za rfl (zt (TQ.thenR (TQ.retE1 rfl rfl ?_))))
  have hE : actI s c ⟨1, [a]⟩ = 8 := by rw [cut_e, if_neg g1, if_pos g2]
  have hC := chg_no (s := s) (c := c) (o := ⟨1, [a]⟩) (by rw [hE]; decide)
  exact ⟨(v, []), by rw [hE], by rw [hC]; exact hT, by rw [hC]; exact s9z⟩
  refine TC.skip (TQ.thenC (TC.seq ?_))
  obtain ⟨k, rfl⟩ := Int.eq_ofNat_of_zero_le ha.1
  have hkW : k < s.W.length := by omega
  have hat := hi.ho.toNB.at_ k
  obtain ⟨q, qp, qv⟩ := ints_now (fun w9 h9 => (hT w9 h9).ah) hNZ (k := k) (by omega)
  refine TC.mixV [true, true, true, true, true, true, false, true, true, true, true, true] [(b0, Obj.cells (siL s u).toArray 90 (0, 0)), (b, Obj.cells (tyL c v).toArray 101 (0, 0))] 12 Tb.mixed rfl kr kr kr kr s9z ?_
  refine zv 0 rfl kr (PV.fieldAddr rfl Tb.fo_90_0) rfl (zv 1 rfl kr (PV.loadMid (cs := siL s u) (vs := [.slice u.pw s.W.length u.cw]) rfl Tb.agg_24 m9z rfl rfl) rfl ?_)
  refine zv 2 rfl kr (PV.move rfl) rfl (zv 3 rfl kr (PV.nilCheck rfl) rfl (zv 4 rfl kr (PV.fieldAddr rfl Tb.fo_101_1) rfl (zv 5 rfl kr (PV.load rfl Tb.one_25 m9z rfl) rfl ?_)))
  refine TV.step [6] kr dc rfl ⟨⟨_, rfl, ?_⟩, trivial⟩
  refine TL.call rfl Tb.gofn_184 (fun a w hs => open_v w hv hi _ _ (hS w (hs.new.sub (hZf.trans s9z))).ls _ _ (hT w (hs.new.sub (hZf.trans s9z))).ah) rfl dc (fun h5o hh5 => ?_)
  refine TL.nil (TV.next (.inl s9z) ?_)
  refine zv 7 rfl kr (PV.move rfl) rfl (zv 8 rfl kr (PV.extract rfl rfl) rfl (zv 9 rfl kr (PV.extract rfl rfl) rfl (zv 10 rfl kr (PV.assign rfl) rfl (zv 11 rfl kr (PV.assign rfl) rfl (TV.done kr ?_)))))
  refine TQ.thenC (zr (zm rfl (zq (PV.nilCheck rfl) rfl (zq (PV.fieldAddr rfl Tb.fo_101_1) rfl (zq (PV.load rfl Tb.one_25 m9z rfl) rfl ?_)))))
  refine zm rfl (zq (PV.indexA rfl qp rfl Tb.elm_25 rfl om) rfl (zq (PV.loadN rfl Tb.one_3 (hZf.trans s9z) qv) rfl ?_))
  refine za rfl (zn (TC.seqK [1, 2, 3, 6, 9] (X := Unit) (fun x => actI s c ⟨1, [(k : Int)]⟩ = 0) (fun x => []) (fun x => (b0, Obj.cells (siL s u).toArray 90 (0, 0)) :: (b, Obj.cells (tyL c v).toArray 101 (0, 0)) :: Z) ?_ ?_))
  refine TC.seq ?_
  have hmem := pad_hol (s := s) (c := c) hkW
  refine TC.region (zm rfl (zm rfl (TL.call rfl Tb.gofn_185 (fun a w hs => C.containsI_ok w _ _ (opL s c) (IntsAt.g hs.new r9z hh5) (by have := C.op_len s.W (C.pad6 c.hol) s.W.length; show (C.opN s.W (C.pad6 c.hol) s.W.length).length ≤ _; omega) (k : Int)) rfl dc (fun _ _ => ?_))))
  refine zq ((by first | exact PV.notD rfl | exact PV.not rfl)) rfl ?_
  refine zm rfl (TL.sp 42 rfl (fun g3 => ?_) (fun g3 => ?_))
  refine zx rfl (zx rfl (zx rfl (TL.skipU rfl (fun k hk => by cases hk; decide) ?_)))
  refine TL.skipU rfl (fun k hk => by cases hk; decide) ?_
  refine TL.skipU rfl (fun k hk => by cases hk; decide) ?_
  refine TL.skipU rfl (fun k hk => by cases hk; decide) ?_
  refine TL.skipU rfl (fun k hk => by cases hk; decide) ?_
  refine TL.skipU rfl (fun k hk => by cases hk; decide) ?_
  refine TL.skipU rfl (fun k hk => by cases hk; decide) ?_
  refine zx rfl (zq (PV.pickT rfl rfl) rfl (zn (TC.condT rfl (zr (za rfl (zt (TQ.thenR (TQ.retE1 rfl rfl ?_))))))))
  have hE : actI s c ⟨1, [(k : Int)]⟩ = 6 := by rw [cut_e, if_neg g1, if_neg (by rw [g2]; decide), Int.toNat_natCast, if_pos (.inl (by cases h9 : C.opB s.W (C.pad6 c.hol) k with | false => rfl | true => exact absurd (hmem.2 h9) g3))]
  have hC := chg_no (s := s) (c := c) (o := ⟨1, [(k : Int)]⟩) (by rw [hE]; decide)
  exact ⟨(v, []), by rw [hE], by rw [hC]; exact hT, by rw [hC]; exact s9z⟩
  refine zm rfl (zq (PV.gtr rfl rfl) rfl (zm rfl (TL.sp 45 rfl (fun g4 => ?_) (fun g4 => ?_))))
  refine zm rfl (zq (PV.nilCheck rfl) rfl (zq (PV.loadBox (cs := tyL c v) rfl Tb.agg_101 m9z rfl) rfl ?_))
  refine zm rfl (zq (PV.sub rfl rfl om) rfl (zm rfl (TL.call rfl Tb.gofn_186 (fun a w hs => isWet_ok w s c v hhl om h63 _ (k : Int) om om (sq_60 hv om om)) rfl dc (fun _ _ => ?_))))
  refine zq (PV.pickT rfl rfl) rfl (zq (PV.pickF rfl rfl) rfl (zn (TC.cd rfl (fun g5 => ?_) (fun g5 => ?_))))
  refine zr (za rfl (zt (TQ.thenR (TQ.retE1 rfl rfl ?_))))
  have hE : actI s c ⟨1, [(k : Int)]⟩ = 6 := by rw [cut_e, if_neg g1, if_neg (by rw [g2]; decide), Int.toNat_natCast, if_pos (.inr ⟨g4, g5⟩)]
  have hC := chg_no (s := s) (c := c) (o := ⟨1, [(k : Int)]⟩) (by rw [hE]; decide)
  exact ⟨(v, []), by rw [hE], by rw [hC]; exact hT, by rw [hC]; exact s9z⟩
  refine TC.skip (TQ.thenN (TQ.midK () l9z l9z (List.sublist_append_right _ _) (by rw [cut_e, if_neg g1, if_neg (by rw [g2]; decide), Int.toNat_natCast]; refine if_neg ?_; rintro (h | h); (rw [hmem.1 (Decidable.not_not.1 g3)] at h; cases h); (first | (rw [g5] at h; exact absurd h.2 (by decide)) | exact absurd h.1 g4))))
  refine zx rfl (zx rfl (zx rfl (zx rfl (zx rfl (zx rfl (zx rfl (zq (PV.pickF rfl rfl) rfl (zq (PV.pickF rfl rfl) rfl (zn (TC.condF rfl (TC.skip (TQ.thenN (TQ.midK () l9z l9z (List.sublist_append_right _ _) (by rw [cut_e, if_neg g1, if_neg (by rw [g2]; decide), Int.toNat_natCast]; refine if_neg ?_; rintro (h | h); (rw [hmem.1 (Decidable.not_not.1 g3)] at h; cases h); (first | (rw [g5] at h; exact absurd h.2 (by decide)) | exact absurd h.1 g4)))))))))))))))
  intro x hE
  refine zr (zm rfl (zq (PV.nilCheck rfl) rfl (zq (PV.loadBox (cs := tyL c v) rfl Tb.agg_101 m9z rfl) rfl ?_)))
  refine TL.call rfl Tb.gofn_112 (fun a w hs => onHeaps_ok w c v (hT w (hs.new.sub (hZf.trans s9z))).at_ om (fun j => by have := hi.tb hv j; omega)) rfl dc (fun _ _ => ?_)
  refine za rfl (zn (TC.seq (TC.mixV [true, true, true, true, true, true, false, true, false, true, true, true, true, true, true, false] [(b0, Obj.cells (siL s u).toArray 90 (0, 0))] 16 Tb.mixed rfl kr kr kr kr s9z ?_)))
  refine zv 0 rfl kr (PV.move rfl) rfl (zv 1 rfl kr (PV.fieldAddr rfl Tb.fo_90_1) rfl (zv 2 rfl kr (PV.loadMid (cs := siL s u) (vs := [.slice u.pk s.K.length u.ck, .slice u.pg s.g.length u.cg]) rfl Tb.agg_27 m9z rfl rfl) rfl ?_))
  refine zv 3 rfl kr (PV.move rfl) rfl (zv 4 rfl kr (PV.nilCheck rfl) rfl (zv 5 rfl kr (PV.fieldAddr rfl Tb.fo_101_2) rfl (zv 7 rfl kr (PV.move rfl) rfl (TV.step [6] kr dc rfl ⟨⟨_, rfl, ?_⟩, trivial⟩))))
  refine zq (PV.load rfl Tb.one_25 m9z rfl) rfl ?_
  refine TL.nil (TV.next (.inl s9z) ?_)
  refine TV.step [8] kr dc rfl ⟨⟨_, rfl, ?_⟩, trivial⟩
  refine TL.call rfl Tb.gofn_187 (fun a w hs => drop_v w hv hi _ _ (hS w (hs.new.sub (hZf.trans s9z))).ak _ _ (hS w (hs.new.sub (hZf.trans s9z))).ag _ _ (hT w (hs.new.sub (hZf.trans s9z))).at_ k hkW) rfl dc (fun y hy => ?_)
  refine TL.nil (TV.next (.inl s9z) ?_)
  refine zv 9 rfl kr (PV.move rfl) rfl (zv 10 rfl kr (PV.extract rfl rfl) rfl (zv 11 rfl kr (PV.extract rfl rfl) rfl (zv 12 rfl kr (PV.extract rfl rfl) rfl (zv 13 rfl kr (PV.nilCheck rfl) rfl (zv 14 rfl kr (PV.fieldAddr rfl Tb.fo_101_2) rfl (TV.step [15] kr dc rfl ⟨⟨_, rfl, ?_⟩, trivial⟩))))))
  refine TL.store rfl rfl Tb.cells_25 rfl u9z d9z rfl rfl ?_
  refine TL.nil (TV.next (.inl s9z) ?_)
  refine TV.done kr ?_
  refine TQ.thenC (TC.seqK [1, 2, 3, 6, 9] (X := Unit) (fun x => True) (fun x => []) (fun x => gbI (y.1, drT s.K s.g c.tur (k : Int)) ++ ((b0, Obj.cells (siL s u).toArray 90 (0, 0)) :: (b, Obj.cells (tyL { c with tur := drT s.K s.g c.tur (k : Int), grd := c.grd + (sL c.tur + 1 - sL (drT s.K s.g c.tur (k : Int))) } { v with pt := gp y.1, ct := gc y.1 }).toArray 101 (0, 0)) :: Z)) ?_ ?_)
  have hdr := dr_facts hv hi hkW
  refine TC.sub (G' := gbI (y.1, drT s.K s.g c.tur (k : Int)) ++ ((b0, Obj.cells (siL s u).toArray 90 (0, 0)) :: (b, Obj.cells (tyL { c with tur := drT s.K s.g c.tur (k : Int) } { v with pt := gp y.1, ct := gc y.1 }).toArray 101 (0, 0)) :: Z)) (List.Sublist.refl _) ?_
  have hs1 := sL_5 hdr.len hv.hb.n.2 (hdr.bd hv)
  refine TC.mixV [true, true, true, true, false, true, true, true, true, false, false, true, true, true, true, true, false] [] 17 Tb.mixed rfl kr kr kr kr s9z ?_
  refine zv 0 rfl kr (PV.move rfl) rfl (zv 1 rfl kr (PV.nilCheck rfl) rfl (zv 2 rfl kr (PV.fieldAddr rfl Tb.fo_101_0) rfl (zv 3 rfl kr (PV.fieldAddr rfl Tb.fo_99_5) rfl (zv 5 rfl kr (PV.move rfl) rfl (zv 6 rfl kr (PV.add (i := sL c.tur) (j := 1) rfl rfl om) rfl (zv 7 rfl kr (PV.move rfl) rfl (zv 8 rfl kr (PV.nilCheck rfl) rfl (TV.step [4, 9] kr dc rfl ⟨⟨_, rfl, ?_⟩, ⟨_, rfl, ?_⟩, trivial⟩))))))))
  refine zq (PV.load rfl Tb.one_3 m9z rfl) rfl ?_
  refine TL.nil (TV.next (.inl s9z) ?_)
  refine TV.step [9] kr dc rfl ⟨⟨_, rfl, ?_⟩, trivial⟩
  refine zq (PV.loadBox (cs := tyL { c with tur := drT s.K s.g c.tur (k : Int) } { v with pt := gp y.1, ct := gc y.1 }) rfl Tb.agg_101 m9z rfl) rfl ?_
  refine TL.nil (TV.next (.inl s9z) ?_)
  refine TV.step [10] kr dc rfl ⟨⟨_, rfl, ?_⟩, trivial⟩
  refine TL.call rfl Tb.gofn_112 (fun a w hs => onHeaps_ok w { c with tur := drT s.K s.g c.tur (k : Int) } { v with pt := gp y.1, ct := gc y.1 } (tur_g hy (Z := []) w (hs.new.sub (by rw [List.append_nil]; exact List.sublist_append_left _ _))) (by show (drT s.K s.g c.tur (k : Int)).length ≤ _; have := hdr.len; have := hv.len; omega) (fun j => by have := hdr.bd hv j; show -1000000 ≤ (drT s.K s.g c.tur (k : Int)).getD j 0 ∧ (drT s.K s.g c.tur (k : Int)).getD j 0 ≤ 1000000; omega)) rfl dc (fun _ _ => ?_)
  refine TL.nil (TV.next (.inl s9z) ?_)
  refine zv 11 rfl kr (PV.sub (i := sL c.tur + 1) (j := sL (drT s.K s.g c.tur (k : Int))) rfl rfl om) rfl ?_
  refine zv 12 rfl kr (PV.add (i := c.grd) (j := sL c.tur + 1 - sL (drT s.K s.g c.tur (k : Int))) rfl rfl om) rfl ?_
  refine zv 13 rfl kr (PV.nilCheck rfl) rfl (zv 14 rfl kr (PV.fieldAddr rfl Tb.fo_101_0) rfl (zv 15 rfl kr (PV.fieldAddr rfl Tb.fo_99_5) rfl (TV.step [16] kr dc rfl ⟨⟨_, rfl, ?_⟩, trivial⟩)))
  refine TL.store rfl rfl Tb.cells_3 rfl u9z d9z rfl rfl ?_
  refine TL.nil (TV.next (.inl s9z) ?_)
  refine TV.done kr ?_
  refine TQ.thenN (TQ.midK () l9z l9z (List.Sublist.refl _) (by first | trivial | omega))
  refine zq (PV.loadBox (cs := tyL { c with tur := drT s.K s.g c.tur (k : Int) } { v with pt := gp y.1, ct := gc y.1 }) rfl Tb.agg_101 m9z rfl) rfl ?_
  refine TL.nil (TV.next (.inl s9z) ?_)
  refine TV.step [4, 10] kr dc rfl ⟨⟨_, rfl, ?_⟩, ⟨_, rfl, ?_⟩, trivial⟩
  refine zq (PV.load rfl Tb.one_3 m9z rfl) rfl ?_
  refine TL.nil (TV.next (.inl s9z) ?_)
  refine TV.step [10] kr dc rfl ⟨⟨_, rfl, ?_⟩, trivial⟩
  refine TL.call rfl Tb.gofn_112 (fun a w hs => onHeaps_ok w { c with tur := drT s.K s.g c.tur (k : Int) } { v with pt := gp y.1, ct := gc y.1 } (tur_g hy (Z := []) w (hs.new.sub (by rw [List.append_nil]; exact List.sublist_append_left _ _))) (by show (drT s.K s.g c.tur (k : Int)).length ≤ _; have := hdr.len; have := hv.len; omega) (fun j => by have := hdr.bd hv j; show -1000000 ≤ (drT s.K s.g c.tur (k : Int)).getD j 0 ∧ (drT s.K s.g c.tur (k : Int)).getD j 0 ≤ 1000000; omega)) rfl dc (fun _ _ => ?_)
  refine TL.nil (TV.next (.inl s9z) ?_)
  refine zv 11 rfl kr (PV.sub (i := sL c.tur + 1) (j := sL (drT s.K s.g c.tur (k : Int))) rfl rfl om) rfl ?_
  refine zv 12 rfl kr (PV.add (i := c.grd) (j := sL c.tur + 1 - sL (drT s.K s.g c.tur (k : Int))) rfl rfl om) rfl ?_
  refine zv 13 rfl kr (PV.nilCheck rfl) rfl (zv 14 rfl kr (PV.fieldAddr rfl Tb.fo_101_0) rfl (zv 15 rfl kr (PV.fieldAddr rfl Tb.fo_99_5) rfl (TV.step [16] kr dc rfl ⟨⟨_, rfl, ?_⟩, trivial⟩)))
  refine TL.store rfl rfl Tb.cells_3 rfl u9z d9z rfl rfl ?_
  refine TL.nil (TV.next (.inl s9z) ?_)
  refine TV.done kr ?_
  refine TQ.thenN (TQ.midK () l9z l9z (List.Sublist.refl _) (by first | trivial | omega))
  refine TL.call rfl Tb.gofn_112 (fun a w hs => onHeaps_ok w { c with tur := drT s.K s.g c.tur (k : Int) } { v with pt := gp y.1, ct := gc y.1 } (tur_g hy (Z := []) w (hs.new.sub (by rw [List.append_nil]; exact List.sublist_append_left _ _))) (by show (drT s.K s.g c.tur (k : Int)).length ≤ _; have := hdr.len; have := hv.len; omega) (fun j => by have := hdr.bd hv j; show -1000000 ≤ (drT s.K s.g c.tur (k : Int)).getD j 0 ∧ (drT s.K s.g c.tur (k : Int)).getD j 0 ≤ 1000000; omega)) rfl dc (fun _ _ => ?_)
  refine TL.nil (TV.next (.inl s9z) ?_)
  refine zv 11 rfl kr (PV.sub (i := sL c.tur + 1) (j := sL (drT s.K s.g c.tur (k : Int))) rfl rfl om) rfl ?_
  refine TV.step [4] kr dc rfl ⟨⟨_, rfl, ?_⟩, trivial⟩
  refine zq (PV.load rfl Tb.one_3 m9z rfl) rfl ?_
  refine TL.nil (TV.next (.inl s9z) ?_)
  refine zv 12 rfl kr (PV.add (i := c.grd) (j := sL c.tur + 1 - sL (drT s.K s.g c.tur (k : Int))) rfl rfl om) rfl ?_
  refine zv 13 rfl kr (PV.nilCheck rfl) rfl (zv 14 rfl kr (PV.fieldAddr rfl Tb.fo_101_0) rfl (zv 15 rfl kr (PV.fieldAddr rfl Tb.fo_99_5) rfl (TV.step [16] kr dc rfl ⟨⟨_, rfl, ?_⟩, trivial⟩)))
  refine TL.store rfl rfl Tb.cells_3 rfl u9z d9z rfl rfl ?_
  refine TL.nil (TV.next (.inl s9z) ?_)
  refine TV.done kr ?_
  refine TQ.thenN (TQ.midK () l9z l9z (List.Sublist.refl _) (by first | trivial | omega))
  intro x hx8
  refine TC.seq (TC.sub (G' := gbI (y.1, drT s.K s.g c.tur (k : Int)) ++ ((b0, Obj.cells (siL s u).toArray 90 (0, 0)) :: (b, Obj.cells (tyL { c with tur := drT s.K s.g c.tur (k : Int), grd := c.grd + (sL c.tur + 1 - sL (drT s.K s.g c.tur (k : Int))) } { v with pt := gp y.1, ct := gc y.1 }).toArray 101 (0, 0)) :: Z)) (List.Sublist.refl _) ?_)
  obtain ⟨q5, q5p, q5v⟩ := rows_now hS hNZ hkW
  obtain ⟨r9, hr9⟩ := Int.eq_ofNat_of_zero_le hat.1
  have htn : (c.hol.getD k 0).toNat = r9 := by omega
  have holt := op_lt hi (cut_0 hE)
  have hvb := hv.vb
  have hrl := hvb.c k hkW
  have hrw := hvb.w k r9
  obtain ⟨q6, q6p, q6v⟩ := ints_now (row_now hS hkW) hNZ (k := r9) (by omega)
  refine TC.region (zm rfl (zm rfl (zq (PV.nilCheck rfl) rfl (zq (PV.fieldAddr rfl Tb.fo_101_1) rfl (zq (PV.load rfl Tb.one_25 m9z rfl) rfl ?_)))))
  refine zm rfl (TL.call rfl Tb.gofn_188 (fun a w hs => plus_v w _ _ c.hol (hT w (hs.new.sub (hZf.trans s9z))).ah om k om 1 om om _ rfl) rfl dc (fun h2 hh2 => ?_))
  refine zq (PV.nilCheck rfl) rfl (zq (PV.fieldAddr rfl Tb.fo_101_1) rfl (TL.store rfl rfl Tb.cells_25 rfl u9z d9z rfl rfl ?_))
  refine zn (TC.seqK [1, 6] (X := Unit) (fun x => True) (fun x => []) (fun x => gbI (h2, c.hol.set k (c.hol.getD k 0 + 1)) ++ (gbI (y.1, drT s.K s.g c.tur (k : Int)) ++ ((b0, Obj.cells (siL s u).toArray 90 (0, 0)) :: (b, Obj.cells (tyL { c with tur := drT s.K s.g c.tur (k : Int), grd := c.grd + (sL c.tur + 1 - sL (drT s.K s.g c.tur (k : Int))), hol := c.hol.set k (c.hol.getD k 0 + 1), money := c.money + (s.W.getD k []).getD r9 0 } { ph := gp h2, ch := gc h2, pt := gp y.1, ct := gc y.1 }).toArray 101 (0, 0)) :: Z))) ?_ ?_)
  refine TC.sub (G' := gbI (h2, c.hol.set k (c.hol.getD k 0 + 1)) ++ (gbI (y.1, drT s.K s.g c.tur (k : Int)) ++ ((b0, Obj.cells (siL s u).toArray 90 (0, 0)) :: (b, Obj.cells (tyL { c with tur := drT s.K s.g c.tur (k : Int), grd := c.grd + (sL c.tur + 1 - sL (drT s.K s.g c.tur (k : Int))), hol := c.hol.set k (c.hol.getD k 0 + 1) } { ph := gp h2, ch := gc h2, pt := gp y.1, ct := gc y.1 }).toArray 101 (0, 0)) :: Z))) (List.Sublist.refl _) ?_
  refine TC.mixV [true, true, true, true, false, true, true, true, true, true, true, true, true, true, true, true, true, true, false] ((b0, Obj.cells (siL s u).toArray 90 (0, 0)) :: Z) 19 Tb.mixed rfl kr kr kr kr s9z ?_
  refine zv 0 rfl kr (PV.move rfl) rfl (zv 1 rfl kr (PV.nilCheck rfl) rfl (zv 2 rfl kr (PV.fieldAddr rfl Tb.fo_101_0) rfl (zv 3 rfl kr (PV.fieldAddr rfl Tb.fo_99_2) rfl (zv 5 rfl kr (PV.fieldAddr rfl Tb.fo_90_0) rfl (zv 6 rfl kr (PV.fieldAddr rfl Tb.fo_24_0) rfl (zv 7 rfl kr (PV.load rfl Tb.one_22 m9z rfl) rfl ?_))))))
  refine zv 8 rfl kr (PV.move rfl) rfl (zv 9 rfl kr (PV.indexA rfl q5p rfl Tb.elm_22 rfl om) rfl (zv 10 rfl kr (PV.loadN rfl Tb.one_25 (hZf.trans s9z) q5v) rfl ?_))
  refine zv 11 rfl kr (PV.move rfl) rfl (zv 12 rfl kr (PV.indexA (j := r9) rfl q6p rfl Tb.elm_25 hr9 om) rfl (zv 13 rfl kr (PV.loadN rfl Tb.one_3 (hZf.trans s9z) q6v) rfl ?_))
  refine TV.step [4] kr dc rfl ⟨⟨_, rfl, ?_⟩, trivial⟩
  refine zq (PV.load rfl Tb.one_3 m9z rfl) rfl ?_
  refine TL.nil (TV.next (.inl s9z) ?_)
  refine zv 14 rfl kr (PV.add (i := c.money) rfl rfl om) rfl (zv 15 rfl kr (PV.nilCheck rfl) rfl (zv 16 rfl kr (PV.fieldAddr rfl Tb.fo_101_0) rfl (zv 17 rfl kr (PV.fieldAddr rfl Tb.fo_99_2) rfl (TV.step [18] kr dc rfl ⟨⟨_, rfl, ?_⟩, trivial⟩))))
  refine TL.store rfl rfl Tb.cells_3 rfl u9z d9z rfl rfl ?_
  refine TL.nil (TV.next (.inl s9z) ?_)
  refine TV.done kr ?_
  refine TQ.thenN (TQ.midK () l9z l9z (List.Sublist.refl _) (by first | trivial | omega))
  intro x hx9
  refine TC.seq (TC.sub (G' := gbI (h2, c.hol.set k (c.hol.getD k 0 + 1)) ++ (gbI (y.1, drT s.K s.g c.tur (k : Int)) ++ ((b, Obj.cells (tyL { c with tur := drT s.K s.g c.tur (k : Int), grd := c.grd + (sL c.tur + 1 - sL (drT s.K s.g c.tur (k : Int))), hol := c.hol.set k (c.hol.getD k 0 + 1), money := c.money + (s.W.getD k []).getD r9 0 } { ph := gp h2, ch := gc h2, pt := gp y.1, ct := gc y.1 }).toArray 101 (0, 0)) :: Z))) (List.Sublist.append (List.Sublist.refl _) (List.Sublist.append (List.Sublist.refl _) (List.Sublist.cons _ (List.Sublist.refl _)))) ?_)
  refine TC.region (zm rfl (zq (PV.nilCheck rfl) rfl (zq (PV.fieldAddr rfl Tb.fo_101_0) rfl (zq (PV.fieldAddr rfl Tb.fo_99_3) rfl (zq (PV.load rfl Tb.one_3 m9z rfl) rfl ?_)))))
  refine zq (PV.add (i := c.cut) rfl rfl om) rfl (zq (PV.nilCheck rfl) rfl (zq (PV.fieldAddr rfl Tb.fo_101_0) rfl (zq (PV.fieldAddr rfl Tb.fo_99_3) rfl (TL.store rfl rfl Tb.cells_3 rfl u9z d9z rfl rfl ?_))))
  refine zn (TC.seq (TC.sub (G' := gbI (h2, c.hol.set k (c.hol.getD k 0 + 1)) ++ (gbI (y.1, drT s.K s.g c.tur (k : Int)) ++ ((b, Obj.cells (tyL { c with tur := drT s.K s.g c.tur (k : Int), grd := c.grd + (sL c.tur + 1 - sL (drT s.K s.g c.tur (k : Int))), hol := c.hol.set k (c.hol.getD k 0 + 1), money := c.money + (s.W.getD k []).getD r9 0, cut := c.cut + 1 } { ph := gp h2, ch := gc h2, pt := gp y.1, ct := gc y.1 }).toArray 101 (0, 0)) :: Z))) (List.Sublist.refl _) ?_))
  refine TC.perm (G' := (b, Obj.cells (tyL { c with tur := drT s.K s.g c.tur (k : Int), grd := c.grd + (sL c.tur + 1 - sL (drT s.K s.g c.tur (k : Int))), hol := c.hol.set k (c.hol.getD k 0 + 1), money := c.money + (s.W.getD k []).getD r9 0, cut := c.cut + 1 } { ph := gp h2, ch := gc h2, pt := gp y.1, ct := gc y.1 }).toArray 101 (0, 0)) :: (gbI (h2, c.hol.set k (c.hol.getD k 0 + 1)) ++ (gbI (y.1, drT s.K s.g c.tur (k : Int)) ++ Z))) (List.perm_middle.symm.trans (List.Perm.append_left _ List.perm_middle.symm)) ?_
  refine TC.region (za rfl (zt (TQ.retE1 rfl rfl ?_)))
  have hC := chg_yes (s := s) (c := c) (o := ⟨1, [(k : Int)]⟩) hE
  rw [cut_c, Int.toNat_natCast, htn] at hC
  exact ⟨({ ph := gp h2, ch := gc h2, pt := gp y.1, ct := gc y.1 }, gbI (h2, c.hol.set k (c.hol.getD k 0 + 1)) ++ gbI (y.1, drT s.K s.g c.tur (k : Int))), by rw [hE], by rw [hC]; exact fun w9 hn9 => ⟨tur_g hh2 (Z := []) w9 (hn9.sub (by rw [List.append_nil, List.append_assoc]; exact List.sublist_append_left _ _)), tur_g hy (Z := []) w9 (hn9.sub (by rw [List.append_nil, List.append_assoc]; exact (List.sublist_append_left _ _).trans (List.sublist_append_right _ _)))⟩, by rw [hC, List.append_assoc]; exact List.Sublist.refl _⟩
end Go.Proofs.YtbnjmkidbfmomaaGreatDoor
namespace Go.Proofs.YtbnjmkidbfmomaaGreatDoor
open Go.Sx Go.RowKit Go.Bt Go.Lib Go.Sand
def OdOk (o : Od) : Prop := (o.k = 0 ∧ o.ns.length = 0 ∨ o.k = 1 ∧ o.ns.length = 1 ∨ o.k = 2 ∧ o.ns.length = 2 ∨ o.k = 3 ∧ o.ns.length = 2 ∨ o.k = 4 ∧ o.ns.length = 0) ∧ ∀ j, 0 ≤ o.ns.getD j 0 ∧ o.ns.getD j 0 ≤ 999
theorem od_0 {o : Od} {k : Nat} (h : o.k = k) (h2 : o.ns.length = 0) : o = ⟨k, []⟩ := by
  obtain ⟨a, b⟩ := o
  simp only at h h2
  rw [h, List.length_eq_zero_iff.1 h2]
theorem od_1 {o : Od} {k : Nat} (h : o.k = k) (h2 : o.ns.length = 1) : o = ⟨k, [o.ns.getD 0 0]⟩ := by
  obtain ⟨a, b⟩ := o
  simp only at h h2
  obtain ⟨x, rfl⟩ := List.length_eq_one_iff.1 h2
  rw [h]; rfl
theorem od_2 {o : Od} {k : Nat} (h : o.k = k) (h2 : o.ns.length = 2) : o = ⟨k, [o.ns.getD 0 0, o.ns.getD 1 0]⟩ := by
  obtain ⟨a, b⟩ := o
  simp only at h h2
  match b, h2 with
  | [x, y], _ => rw [h]; rfl
set_option maxHeartbeats 1000000 in
theorem change_ok (w0 w : World) (s : St) (hv : SV s) (u : SU) (c : Co) (v : TV) (hi : Inv s c) (b : Nat) (Z : Heap) (hN : New w0 w ((b, .cells (tyL c v).toArray 101 (0, 0)) :: Z)) (Zf : Heap) (hZf : List.Sublist Zf Z) (hS : ∀ w9, New w0 w9 Zf → SiteAt w9 s u) (hT : ∀ w9, New w0 w9 Zf → TurAt w9 c v) (htz : M.TzAt w0) (o : Od) (ho : OdOk o) (pn : Option Addr) (cn : Nat) (hon : ∀ w9, New w0 w9 Zf → IntsAt w9 pn o.ns) :
    Calls Tryz.prog 103 #[.agg (siL s u).toArray, .pointer (some ⟨b, 0, none⟩), .agg #[.int .i64 (o.k : Nat), .slice pn o.ns.length cn]] w (Post (X := TV × Heap) (fun _ => .int .i64 (actI s c o)) (fun y => ∀ w9, New w0 w9 (y.2 ++ Zf) → TurAt w9 (chgC s c o) y.1) (fun y => (b, Obj.cells (tyL (chgC s c o) y.1).toArray 101 (0, 0)) :: (y.2 ++ Z)) w0) := by
  have hNZ := hN.sub (hZf.trans (List.sublist_cons_self _ _))
  have hob := ho.2
  have hok := ho.1
  refine callsM hN Tryz.func103 rfl (n := 52) rfl (by simp) ?_
  refine zr (TL.box rfl rfl dc (fun b0 hb0 => ?_))
  refine TL.box rfl rfl dc (fun b1 hb1 => ?_)
  refine za rfl (zn (TC.seq (zr (zq (PV.fieldAddr rfl Tb.fo_144_0) rfl (zq (PV.load rfl Tb.one_142 m9z rfl) rfl ?_)))))
  refine zn (TC.block (zr (zq (PV.eql rfl rfl) rfl (za rfl (zn (TC.cd rfl (fun k0 => ?_) (fun k0 => ?_)))))))
  refine TC.seq ?_
  have hoE := od_0 (o := o) (k := 0) (by omega) (by omega)
  refine TC.region (zq (PV.loadBox (cs := siL s u) rfl Tb.agg_90 m9z rfl) rfl ?_)
  refine zm rfl (TL.callW (X := TV × Heap) (fun _ => .int .i64 (actI s c o)) (fun y => ∀ w9, New w0 w9 (y.2 ++ Zf) → TurAt w9 (chgC s c o) y.1) (fun y => (b, Obj.cells (tyL (chgC s c o) y.1).toArray 101 (0, 0)) :: (y.2 ++ Z)) rfl Tb.gofn_150 (fun a w hs => (by have h9 := day_ok w0 w s hv u c v hi b Z (hs.new.sub (List.sublist_append_right [_, _] _)) Zf hZf hS hT htz; rw [← hoE] at h9; exact h9)) rfl dc (fun y hy => ?_))
  refine za rfl (zt (TQ.blkR (TQ.thenR (TQ.retE1 rfl rfl ?_))))
  exact ⟨y, rfl, hy, List.Sublist.refl _⟩
  refine zr (zq (PV.eql rfl rfl) rfl (za rfl (zn (TC.cd rfl (fun k1 => ?_) (fun k1 => ?_)))))
  refine TC.seq ?_
  have hoE := od_1 (o := o) (k := 1) (by omega) (by omega)
  obtain ⟨q0, q0p, q0v⟩ := ints_now hon hNZ (k := 0) (by omega)
  refine TC.draw 6 Tb.mixed kr ?_
  simp only [List.take_succ_cons, List.take_zero, List.drop_succ_cons, List.drop_zero]
  refine TS.pure (PV.loadBox (cs := siL s u) rfl Tb.agg_90 m9z rfl) rfl dc ?_
  refine TS.pure (PV.move rfl) rfl dc ?_
  refine TS.pure (PV.fieldAddr rfl Tb.fo_144_1) rfl dc ?_
  refine TS.pure (PV.load rfl Tb.one_25 m9z rfl) rfl dc ?_
  refine TS.pure (PV.indexA (j := 0) rfl q0p rfl Tb.elm_25 rfl om) rfl dc ?_
  refine TS.pure (PV.loadN rfl Tb.one_3 (hZf.trans s9z) q0v) rfl dc ?_
  refine TS.nil ?_
  refine TL.callW (X := TV × Heap) (fun _ => .int .i64 (actI s c o)) (fun y => ∀ w9, New w0 w9 (y.2 ++ Zf) → TurAt w9 (chgC s c o) y.1) (fun y => (b, Obj.cells (tyL (chgC s c o) y.1).toArray 101 (0, 0)) :: (y.2 ++ Z)) rfl Tb.gofn_151 (fun a w hs => (by have h9 := cut_ok w0 w s hv u c v hi b Z (hs.new.sub (List.sublist_append_right [_, _] _)) Zf hZf hS hT (o.ns.getD 0 0) (hob 0); rw [← hoE] at h9; exact h9)) rfl dc (fun y hy => ?_)
  refine za rfl (zt (TQ.blkR (TQ.thenR (TQ.retE1 rfl rfl ?_))))
  exact ⟨y, rfl, hy, List.Sublist.refl _⟩
  refine zr (zq (PV.eql rfl rfl) rfl (za rfl (zn (TC.cd rfl (fun k2 => ?_) (fun k2 => ?_)))))
  refine TC.seq ?_
  have hoE := od_2 (o := o) (k := 2) (by omega) (by omega)
  obtain ⟨q0, q0p, q0v⟩ := ints_now hon hNZ (k := 0) (by omega)
  obtain ⟨q1, q1p, q1v⟩ := ints_now hon hNZ (k := 1) (by omega)
  refine TC.draw 10 Tb.mixed kr ?_
  simp only [List.take_succ_cons, List.take_zero, List.drop_succ_cons, List.drop_zero]
  refine TS.pure (PV.loadBox (cs := siL s u) rfl Tb.agg_90 m9z rfl) rfl dc ?_
  refine TS.pure (PV.move rfl) rfl dc ?_
  refine TS.pure (PV.fieldAddr rfl Tb.fo_144_1) rfl dc ?_
  refine TS.pure (PV.load rfl Tb.one_25 m9z rfl) rfl dc ?_
  refine TS.pure (PV.indexA (j := 0) rfl q0p rfl Tb.elm_25 rfl om) rfl dc ?_
  refine TS.pure (PV.loadN rfl Tb.one_3 (hZf.trans s9z) q0v) rfl dc ?_
  refine TS.pure (PV.fieldAddr rfl Tb.fo_144_1) rfl dc ?_
  refine TS.pure (PV.load rfl Tb.one_25 m9z rfl) rfl dc ?_
  refine TS.pure (PV.indexA (j := 1) rfl q1p rfl Tb.elm_25 rfl om) rfl dc ?_
  refine TS.pure (PV.loadN rfl Tb.one_3 (hZf.trans s9z) q1v) rfl dc ?_
  refine TS.nil ?_
  refine TL.callW (X := TV × Heap) (fun _ => .int .i64 (actI s c o)) (fun y => ∀ w9, New w0 w9 (y.2 ++ Zf) → TurAt w9 (chgC s c o) y.1) (fun y => (b, Obj.cells (tyL (chgC s c o) y.1).toArray 101 (0, 0)) :: (y.2 ++ Z)) rfl Tb.gofn_152 (fun a w hs => (by have h9 := load_ok w0 w s hv u c v hi b Z (hs.new.sub (List.sublist_append_right [_, _] _)) Zf hZf hS hT (o.ns.getD 0 0) (o.ns.getD 1 0) (hob 0) (hob 1); rw [← hoE] at h9; exact h9)) rfl dc (fun y hy => ?_)
  refine za rfl (zt (TQ.blkR (TQ.thenR (TQ.retE1 rfl rfl ?_))))
  exact ⟨y, rfl, hy, List.Sublist.refl _⟩
  refine zr (zq (PV.eql rfl rfl) rfl (za rfl (zn (TC.cd rfl (fun k3 => ?_) (fun k3 => ?_)))))
  refine TC.seq ?_
  have hoE := od_2 (o := o) (k := 3) (by omega) (by omega)
  obtain ⟨q0, q0p, q0v⟩ := ints_now hon hNZ (k := 0) (by omega)
  obtain ⟨q1, q1p, q1v⟩ := ints_now hon hNZ (k := 1) (by omega)
  refine TC.draw 10 Tb.mixed kr ?_
  simp only [List.take_succ_cons, List.take_zero, List.drop_succ_cons, List.drop_zero]
  refine TS.pure (PV.loadBox (cs := siL s u) rfl Tb.agg_90 m9z rfl) rfl dc ?_
  refine TS.pure (PV.move rfl) rfl dc ?_
  refine TS.pure (PV.fieldAddr rfl Tb.fo_144_1) rfl dc ?_
  refine TS.pure (PV.load rfl Tb.one_25 m9z rfl) rfl dc ?_
  refine TS.pure (PV.indexA (j := 0) rfl q0p rfl Tb.elm_25 rfl om) rfl dc ?_
  refine TS.pure (PV.loadN rfl Tb.one_3 (hZf.trans s9z) q0v) rfl dc ?_
  refine TS.pure (PV.fieldAddr rfl Tb.fo_144_1) rfl dc ?_
  refine TS.pure (PV.load rfl Tb.one_25 m9z rfl) rfl dc ?_
  refine TS.pure (PV.indexA (j := 1) rfl q1p rfl Tb.elm_25 rfl om) rfl dc ?_
  refine TS.pure (PV.loadN rfl Tb.one_3 (hZf.trans s9z) q1v) rfl dc ?_
  refine TS.nil ?_
  refine TL.callW (X := TV × Heap) (fun _ => .int .i64 (actI s c o)) (fun y => ∀ w9, New w0 w9 (y.2 ++ Zf) → TurAt w9 (chgC s c o) y.1) (fun y => (b, Obj.cells (tyL (chgC s c o) y.1).toArray 101 (0, 0)) :: (y.2 ++ Z)) rfl Tb.gofn_153 (fun a w hs => (by have h9 := wet_ok w0 w s hv u c v hi b Z (hs.new.sub (List.sublist_append_right [_, _] _)) Zf hZf hS hT (o.ns.getD 0 0) (o.ns.getD 1 0) (hob 0) (hob 1); rw [← hoE] at h9; exact h9)) rfl dc (fun y hy => ?_)
  refine za rfl (zt (TQ.blkR (TQ.thenR (TQ.retE1 rfl rfl ?_))))
  exact ⟨y, rfl, hy, List.Sublist.refl _⟩
  refine TC.skip (TQ.blkN (TQ.thenC (TC.seq ?_)))
  have hoE := od_0 (o := o) (k := 4) (by omega) (by omega)
  refine TC.region (zq (PV.loadBox (cs := siL s u) rfl Tb.agg_90 m9z rfl) rfl ?_)
  refine zm rfl (TL.callW (X := TV × Heap) (fun _ => .int .i64 (actI s c o)) (fun y => ∀ w9, New w0 w9 (y.2 ++ Zf) → TurAt w9 (chgC s c o) y.1) (fun y => (b, Obj.cells (tyL (chgC s c o) y.1).toArray 101 (0, 0)) :: (y.2 ++ Z)) rfl Tb.gofn_154 (fun a w hs => (by have h9 := shut_ok w0 w s hv u c v hi b Z (hs.new.sub (List.sublist_append_right [_, _] _)) Zf hZf hS hT ; rw [← hoE] at h9; exact h9)) rfl dc (fun y hy => ?_))
  refine za rfl (zt (TQ.retE1 rfl rfl ?_))
  exact ⟨y, rfl, hy, List.Sublist.refl _⟩
theorem kindOf_ok (w0 : World) (L : List UInt8) :
    Calls Tryz.prog 148 #[str L] w0 (Post (X := Unit) (fun _ => .tuple #[.int .i64 (((kdF L).getD (0, 0)).1 : Nat), .int .i64 (((kdF L).getD (0, 0)).2 : Nat), .bool (kdF L).isSome]) (fun _ => True) (fun _ => []) w0) := by
  refine calls Tryz.func148 rfl (n := 16) rfl (by simp) ?_
  refine zr (za rfl (za rfl (za rfl (zn (TC.seq (zr (zm rfl (zn (TC.block (zr (zq (PV.eqS (M := dayB) rfl rfl) rfl (za rfl (zn (TC.cd rfl (fun e0 => ?_) (fun e0 => ?_)))))))))))))))
  refine zr (za rfl (za rfl (za rfl (zt (TQ.blkR (TQ.thenR (TQ.retE3 rfl rfl rfl rfl ?_)))))))
  have hk : kdF L = some (0, 0) := by unfold kdF; rw [if_pos e0]
  exact ⟨(), by rw [hk]; rfl, trivial, nils⟩
  refine zr (zq (PV.eqS (M := cutB) rfl rfl) rfl (za rfl (zn (TC.cd rfl (fun e1 => ?_) (fun e1 => ?_)))))
  refine zr (za rfl (za rfl (za rfl (zt (TQ.blkR (TQ.thenR (TQ.retE3 rfl rfl rfl rfl ?_)))))))
  have hk : kdF L = some (1, 1) := by unfold kdF; rw [if_neg e0, if_pos e1]
  exact ⟨(), by rw [hk]; rfl, trivial, nils⟩
  refine zr (zq (PV.eqS (M := loadB) rfl rfl) rfl (za rfl (zn (TC.cd rfl (fun e2 => ?_) (fun e2 => ?_)))))
  refine zr (za rfl (za rfl (za rfl (zt (TQ.blkR (TQ.thenR (TQ.retE3 rfl rfl rfl rfl ?_)))))))
  have hk : kdF L = some (2, 2) := by unfold kdF; rw [if_neg e0, if_neg e1, if_pos e2]
  exact ⟨(), by rw [hk]; rfl, trivial, nils⟩
  refine zr (zq (PV.eqS (M := wetB) rfl rfl) rfl (za rfl (zn (TC.cd rfl (fun e3 => ?_) (fun e3 => ?_)))))
  refine zr (za rfl (za rfl (za rfl (zt (TQ.blkR (TQ.thenR (TQ.retE3 rfl rfl rfl rfl ?_)))))))
  have hk : kdF L = some (3, 2) := by unfold kdF; rw [if_neg e0, if_neg e1, if_neg e2, if_pos e3]
  exact ⟨(), by rw [hk]; rfl, trivial, nils⟩
  refine zr (zq (PV.eqS (M := shutB) rfl rfl) rfl (za rfl (zn (TC.cd rfl (fun e4 => ?_) (fun e4 => ?_)))))
  refine zr (za rfl (za rfl (za rfl (zt (TQ.blkR (TQ.thenR (TQ.retE3 rfl rfl rfl rfl ?_)))))))
  have hk : kdF L = some (4, 0) := by unfold kdF; rw [if_neg e0, if_neg e1, if_neg e2, if_neg e3, if_pos e4]
  exact ⟨(), by rw [hk]; rfl, trivial, nils⟩
  refine TC.skip (TQ.blkN (TQ.thenC (zr (za rfl (za rfl (za rfl (zt (TQ.retE3 rfl rfl rfl rfl ?_))))))))
  have hk : kdF L = none := by unfold kdF; rw [if_neg e0, if_neg e1, if_neg e2, if_neg e3, if_neg e4]
  exact ⟨(), by rw [hk]; rfl, trivial, nils⟩
end Go.Proofs.YtbnjmkidbfmomaaGreatDoor
namespace Go.Proofs.YtbnjmkidbfmomaaGreatDoor
open Go.Sx Go.RowKit Go.Bt Go.Lib Go.Sand
def wrI (L : List (List UInt8)) : Int := if 100 < L.length then 3 else if L.all rightS = true then 0 else 1
theorem wr_100 {L : List (List UInt8)} (h : 100 < L.length) : wrI L = 3 := if_pos h
def wrL (dg : Int → List UInt8) (L : List (List UInt8)) : List UInt8 := if wrI L = 0 then (bookL dg L).2 else []
theorem Text_ok (w0 : World) (hW : WAt w0) (p : Option Addr) (c : Nat) (L : List (List UInt8)) (hL : StrsAt w0 p L) (h300 : L.length ≤ 300) (hs9 : ∀ j, (L.getD j []).length ≤ 400) :
    Calls Tryz.prog 41 #[.slice p L.length c] w0 (Post (X := Unit) (fun _ => str (bookL dI L).2) (fun _ => True) (fun _ => []) w0) := by
  refine calls Tryz.func41 rfl (n := 30) rfl (by simp) ?_
  refine zr (za rfl (zk (za rfl (zk (za rfl (zn (TC.seq (zr (za rfl (zn (TC.block (TC.loopK [0, 2] (X := Nat) (fun k => k ≤ L.length ∧ (bookL dI (L.take k)).2.length ≤ 500 * k) (fun k => [(5, .int .i64 (k : Nat)), (4, .int .i64 (bookL dI (L.take k)).1), (3, str (bookL dI (L.take k)).2)]) (fun k => []) (fun k => L.length - k) 0 ⟨Nat.zero_le _, Nat.zero_le _⟩ (by exact ⟨rfl, rfl, rfl, trivial⟩) s9z ?_))))))))))))
  intro k hk
  have hk1 := hk.1
  refine TC.seq (zr (zm rfl (zm rfl (zq (PV.len rfl Tb.sl_43) rfl (zq (PV.lss rfl rfl) rfl (zn (TC.cd rfl (fun hlt => ?_) (fun hlt => ?_))))))))
  refine TC.skip (TQ.thenC (TC.seq (TC.block (TC.seq ?_))))
  obtain ⟨q, qp, qv⟩ := hL k (by omega)
  have h3 := hs9 k
  have h2 := dI_len (smV_bd (bookL dI (L.take k)).1 (L.getD k [])).1 (smV_bd _ _).2
  have h1 := hk.2
  refine TC.region (zm rfl (zm rfl (zm rfl (zq (PV.indexA rfl qp rfl Tb.elm_43 rfl om) rfl (zq (PV.loadOld rfl Tb.one_9 qv) rfl (TL.call rfl Tb.gofn_47 (fun a w hs => rSum_ok w (bookL dI (L.take k)).1 (by have := bookL_bd (dg := dI) (L.take k); omega) (L.getD k []) om) rfl dc (fun _ _ => ?_)))))))
  refine za rfl (zn (TC.mixV [false, true, false, true, true, true, true, true, true, true, true, false] _ 12 Tb.mixed rfl kr kr kr kr (List.Sublist.refl _) ?_))
  refine zv 1 rfl kr (PV.move rfl) rfl (zv 4 rfl kr (PV.move rfl) rfl (zv 5 rfl kr (PV.move rfl) rfl (zv 6 rfl kr (PV.indexA rfl qp rfl Tb.elm_43 rfl om) rfl (zv 7 rfl kr (PV.loadOld rfl Tb.one_9 qv) rfl (TV.step [0, 2] kr dc rfl ⟨⟨_, rfl, ?_⟩, ⟨_, rfl, ?_⟩, trivial⟩)))))
  refine zm rfl (TL.nil (TV.next (.inl s9z) ?_))
  refine TV.step [2] kr dc rfl ⟨⟨_, rfl, ?_⟩, trivial⟩
  refine TL.call rfl Tb.gofn_78 (fun a w hs => itoa_ok w (hW.new hs.new) _ (by have := (smV_bd (bookL dI (L.take k)).1 (L.getD k [])).1; omega) (by have := (smV_bd (bookL dI (L.take k)).1 (L.getD k [])).2; omega)) rfl dc (fun _ _ => ?_)
  refine TL.nil (TV.next (.inl s9z) ?_)
  refine zv 3 rfl kr (PV.addS (M := [32]) rfl rfl (by simp only [List.length_append, List.length_cons, List.length_nil]; omega)) rfl ?_
  refine zv 8 rfl kr (PV.addS rfl rfl (by simp only [List.length_append, List.length_cons, List.length_nil]; omega)) rfl ?_
  refine zv 9 rfl kr (PV.addS (M := [10]) rfl rfl (by simp only [List.length_append, List.length_cons, List.length_nil]; omega)) rfl ?_
  refine zv 10 rfl kr (PV.addS rfl rfl (by simp only [List.length_append, List.length_cons, List.length_nil]; omega)) rfl ?_
  refine TV.step [11] kr dc rfl ⟨⟨_, rfl, ?_⟩, trivial⟩
  refine za rfl (TL.nil (TV.next (.inr kr) ?_))
  refine TV.done kr ?_
  refine TQ.blkN (TQ.thenC ?_)
  have hnx := bookL_next (dg := dI) (show k < L.length by omega)
  refine TC.region (zm rfl (zq (PV.add rfl rfl om) rfl (za rfl (TL.nil (TQ.thenN (TQ.backK (k + 1) (by rw [hnx]; exact ⟨rfl, rfl, rfl, trivial⟩) l9z s9z ⟨by omega, by rw [hnx]; unfold bookF pageL; simp only [List.length_append, List.length_cons, List.length_nil]; omega⟩ om))))))
  refine TL.call rfl Tb.gofn_78 (fun a w hs => itoa_ok w (hW.new hs.new) _ (by have := (smV_bd (bookL dI (L.take k)).1 (L.getD k [])).1; omega) (by have := (smV_bd (bookL dI (L.take k)).1 (L.getD k [])).2; omega)) rfl dc (fun _ _ => ?_)
  refine TL.nil (TV.next (.inl s9z) ?_)
  refine zv 3 rfl kr (PV.addS (M := [32]) rfl rfl (by simp only [List.length_append, List.length_cons, List.length_nil]; omega)) rfl ?_
  refine zv 8 rfl kr (PV.addS rfl rfl (by simp only [List.length_append, List.length_cons, List.length_nil]; omega)) rfl ?_
  refine zv 9 rfl kr (PV.addS (M := [10]) rfl rfl (by simp only [List.length_append, List.length_cons, List.length_nil]; omega)) rfl ?_
  refine TV.step [0] kr dc rfl ⟨⟨_, rfl, ?_⟩, trivial⟩
  refine zm rfl (TL.nil (TV.next (.inl s9z) ?_))
  refine zv 10 rfl kr (PV.addS rfl rfl (by simp only [List.length_append, List.length_cons, List.length_nil]; omega)) rfl ?_
  refine TV.step [11] kr dc rfl ⟨⟨_, rfl, ?_⟩, trivial⟩
  refine za rfl (TL.nil (TV.next (.inr kr) ?_))
  refine TV.done kr ?_
  refine TQ.blkN (TQ.thenC ?_)
  have hnx := bookL_next (dg := dI) (show k < L.length by omega)
  refine TC.region (zm rfl (zq (PV.add rfl rfl om) rfl (za rfl (TL.nil (TQ.thenN (TQ.backK (k + 1) (by rw [hnx]; exact ⟨rfl, rfl, rfl, trivial⟩) l9z s9z ⟨by omega, by rw [hnx]; unfold bookF pageL; simp only [List.length_append, List.length_cons, List.length_nil]; omega⟩ om))))))
  refine TC.exit (TQ.thenE (TQ.thenE (TQ.blkS (TQ.thenC (TC.seq ?_)))))
  have hke : k = L.length := by omega
  refine TC.region (zm rfl (za rfl (zt (TQ.retE1 rfl rfl ?_))))
  exact ⟨(), by rw [hke, List.take_length], trivial, nils⟩
end Go.Proofs.YtbnjmkidbfmomaaGreatDoor
