/- What an order changes, going on: contracts. -/
import Derived.Test.YtbnjmkidbfmomaaGreatDoorQXc
set_option linter.unusedVariables false
set_option linter.unusedSimpArgs false
namespace Go.Proofs.YtbnjmkidbfmomaaGreatDoor
open Go.Sx Go.RowKit Go.Bt Go.Lib Go.Sand

theorem sq_60 {s : St} (hv : SV s) {r k : Int} (hr : 0 ≤ r ∧ r < C.dep s.W) (hk : 0 ≤ k ∧ k < s.W.length) : s.sq r k ≤ 60 := by
  obtain ⟨r9, rfl⟩ := Int.eq_ofNat_of_zero_le hr.1
  obtain ⟨k9, rfl⟩ := Int.eq_ofNat_of_zero_le hk.1
  have := sq_lt (s := s) (r := r9) (c := k9) (by omega) (by omega)
  have := hv.N36
  omega
theorem cut_0 {s : St} {c : Co} {k : Nat} (h : actI s c ⟨1, [(k : Int)]⟩ = 0) : C.opB s.W (C.pad6 c.hol) k = true := by
  rw [cut_e, Int.toNat_natCast] at h
  split at h
  · cases h
  split at h
  · cases h
  split at h
  · cases h
  rename_i h3
  cases h9 : C.opB s.W (C.pad6 c.hol) k with
  | true => rfl
  | false => exact absurd (Or.inl h9) h3
theorem op_lt {s : St} {c : Co} (hi : Inv s c) {k : Nat} (h : C.opB s.W (C.pad6 c.hol) k = true) : c.hol.getD k 0 < C.dep s.W := by
  have h1 := C.op_ne h
  rw [C.pad_at] at h1
  have := hi.ho.toNB.at_ k
  omega
theorem pad_hol {s : St} {c : Co} {k : Nat} (hk : k < s.W.length) : ((k : Int) ∈ opL s c) ↔ C.opB s.W (C.pad6 c.hol) k = true := by
  have := C.mem_op (ls := s.W) (xs := C.pad6 c.hol) (n := s.W.length) (v := (k : Int)) (by omega) (by omega)
  rw [Int.toNat_natCast] at this
  exact this

set_option maxRecDepth 100000 in
theorem wet_ok (w0 w : World) (s : St) (hv : SV s) (u : SU) (c : Co) (v : TV) (hi : Inv s c) (b : Nat) (Z : Heap) (hN : New w0 w ((b, .cells (tyL c v).toArray 101 (0, 0)) :: Z)) (Zf : Heap) (hZf : List.Sublist Zf Z) (hS : ∀ w9, New w0 w9 Zf → SiteAt w9 s u) (hT : ∀ w9, New w0 w9 Zf → TurAt w9 c v) (r k : Int) (hr : 0 ≤ r ∧ r ≤ 999) (hk : 0 ≤ k ∧ k ≤ 999) :
    Calls Tryz.prog 153 #[.agg (siL s u).toArray, .pointer (some ⟨b, 0, none⟩), .int .i64 r, .int .i64 k] w (Post (X := TV × Heap) (fun _ => .int .i64 (actI s c ⟨3, [r, k]⟩)) (fun y => ∀ w9, New w0 w9 (y.2 ++ Zf) → TurAt w9 (chgC s c ⟨3, [r, k]⟩) y.1) (fun y => (b, Obj.cells (tyL (chgC s c ⟨3, [r, k]⟩) y.1).toArray 101 (0, 0)) :: (y.2 ++ Z)) w0) := by
  have hNZ := hN.sub (hZf.trans (List.sublist_cons_self _ _))
  have hwl := hi.wl
  have h63 := wet63 hv hwl
  have hbn := hi.bnd hv
  have h5 := hv.n5
  have h4 := hv.d4
  have hhl := hi.hl
  have htl := hi.tl' hv
  have hbm := hbn.bm
  have hbl := hbn.bl
  have hbg := hbn.bg
  have hbd := hbn.bd
  have hbc := hbn.bc
  have hbt := hbn.bt
  have hbh := hbn.bh
  refine callsM hN Tryz.func153 rfl (n := 52) rfl (by simp) ?_
  refine TC.seq ?_
  refine TC.region ?_
  refine TL.box rfl rfl (by decide) (fun b0 hb0 => ?_)
  refine TL.pure (PV.assign rfl) rfl (by decide) ?_
  refine TL.nil ?_
  refine TQ.thenC ?_
  refine TC.seq ?_
  refine TC.seq ?_
  refine TC.region ?_
  refine TL.pure (PV.move rfl) rfl (by decide) ?_
  refine TL.pure (PV.fieldAddr rfl Tb.fo_90_2) rfl (by decide) ?_
  refine TL.pure (PV.fieldAddr rfl Tb.fo_52_0) rfl (by decide) ?_
  refine TL.pure (PV.load rfl Tb.one_3 (by repeat (first | exact List.Mem.head _ | refine List.Mem.tail _ ?_ | refine List.mem_append_right _ ?_)) rfl) rfl (by decide) ?_
  refine TL.pure (PV.geq rfl rfl) rfl (by decide) ?_
  refine TL.pure (PV.move rfl) rfl (by decide) ?_
  first | refine TL.splitD 14 rfl (fun g0 => ?_) (fun g0 => ?_) | refine TL.split 14 rfl (fun g0 => ?_) (fun g0 => ?_)
  refine TL.skip rfl (fun k hk => by cases hk; decide) ?_
  refine TL.skip rfl (fun k hk => by cases hk; decide) ?_
  refine TL.skip rfl (fun k hk => by cases hk; decide) ?_
  refine TL.skip rfl (fun k hk => by cases hk; decide) ?_
  refine TL.skip rfl (fun k hk => by cases hk; decide) ?_
  refine TL.pure (PV.pickT rfl rfl) rfl (by decide) ?_
  refine TL.nil ?_
  refine TQ.thenC ?_
  refine TC.condT rfl ?_
  refine TC.seq ?_
  refine TC.region ?_
  refine TL.pure (PV.assign rfl) rfl (by decide) ?_
  refine TL.nil ?_
  refine TQ.thenC ?_
  refine TC.ret ?_
  refine TQ.thenR ?_
  refine TQ.retE1 rfl rfl ?_
  have hE : actI s c ⟨3, [r, k]⟩ = 4 := by rw [wet_e, if_pos (by omega)]
  have hC := chg_no (s := s) (c := c) (o := ⟨3, [r, k]⟩) (by rw [hE]; decide)
  exact ⟨(v, []), by rw [hE], by rw [hC]; exact hT, by rw [hC]; exact (by repeat (first | exact .slnil | exact List.nil_sublist _ | exact .refl _ | refine .cons_cons _ ?_ | refine .cons _ ?_ | refine .trans ?_ (List.sublist_append_right _ _)))⟩
  refine TL.pure (PV.move rfl) rfl (by decide) ?_
  refine TL.pure (PV.fieldAddr rfl Tb.fo_90_2) rfl (by decide) ?_
  refine TL.pure (PV.fieldAddr rfl Tb.fo_52_1) rfl (by decide) ?_
  refine TL.pure (PV.load rfl Tb.one_3 (by repeat (first | exact List.Mem.head _ | refine List.Mem.tail _ ?_ | refine List.mem_append_right _ ?_)) rfl) rfl (by decide) ?_
  refine TL.pure (PV.geq rfl rfl) rfl (by decide) ?_
  refine TL.pure (PV.pickF rfl rfl) rfl (by decide) ?_
  refine TL.nil ?_
  refine TQ.thenC ?_
  first | refine TC.condD rfl (fun g1 => ?_) (fun g1 => ?_) | refine TC.cond rfl (fun g1 => ?_) (fun g1 => ?_)
  refine TC.seq ?_
  refine TC.region ?_
  refine TL.pure (PV.assign rfl) rfl (by decide) ?_
  refine TL.nil ?_
  refine TQ.thenC ?_
  refine TC.ret ?_
  refine TQ.thenR ?_
  refine TQ.retE1 rfl rfl ?_
  have hE : actI s c ⟨3, [r, k]⟩ = 4 := by rw [wet_e, if_pos (by omega)]
  have hC := chg_no (s := s) (c := c) (o := ⟨3, [r, k]⟩) (by rw [hE]; decide)
  exact ⟨(v, []), by rw [hE], by rw [hC]; exact hT, by rw [hC]; exact (by repeat (first | exact .slnil | exact List.nil_sublist _ | exact .refl _ | refine .cons_cons _ ?_ | refine .cons _ ?_ | refine .trans ?_ (List.sublist_append_right _ _)))⟩
  refine TC.skip ?_
  refine TQ.thenC ?_
  refine TC.seq ?_
  refine TC.seq ?_
  obtain ⟨k, rfl⟩ := Int.eq_ofNat_of_zero_le hk.1
  obtain ⟨q, qp, qv⟩ := ints_now (fun w9 h9 => (hT w9 h9).ah) hNZ (k := k) (by omega)
  have hat := hi.ho.toNB.at_ k
  refine TC.region ?_
  refine TL.pure (PV.move rfl) rfl (by decide) ?_
  refine TL.pure (PV.move rfl) rfl (by decide) ?_
  refine TL.pure (PV.nilCheck rfl) rfl (by decide) ?_
  refine TL.pure (PV.fieldAddr rfl Tb.fo_101_1) rfl (by decide) ?_
  refine TL.pure (PV.load rfl Tb.one_25 (by repeat (first | exact List.Mem.head _ | refine List.Mem.tail _ ?_ | refine List.mem_append_right _ ?_)) rfl) rfl (by decide) ?_
  refine TL.pure (PV.move rfl) rfl (by decide) ?_
  refine TL.pure (PV.indexA rfl qp rfl Tb.elm_25 rfl (by omega)) rfl (by decide) ?_
  refine TL.pure (PV.loadN rfl Tb.one_3 (hZf.trans (by repeat (first | exact .slnil | exact List.nil_sublist _ | exact .refl _ | refine .cons_cons _ ?_ | refine .cons _ ?_ | refine .trans ?_ (List.sublist_append_right _ _)))) qv) rfl (by decide) ?_
  refine TL.pure (PV.geq rfl rfl) rfl (by decide) ?_
  refine TL.nil ?_
  refine TQ.thenC ?_
  first | refine TC.condD rfl (fun g2 => ?_) (fun g2 => ?_) | refine TC.cond rfl (fun g2 => ?_) (fun g2 => ?_)
  refine TC.seq ?_
  refine TC.region ?_
  refine TL.pure (PV.assign rfl) rfl (by decide) ?_
  refine TL.nil ?_
  refine TQ.thenC ?_
  refine TC.ret ?_
  refine TQ.thenR ?_
  refine TQ.retE1 rfl rfl ?_
  have hE : actI s c ⟨3, [r, (k : Int)]⟩ = 8 := by rw [wet_e, if_neg (by omega), Int.toNat_natCast, if_pos g2]
  have hC := chg_no (s := s) (c := c) (o := ⟨3, [r, (k : Int)]⟩) (by rw [hE]; decide)
  exact ⟨(v, []), by rw [hE], by rw [hC]; exact hT, by rw [hC]; exact (by repeat (first | exact .slnil | exact List.nil_sublist _ | exact .refl _ | refine .cons_cons _ ?_ | refine .cons _ ?_ | refine .trans ?_ (List.sublist_append_right _ _)))⟩
  refine TC.skip ?_
  refine TQ.thenC ?_
  refine TC.seq ?_
  refine TC.seq ?_
  have hq60 := sq_60 hv (r := r) (k := (k : Int)) (by omega) (by omega)
  refine TC.region ?_
  refine TL.pure (PV.move rfl) rfl (by decide) ?_
  refine TL.pure (PV.nilCheck rfl) rfl (by decide) ?_
  refine TL.pure (PV.loadBox (cs := tyL c v) rfl Tb.agg_101 (by repeat (first | exact List.Mem.head _ | refine List.Mem.tail _ ?_ | refine List.mem_append_right _ ?_)) rfl) rfl (by decide) ?_
  refine TL.pure (PV.move rfl) rfl (by decide) ?_
  refine TL.pure (PV.move rfl) rfl (by decide) ?_
  refine TL.call rfl Tb.gofn_186 (fun a w hs => isWet_ok w s c v hhl (by omega) h63 r (k : Int) (by omega) (by omega) hq60) rfl (by decide) (fun _ _ => ?_)
  refine TL.nil ?_
  refine TQ.thenC ?_
  first | refine TC.condD rfl (fun g3 => ?_) (fun g3 => ?_) | refine TC.cond rfl (fun g3 => ?_) (fun g3 => ?_)
  refine TC.seq ?_
  refine TC.region ?_
  refine TL.pure (PV.assign rfl) rfl (by decide) ?_
  refine TL.nil ?_
  refine TQ.thenC ?_
  refine TC.ret ?_
  refine TQ.thenR ?_
  refine TQ.retE1 rfl rfl ?_
  have hE : actI s c ⟨3, [r, (k : Int)]⟩ = 5 := by rw [wet_e, if_neg (by omega), Int.toNat_natCast, if_neg g2, if_pos g3]
  have hC := chg_no (s := s) (c := c) (o := ⟨3, [r, (k : Int)]⟩) (by rw [hE]; decide)
  exact ⟨(v, []), by rw [hE], by rw [hC]; exact hT, by rw [hC]; exact (by repeat (first | exact .slnil | exact List.nil_sublist _ | exact .refl _ | refine .cons_cons _ ?_ | refine .cons _ ?_ | refine .trans ?_ (List.sublist_append_right _ _)))⟩
  refine TC.skip ?_
  refine TQ.thenC ?_
  refine TC.seq ?_
  refine TC.mixV [true, true, true, true, false, true, true, false, true, true, false, true, true, true, true, true, false] [] 17 Tb.mixed rfl (by kernel_rfl) (by kernel_rfl) (by kernel_rfl) (by kernel_rfl) (by repeat (first | exact .slnil | exact List.nil_sublist _ | exact .refl _ | refine .cons_cons _ ?_ | refine .cons _ ?_ | refine .trans ?_ (List.sublist_append_right _ _))) ?_
  refine TV.virt 0 rfl rfl (by decide) rfl (by kernel_rfl) (SOK.pure (PV.move rfl) rfl) ?_
  refine TV.virt 1 rfl rfl (by decide) rfl (by kernel_rfl) (SOK.pure (PV.nilCheck rfl) rfl) ?_
  refine TV.virt 2 rfl rfl (by decide) rfl (by kernel_rfl) (SOK.pure (PV.fieldAddr rfl Tb.fo_101_0) rfl) ?_
  refine TV.virt 3 rfl rfl (by decide) rfl (by kernel_rfl) (SOK.pure (PV.fieldAddr rfl Tb.fo_99_1) rfl) ?_
  refine TV.virt 5 rfl rfl (by decide) rfl (by kernel_rfl) (SOK.pure (PV.move rfl) rfl) ?_
  refine TV.virt 6 rfl rfl (by decide) rfl (by kernel_rfl) (SOK.pure (PV.nilCheck rfl) rfl) ?_
  refine TV.virt 8 rfl rfl (by decide) rfl (by kernel_rfl) (SOK.pure (PV.move rfl) rfl) ?_
  refine TV.virt 9 rfl rfl (by decide) rfl (by kernel_rfl) (SOK.pure (PV.move rfl) rfl) ?_
  refine TV.step [4, 7] (by kernel_rfl) (by decide) rfl ⟨⟨_, rfl, ?_⟩, ⟨_, rfl, ?_⟩, trivial⟩
  refine TL.pure (PV.load rfl Tb.one_3 (by repeat (first | exact List.Mem.head _ | refine List.Mem.tail _ ?_ | refine List.mem_append_right _ ?_)) rfl) rfl (by decide) ?_
  refine TL.nil ?_
  refine TV.next (.inl (by repeat (first | exact .slnil | exact List.nil_sublist _ | exact .refl _ | refine .cons_cons _ ?_ | refine .cons _ ?_ | refine .trans ?_ (List.sublist_append_right _ _)))) ?_
  refine TV.step [7] (by kernel_rfl) (by decide) rfl ⟨⟨_, rfl, ?_⟩, trivial⟩
  refine TL.pure (PV.loadBox (cs := tyL c v) rfl Tb.agg_101 (by repeat (first | exact List.Mem.head _ | refine List.Mem.tail _ ?_ | refine List.mem_append_right _ ?_)) rfl) rfl (by decide) ?_
  refine TL.nil ?_
  refine TV.next (.inl (by repeat (first | exact .slnil | exact List.nil_sublist _ | exact .refl _ | refine .cons_cons _ ?_ | refine .cons _ ?_ | refine .trans ?_ (List.sublist_append_right _ _)))) ?_
  refine TV.step [10] (by kernel_rfl) (by decide) rfl ⟨⟨_, rfl, ?_⟩, trivial⟩
  refine TL.call rfl Tb.gofn_160 (fun a w hs => square_ok w s c v hhl (by omega) r (k : Int) (by omega) (by omega)) rfl (by decide) (fun _ _ => ?_)
  refine TL.nil ?_
  refine TV.next (.inl (by repeat (first | exact .slnil | exact List.nil_sublist _ | exact .refl _ | refine .cons_cons _ ?_ | refine .cons _ ?_ | refine .trans ?_ (List.sublist_append_right _ _)))) ?_
  refine TV.virt 11 rfl rfl (by decide) rfl (by kernel_rfl) (SOK.pure (M.PV.shlK rfl rfl (by omega) (by omega) (M.shl_nat hq60)) rfl) ?_
  refine TV.virt 12 rfl rfl (by decide) rfl (by kernel_rfl) (SOK.pure (M.PV.orK rfl rfl (M.or_nat h63 (M.p63 (by omega)))) rfl) ?_
  refine TV.virt 13 rfl rfl (by decide) rfl (by kernel_rfl) (SOK.pure (PV.nilCheck rfl) rfl) ?_
  refine TV.virt 14 rfl rfl (by decide) rfl (by kernel_rfl) (SOK.pure (PV.fieldAddr rfl Tb.fo_101_0) rfl) ?_
  refine TV.virt 15 rfl rfl (by decide) rfl (by kernel_rfl) (SOK.pure (PV.fieldAddr rfl Tb.fo_99_1) rfl) ?_
  refine TV.step [16] (by kernel_rfl) (by decide) rfl ⟨⟨_, rfl, ?_⟩, trivial⟩
  refine TL.store rfl rfl Tb.cells_3 rfl (by repeat (first | exact Upd.head _ | apply Upd.tail | apply Upd.appR)) (by first | decide | (simp; done) | (simp; omega) | omega) rfl rfl ?_
  refine TL.nil ?_
  refine TV.next (.inl (by repeat (first | exact .slnil | exact List.nil_sublist _ | exact .refl _ | refine .cons_cons _ ?_ | refine .cons _ ?_ | refine .trans ?_ (List.sublist_append_right _ _)))) ?_
  refine TV.done (by kernel_rfl) ?_
  refine TQ.thenC ?_
  refine TC.seq ?_
  refine TC.region ?_
  refine TL.pure (PV.assign rfl) rfl (by decide) ?_
  refine TL.nil ?_
  refine TQ.thenC ?_
  refine TC.ret ?_
  refine TQ.retE1 rfl rfl ?_
  have hE : actI s c ⟨3, [r, (k : Int)]⟩ = 0 := by rw [wet_e, if_neg (by omega), Int.toNat_natCast, if_neg g2, if_neg (by rw [g3]; decide)]
  have hC := chg_yes (s := s) (c := c) (o := ⟨3, [r, (k : Int)]⟩) hE
  rw [wet_c] at hC
  exact ⟨(v, []), by rw [hE], by rw [hC]; exact fun w9 hn => ⟨(hT w9 hn).ah, (hT w9 hn).at_⟩, by rw [hC]; exact (by repeat (first | exact .slnil | exact List.nil_sublist _ | exact .refl _ | refine .cons_cons _ ?_ | refine .cons _ ?_ | refine .trans ?_ (List.sublist_append_right _ _)))⟩
  refine TL.pure (PV.loadBox (cs := tyL c v) rfl Tb.agg_101 (by repeat (first | exact List.Mem.head _ | refine List.Mem.tail _ ?_ | refine List.mem_append_right _ ?_)) rfl) rfl (by decide) ?_
  refine TL.nil ?_
  refine TV.next (.inl (by repeat (first | exact .slnil | exact List.nil_sublist _ | exact .refl _ | refine .cons_cons _ ?_ | refine .cons _ ?_ | refine .trans ?_ (List.sublist_append_right _ _)))) ?_
  refine TV.step [4, 10] (by kernel_rfl) (by decide) rfl ⟨⟨_, rfl, ?_⟩, ⟨_, rfl, ?_⟩, trivial⟩
  refine TL.pure (PV.load rfl Tb.one_3 (by repeat (first | exact List.Mem.head _ | refine List.Mem.tail _ ?_ | refine List.mem_append_right _ ?_)) rfl) rfl (by decide) ?_
  refine TL.nil ?_
  refine TV.next (.inl (by repeat (first | exact .slnil | exact List.nil_sublist _ | exact .refl _ | refine .cons_cons _ ?_ | refine .cons _ ?_ | refine .trans ?_ (List.sublist_append_right _ _)))) ?_
  refine TV.step [10] (by kernel_rfl) (by decide) rfl ⟨⟨_, rfl, ?_⟩, trivial⟩
  refine TL.call rfl Tb.gofn_160 (fun a w hs => square_ok w s c v hhl (by omega) r (k : Int) (by omega) (by omega)) rfl (by decide) (fun _ _ => ?_)
  refine TL.nil ?_
  refine TV.next (.inl (by repeat (first | exact .slnil | exact List.nil_sublist _ | exact .refl _ | refine .cons_cons _ ?_ | refine .cons _ ?_ | refine .trans ?_ (List.sublist_append_right _ _)))) ?_
  refine TV.virt 11 rfl rfl (by decide) rfl (by kernel_rfl) (SOK.pure (M.PV.shlK rfl rfl (by omega) (by omega) (M.shl_nat hq60)) rfl) ?_
  refine TV.virt 12 rfl rfl (by decide) rfl (by kernel_rfl) (SOK.pure (M.PV.orK rfl rfl (M.or_nat h63 (M.p63 (by omega)))) rfl) ?_
  refine TV.virt 13 rfl rfl (by decide) rfl (by kernel_rfl) (SOK.pure (PV.nilCheck rfl) rfl) ?_
  refine TV.virt 14 rfl rfl (by decide) rfl (by kernel_rfl) (SOK.pure (PV.fieldAddr rfl Tb.fo_101_0) rfl) ?_
  refine TV.virt 15 rfl rfl (by decide) rfl (by kernel_rfl) (SOK.pure (PV.fieldAddr rfl Tb.fo_99_1) rfl) ?_
  refine TV.step [16] (by kernel_rfl) (by decide) rfl ⟨⟨_, rfl, ?_⟩, trivial⟩
  refine TL.store rfl rfl Tb.cells_3 rfl (by repeat (first | exact Upd.head _ | apply Upd.tail | apply Upd.appR)) (by first | decide | (simp; done) | (simp; omega) | omega) rfl rfl ?_
  refine TL.nil ?_
  refine TV.next (.inl (by repeat (first | exact .slnil | exact List.nil_sublist _ | exact .refl _ | refine .cons_cons _ ?_ | refine .cons _ ?_ | refine .trans ?_ (List.sublist_append_right _ _)))) ?_
  refine TV.done (by kernel_rfl) ?_
  refine TQ.thenC ?_
  refine TC.seq ?_
  refine TC.region ?_
  refine TL.pure (PV.assign rfl) rfl (by decide) ?_
  refine TL.nil ?_
  refine TQ.thenC ?_
  refine TC.ret ?_
  refine TQ.retE1 rfl rfl ?_
  have hE : actI s c ⟨3, [r, (k : Int)]⟩ = 0 := by rw [wet_e, if_neg (by omega), Int.toNat_natCast, if_neg g2, if_neg (by rw [g3]; decide)]
  have hC := chg_yes (s := s) (c := c) (o := ⟨3, [r, (k : Int)]⟩) hE
  rw [wet_c] at hC
  exact ⟨(v, []), by rw [hE], by rw [hC]; exact fun w9 hn => ⟨(hT w9 hn).ah, (hT w9 hn).at_⟩, by rw [hC]; exact (by repeat (first | exact .slnil | exact List.nil_sublist _ | exact .refl _ | refine .cons_cons _ ?_ | refine .cons _ ?_ | refine .trans ?_ (List.sublist_append_right _ _)))⟩
  refine TL.call rfl Tb.gofn_160 (fun a w hs => square_ok w s c v hhl (by omega) r (k : Int) (by omega) (by omega)) rfl (by decide) (fun _ _ => ?_)
  refine TL.nil ?_
  refine TV.next (.inl (by repeat (first | exact .slnil | exact List.nil_sublist _ | exact .refl _ | refine .cons_cons _ ?_ | refine .cons _ ?_ | refine .trans ?_ (List.sublist_append_right _ _)))) ?_
  refine TV.virt 11 rfl rfl (by decide) rfl (by kernel_rfl) (SOK.pure (M.PV.shlK rfl rfl (by omega) (by omega) (M.shl_nat hq60)) rfl) ?_
  refine TV.step [4] (by kernel_rfl) (by decide) rfl ⟨⟨_, rfl, ?_⟩, trivial⟩
  refine TL.pure (PV.load rfl Tb.one_3 (by repeat (first | exact List.Mem.head _ | refine List.Mem.tail _ ?_ | refine List.mem_append_right _ ?_)) rfl) rfl (by decide) ?_
  refine TL.nil ?_
  refine TV.next (.inl (by repeat (first | exact .slnil | exact List.nil_sublist _ | exact .refl _ | refine .cons_cons _ ?_ | refine .cons _ ?_ | refine .trans ?_ (List.sublist_append_right _ _)))) ?_
  refine TV.virt 12 rfl rfl (by decide) rfl (by kernel_rfl) (SOK.pure (M.PV.orK rfl rfl (M.or_nat h63 (M.p63 (by omega)))) rfl) ?_
  refine TV.virt 13 rfl rfl (by decide) rfl (by kernel_rfl) (SOK.pure (PV.nilCheck rfl) rfl) ?_
  refine TV.virt 14 rfl rfl (by decide) rfl (by kernel_rfl) (SOK.pure (PV.fieldAddr rfl Tb.fo_101_0) rfl) ?_
  refine TV.virt 15 rfl rfl (by decide) rfl (by kernel_rfl) (SOK.pure (PV.fieldAddr rfl Tb.fo_99_1) rfl) ?_
  refine TV.step [16] (by kernel_rfl) (by decide) rfl ⟨⟨_, rfl, ?_⟩, trivial⟩
  refine TL.store rfl rfl Tb.cells_3 rfl (by repeat (first | exact Upd.head _ | apply Upd.tail | apply Upd.appR)) (by first | decide | (simp; done) | (simp; omega) | omega) rfl rfl ?_
  refine TL.nil ?_
  refine TV.next (.inl (by repeat (first | exact .slnil | exact List.nil_sublist _ | exact .refl _ | refine .cons_cons _ ?_ | refine .cons _ ?_ | refine .trans ?_ (List.sublist_append_right _ _)))) ?_
  refine TV.done (by kernel_rfl) ?_
  refine TQ.thenC ?_
  refine TC.seq ?_
  refine TC.region ?_
  refine TL.pure (PV.assign rfl) rfl (by decide) ?_
  refine TL.nil ?_
  refine TQ.thenC ?_
  refine TC.ret ?_
  refine TQ.retE1 rfl rfl ?_
  have hE : actI s c ⟨3, [r, (k : Int)]⟩ = 0 := by rw [wet_e, if_neg (by omega), Int.toNat_natCast, if_neg g2, if_neg (by rw [g3]; decide)]
  have hC := chg_yes (s := s) (c := c) (o := ⟨3, [r, (k : Int)]⟩) hE
  rw [wet_c] at hC
  exact ⟨(v, []), by rw [hE], by rw [hC]; exact fun w9 hn => ⟨(hT w9 hn).ah, (hT w9 hn).at_⟩, by rw [hC]; exact (by repeat (first | exact .slnil | exact List.nil_sublist _ | exact .refl _ | refine .cons_cons _ ?_ | refine .cons _ ?_ | refine .trans ?_ (List.sublist_append_right _ _)))⟩

set_option maxRecDepth 100000 in
set_option maxHeartbeats 1000000 in
theorem cut_ok (w0 w : World) (s : St) (hv : SV s) (u : SU) (c : Co) (v : TV) (hi : Inv s c) (b : Nat) (Z : Heap) (hN : New w0 w ((b, .cells (tyL c v).toArray 101 (0, 0)) :: Z)) (Zf : Heap) (hZf : List.Sublist Zf Z) (hS : ∀ w9, New w0 w9 Zf → SiteAt w9 s u) (hT : ∀ w9, New w0 w9 Zf → TurAt w9 c v) (a : Int) (ha : 0 ≤ a ∧ a ≤ 999) :
    Calls Tryz.prog 151 #[.agg (siL s u).toArray, .pointer (some ⟨b, 0, none⟩), .int .i64 a] w (Post (X := TV × Heap) (fun _ => .int .i64 (actI s c ⟨1, [a]⟩)) (fun y => ∀ w9, New w0 w9 (y.2 ++ Zf) → TurAt w9 (chgC s c ⟨1, [a]⟩) y.1) (fun y => (b, Obj.cells (tyL (chgC s c ⟨1, [a]⟩) y.1).toArray 101 (0, 0)) :: (y.2 ++ Z)) w0) := by
  have hNZ := hN.sub (hZf.trans (List.sublist_cons_self _ _))
  have hwl := hi.wl
  have h63 := wet63 hv hwl
  have hbn := hi.bnd hv
  have h5 := hv.n5
  have h4 := hv.d4
  have hhl := hi.hl
  have htl := hi.tl' hv
  have hbm := hbn.bm
  have hbl := hbn.bl
  have hbg := hbn.bg
  have hbd := hbn.bd
  have hbc := hbn.bc
  have hbt := hbn.bt
  have hbh := hbn.bh
  refine callsM hN Tryz.func151 rfl (n := 126) rfl (by simp) ?_
  refine TC.seq ?_
  refine TC.region ?_
  refine TL.box rfl rfl (by decide) (fun b0 hb0 => ?_)
  refine TL.pure (PV.assign rfl) rfl (by decide) ?_
  refine TL.nil ?_
  refine TQ.thenC ?_
  refine TC.seq ?_
  refine TC.seq ?_
  refine TC.region ?_
  refine TL.pure (PV.move rfl) rfl (by decide) ?_
  refine TL.pure (PV.fieldAddr rfl Tb.fo_90_2) rfl (by decide) ?_
  refine TL.pure (PV.fieldAddr rfl Tb.fo_52_1) rfl (by decide) ?_
  refine TL.pure (PV.load rfl Tb.one_3 (by repeat (first | exact List.Mem.head _ | refine List.Mem.tail _ ?_ | refine List.mem_append_right _ ?_)) rfl) rfl (by decide) ?_
  refine TL.pure (PV.geq rfl rfl) rfl (by decide) ?_
  refine TL.nil ?_
  refine TQ.thenC ?_
  first | refine TC.condD rfl (fun g1 => ?_) (fun g1 => ?_) | refine TC.cond rfl (fun g1 => ?_) (fun g1 => ?_)
  refine TC.seq ?_
  refine TC.region ?_
  refine TL.pure (PV.assign rfl) rfl (by decide) ?_
  refine TL.nil ?_
  refine TQ.thenC ?_
  refine TC.ret ?_
  refine TQ.thenR ?_
  refine TQ.retE1 rfl rfl ?_
  have hE : actI s c ⟨1, [a]⟩ = 4 := by rw [cut_e, if_pos g1]
  have hC := chg_no (s := s) (c := c) (o := ⟨1, [a]⟩) (by rw [hE]; decide)
  exact ⟨(v, []), by rw [hE], by rw [hC]; exact hT, by rw [hC]; exact (by repeat (first | exact .slnil | exact List.nil_sublist _ | exact .refl _ | refine .cons_cons _ ?_ | refine .cons _ ?_ | refine .trans ?_ (List.sublist_append_right _ _)))⟩
  refine TC.skip ?_
  refine TQ.thenC ?_
  refine TC.seq ?_
  refine TC.seq ?_
  refine TC.region ?_
  refine TL.pure (PV.move rfl) rfl (by decide) ?_
  refine TL.pure (PV.nilCheck rfl) rfl (by decide) ?_
  refine TL.pure (PV.fieldAddr rfl Tb.fo_101_0) rfl (by decide) ?_
  refine TL.pure (PV.fieldAddr rfl Tb.fo_99_6) rfl (by decide) ?_
  refine TL.pure (PV.load rfl Tb.one_4 (by repeat (first | exact List.Mem.head _ | refine List.Mem.tail _ ?_ | refine List.mem_append_right _ ?_)) rfl) rfl (by decide) ?_
  refine TL.nil ?_
  refine TQ.thenC ?_
  first | refine TC.condD rfl (fun g2 => ?_) (fun g2 => ?_) | refine TC.cond rfl (fun g2 => ?_) (fun g2 => ?_)
  refine TC.seq ?_
  refine TC.region ?_
  refine TL.pure (PV.assign rfl) rfl (by decide) ?_
  refine TL.nil ?_
  refine TQ.thenC ?_
  refine TC.ret ?_
  refine TQ.thenR ?_
  refine TQ.retE1 rfl rfl ?_
  have hE : actI s c ⟨1, [a]⟩ = 8 := by rw [cut_e, if_neg g1, if_pos g2]
  have hC := chg_no (s := s) (c := c) (o := ⟨1, [a]⟩) (by rw [hE]; decide)
  exact ⟨(v, []), by rw [hE], by rw [hC]; exact hT, by rw [hC]; exact (by repeat (first | exact .slnil | exact List.nil_sublist _ | exact .refl _ | refine .cons_cons _ ?_ | refine .cons _ ?_ | refine .trans ?_ (List.sublist_append_right _ _)))⟩
  refine TC.skip ?_
  refine TQ.thenC ?_
  refine TC.seq ?_
  obtain ⟨k, rfl⟩ := Int.eq_ofNat_of_zero_le ha.1
  have hkW : k < s.W.length := by omega
  have hat := hi.ho.toNB.at_ k
  obtain ⟨q, qp, qv⟩ := ints_now (fun w9 h9 => (hT w9 h9).ah) hNZ (k := k) (by omega)
  refine TC.mixV [true, true, true, true, true, true, false, true, true, true, true, true] [(b0, Obj.cells (siL s u).toArray 90 (0, 0)), (b, Obj.cells (tyL c v).toArray 101 (0, 0))] 12 Tb.mixed rfl (by kernel_rfl) (by kernel_rfl) (by kernel_rfl) (by kernel_rfl) (by repeat (first | exact .slnil | exact List.nil_sublist _ | exact .refl _ | refine .cons_cons _ ?_ | refine .cons _ ?_ | refine .trans ?_ (List.sublist_append_right _ _))) ?_
  refine TV.virt 0 rfl rfl (by decide) rfl (by kernel_rfl) (SOK.pure (PV.fieldAddr rfl Tb.fo_90_0) rfl) ?_
  refine TV.virt 1 rfl rfl (by decide) rfl (by kernel_rfl) (SOK.pure (PV.loadMid (cs := siL s u) (vs := [.slice u.pw s.W.length u.cw]) rfl Tb.agg_24 (by repeat (first | exact List.Mem.head _ | refine List.Mem.tail _ ?_ | refine List.mem_append_right _ ?_)) rfl rfl) rfl) ?_
  refine TV.virt 2 rfl rfl (by decide) rfl (by kernel_rfl) (SOK.pure (PV.move rfl) rfl) ?_
  refine TV.virt 3 rfl rfl (by decide) rfl (by kernel_rfl) (SOK.pure (PV.nilCheck rfl) rfl) ?_
  refine TV.virt 4 rfl rfl (by decide) rfl (by kernel_rfl) (SOK.pure (PV.fieldAddr rfl Tb.fo_101_1) rfl) ?_
  refine TV.virt 5 rfl rfl (by decide) rfl (by kernel_rfl) (SOK.pure (PV.load rfl Tb.one_25 (by repeat (first | exact List.Mem.head _ | refine List.Mem.tail _ ?_ | refine List.mem_append_right _ ?_)) rfl) rfl) ?_
  refine TV.step [6] (by kernel_rfl) (by decide) rfl ⟨⟨_, rfl, ?_⟩, trivial⟩
  refine TL.call rfl Tb.gofn_184 (fun a w hs => open_v w hv hi _ _ (hS w (hs.new.sub (hZf.trans (by repeat (first | exact .slnil | exact List.nil_sublist _ | exact .refl _ | refine .cons_cons _ ?_ | refine .cons _ ?_ | refine .trans ?_ (List.sublist_append_right _ _)))))).ls _ _ (hT w (hs.new.sub (hZf.trans (by repeat (first | exact .slnil | exact List.nil_sublist _ | exact .refl _ | refine .cons_cons _ ?_ | refine .cons _ ?_ | refine .trans ?_ (List.sublist_append_right _ _)))))).ah) rfl (by decide) (fun h5o hh5 => ?_)
  refine TL.nil ?_
  refine TV.next (.inl (by repeat (first | exact .slnil | exact List.nil_sublist _ | exact .refl _ | refine .cons_cons _ ?_ | refine .cons _ ?_ | refine .trans ?_ (List.sublist_append_right _ _)))) ?_
  refine TV.virt 7 rfl rfl (by decide) rfl (by kernel_rfl) (SOK.pure (PV.move rfl) rfl) ?_
  refine TV.virt 8 rfl rfl (by decide) rfl (by kernel_rfl) (SOK.pure (PV.extract rfl rfl) rfl) ?_
  refine TV.virt 9 rfl rfl (by decide) rfl (by kernel_rfl) (SOK.pure (PV.extract rfl rfl) rfl) ?_
  refine TV.virt 10 rfl rfl (by decide) rfl (by kernel_rfl) (SOK.pure (PV.assign rfl) rfl) ?_
  refine TV.virt 11 rfl rfl (by decide) rfl (by kernel_rfl) (SOK.pure (PV.assign rfl) rfl) ?_
  refine TV.done (by kernel_rfl) ?_
  refine TQ.thenC ?_
  refine TC.seq ?_
  refine TC.region ?_
  refine TL.pure (PV.move rfl) rfl (by decide) ?_
  refine TL.pure (PV.nilCheck rfl) rfl (by decide) ?_
  refine TL.pure (PV.fieldAddr rfl Tb.fo_101_1) rfl (by decide) ?_
  refine TL.pure (PV.load rfl Tb.one_25 (by repeat (first | exact List.Mem.head _ | refine List.Mem.tail _ ?_ | refine List.mem_append_right _ ?_)) rfl) rfl (by decide) ?_
  refine TL.pure (PV.move rfl) rfl (by decide) ?_
  refine TL.pure (PV.indexA rfl qp rfl Tb.elm_25 rfl (by omega)) rfl (by decide) ?_
  refine TL.pure (PV.loadN rfl Tb.one_3 (hZf.trans (by repeat (first | exact .slnil | exact List.nil_sublist _ | exact .refl _ | refine .cons_cons _ ?_ | refine .cons _ ?_ | refine .trans ?_ (List.sublist_append_right _ _)))) qv) rfl (by decide) ?_
  refine TL.pure (PV.assign rfl) rfl (by decide) ?_
  refine TL.nil ?_
  refine TQ.thenC ?_
  refine TC.seqK [1, 2, 3, 6, 9] (X := Unit) (fun x => actI s c ⟨1, [(k : Int)]⟩ = 0) (fun x => []) (fun x => (b0, Obj.cells (siL s u).toArray 90 (0, 0)) :: (b, Obj.cells (tyL c v).toArray 101 (0, 0)) :: Z) ?_ ?_
  refine TC.seq ?_
  have hmem := pad_hol (s := s) (c := c) hkW
  refine TC.region ?_
  refine TL.pure (PV.move rfl) rfl (by decide) ?_
  refine TL.pure (PV.move rfl) rfl (by decide) ?_
  refine TL.call rfl Tb.gofn_185 (fun a w hs => C.containsI_ok w _ _ (opL s c) (IntsAt.g hs.new (by intro y9 hy9; repeat (first | exact hy9 | exact List.mem_append_left _ hy9 | refine List.mem_append_right _ ?_ | refine List.Mem.tail _ ?_)) hh5) (by have := C.op_len s.W (C.pad6 c.hol) s.W.length; show (C.opN s.W (C.pad6 c.hol) s.W.length).length ≤ _; omega) (k : Int)) rfl (by decide) (fun _ _ => ?_)
  refine TL.pure ((by first | exact PV.notD rfl | exact PV.not rfl)) rfl (by decide) ?_
  refine TL.pure (PV.move rfl) rfl (by decide) ?_
  first | refine TL.splitD 42 rfl (fun g3 => ?_) (fun g3 => ?_) | refine TL.split 42 rfl (fun g3 => ?_) (fun g3 => ?_)
  refine TL.skip rfl (fun k hk => by cases hk; decide) ?_
  refine TL.skip rfl (fun k hk => by cases hk; decide) ?_
  refine TL.skip rfl (fun k hk => by cases hk; decide) ?_
  refine TL.skipU rfl (fun k hk => by cases hk; decide) ?_
  refine TL.skipU rfl (fun k hk => by cases hk; decide) ?_
  refine TL.skipU rfl (fun k hk => by cases hk; decide) ?_
  refine TL.skipU rfl (fun k hk => by cases hk; decide) ?_
  refine TL.skipU rfl (fun k hk => by cases hk; decide) ?_
  refine TL.skipU rfl (fun k hk => by cases hk; decide) ?_
  refine TL.skipU rfl (fun k hk => by cases hk; decide) ?_
  refine TL.skip rfl (fun k hk => by cases hk; decide) ?_
  refine TL.pure (PV.pickT rfl rfl) rfl (by decide) ?_
  refine TL.nil ?_
  refine TQ.thenC ?_
  refine TC.condT rfl ?_
  refine TC.seq ?_
  refine TC.region ?_
  refine TL.pure (PV.assign rfl) rfl (by decide) ?_
  refine TL.nil ?_
  refine TQ.thenC ?_
  refine TC.ret ?_
  refine TQ.thenR ?_
  refine TQ.retE1 rfl rfl ?_
  have hE : actI s c ⟨1, [(k : Int)]⟩ = 6 := by rw [cut_e, if_neg g1, if_neg (by rw [g2]; decide), Int.toNat_natCast, if_pos (.inl (by cases h9 : C.opB s.W (C.pad6 c.hol) k with | false => rfl | true => exact absurd (hmem.2 h9) g3))]
  have hC := chg_no (s := s) (c := c) (o := ⟨1, [(k : Int)]⟩) (by rw [hE]; decide)
  exact ⟨(v, []), by rw [hE], by rw [hC]; exact hT, by rw [hC]; exact (by repeat (first | exact .slnil | exact List.nil_sublist _ | exact .refl _ | refine .cons_cons _ ?_ | refine .cons _ ?_ | refine .trans ?_ (List.sublist_append_right _ _)))⟩
  refine TL.pure (PV.move rfl) rfl (by decide) ?_
  refine TL.pure (PV.gtr rfl rfl) rfl (by decide) ?_
  refine TL.pure (PV.move rfl) rfl (by decide) ?_
  first | refine TL.splitD 45 rfl (fun g4 => ?_) (fun g4 => ?_) | refine TL.split 45 rfl (fun g4 => ?_) (fun g4 => ?_)
  refine TL.pure (PV.move rfl) rfl (by decide) ?_
  refine TL.pure (PV.nilCheck rfl) rfl (by decide) ?_
  refine TL.pure (PV.loadBox (cs := tyL c v) rfl Tb.agg_101 (by repeat (first | exact List.Mem.head _ | refine List.Mem.tail _ ?_ | refine List.mem_append_right _ ?_)) rfl) rfl (by decide) ?_
  refine TL.pure (PV.move rfl) rfl (by decide) ?_
  refine TL.pure (PV.sub rfl rfl (by omega)) rfl (by decide) ?_
  refine TL.pure (PV.move rfl) rfl (by decide) ?_
  refine TL.call rfl Tb.gofn_186 (fun a w hs => isWet_ok w s c v hhl (by omega) h63 _ (k : Int) (by omega) (by omega) (sq_60 hv (by omega) (by omega))) rfl (by decide) (fun _ _ => ?_)
  refine TL.pure (PV.pickT rfl rfl) rfl (by decide) ?_
  refine TL.pure (PV.pickF rfl rfl) rfl (by decide) ?_
  refine TL.nil ?_
  refine TQ.thenC ?_
  first | refine TC.condD rfl (fun g5 => ?_) (fun g5 => ?_) | refine TC.cond rfl (fun g5 => ?_) (fun g5 => ?_)
  refine TC.seq ?_
  refine TC.region ?_
  refine TL.pure (PV.assign rfl) rfl (by decide) ?_
  refine TL.nil ?_
  refine TQ.thenC ?_
  refine TC.ret ?_
  refine TQ.thenR ?_
  refine TQ.retE1 rfl rfl ?_
  have hE : actI s c ⟨1, [(k : Int)]⟩ = 6 := by rw [cut_e, if_neg g1, if_neg (by rw [g2]; decide), Int.toNat_natCast, if_pos (.inr ⟨g4, g5⟩)]
  have hC := chg_no (s := s) (c := c) (o := ⟨1, [(k : Int)]⟩) (by rw [hE]; decide)
  exact ⟨(v, []), by rw [hE], by rw [hC]; exact hT, by rw [hC]; exact (by repeat (first | exact .slnil | exact List.nil_sublist _ | exact .refl _ | refine .cons_cons _ ?_ | refine .cons _ ?_ | refine .trans ?_ (List.sublist_append_right _ _)))⟩
  refine TC.skip ?_
  refine TQ.thenN ?_
  refine TQ.midK () (by repeat (first | exact True.intro | refine And.intro rfl ?_)) (by repeat (first | exact True.intro | refine And.intro rfl ?_)) (List.sublist_append_right _ _) (by rw [cut_e, if_neg g1, if_neg (by rw [g2]; decide), Int.toNat_natCast]; refine if_neg ?_; rintro (h | h); (rw [hmem.1 (Decidable.not_not.1 g3)] at h; cases h); (first | (rw [g5] at h; exact absurd h.2 (by decide)) | exact absurd h.1 g4))
  refine TL.skip rfl (fun k hk => by cases hk; decide) ?_
  refine TL.skip rfl (fun k hk => by cases hk; decide) ?_
  refine TL.skip rfl (fun k hk => by cases hk; decide) ?_
  refine TL.skip rfl (fun k hk => by cases hk; decide) ?_
  refine TL.skip rfl (fun k hk => by cases hk; decide) ?_
  refine TL.skip rfl (fun k hk => by cases hk; decide) ?_
  refine TL.skip rfl (fun k hk => by cases hk; decide) ?_
  refine TL.pure (PV.pickF rfl rfl) rfl (by decide) ?_
  refine TL.pure (PV.pickF rfl rfl) rfl (by decide) ?_
  refine TL.nil ?_
  refine TQ.thenC ?_
  refine TC.condF rfl ?_
  refine TC.skip ?_
  refine TQ.thenN ?_
  refine TQ.midK () (by repeat (first | exact True.intro | refine And.intro rfl ?_)) (by repeat (first | exact True.intro | refine And.intro rfl ?_)) (List.sublist_append_right _ _) (by rw [cut_e, if_neg g1, if_neg (by rw [g2]; decide), Int.toNat_natCast]; refine if_neg ?_; rintro (h | h); (rw [hmem.1 (Decidable.not_not.1 g3)] at h; cases h); (first | (rw [g5] at h; exact absurd h.2 (by decide)) | exact absurd h.1 g4))
  intro x hE
  refine TC.seq ?_
  refine TC.region ?_
  refine TL.pure (PV.move rfl) rfl (by decide) ?_
  refine TL.pure (PV.nilCheck rfl) rfl (by decide) ?_
  refine TL.pure (PV.loadBox (cs := tyL c v) rfl Tb.agg_101 (by repeat (first | exact List.Mem.head _ | refine List.Mem.tail _ ?_ | refine List.mem_append_right _ ?_)) rfl) rfl (by decide) ?_
  refine TL.call rfl Tb.gofn_112 (fun a w hs => onHeaps_ok w c v (hT w (hs.new.sub (hZf.trans (by repeat (first | exact .slnil | exact List.nil_sublist _ | exact .refl _ | refine .cons_cons _ ?_ | refine .cons _ ?_ | refine .trans ?_ (List.sublist_append_right _ _)))))).at_ (by omega) (fun j => by have := hi.tb hv j; omega)) rfl (by decide) (fun _ _ => ?_)
  refine TL.pure (PV.assign rfl) rfl (by decide) ?_
  refine TL.nil ?_
  refine TQ.thenC ?_
  refine TC.seq ?_
  refine TC.mixV [true, true, true, true, true, true, false, true, false, true, true, true, true, true, true, false] [(b0, Obj.cells (siL s u).toArray 90 (0, 0))] 16 Tb.mixed rfl (by kernel_rfl) (by kernel_rfl) (by kernel_rfl) (by kernel_rfl) (by repeat (first | exact .slnil | exact List.nil_sublist _ | exact .refl _ | refine .cons_cons _ ?_ | refine .cons _ ?_ | refine .trans ?_ (List.sublist_append_right _ _))) ?_
  refine TV.virt 0 rfl rfl (by decide) rfl (by kernel_rfl) (SOK.pure (PV.move rfl) rfl) ?_
  refine TV.virt 1 rfl rfl (by decide) rfl (by kernel_rfl) (SOK.pure (PV.fieldAddr rfl Tb.fo_90_1) rfl) ?_
  refine TV.virt 2 rfl rfl (by decide) rfl (by kernel_rfl) (SOK.pure (PV.loadMid (cs := siL s u) (vs := [.slice u.pk s.K.length u.ck, .slice u.pg s.g.length u.cg]) rfl Tb.agg_27 (by repeat (first | exact List.Mem.head _ | refine List.Mem.tail _ ?_ | refine List.mem_append_right _ ?_)) rfl rfl) rfl) ?_
  refine TV.virt 3 rfl rfl (by decide) rfl (by kernel_rfl) (SOK.pure (PV.move rfl) rfl) ?_
  refine TV.virt 4 rfl rfl (by decide) rfl (by kernel_rfl) (SOK.pure (PV.nilCheck rfl) rfl) ?_
  refine TV.virt 5 rfl rfl (by decide) rfl (by kernel_rfl) (SOK.pure (PV.fieldAddr rfl Tb.fo_101_2) rfl) ?_
  refine TV.virt 7 rfl rfl (by decide) rfl (by kernel_rfl) (SOK.pure (PV.move rfl) rfl) ?_
  refine TV.step [6] (by kernel_rfl) (by decide) rfl ⟨⟨_, rfl, ?_⟩, trivial⟩
  refine TL.pure (PV.load rfl Tb.one_25 (by repeat (first | exact List.Mem.head _ | refine List.Mem.tail _ ?_ | refine List.mem_append_right _ ?_)) rfl) rfl (by decide) ?_
  refine TL.nil ?_
  refine TV.next (.inl (by repeat (first | exact .slnil | exact List.nil_sublist _ | exact .refl _ | refine .cons_cons _ ?_ | refine .cons _ ?_ | refine .trans ?_ (List.sublist_append_right _ _)))) ?_
  refine TV.step [8] (by kernel_rfl) (by decide) rfl ⟨⟨_, rfl, ?_⟩, trivial⟩
  refine TL.call rfl Tb.gofn_187 (fun a w hs => drop_v w hv hi _ _ (hS w (hs.new.sub (hZf.trans (by repeat (first | exact .slnil | exact List.nil_sublist _ | exact .refl _ | refine .cons_cons _ ?_ | refine .cons _ ?_ | refine .trans ?_ (List.sublist_append_right _ _)))))).ak _ _ (hS w (hs.new.sub (hZf.trans (by repeat (first | exact .slnil | exact List.nil_sublist _ | exact .refl _ | refine .cons_cons _ ?_ | refine .cons _ ?_ | refine .trans ?_ (List.sublist_append_right _ _)))))).ag _ _ (hT w (hs.new.sub (hZf.trans (by repeat (first | exact .slnil | exact List.nil_sublist _ | exact .refl _ | refine .cons_cons _ ?_ | refine .cons _ ?_ | refine .trans ?_ (List.sublist_append_right _ _)))))).at_ k hkW) rfl (by decide) (fun y hy => ?_)
  refine TL.nil ?_
  refine TV.next (.inl (by repeat (first | exact .slnil | exact List.nil_sublist _ | exact .refl _ | refine .cons_cons _ ?_ | refine .cons _ ?_ | refine .trans ?_ (List.sublist_append_right _ _)))) ?_
  refine TV.virt 9 rfl rfl (by decide) rfl (by kernel_rfl) (SOK.pure (PV.move rfl) rfl) ?_
  refine TV.virt 10 rfl rfl (by decide) rfl (by kernel_rfl) (SOK.pure (PV.extract rfl rfl) rfl) ?_
  refine TV.virt 11 rfl rfl (by decide) rfl (by kernel_rfl) (SOK.pure (PV.extract rfl rfl) rfl) ?_
  refine TV.virt 12 rfl rfl (by decide) rfl (by kernel_rfl) (SOK.pure (PV.extract rfl rfl) rfl) ?_
  refine TV.virt 13 rfl rfl (by decide) rfl (by kernel_rfl) (SOK.pure (PV.nilCheck rfl) rfl) ?_
  refine TV.virt 14 rfl rfl (by decide) rfl (by kernel_rfl) (SOK.pure (PV.fieldAddr rfl Tb.fo_101_2) rfl) ?_
  refine TV.step [15] (by kernel_rfl) (by decide) rfl ⟨⟨_, rfl, ?_⟩, trivial⟩
  refine TL.store rfl rfl Tb.cells_25 rfl (by repeat (first | exact Upd.head _ | apply Upd.tail | apply Upd.appR)) (by first | decide | (simp; done) | (simp; omega) | omega) rfl rfl ?_
  refine TL.nil ?_
  refine TV.next (.inl (by repeat (first | exact .slnil | exact List.nil_sublist _ | exact .refl _ | refine .cons_cons _ ?_ | refine .cons _ ?_ | refine .trans ?_ (List.sublist_append_right _ _)))) ?_
  refine TV.done (by kernel_rfl) ?_
  refine TQ.thenC ?_
  refine TC.seq ?_
  have hdr := dr_facts hv hi hkW
  refine TC.sub (G' := gbI (y.1, drT s.K s.g c.tur (k : Int)) ++ ((b0, Obj.cells (siL s u).toArray 90 (0, 0)) :: (b, Obj.cells (tyL { c with tur := drT s.K s.g c.tur (k : Int) } { v with pt := gp y.1, ct := gc y.1 }).toArray 101 (0, 0)) :: Z)) (List.Sublist.refl _) ?_
  have hs1 := sL_5 hdr.len hv.hb.n.2 (hdr.bd hv)
  refine TC.mixV [true, true, true, true, false, true, true, true, true, false, false, true, true, true, true, true, false] [] 17 Tb.mixed rfl (by kernel_rfl) (by kernel_rfl) (by kernel_rfl) (by kernel_rfl) (by repeat (first | exact .slnil | exact List.nil_sublist _ | exact .refl _ | refine .cons_cons _ ?_ | refine .cons _ ?_ | refine .trans ?_ (List.sublist_append_right _ _))) ?_
  refine TV.virt 0 rfl rfl (by decide) rfl (by kernel_rfl) (SOK.pure (PV.move rfl) rfl) ?_
  refine TV.virt 1 rfl rfl (by decide) rfl (by kernel_rfl) (SOK.pure (PV.nilCheck rfl) rfl) ?_
  refine TV.virt 2 rfl rfl (by decide) rfl (by kernel_rfl) (SOK.pure (PV.fieldAddr rfl Tb.fo_101_0) rfl) ?_
  refine TV.virt 3 rfl rfl (by decide) rfl (by kernel_rfl) (SOK.pure (PV.fieldAddr rfl Tb.fo_99_5) rfl) ?_
  refine TV.virt 5 rfl rfl (by decide) rfl (by kernel_rfl) (SOK.pure (PV.move rfl) rfl) ?_
  refine TV.virt 6 rfl rfl (by decide) rfl (by kernel_rfl) (SOK.pure (PV.add (i := sL c.tur) (j := 1) rfl rfl (by omega)) rfl) ?_
  refine TV.virt 7 rfl rfl (by decide) rfl (by kernel_rfl) (SOK.pure (PV.move rfl) rfl) ?_
  refine TV.virt 8 rfl rfl (by decide) rfl (by kernel_rfl) (SOK.pure (PV.nilCheck rfl) rfl) ?_
  refine TV.step [4, 9] (by kernel_rfl) (by decide) rfl ⟨⟨_, rfl, ?_⟩, ⟨_, rfl, ?_⟩, trivial⟩
  refine TL.pure (PV.load rfl Tb.one_3 (by repeat (first | exact List.Mem.head _ | refine List.Mem.tail _ ?_ | refine List.mem_append_right _ ?_)) rfl) rfl (by decide) ?_
  refine TL.nil ?_
  refine TV.next (.inl (by repeat (first | exact .slnil | exact List.nil_sublist _ | exact .refl _ | refine .cons_cons _ ?_ | refine .cons _ ?_ | refine .trans ?_ (List.sublist_append_right _ _)))) ?_
  refine TV.step [9] (by kernel_rfl) (by decide) rfl ⟨⟨_, rfl, ?_⟩, trivial⟩
  refine TL.pure (PV.loadBox (cs := tyL { c with tur := drT s.K s.g c.tur (k : Int) } { v with pt := gp y.1, ct := gc y.1 }) rfl Tb.agg_101 (by repeat (first | exact List.Mem.head _ | refine List.Mem.tail _ ?_ | refine List.mem_append_right _ ?_)) rfl) rfl (by decide) ?_
  refine TL.nil ?_
  refine TV.next (.inl (by repeat (first | exact .slnil | exact List.nil_sublist _ | exact .refl _ | refine .cons_cons _ ?_ | refine .cons _ ?_ | refine .trans ?_ (List.sublist_append_right _ _)))) ?_
  refine TV.step [10] (by kernel_rfl) (by decide) rfl ⟨⟨_, rfl, ?_⟩, trivial⟩
  refine TL.call rfl Tb.gofn_112 (fun a w hs => onHeaps_ok w { c with tur := drT s.K s.g c.tur (k : Int) } { v with pt := gp y.1, ct := gc y.1 } (tur_g hy (Z := []) w (hs.new.sub (by rw [List.append_nil]; exact List.sublist_append_left _ _))) (by show (drT s.K s.g c.tur (k : Int)).length ≤ _; have := hdr.len; have := hv.len; omega) (fun j => by have := hdr.bd hv j; show -1000000 ≤ (drT s.K s.g c.tur (k : Int)).getD j 0 ∧ (drT s.K s.g c.tur (k : Int)).getD j 0 ≤ 1000000; omega)) rfl (by decide) (fun _ _ => ?_)
  refine TL.nil ?_
  refine TV.next (.inl (by repeat (first | exact .slnil | exact List.nil_sublist _ | exact .refl _ | refine .cons_cons _ ?_ | refine .cons _ ?_ | refine .trans ?_ (List.sublist_append_right _ _)))) ?_
  refine TV.virt 11 rfl rfl (by decide) rfl (by kernel_rfl) (SOK.pure (PV.sub (i := sL c.tur + 1) (j := sL (drT s.K s.g c.tur (k : Int))) rfl rfl (by omega)) rfl) ?_
  refine TV.virt 12 rfl rfl (by decide) rfl (by kernel_rfl) (SOK.pure (PV.add (i := c.grd) (j := sL c.tur + 1 - sL (drT s.K s.g c.tur (k : Int))) rfl rfl (by omega)) rfl) ?_
  refine TV.virt 13 rfl rfl (by decide) rfl (by kernel_rfl) (SOK.pure (PV.nilCheck rfl) rfl) ?_
  refine TV.virt 14 rfl rfl (by decide) rfl (by kernel_rfl) (SOK.pure (PV.fieldAddr rfl Tb.fo_101_0) rfl) ?_
  refine TV.virt 15 rfl rfl (by decide) rfl (by kernel_rfl) (SOK.pure (PV.fieldAddr rfl Tb.fo_99_5) rfl) ?_
  refine TV.step [16] (by kernel_rfl) (by decide) rfl ⟨⟨_, rfl, ?_⟩, trivial⟩
  refine TL.store rfl rfl Tb.cells_3 rfl (by repeat (first | exact Upd.head _ | apply Upd.tail | apply Upd.appR)) (by first | decide | (simp; done) | (simp; omega) | omega) rfl rfl ?_
  refine TL.nil ?_
  refine TV.next (.inl (by repeat (first | exact .slnil | exact List.nil_sublist _ | exact .refl _ | refine .cons_cons _ ?_ | refine .cons _ ?_ | refine .trans ?_ (List.sublist_append_right _ _)))) ?_
  refine TV.done (by kernel_rfl) ?_
  refine TQ.thenC ?_
  refine TC.seq ?_
  refine TC.sub (G' := gbI (y.1, drT s.K s.g c.tur (k : Int)) ++ ((b0, Obj.cells (siL s u).toArray 90 (0, 0)) :: (b, Obj.cells (tyL { c with tur := drT s.K s.g c.tur (k : Int), grd := c.grd + (sL c.tur + 1 - sL (drT s.K s.g c.tur (k : Int))) } { v with pt := gp y.1, ct := gc y.1 }).toArray 101 (0, 0)) :: Z)) (List.Sublist.refl _) ?_
  refine TC.region ?_
  refine TL.pure (PV.move rfl) rfl (by decide) ?_
  refine TL.pure (PV.move rfl) rfl (by decide) ?_
  refine TL.pure (PV.nilCheck rfl) rfl (by decide) ?_
  refine TL.pure (PV.fieldAddr rfl Tb.fo_101_1) rfl (by decide) ?_
  refine TL.pure (PV.load rfl Tb.one_25 (by repeat (first | exact List.Mem.head _ | refine List.Mem.tail _ ?_ | refine List.mem_append_right _ ?_)) rfl) rfl (by decide) ?_
  refine TL.pure (PV.move rfl) rfl (by decide) ?_
  refine TL.call rfl Tb.gofn_188 (fun a w hs => plus_v w _ _ c.hol (hT w (hs.new.sub (hZf.trans (by repeat (first | exact .slnil | exact List.nil_sublist _ | exact .refl _ | refine .cons_cons _ ?_ | refine .cons _ ?_ | refine .trans ?_ (List.sublist_append_right _ _)))))).ah (by omega) k (by omega) 1 (by omega) (by omega) _ rfl) rfl (by decide) (fun h2 hh2 => ?_)
  refine TL.pure (PV.nilCheck rfl) rfl (by decide) ?_
  refine TL.pure (PV.fieldAddr rfl Tb.fo_101_1) rfl (by decide) ?_
  refine TL.store rfl rfl Tb.cells_25 rfl (by repeat (first | exact Upd.head _ | apply Upd.tail | apply Upd.appR)) (by first | decide | (simp; done) | (simp; omega) | omega) rfl rfl ?_
  refine TL.nil ?_
  refine TQ.thenC ?_
  refine TC.seq ?_
  refine TC.sub (G' := gbI (h2, c.hol.set k (c.hol.getD k 0 + 1)) ++ (gbI (y.1, drT s.K s.g c.tur (k : Int)) ++ ((b0, Obj.cells (siL s u).toArray 90 (0, 0)) :: (b, Obj.cells (tyL { c with tur := drT s.K s.g c.tur (k : Int), grd := c.grd + (sL c.tur + 1 - sL (drT s.K s.g c.tur (k : Int))), hol := c.hol.set k (c.hol.getD k 0 + 1) } { ph := gp h2, ch := gc h2, pt := gp y.1, ct := gc y.1 }).toArray 101 (0, 0)) :: Z))) (List.Sublist.refl _) ?_
  obtain ⟨q5, q5p, q5v⟩ := rows_now hS hNZ hkW
  obtain ⟨r9, hr9⟩ := Int.eq_ofNat_of_zero_le hat.1
  have htn : (c.hol.getD k 0).toNat = r9 := by omega
  have holt := op_lt hi (cut_0 hE)
  have hvb := hv.vb
  have hrl := hvb.c k hkW
  have hrw := hvb.w k r9
  obtain ⟨q6, q6p, q6v⟩ := ints_now (row_now hS hkW) hNZ (k := r9) (by omega)
  refine TC.mixV [true, true, true, true, false, true, true, true, true, true, true, true, true, true, true, true, true, true, false] ((b0, Obj.cells (siL s u).toArray 90 (0, 0)) :: Z) 19 Tb.mixed rfl (by kernel_rfl) (by kernel_rfl) (by kernel_rfl) (by kernel_rfl) (by repeat (first | exact .slnil | exact List.nil_sublist _ | exact .refl _ | refine .cons_cons _ ?_ | refine .cons _ ?_ | refine .trans ?_ (List.sublist_append_right _ _))) ?_
  refine TV.virt 0 rfl rfl (by decide) rfl (by kernel_rfl) (SOK.pure (PV.move rfl) rfl) ?_
  refine TV.virt 1 rfl rfl (by decide) rfl (by kernel_rfl) (SOK.pure (PV.nilCheck rfl) rfl) ?_
  refine TV.virt 2 rfl rfl (by decide) rfl (by kernel_rfl) (SOK.pure (PV.fieldAddr rfl Tb.fo_101_0) rfl) ?_
  refine TV.virt 3 rfl rfl (by decide) rfl (by kernel_rfl) (SOK.pure (PV.fieldAddr rfl Tb.fo_99_2) rfl) ?_
  refine TV.virt 5 rfl rfl (by decide) rfl (by kernel_rfl) (SOK.pure (PV.fieldAddr rfl Tb.fo_90_0) rfl) ?_
  refine TV.virt 6 rfl rfl (by decide) rfl (by kernel_rfl) (SOK.pure (PV.fieldAddr rfl Tb.fo_24_0) rfl) ?_
  refine TV.virt 7 rfl rfl (by decide) rfl (by kernel_rfl) (SOK.pure (PV.load rfl Tb.one_22 (by repeat (first | exact List.Mem.head _ | refine List.Mem.tail _ ?_ | refine List.mem_append_right _ ?_)) rfl) rfl) ?_
  refine TV.virt 8 rfl rfl (by decide) rfl (by kernel_rfl) (SOK.pure (PV.move rfl) rfl) ?_
  refine TV.virt 9 rfl rfl (by decide) rfl (by kernel_rfl) (SOK.pure (PV.indexA rfl q5p rfl Tb.elm_22 rfl (by omega)) rfl) ?_
  refine TV.virt 10 rfl rfl (by decide) rfl (by kernel_rfl) (SOK.pure (PV.loadN rfl Tb.one_25 (hZf.trans (by repeat (first | exact .slnil | exact List.nil_sublist _ | exact .refl _ | refine .cons_cons _ ?_ | refine .cons _ ?_ | refine .trans ?_ (List.sublist_append_right _ _)))) q5v) rfl) ?_
  refine TV.virt 11 rfl rfl (by decide) rfl (by kernel_rfl) (SOK.pure (PV.move rfl) rfl) ?_
  refine TV.virt 12 rfl rfl (by decide) rfl (by kernel_rfl) (SOK.pure (PV.indexA (j := r9) rfl q6p rfl Tb.elm_25 hr9 (by omega)) rfl) ?_
  refine TV.virt 13 rfl rfl (by decide) rfl (by kernel_rfl) (SOK.pure (PV.loadN rfl Tb.one_3 (hZf.trans (by repeat (first | exact .slnil | exact List.nil_sublist _ | exact .refl _ | refine .cons_cons _ ?_ | refine .cons _ ?_ | refine .trans ?_ (List.sublist_append_right _ _)))) q6v) rfl) ?_
  refine TV.step [4] (by kernel_rfl) (by decide) rfl ⟨⟨_, rfl, ?_⟩, trivial⟩
  refine TL.pure (PV.load rfl Tb.one_3 (by repeat (first | exact List.Mem.head _ | refine List.Mem.tail _ ?_ | refine List.mem_append_right _ ?_)) rfl) rfl (by decide) ?_
  refine TL.nil ?_
  refine TV.next (.inl (by repeat (first | exact .slnil | exact List.nil_sublist _ | exact .refl _ | refine .cons_cons _ ?_ | refine .cons _ ?_ | refine .trans ?_ (List.sublist_append_right _ _)))) ?_
  refine TV.virt 14 rfl rfl (by decide) rfl (by kernel_rfl) (SOK.pure (PV.add (i := c.money) rfl rfl (by omega)) rfl) ?_
  refine TV.virt 15 rfl rfl (by decide) rfl (by kernel_rfl) (SOK.pure (PV.nilCheck rfl) rfl) ?_
  refine TV.virt 16 rfl rfl (by decide) rfl (by kernel_rfl) (SOK.pure (PV.fieldAddr rfl Tb.fo_101_0) rfl) ?_
  refine TV.virt 17 rfl rfl (by decide) rfl (by kernel_rfl) (SOK.pure (PV.fieldAddr rfl Tb.fo_99_2) rfl) ?_
  refine TV.step [18] (by kernel_rfl) (by decide) rfl ⟨⟨_, rfl, ?_⟩, trivial⟩
  refine TL.store rfl rfl Tb.cells_3 rfl (by repeat (first | exact Upd.head _ | apply Upd.tail | apply Upd.appR)) (by first | decide | (simp; done) | (simp; omega) | omega) rfl rfl ?_
  refine TL.nil ?_
  refine TV.next (.inl (by repeat (first | exact .slnil | exact List.nil_sublist _ | exact .refl _ | refine .cons_cons _ ?_ | refine .cons _ ?_ | refine .trans ?_ (List.sublist_append_right _ _)))) ?_
  refine TV.done (by kernel_rfl) ?_
  refine TQ.thenC ?_
  refine TC.seq ?_
  refine TC.sub (G' := gbI (h2, c.hol.set k (c.hol.getD k 0 + 1)) ++ (gbI (y.1, drT s.K s.g c.tur (k : Int)) ++ ((b, Obj.cells (tyL { c with tur := drT s.K s.g c.tur (k : Int), grd := c.grd + (sL c.tur + 1 - sL (drT s.K s.g c.tur (k : Int))), hol := c.hol.set k (c.hol.getD k 0 + 1), money := c.money + (s.W.getD k []).getD r9 0 } { ph := gp h2, ch := gc h2, pt := gp y.1, ct := gc y.1 }).toArray 101 (0, 0)) :: Z))) (List.Sublist.append (List.Sublist.refl _) (List.Sublist.append (List.Sublist.refl _) (List.Sublist.cons _ (List.Sublist.refl _)))) ?_
  refine TC.region ?_
  refine TL.pure (PV.move rfl) rfl (by decide) ?_
  refine TL.pure (PV.nilCheck rfl) rfl (by decide) ?_
  refine TL.pure (PV.fieldAddr rfl Tb.fo_101_0) rfl (by decide) ?_
  refine TL.pure (PV.fieldAddr rfl Tb.fo_99_3) rfl (by decide) ?_
  refine TL.pure (PV.load rfl Tb.one_3 (by repeat (first | exact List.Mem.head _ | refine List.Mem.tail _ ?_ | refine List.mem_append_right _ ?_)) rfl) rfl (by decide) ?_
  refine TL.pure (PV.add (i := c.cut) rfl rfl (by omega)) rfl (by decide) ?_
  refine TL.pure (PV.nilCheck rfl) rfl (by decide) ?_
  refine TL.pure (PV.fieldAddr rfl Tb.fo_101_0) rfl (by decide) ?_
  refine TL.pure (PV.fieldAddr rfl Tb.fo_99_3) rfl (by decide) ?_
  refine TL.store rfl rfl Tb.cells_3 rfl (by repeat (first | exact Upd.head _ | apply Upd.tail | apply Upd.appR)) (by first | decide | (simp; done) | (simp; omega) | omega) rfl rfl ?_
  refine TL.nil ?_
  refine TQ.thenC ?_
  refine TC.seq ?_
  refine TC.sub (G' := gbI (h2, c.hol.set k (c.hol.getD k 0 + 1)) ++ (gbI (y.1, drT s.K s.g c.tur (k : Int)) ++ ((b, Obj.cells (tyL { c with tur := drT s.K s.g c.tur (k : Int), grd := c.grd + (sL c.tur + 1 - sL (drT s.K s.g c.tur (k : Int))), hol := c.hol.set k (c.hol.getD k 0 + 1), money := c.money + (s.W.getD k []).getD r9 0, cut := c.cut + 1 } { ph := gp h2, ch := gc h2, pt := gp y.1, ct := gc y.1 }).toArray 101 (0, 0)) :: Z))) (List.Sublist.refl _) ?_
  refine TC.perm (G' := (b, Obj.cells (tyL { c with tur := drT s.K s.g c.tur (k : Int), grd := c.grd + (sL c.tur + 1 - sL (drT s.K s.g c.tur (k : Int))), hol := c.hol.set k (c.hol.getD k 0 + 1), money := c.money + (s.W.getD k []).getD r9 0, cut := c.cut + 1 } { ph := gp h2, ch := gc h2, pt := gp y.1, ct := gc y.1 }).toArray 101 (0, 0)) :: (gbI (h2, c.hol.set k (c.hol.getD k 0 + 1)) ++ (gbI (y.1, drT s.K s.g c.tur (k : Int)) ++ Z))) (List.perm_middle.symm.trans (List.Perm.append_left _ List.perm_middle.symm)) ?_
  refine TC.region ?_
  refine TL.pure (PV.assign rfl) rfl (by decide) ?_
  refine TL.nil ?_
  refine TQ.thenC ?_
  refine TC.ret ?_
  refine TQ.retE1 rfl rfl ?_
  have hC := chg_yes (s := s) (c := c) (o := ⟨1, [(k : Int)]⟩) hE
  rw [cut_c, Int.toNat_natCast, htn] at hC
  exact ⟨({ ph := gp h2, ch := gc h2, pt := gp y.1, ct := gc y.1 }, gbI (h2, c.hol.set k (c.hol.getD k 0 + 1)) ++ gbI (y.1, drT s.K s.g c.tur (k : Int))), by rw [hE], by rw [hC]; exact fun w9 hn9 => ⟨tur_g hh2 (Z := []) w9 (hn9.sub (by rw [List.append_nil, List.append_assoc]; exact List.sublist_append_left _ _)), tur_g hy (Z := []) w9 (hn9.sub (by rw [List.append_nil, List.append_assoc]; exact (List.sublist_append_left _ _).trans (List.sublist_append_right _ _)))⟩, by rw [hC, List.append_assoc]; exact List.Sublist.refl _⟩
  refine TL.pure (PV.loadBox (cs := tyL { c with tur := drT s.K s.g c.tur (k : Int) } { v with pt := gp y.1, ct := gc y.1 }) rfl Tb.agg_101 (by repeat (first | exact List.Mem.head _ | refine List.Mem.tail _ ?_ | refine List.mem_append_right _ ?_)) rfl) rfl (by decide) ?_
  refine TL.nil ?_
  refine TV.next (.inl (by repeat (first | exact .slnil | exact List.nil_sublist _ | exact .refl _ | refine .cons_cons _ ?_ | refine .cons _ ?_ | refine .trans ?_ (List.sublist_append_right _ _)))) ?_
  refine TV.step [4, 10] (by kernel_rfl) (by decide) rfl ⟨⟨_, rfl, ?_⟩, ⟨_, rfl, ?_⟩, trivial⟩
  refine TL.pure (PV.load rfl Tb.one_3 (by repeat (first | exact List.Mem.head _ | refine List.Mem.tail _ ?_ | refine List.mem_append_right _ ?_)) rfl) rfl (by decide) ?_
  refine TL.nil ?_
  refine TV.next (.inl (by repeat (first | exact .slnil | exact List.nil_sublist _ | exact .refl _ | refine .cons_cons _ ?_ | refine .cons _ ?_ | refine .trans ?_ (List.sublist_append_right _ _)))) ?_
  refine TV.step [10] (by kernel_rfl) (by decide) rfl ⟨⟨_, rfl, ?_⟩, trivial⟩
  refine TL.call rfl Tb.gofn_112 (fun a w hs => onHeaps_ok w { c with tur := drT s.K s.g c.tur (k : Int) } { v with pt := gp y.1, ct := gc y.1 } (tur_g hy (Z := []) w (hs.new.sub (by rw [List.append_nil]; exact List.sublist_append_left _ _))) (by show (drT s.K s.g c.tur (k : Int)).length ≤ _; have := hdr.len; have := hv.len; omega) (fun j => by have := hdr.bd hv j; show -1000000 ≤ (drT s.K s.g c.tur (k : Int)).getD j 0 ∧ (drT s.K s.g c.tur (k : Int)).getD j 0 ≤ 1000000; omega)) rfl (by decide) (fun _ _ => ?_)
  refine TL.nil ?_
  refine TV.next (.inl (by repeat (first | exact .slnil | exact List.nil_sublist _ | exact .refl _ | refine .cons_cons _ ?_ | refine .cons _ ?_ | refine .trans ?_ (List.sublist_append_right _ _)))) ?_
  refine TV.virt 11 rfl rfl (by decide) rfl (by kernel_rfl) (SOK.pure (PV.sub (i := sL c.tur + 1) (j := sL (drT s.K s.g c.tur (k : Int))) rfl rfl (by omega)) rfl) ?_
  refine TV.virt 12 rfl rfl (by decide) rfl (by kernel_rfl) (SOK.pure (PV.add (i := c.grd) (j := sL c.tur + 1 - sL (drT s.K s.g c.tur (k : Int))) rfl rfl (by omega)) rfl) ?_
  refine TV.virt 13 rfl rfl (by decide) rfl (by kernel_rfl) (SOK.pure (PV.nilCheck rfl) rfl) ?_
  refine TV.virt 14 rfl rfl (by decide) rfl (by kernel_rfl) (SOK.pure (PV.fieldAddr rfl Tb.fo_101_0) rfl) ?_
  refine TV.virt 15 rfl rfl (by decide) rfl (by kernel_rfl) (SOK.pure (PV.fieldAddr rfl Tb.fo_99_5) rfl) ?_
  refine TV.step [16] (by kernel_rfl) (by decide) rfl ⟨⟨_, rfl, ?_⟩, trivial⟩
  refine TL.store rfl rfl Tb.cells_3 rfl (by repeat (first | exact Upd.head _ | apply Upd.tail | apply Upd.appR)) (by first | decide | (simp; done) | (simp; omega) | omega) rfl rfl ?_
  refine TL.nil ?_
  refine TV.next (.inl (by repeat (first | exact .slnil | exact List.nil_sublist _ | exact .refl _ | refine .cons_cons _ ?_ | refine .cons _ ?_ | refine .trans ?_ (List.sublist_append_right _ _)))) ?_
  refine TV.done (by kernel_rfl) ?_
  refine TQ.thenC ?_
  refine TC.seq ?_
  refine TC.sub (G' := gbI (y.1, drT s.K s.g c.tur (k : Int)) ++ ((b0, Obj.cells (siL s u).toArray 90 (0, 0)) :: (b, Obj.cells (tyL { c with tur := drT s.K s.g c.tur (k : Int), grd := c.grd + (sL c.tur + 1 - sL (drT s.K s.g c.tur (k : Int))) } { v with pt := gp y.1, ct := gc y.1 }).toArray 101 (0, 0)) :: Z)) (List.Sublist.refl _) ?_
  refine TC.region ?_
  refine TL.pure (PV.move rfl) rfl (by decide) ?_
  refine TL.pure (PV.move rfl) rfl (by decide) ?_
  refine TL.pure (PV.nilCheck rfl) rfl (by decide) ?_
  refine TL.pure (PV.fieldAddr rfl Tb.fo_101_1) rfl (by decide) ?_
  refine TL.pure (PV.load rfl Tb.one_25 (by repeat (first | exact List.Mem.head _ | refine List.Mem.tail _ ?_ | refine List.mem_append_right _ ?_)) rfl) rfl (by decide) ?_
  refine TL.pure (PV.move rfl) rfl (by decide) ?_
  refine TL.call rfl Tb.gofn_188 (fun a w hs => plus_v w _ _ c.hol (hT w (hs.new.sub (hZf.trans (by repeat (first | exact .slnil | exact List.nil_sublist _ | exact .refl _ | refine .cons_cons _ ?_ | refine .cons _ ?_ | refine .trans ?_ (List.sublist_append_right _ _)))))).ah (by omega) k (by omega) 1 (by omega) (by omega) _ rfl) rfl (by decide) (fun h2 hh2 => ?_)
  refine TL.pure (PV.nilCheck rfl) rfl (by decide) ?_
  refine TL.pure (PV.fieldAddr rfl Tb.fo_101_1) rfl (by decide) ?_
  refine TL.store rfl rfl Tb.cells_25 rfl (by repeat (first | exact Upd.head _ | apply Upd.tail | apply Upd.appR)) (by first | decide | (simp; done) | (simp; omega) | omega) rfl rfl ?_
  refine TL.nil ?_
  refine TQ.thenC ?_
  refine TC.seq ?_
  refine TC.sub (G' := gbI (h2, c.hol.set k (c.hol.getD k 0 + 1)) ++ (gbI (y.1, drT s.K s.g c.tur (k : Int)) ++ ((b0, Obj.cells (siL s u).toArray 90 (0, 0)) :: (b, Obj.cells (tyL { c with tur := drT s.K s.g c.tur (k : Int), grd := c.grd + (sL c.tur + 1 - sL (drT s.K s.g c.tur (k : Int))), hol := c.hol.set k (c.hol.getD k 0 + 1) } { ph := gp h2, ch := gc h2, pt := gp y.1, ct := gc y.1 }).toArray 101 (0, 0)) :: Z))) (List.Sublist.refl _) ?_
  obtain ⟨q5, q5p, q5v⟩ := rows_now hS hNZ hkW
  obtain ⟨r9, hr9⟩ := Int.eq_ofNat_of_zero_le hat.1
  have htn : (c.hol.getD k 0).toNat = r9 := by omega
  have holt := op_lt hi (cut_0 hE)
  have hvb := hv.vb
  have hrl := hvb.c k hkW
  have hrw := hvb.w k r9
  obtain ⟨q6, q6p, q6v⟩ := ints_now (row_now hS hkW) hNZ (k := r9) (by omega)
  refine TC.mixV [true, true, true, true, false, true, true, true, true, true, true, true, true, true, true, true, true, true, false] ((b0, Obj.cells (siL s u).toArray 90 (0, 0)) :: Z) 19 Tb.mixed rfl (by kernel_rfl) (by kernel_rfl) (by kernel_rfl) (by kernel_rfl) (by repeat (first | exact .slnil | exact List.nil_sublist _ | exact .refl _ | refine .cons_cons _ ?_ | refine .cons _ ?_ | refine .trans ?_ (List.sublist_append_right _ _))) ?_
  refine TV.virt 0 rfl rfl (by decide) rfl (by kernel_rfl) (SOK.pure (PV.move rfl) rfl) ?_
  refine TV.virt 1 rfl rfl (by decide) rfl (by kernel_rfl) (SOK.pure (PV.nilCheck rfl) rfl) ?_
  refine TV.virt 2 rfl rfl (by decide) rfl (by kernel_rfl) (SOK.pure (PV.fieldAddr rfl Tb.fo_101_0) rfl) ?_
  refine TV.virt 3 rfl rfl (by decide) rfl (by kernel_rfl) (SOK.pure (PV.fieldAddr rfl Tb.fo_99_2) rfl) ?_
  refine TV.virt 5 rfl rfl (by decide) rfl (by kernel_rfl) (SOK.pure (PV.fieldAddr rfl Tb.fo_90_0) rfl) ?_
  refine TV.virt 6 rfl rfl (by decide) rfl (by kernel_rfl) (SOK.pure (PV.fieldAddr rfl Tb.fo_24_0) rfl) ?_
  refine TV.virt 7 rfl rfl (by decide) rfl (by kernel_rfl) (SOK.pure (PV.load rfl Tb.one_22 (by repeat (first | exact List.Mem.head _ | refine List.Mem.tail _ ?_ | refine List.mem_append_right _ ?_)) rfl) rfl) ?_
  refine TV.virt 8 rfl rfl (by decide) rfl (by kernel_rfl) (SOK.pure (PV.move rfl) rfl) ?_
  refine TV.virt 9 rfl rfl (by decide) rfl (by kernel_rfl) (SOK.pure (PV.indexA rfl q5p rfl Tb.elm_22 rfl (by omega)) rfl) ?_
  refine TV.virt 10 rfl rfl (by decide) rfl (by kernel_rfl) (SOK.pure (PV.loadN rfl Tb.one_25 (hZf.trans (by repeat (first | exact .slnil | exact List.nil_sublist _ | exact .refl _ | refine .cons_cons _ ?_ | refine .cons _ ?_ | refine .trans ?_ (List.sublist_append_right _ _)))) q5v) rfl) ?_
  refine TV.virt 11 rfl rfl (by decide) rfl (by kernel_rfl) (SOK.pure (PV.move rfl) rfl) ?_
  refine TV.virt 12 rfl rfl (by decide) rfl (by kernel_rfl) (SOK.pure (PV.indexA (j := r9) rfl q6p rfl Tb.elm_25 hr9 (by omega)) rfl) ?_
  refine TV.virt 13 rfl rfl (by decide) rfl (by kernel_rfl) (SOK.pure (PV.loadN rfl Tb.one_3 (hZf.trans (by repeat (first | exact .slnil | exact List.nil_sublist _ | exact .refl _ | refine .cons_cons _ ?_ | refine .cons _ ?_ | refine .trans ?_ (List.sublist_append_right _ _)))) q6v) rfl) ?_
  refine TV.step [4] (by kernel_rfl) (by decide) rfl ⟨⟨_, rfl, ?_⟩, trivial⟩
  refine TL.pure (PV.load rfl Tb.one_3 (by repeat (first | exact List.Mem.head _ | refine List.Mem.tail _ ?_ | refine List.mem_append_right _ ?_)) rfl) rfl (by decide) ?_
  refine TL.nil ?_
  refine TV.next (.inl (by repeat (first | exact .slnil | exact List.nil_sublist _ | exact .refl _ | refine .cons_cons _ ?_ | refine .cons _ ?_ | refine .trans ?_ (List.sublist_append_right _ _)))) ?_
  refine TV.virt 14 rfl rfl (by decide) rfl (by kernel_rfl) (SOK.pure (PV.add (i := c.money) rfl rfl (by omega)) rfl) ?_
  refine TV.virt 15 rfl rfl (by decide) rfl (by kernel_rfl) (SOK.pure (PV.nilCheck rfl) rfl) ?_
  refine TV.virt 16 rfl rfl (by decide) rfl (by kernel_rfl) (SOK.pure (PV.fieldAddr rfl Tb.fo_101_0) rfl) ?_
  refine TV.virt 17 rfl rfl (by decide) rfl (by kernel_rfl) (SOK.pure (PV.fieldAddr rfl Tb.fo_99_2) rfl) ?_
  refine TV.step [18] (by kernel_rfl) (by decide) rfl ⟨⟨_, rfl, ?_⟩, trivial⟩
  refine TL.store rfl rfl Tb.cells_3 rfl (by repeat (first | exact Upd.head _ | apply Upd.tail | apply Upd.appR)) (by first | decide | (simp; done) | (simp; omega) | omega) rfl rfl ?_
  refine TL.nil ?_
  refine TV.next (.inl (by repeat (first | exact .slnil | exact List.nil_sublist _ | exact .refl _ | refine .cons_cons _ ?_ | refine .cons _ ?_ | refine .trans ?_ (List.sublist_append_right _ _)))) ?_
  refine TV.done (by kernel_rfl) ?_
  refine TQ.thenC ?_
  refine TC.seq ?_
  refine TC.sub (G' := gbI (h2, c.hol.set k (c.hol.getD k 0 + 1)) ++ (gbI (y.1, drT s.K s.g c.tur (k : Int)) ++ ((b, Obj.cells (tyL { c with tur := drT s.K s.g c.tur (k : Int), grd := c.grd + (sL c.tur + 1 - sL (drT s.K s.g c.tur (k : Int))), hol := c.hol.set k (c.hol.getD k 0 + 1), money := c.money + (s.W.getD k []).getD r9 0 } { ph := gp h2, ch := gc h2, pt := gp y.1, ct := gc y.1 }).toArray 101 (0, 0)) :: Z))) (List.Sublist.append (List.Sublist.refl _) (List.Sublist.append (List.Sublist.refl _) (List.Sublist.cons _ (List.Sublist.refl _)))) ?_
  refine TC.region ?_
  refine TL.pure (PV.move rfl) rfl (by decide) ?_
  refine TL.pure (PV.nilCheck rfl) rfl (by decide) ?_
  refine TL.pure (PV.fieldAddr rfl Tb.fo_101_0) rfl (by decide) ?_
  refine TL.pure (PV.fieldAddr rfl Tb.fo_99_3) rfl (by decide) ?_
  refine TL.pure (PV.load rfl Tb.one_3 (by repeat (first | exact List.Mem.head _ | refine List.Mem.tail _ ?_ | refine List.mem_append_right _ ?_)) rfl) rfl (by decide) ?_
  refine TL.pure (PV.add (i := c.cut) rfl rfl (by omega)) rfl (by decide) ?_
  refine TL.pure (PV.nilCheck rfl) rfl (by decide) ?_
  refine TL.pure (PV.fieldAddr rfl Tb.fo_101_0) rfl (by decide) ?_
  refine TL.pure (PV.fieldAddr rfl Tb.fo_99_3) rfl (by decide) ?_
  refine TL.store rfl rfl Tb.cells_3 rfl (by repeat (first | exact Upd.head _ | apply Upd.tail | apply Upd.appR)) (by first | decide | (simp; done) | (simp; omega) | omega) rfl rfl ?_
  refine TL.nil ?_
  refine TQ.thenC ?_
  refine TC.seq ?_
  refine TC.sub (G' := gbI (h2, c.hol.set k (c.hol.getD k 0 + 1)) ++ (gbI (y.1, drT s.K s.g c.tur (k : Int)) ++ ((b, Obj.cells (tyL { c with tur := drT s.K s.g c.tur (k : Int), grd := c.grd + (sL c.tur + 1 - sL (drT s.K s.g c.tur (k : Int))), hol := c.hol.set k (c.hol.getD k 0 + 1), money := c.money + (s.W.getD k []).getD r9 0, cut := c.cut + 1 } { ph := gp h2, ch := gc h2, pt := gp y.1, ct := gc y.1 }).toArray 101 (0, 0)) :: Z))) (List.Sublist.refl _) ?_
  refine TC.perm (G' := (b, Obj.cells (tyL { c with tur := drT s.K s.g c.tur (k : Int), grd := c.grd + (sL c.tur + 1 - sL (drT s.K s.g c.tur (k : Int))), hol := c.hol.set k (c.hol.getD k 0 + 1), money := c.money + (s.W.getD k []).getD r9 0, cut := c.cut + 1 } { ph := gp h2, ch := gc h2, pt := gp y.1, ct := gc y.1 }).toArray 101 (0, 0)) :: (gbI (h2, c.hol.set k (c.hol.getD k 0 + 1)) ++ (gbI (y.1, drT s.K s.g c.tur (k : Int)) ++ Z))) (List.perm_middle.symm.trans (List.Perm.append_left _ List.perm_middle.symm)) ?_
  refine TC.region ?_
  refine TL.pure (PV.assign rfl) rfl (by decide) ?_
  refine TL.nil ?_
  refine TQ.thenC ?_
  refine TC.ret ?_
  refine TQ.retE1 rfl rfl ?_
  have hC := chg_yes (s := s) (c := c) (o := ⟨1, [(k : Int)]⟩) hE
  rw [cut_c, Int.toNat_natCast, htn] at hC
  exact ⟨({ ph := gp h2, ch := gc h2, pt := gp y.1, ct := gc y.1 }, gbI (h2, c.hol.set k (c.hol.getD k 0 + 1)) ++ gbI (y.1, drT s.K s.g c.tur (k : Int))), by rw [hE], by rw [hC]; exact fun w9 hn9 => ⟨tur_g hh2 (Z := []) w9 (hn9.sub (by rw [List.append_nil, List.append_assoc]; exact List.sublist_append_left _ _)), tur_g hy (Z := []) w9 (hn9.sub (by rw [List.append_nil, List.append_assoc]; exact (List.sublist_append_left _ _).trans (List.sublist_append_right _ _)))⟩, by rw [hC, List.append_assoc]; exact List.Sublist.refl _⟩
  refine TL.call rfl Tb.gofn_112 (fun a w hs => onHeaps_ok w { c with tur := drT s.K s.g c.tur (k : Int) } { v with pt := gp y.1, ct := gc y.1 } (tur_g hy (Z := []) w (hs.new.sub (by rw [List.append_nil]; exact List.sublist_append_left _ _))) (by show (drT s.K s.g c.tur (k : Int)).length ≤ _; have := hdr.len; have := hv.len; omega) (fun j => by have := hdr.bd hv j; show -1000000 ≤ (drT s.K s.g c.tur (k : Int)).getD j 0 ∧ (drT s.K s.g c.tur (k : Int)).getD j 0 ≤ 1000000; omega)) rfl (by decide) (fun _ _ => ?_)
  refine TL.nil ?_
  refine TV.next (.inl (by repeat (first | exact .slnil | exact List.nil_sublist _ | exact .refl _ | refine .cons_cons _ ?_ | refine .cons _ ?_ | refine .trans ?_ (List.sublist_append_right _ _)))) ?_
  refine TV.virt 11 rfl rfl (by decide) rfl (by kernel_rfl) (SOK.pure (PV.sub (i := sL c.tur + 1) (j := sL (drT s.K s.g c.tur (k : Int))) rfl rfl (by omega)) rfl) ?_
  refine TV.step [4] (by kernel_rfl) (by decide) rfl ⟨⟨_, rfl, ?_⟩, trivial⟩
  refine TL.pure (PV.load rfl Tb.one_3 (by repeat (first | exact List.Mem.head _ | refine List.Mem.tail _ ?_ | refine List.mem_append_right _ ?_)) rfl) rfl (by decide) ?_
  refine TL.nil ?_
  refine TV.next (.inl (by repeat (first | exact .slnil | exact List.nil_sublist _ | exact .refl _ | refine .cons_cons _ ?_ | refine .cons _ ?_ | refine .trans ?_ (List.sublist_append_right _ _)))) ?_
  refine TV.virt 12 rfl rfl (by decide) rfl (by kernel_rfl) (SOK.pure (PV.add (i := c.grd) (j := sL c.tur + 1 - sL (drT s.K s.g c.tur (k : Int))) rfl rfl (by omega)) rfl) ?_
  refine TV.virt 13 rfl rfl (by decide) rfl (by kernel_rfl) (SOK.pure (PV.nilCheck rfl) rfl) ?_
  refine TV.virt 14 rfl rfl (by decide) rfl (by kernel_rfl) (SOK.pure (PV.fieldAddr rfl Tb.fo_101_0) rfl) ?_
  refine TV.virt 15 rfl rfl (by decide) rfl (by kernel_rfl) (SOK.pure (PV.fieldAddr rfl Tb.fo_99_5) rfl) ?_
  refine TV.step [16] (by kernel_rfl) (by decide) rfl ⟨⟨_, rfl, ?_⟩, trivial⟩
  refine TL.store rfl rfl Tb.cells_3 rfl (by repeat (first | exact Upd.head _ | apply Upd.tail | apply Upd.appR)) (by first | decide | (simp; done) | (simp; omega) | omega) rfl rfl ?_
  refine TL.nil ?_
  refine TV.next (.inl (by repeat (first | exact .slnil | exact List.nil_sublist _ | exact .refl _ | refine .cons_cons _ ?_ | refine .cons _ ?_ | refine .trans ?_ (List.sublist_append_right _ _)))) ?_
  refine TV.done (by kernel_rfl) ?_
  refine TQ.thenC ?_
  refine TC.seq ?_
  refine TC.sub (G' := gbI (y.1, drT s.K s.g c.tur (k : Int)) ++ ((b0, Obj.cells (siL s u).toArray 90 (0, 0)) :: (b, Obj.cells (tyL { c with tur := drT s.K s.g c.tur (k : Int), grd := c.grd + (sL c.tur + 1 - sL (drT s.K s.g c.tur (k : Int))) } { v with pt := gp y.1, ct := gc y.1 }).toArray 101 (0, 0)) :: Z)) (List.Sublist.refl _) ?_
  refine TC.region ?_
  refine TL.pure (PV.move rfl) rfl (by decide) ?_
  refine TL.pure (PV.move rfl) rfl (by decide) ?_
  refine TL.pure (PV.nilCheck rfl) rfl (by decide) ?_
  refine TL.pure (PV.fieldAddr rfl Tb.fo_101_1) rfl (by decide) ?_
  refine TL.pure (PV.load rfl Tb.one_25 (by repeat (first | exact List.Mem.head _ | refine List.Mem.tail _ ?_ | refine List.mem_append_right _ ?_)) rfl) rfl (by decide) ?_
  refine TL.pure (PV.move rfl) rfl (by decide) ?_
  refine TL.call rfl Tb.gofn_188 (fun a w hs => plus_v w _ _ c.hol (hT w (hs.new.sub (hZf.trans (by repeat (first | exact .slnil | exact List.nil_sublist _ | exact .refl _ | refine .cons_cons _ ?_ | refine .cons _ ?_ | refine .trans ?_ (List.sublist_append_right _ _)))))).ah (by omega) k (by omega) 1 (by omega) (by omega) _ rfl) rfl (by decide) (fun h2 hh2 => ?_)
  refine TL.pure (PV.nilCheck rfl) rfl (by decide) ?_
  refine TL.pure (PV.fieldAddr rfl Tb.fo_101_1) rfl (by decide) ?_
  refine TL.store rfl rfl Tb.cells_25 rfl (by repeat (first | exact Upd.head _ | apply Upd.tail | apply Upd.appR)) (by first | decide | (simp; done) | (simp; omega) | omega) rfl rfl ?_
  refine TL.nil ?_
  refine TQ.thenC ?_
  refine TC.seq ?_
  refine TC.sub (G' := gbI (h2, c.hol.set k (c.hol.getD k 0 + 1)) ++ (gbI (y.1, drT s.K s.g c.tur (k : Int)) ++ ((b0, Obj.cells (siL s u).toArray 90 (0, 0)) :: (b, Obj.cells (tyL { c with tur := drT s.K s.g c.tur (k : Int), grd := c.grd + (sL c.tur + 1 - sL (drT s.K s.g c.tur (k : Int))), hol := c.hol.set k (c.hol.getD k 0 + 1) } { ph := gp h2, ch := gc h2, pt := gp y.1, ct := gc y.1 }).toArray 101 (0, 0)) :: Z))) (List.Sublist.refl _) ?_
  obtain ⟨q5, q5p, q5v⟩ := rows_now hS hNZ hkW
  obtain ⟨r9, hr9⟩ := Int.eq_ofNat_of_zero_le hat.1
  have htn : (c.hol.getD k 0).toNat = r9 := by omega
  have holt := op_lt hi (cut_0 hE)
  have hvb := hv.vb
  have hrl := hvb.c k hkW
  have hrw := hvb.w k r9
  obtain ⟨q6, q6p, q6v⟩ := ints_now (row_now hS hkW) hNZ (k := r9) (by omega)
  refine TC.mixV [true, true, true, true, false, true, true, true, true, true, true, true, true, true, true, true, true, true, false] ((b0, Obj.cells (siL s u).toArray 90 (0, 0)) :: Z) 19 Tb.mixed rfl (by kernel_rfl) (by kernel_rfl) (by kernel_rfl) (by kernel_rfl) (by repeat (first | exact .slnil | exact List.nil_sublist _ | exact .refl _ | refine .cons_cons _ ?_ | refine .cons _ ?_ | refine .trans ?_ (List.sublist_append_right _ _))) ?_
  refine TV.virt 0 rfl rfl (by decide) rfl (by kernel_rfl) (SOK.pure (PV.move rfl) rfl) ?_
  refine TV.virt 1 rfl rfl (by decide) rfl (by kernel_rfl) (SOK.pure (PV.nilCheck rfl) rfl) ?_
  refine TV.virt 2 rfl rfl (by decide) rfl (by kernel_rfl) (SOK.pure (PV.fieldAddr rfl Tb.fo_101_0) rfl) ?_
  refine TV.virt 3 rfl rfl (by decide) rfl (by kernel_rfl) (SOK.pure (PV.fieldAddr rfl Tb.fo_99_2) rfl) ?_
  refine TV.virt 5 rfl rfl (by decide) rfl (by kernel_rfl) (SOK.pure (PV.fieldAddr rfl Tb.fo_90_0) rfl) ?_
  refine TV.virt 6 rfl rfl (by decide) rfl (by kernel_rfl) (SOK.pure (PV.fieldAddr rfl Tb.fo_24_0) rfl) ?_
  refine TV.virt 7 rfl rfl (by decide) rfl (by kernel_rfl) (SOK.pure (PV.load rfl Tb.one_22 (by repeat (first | exact List.Mem.head _ | refine List.Mem.tail _ ?_ | refine List.mem_append_right _ ?_)) rfl) rfl) ?_
  refine TV.virt 8 rfl rfl (by decide) rfl (by kernel_rfl) (SOK.pure (PV.move rfl) rfl) ?_
  refine TV.virt 9 rfl rfl (by decide) rfl (by kernel_rfl) (SOK.pure (PV.indexA rfl q5p rfl Tb.elm_22 rfl (by omega)) rfl) ?_
  refine TV.virt 10 rfl rfl (by decide) rfl (by kernel_rfl) (SOK.pure (PV.loadN rfl Tb.one_25 (hZf.trans (by repeat (first | exact .slnil | exact List.nil_sublist _ | exact .refl _ | refine .cons_cons _ ?_ | refine .cons _ ?_ | refine .trans ?_ (List.sublist_append_right _ _)))) q5v) rfl) ?_
  refine TV.virt 11 rfl rfl (by decide) rfl (by kernel_rfl) (SOK.pure (PV.move rfl) rfl) ?_
  refine TV.virt 12 rfl rfl (by decide) rfl (by kernel_rfl) (SOK.pure (PV.indexA (j := r9) rfl q6p rfl Tb.elm_25 hr9 (by omega)) rfl) ?_
  refine TV.virt 13 rfl rfl (by decide) rfl (by kernel_rfl) (SOK.pure (PV.loadN rfl Tb.one_3 (hZf.trans (by repeat (first | exact .slnil | exact List.nil_sublist _ | exact .refl _ | refine .cons_cons _ ?_ | refine .cons _ ?_ | refine .trans ?_ (List.sublist_append_right _ _)))) q6v) rfl) ?_
  refine TV.step [4] (by kernel_rfl) (by decide) rfl ⟨⟨_, rfl, ?_⟩, trivial⟩
  refine TL.pure (PV.load rfl Tb.one_3 (by repeat (first | exact List.Mem.head _ | refine List.Mem.tail _ ?_ | refine List.mem_append_right _ ?_)) rfl) rfl (by decide) ?_
  refine TL.nil ?_
  refine TV.next (.inl (by repeat (first | exact .slnil | exact List.nil_sublist _ | exact .refl _ | refine .cons_cons _ ?_ | refine .cons _ ?_ | refine .trans ?_ (List.sublist_append_right _ _)))) ?_
  refine TV.virt 14 rfl rfl (by decide) rfl (by kernel_rfl) (SOK.pure (PV.add (i := c.money) rfl rfl (by omega)) rfl) ?_
  refine TV.virt 15 rfl rfl (by decide) rfl (by kernel_rfl) (SOK.pure (PV.nilCheck rfl) rfl) ?_
  refine TV.virt 16 rfl rfl (by decide) rfl (by kernel_rfl) (SOK.pure (PV.fieldAddr rfl Tb.fo_101_0) rfl) ?_
  refine TV.virt 17 rfl rfl (by decide) rfl (by kernel_rfl) (SOK.pure (PV.fieldAddr rfl Tb.fo_99_2) rfl) ?_
  refine TV.step [18] (by kernel_rfl) (by decide) rfl ⟨⟨_, rfl, ?_⟩, trivial⟩
  refine TL.store rfl rfl Tb.cells_3 rfl (by repeat (first | exact Upd.head _ | apply Upd.tail | apply Upd.appR)) (by first | decide | (simp; done) | (simp; omega) | omega) rfl rfl ?_
  refine TL.nil ?_
  refine TV.next (.inl (by repeat (first | exact .slnil | exact List.nil_sublist _ | exact .refl _ | refine .cons_cons _ ?_ | refine .cons _ ?_ | refine .trans ?_ (List.sublist_append_right _ _)))) ?_
  refine TV.done (by kernel_rfl) ?_
  refine TQ.thenC ?_
  refine TC.seq ?_
  refine TC.sub (G' := gbI (h2, c.hol.set k (c.hol.getD k 0 + 1)) ++ (gbI (y.1, drT s.K s.g c.tur (k : Int)) ++ ((b, Obj.cells (tyL { c with tur := drT s.K s.g c.tur (k : Int), grd := c.grd + (sL c.tur + 1 - sL (drT s.K s.g c.tur (k : Int))), hol := c.hol.set k (c.hol.getD k 0 + 1), money := c.money + (s.W.getD k []).getD r9 0 } { ph := gp h2, ch := gc h2, pt := gp y.1, ct := gc y.1 }).toArray 101 (0, 0)) :: Z))) (List.Sublist.append (List.Sublist.refl _) (List.Sublist.append (List.Sublist.refl _) (List.Sublist.cons _ (List.Sublist.refl _)))) ?_
  refine TC.region ?_
  refine TL.pure (PV.move rfl) rfl (by decide) ?_
  refine TL.pure (PV.nilCheck rfl) rfl (by decide) ?_
  refine TL.pure (PV.fieldAddr rfl Tb.fo_101_0) rfl (by decide) ?_
  refine TL.pure (PV.fieldAddr rfl Tb.fo_99_3) rfl (by decide) ?_
  refine TL.pure (PV.load rfl Tb.one_3 (by repeat (first | exact List.Mem.head _ | refine List.Mem.tail _ ?_ | refine List.mem_append_right _ ?_)) rfl) rfl (by decide) ?_
  refine TL.pure (PV.add (i := c.cut) rfl rfl (by omega)) rfl (by decide) ?_
  refine TL.pure (PV.nilCheck rfl) rfl (by decide) ?_
  refine TL.pure (PV.fieldAddr rfl Tb.fo_101_0) rfl (by decide) ?_
  refine TL.pure (PV.fieldAddr rfl Tb.fo_99_3) rfl (by decide) ?_
  refine TL.store rfl rfl Tb.cells_3 rfl (by repeat (first | exact Upd.head _ | apply Upd.tail | apply Upd.appR)) (by first | decide | (simp; done) | (simp; omega) | omega) rfl rfl ?_
  refine TL.nil ?_
  refine TQ.thenC ?_
  refine TC.seq ?_
  refine TC.sub (G' := gbI (h2, c.hol.set k (c.hol.getD k 0 + 1)) ++ (gbI (y.1, drT s.K s.g c.tur (k : Int)) ++ ((b, Obj.cells (tyL { c with tur := drT s.K s.g c.tur (k : Int), grd := c.grd + (sL c.tur + 1 - sL (drT s.K s.g c.tur (k : Int))), hol := c.hol.set k (c.hol.getD k 0 + 1), money := c.money + (s.W.getD k []).getD r9 0, cut := c.cut + 1 } { ph := gp h2, ch := gc h2, pt := gp y.1, ct := gc y.1 }).toArray 101 (0, 0)) :: Z))) (List.Sublist.refl _) ?_
  refine TC.perm (G' := (b, Obj.cells (tyL { c with tur := drT s.K s.g c.tur (k : Int), grd := c.grd + (sL c.tur + 1 - sL (drT s.K s.g c.tur (k : Int))), hol := c.hol.set k (c.hol.getD k 0 + 1), money := c.money + (s.W.getD k []).getD r9 0, cut := c.cut + 1 } { ph := gp h2, ch := gc h2, pt := gp y.1, ct := gc y.1 }).toArray 101 (0, 0)) :: (gbI (h2, c.hol.set k (c.hol.getD k 0 + 1)) ++ (gbI (y.1, drT s.K s.g c.tur (k : Int)) ++ Z))) (List.perm_middle.symm.trans (List.Perm.append_left _ List.perm_middle.symm)) ?_
  refine TC.region ?_
  refine TL.pure (PV.assign rfl) rfl (by decide) ?_
  refine TL.nil ?_
  refine TQ.thenC ?_
  refine TC.ret ?_
  refine TQ.retE1 rfl rfl ?_
  have hC := chg_yes (s := s) (c := c) (o := ⟨1, [(k : Int)]⟩) hE
  rw [cut_c, Int.toNat_natCast, htn] at hC
  exact ⟨({ ph := gp h2, ch := gc h2, pt := gp y.1, ct := gc y.1 }, gbI (h2, c.hol.set k (c.hol.getD k 0 + 1)) ++ gbI (y.1, drT s.K s.g c.tur (k : Int))), by rw [hE], by rw [hC]; exact fun w9 hn9 => ⟨tur_g hh2 (Z := []) w9 (hn9.sub (by rw [List.append_nil, List.append_assoc]; exact List.sublist_append_left _ _)), tur_g hy (Z := []) w9 (hn9.sub (by rw [List.append_nil, List.append_assoc]; exact (List.sublist_append_left _ _).trans (List.sublist_append_right _ _)))⟩, by rw [hC, List.append_assoc]; exact List.Sublist.refl _⟩

end Go.Proofs.YtbnjmkidbfmomaaGreatDoor
