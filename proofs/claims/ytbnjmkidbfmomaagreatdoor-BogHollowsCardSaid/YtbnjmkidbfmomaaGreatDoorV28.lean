/- Xy -/
import Derived.Test.YtbnjmkidbfmomaaGreatDoorV06
import Derived.Test.YtbnjmkidbfmomaaGreatDoorV27
set_option linter.unusedVariables false
set_option linter.unusedSimpArgs false
set_option maxRecDepth 100000
namespace Go.Proofs.YtbnjmkidbfmomaaGreatDoor
open Go.Sx Go.RowKit Go.Bt Go.Lib Go.Sand
theorem goI_set {h : HD} {xs : List Int} (ho : goI (h, xs)) {k : Nat} {x : Int} : goI (h, xs.set k x) := by
  obtain _ | ⟨b, cap, sp⟩ := h
  · have h0 : xs.length = 0 := ho.2
    have e : xs = [] := List.length_eq_zero_iff.1 h0
    subst e; exact ho
  · obtain ⟨h1, h2⟩ := ho
    exact ⟨by simp [ival], by simpa [ival] using h2⟩
theorem rsq_ok (w0 : World) (b : Nat) (n r k : Int) (hc : w0.cell? ⟨b, 4, none⟩ = some (.int .i64 n)) (hn : 0 ≤ n ∧ n ≤ 1000) (hr : 0 ≤ r ∧ r ≤ 1000) (hk : 0 ≤ k ∧ k ≤ 1000) :
    Calls Tryz.prog 116 #[.pointer (some ⟨b, 0, none⟩), .int .i64 r, .int .i64 k] w0 (Post (X := Unit) (fun _ => .int .i64 (r * n + k)) (fun _ => True) (fun _ => []) w0) := by
  have hm : 0 ≤ r * n ∧ r * n ≤ 1000000 := ⟨Int.mul_nonneg hr.1 hn.1, Int.le_trans (Int.mul_le_mul hr.2 hn.2 hn.1 (by decide)) (by decide)⟩
  refine calls Tryz.func116 rfl (n := 16) rfl (by simp) ?_
  refine zr (za rfl (zk (zm rfl (zm rfl (zq (PV.nilCheck rfl) rfl (zq (PV.fieldAddr rfl Tb.fo_54_2) rfl (zq (PV.fieldAddr rfl Tb.fo_52_1) rfl (zq (PV.loadOld rfl Tb.one_3 hc) rfl (zq (PV.mul rfl rfl om) rfl (zm rfl (zq (PV.add rfl rfl om) rfl (za rfl (zt (TQ.retE1 rfl rfl ?_))))))))))))))
  exact ⟨(), rfl, trivial, nils⟩
set_option maxHeartbeats 1000000 in
theorem rload_ok (w0 w : World) (s : St) (hv : SV s) (u : SU) (c : Co) (v : RV) (hi : Inv s c) (b : Nat) (ho : HD) (hgt : goI (v.ht, c.tur)) (Z : Heap) (hN : New w0 w (rcB b s u c v ho :: rcH c v :: (gbI (v.ht, c.tur) ++ Z))) (a n : Int) (ha : 0 ≤ a ∧ a ≤ 999) (hn : 0 ≤ n ∧ n ≤ 999) :
    Calls Tryz.prog 75 #[.pointer (some ⟨b, 0, none⟩), .int .i64 a, .int .i64 n] w (Post (X := Unit) (fun _ => .int .i64 (actI s c ⟨2, [a, n]⟩)) (fun _ => goI (v.ht, (chgC s c ⟨2, [a, n]⟩).tur)) (fun _ => rcB b s u (chgC s c ⟨2, [a, n]⟩) v ho :: rcH (chgC s c ⟨2, [a, n]⟩) v :: (gbI (v.ht, (chgC s c ⟨2, [a, n]⟩).tur) ++ Z)) w0) := by
  have hbn := hi.bnd hv
  have h5 := hv.n5
  have hhl := hi.hl
  have htl := hi.tl' hv
  have hbm := hbn.bm
  have hbl := hbn.bl
  refine callsM hN Tryz.func75 rfl (n := 51) rfl (by simp) ?_
  refine zr (za rfl (zn (TC.seq (zr (zm rfl (zm rfl (zq (PV.nilCheck rfl) rfl (zq (PV.fieldAddr rfl Tb.fo_54_10) rfl (zq (PV.load (v := .slice (gp v.ht) c.tur.length (gc v.ht)) rfl Tb.one_25 m9z rfl) rfl ?_)))))))))
  refine zq (PV.len rfl Tb.sl_25) rfl (zq (PV.geq rfl rfl) rfl (zn (TC.cd rfl (fun g1 => ?_) (fun g1 => ?_))))
  refine zr (za rfl (zt (TQ.thenR (TQ.retE1 rfl rfl ?_))))
  have hE : actI s c ⟨2, [a, n]⟩ = 4 := by rw [load_e, if_pos (by omega)]
  have hC := chg_no (s := s) (c := c) (o := ⟨2, [a, n]⟩) (by rw [hE]; decide)
  exact ⟨(), by rw [hE], by rw [hC]; exact hgt, by rw [hC]; exact List.Sublist.refl _⟩
  refine TC.skip (TQ.thenC (TC.seq (zr (zm rfl (zq (PV.eql rfl rfl) rfl (zn (TC.cd rfl (fun g2 => ?_) (fun g2 => ?_))))))))
  refine zr (za rfl (zt (TQ.thenR (TQ.retE1 rfl rfl ?_))))
  have hE : actI s c ⟨2, [a, n]⟩ = 1 := by rw [load_e, if_neg (by omega), if_pos (by first | exact g2 | omega)]
  have hC := chg_no (s := s) (c := c) (o := ⟨2, [a, n]⟩) (by rw [hE]; decide)
  exact ⟨(), by rw [hE], by rw [hC]; exact hgt, by rw [hC]; exact List.Sublist.refl _⟩
  refine TC.skip (TQ.thenC (TC.seq (zr (zm rfl (zq (PV.nilCheck rfl) rfl (zq (PV.fieldAddr rfl Tb.fo_54_10) rfl (zq (PV.load (v := gval v.ht c.tur.length) rfl Tb.one_25 m9z (by show some (Value.slice (gp v.ht) c.tur.length (gc v.ht)) = _; rw [gvs hgt])) rfl ?_)))))))
  refine zm rfl (zq (PV.indexG (h := v.ht) (len := c.tur.length) (ys := ival c.tur) (j := a.toNat) rfl rfl hgt Tb.elm_25 (Int.toNat_of_nonneg ha.1).symm om) rfl (zq (PV.loadGI (y := (v.ht, c.tur)) (j := a.toNat) (v := c.tur.getD a.toNat 0) rfl Tb.one_3 r9z hgt (by show a.toNat < c.tur.length; omega) rfl) rfl ?_))
  refine zm rfl (zq (PV.lss rfl rfl) rfl (zn (TC.cd rfl (fun g3 => ?_) (fun g3 => ?_))))
  refine zr (za rfl (zt (TQ.thenR (TQ.retE1 rfl rfl ?_))))
  have hE : actI s c ⟨2, [a, n]⟩ = 11 := by rw [load_e, if_neg (by omega), if_neg (by first | exact g2 | omega), if_pos (by first | exact g3 | omega)]
  have hC := chg_no (s := s) (c := c) (o := ⟨2, [a, n]⟩) (by rw [hE]; decide)
  exact ⟨(), by rw [hE], by rw [hC]; exact hgt, by rw [hC]; exact List.Sublist.refl _⟩
  refine TC.skip (TQ.thenC (zr (zm rfl (zq (PV.nilCheck rfl) rfl (zq (PV.fieldAddr rfl Tb.fo_54_10) rfl (zq (PV.load (v := gval v.ht c.tur.length) rfl Tb.one_25 m9z (by show some (Value.slice (gp v.ht) c.tur.length (gc v.ht)) = _; rw [gvs hgt])) rfl ?_))))))
  refine zm rfl (zq (PV.indexG (h := v.ht) (len := c.tur.length) (ys := ival c.tur) (j := a.toNat) rfl rfl hgt Tb.elm_25 (Int.toNat_of_nonneg ha.1).symm om) rfl (zq (PV.loadGI (y := (v.ht, c.tur)) (j := a.toNat) (v := c.tur.getD a.toNat 0) rfl Tb.one_3 r9z hgt (by show a.toNat < c.tur.length; omega) rfl) rfl ?_))
  refine zm rfl (zq (PV.sub rfl rfl (by have := (hi.tb hv a.toNat); omega)) rfl ?_)
  refine zq (PV.indexG (h := v.ht) (len := c.tur.length) (ys := ival c.tur) (j := a.toNat) rfl rfl hgt Tb.elm_25 (Int.toNat_of_nonneg ha.1).symm om) rfl (TL.putI (h := v.ht) (xs := c.tur) (xs' := c.tur.set a.toNat (c.tur.getD a.toNat 0 - n)) (j := a.toNat) rfl rfl Tb.cells_3 hgt rfl p9z om rfl rfl ?_)
  refine zk (zm rfl (zq (PV.nilCheck rfl) rfl (zq (PV.fieldAddr rfl Tb.fo_54_7) rfl (zq (PV.load rfl Tb.one_3 m9z rfl) rfl ?_))))
  refine zm rfl (zq (PV.add rfl rfl om) rfl (zq (PV.nilCheck rfl) rfl (zq (PV.fieldAddr rfl Tb.fo_54_7) rfl (TL.store rfl rfl Tb.cells_3 rfl u9z d9z rfl rfl ?_))))
  refine zk (zm rfl (zq (PV.nilCheck rfl) rfl (zq (PV.fieldAddr rfl Tb.fo_54_5) rfl (zq (PV.load rfl Tb.one_3 m9z rfl) rfl ?_))))
  refine zm rfl (zq (PV.add rfl rfl om) rfl (zq (PV.nilCheck rfl) rfl (zq (PV.fieldAddr rfl Tb.fo_54_5) rfl (TL.store rfl rfl Tb.cells_3 rfl u9z d9z rfl rfl ?_))))
  refine zk (za rfl (zt (TQ.retE1 rfl rfl ?_)))
  have hE : actI s c ⟨2, [a, n]⟩ = 0 := by rw [load_e, if_neg (by omega), if_neg (by first | exact g2 | omega), if_neg (by first | exact g3 | omega)]
  have hC := (chg_yes (s := s) (c := c) (o := ⟨2, [a, n]⟩) hE).trans load_c
  exact ⟨(), by rw [hE], by rw [hC]; exact goI_set hgt, by rw [hC]; simp only [rcB, rcL, rcH, List.length_set]; exact List.Sublist.refl _⟩
theorem rsq_v (w0 : World) (s : St) (hv : SV s) (b : Nat) (r k : Int) (hc : w0.cell? ⟨b, 4, none⟩ = some (.int .i64 (s.W.length : Nat))) (hr : 0 ≤ r ∧ r ≤ 1000) (hk : 0 ≤ k ∧ k ≤ 1000) :
    Calls Tryz.prog 116 #[.pointer (some ⟨b, 0, none⟩), .int .i64 r, .int .i64 k] w0 (Post (X := Unit) (fun _ => .int .i64 (s.sq r k : Nat)) (fun _ => True) (fun _ => []) w0) := by
  have h5 := hv.n5
  have hm : 0 ≤ r * (s.W.length : Int) := Int.mul_nonneg hr.1 (by omega)
  have e : ((s.sq r k : Nat) : Int) = r * (s.W.length : Int) + k := by
    show (((r * s.W.length + k).toNat : Nat) : Int) = _
    rw [Int.toNat_of_nonneg (by omega)]
  rw [e]
  exact rsq_ok w0 b (s.W.length : Nat) r k hc (by omega) hr hk
set_option maxHeartbeats 1000000 in
theorem rwet_ok (w0 w : World) (s : St) (hv : SV s) (u : SU) (c : Co) (v : RV) (hi : Inv s c) (b : Nat) (ho : HD) (hgt : goI (v.ht, c.tur)) (Z : Heap) (hN : New w0 w (rcB b s u c v ho :: rcH c v :: (gbI (v.ht, c.tur) ++ Z))) (r k : Int) (hr : 0 ≤ r ∧ r ≤ 999) (hk : 0 ≤ k ∧ k ≤ 999) :
    Calls Tryz.prog 76 #[.pointer (some ⟨b, 0, none⟩), .int .i64 r, .int .i64 k] w (Post (X := Unit) (fun _ => .int .i64 (actI s c ⟨3, [r, k]⟩)) (fun _ => goI (v.ht, (chgC s c ⟨3, [r, k]⟩).tur)) (fun _ => rcB b s u (chgC s c ⟨3, [r, k]⟩) v ho :: rcH (chgC s c ⟨3, [r, k]⟩) v :: (gbI (v.ht, (chgC s c ⟨3, [r, k]⟩).tur) ++ Z)) w0) := by
  have hbn := hi.bnd hv
  have h5 := hv.n5
  have hhl := hi.hl
  have htl := hi.tl' hv
  have hbm := hbn.bm
  have hbl := hbn.bl
  have hwl := hi.wl
  have h63 := wet63 hv hwl
  refine callsM hN Tryz.func76 rfl (n := 54) rfl (by simp) ?_
  refine zr (za rfl (zn (TC.seq (zr (zm rfl (zm rfl (zq (PV.nilCheck rfl) rfl (zq (PV.fieldAddr rfl Tb.fo_54_2) rfl (zq (PV.fieldAddr rfl Tb.fo_52_0) rfl (zq (PV.load rfl Tb.one_3 m9z rfl) rfl ?_))))))))))
  refine zq (PV.geq rfl rfl) rfl (zm rfl (TL.sp 14 rfl (fun g0 => ?_) (fun g0 => ?_)))
  refine zx rfl (zx rfl (zx rfl (zx rfl (zx rfl (zx rfl (zx rfl (zq (PV.pickT rfl rfl) rfl (zn (TC.condT rfl (zr (za rfl (zt (TQ.thenR (TQ.retE1 rfl rfl ?_))))))))))))))
  have hE : actI s c ⟨3, [r, k]⟩ = 4 := by rw [wet_e, if_pos (by omega)]
  have hC := chg_no (s := s) (c := c) (o := ⟨3, [r, k]⟩) (by rw [hE]; decide)
  exact ⟨(), by rw [hE], by rw [hC]; exact hgt, by rw [hC]; exact List.Sublist.refl _⟩
  refine zm rfl (zm rfl (zq (PV.nilCheck rfl) rfl (zq (PV.fieldAddr rfl Tb.fo_54_2) rfl (zq (PV.fieldAddr rfl Tb.fo_52_1) rfl (zq (PV.load rfl Tb.one_3 m9z rfl) rfl ?_)))))
  refine zq (PV.geq rfl rfl) rfl (zq (PV.pickF rfl rfl) rfl (zn (TC.cd rfl (fun g1 => ?_) (fun g1 => ?_))))
  refine zr (za rfl (zt (TQ.thenR (TQ.retE1 rfl rfl ?_))))
  have hE : actI s c ⟨3, [r, k]⟩ = 4 := by rw [wet_e, if_pos (by omega)]
  have hC := chg_no (s := s) (c := c) (o := ⟨3, [r, k]⟩) (by rw [hE]; decide)
  exact ⟨(), by rw [hE], by rw [hC]; exact hgt, by rw [hC]; exact List.Sublist.refl _⟩
  refine TC.skip (TQ.thenC (TC.seq (TC.seq ?_)))
  have hat := hi.ho.toNB.at_ k.toNat
  refine TC.region (zm rfl (zq (PV.nilCheck rfl) rfl (zq (PV.fieldAddr rfl Tb.fo_54_9) rfl (zq (PV.load (v := .slice (some ⟨v.bh, 0, none⟩) c.hol.length c.hol.length) rfl Tb.one_25 m9z rfl) rfl ?_))))
  refine zm rfl (zq (PV.index1 (j := k.toNat) rfl rfl Tb.elm_25 (Int.toNat_of_nonneg hk.1).symm om) rfl (zq (C.PV.loadIv (xs := c.hol) (j := k.toNat) (v := c.hol.getD k.toNat 0) rfl Tb.one_3 m9z om rfl) rfl ?_))
  refine zm rfl (zq (PV.leq rfl rfl) rfl (zn (TC.cd rfl (fun g2 => ?_) (fun g2 => ?_))))
  refine zr (za rfl (zt (TQ.thenR (TQ.retE1 rfl rfl ?_))))
  have hE : actI s c ⟨3, [r, k]⟩ = 8 := by rw [wet_e, if_neg (by omega), if_pos (by first | exact g2 | omega)]
  have hC := chg_no (s := s) (c := c) (o := ⟨3, [r, k]⟩) (by rw [hE]; decide)
  exact ⟨(), by rw [hE], by rw [hC]; exact hgt, by rw [hC]; exact List.Sublist.refl _⟩
  refine TC.skip (TQ.thenC (TC.seq (TC.seq ?_)))
  have hq60 := sq_60 hv (r := r) (k := k) (by omega) (by omega)
  refine TC.mixV [true, true, true, true, true, true, true, false, false] [rcB b s u c v ho] 9 Tb.mixed rfl kr kr kr kr s9z ?_
  refine zv 0 rfl kr (PV.move rfl) rfl (zv 1 rfl kr (PV.nilCheck rfl) rfl (zv 2 rfl kr (PV.fieldAddr rfl Tb.fo_54_4) rfl (zv 3 rfl kr (PV.load rfl Tb.one_3 m9z rfl) rfl ?_)))
  refine zv 4 rfl kr (PV.move rfl) rfl (zv 5 rfl kr (PV.move rfl) rfl (zv 6 rfl kr (PV.move rfl) rfl (TV.step [7] kr dc rfl ⟨⟨_, rfl, ?_⟩, trivial⟩)))
  refine TL.call rfl Tb.gofn_116 (fun a w hs => rsq_v w s hv b r k (hs.new.cell m9z rfl) om om) rfl dc (fun _ _ => ?_)
  refine TL.nil (TV.next (.inl s9z) ?_)
  refine TV.step [8] kr dc rfl ⟨⟨_, rfl, ?_⟩, trivial⟩
  refine TL.call rfl Tb.gofn_117 (fun a w hs => M.rHas_ok w c.wet (s.sq r k) h63 om) rfl dc (fun _ _ => ?_)
  refine TL.nil (TV.next (.inl s9z) ?_)
  refine TV.done kr ?_
  refine TQ.thenC (TC.cd rfl (fun g3 => ?_) (fun g3 => ?_))
  refine zr (za rfl (zt (TQ.thenR (TQ.retE1 rfl rfl ?_))))
  have hE : actI s c ⟨3, [r, k]⟩ = 5 := by rw [wet_e, if_neg (by omega), if_neg (by first | exact g2 | omega), if_pos g3]
  have hC := chg_no (s := s) (c := c) (o := ⟨3, [r, k]⟩) (by rw [hE]; decide)
  exact ⟨(), by rw [hE], by rw [hC]; exact hgt, by rw [hC]; exact List.Sublist.refl _⟩
  refine TC.skip (TQ.thenC (TC.seq (TC.mixV [true, true, true, false, true, true, true, false, false, true, true, true, true, false] [] 14 Tb.mixed rfl kr kr kr kr s9z ?_)))
  refine zv 0 rfl kr (PV.move rfl) rfl (zv 1 rfl kr (PV.nilCheck rfl) rfl (zv 2 rfl kr (PV.fieldAddr rfl Tb.fo_54_4) rfl (zv 4 rfl kr (PV.move rfl) rfl (zv 5 rfl kr (PV.move rfl) rfl (zv 6 rfl kr (PV.move rfl) rfl (TV.step [3, 7] kr dc rfl ⟨⟨_, rfl, ?_⟩, ⟨_, rfl, ?_⟩, trivial⟩))))))
  refine zq (PV.load rfl Tb.one_3 m9z rfl) rfl ?_
  refine TL.nil (TV.next (.inl s9z) ?_)
  refine TV.step [7] kr dc rfl ⟨⟨_, rfl, ?_⟩, trivial⟩
  refine TL.call rfl Tb.gofn_116 (fun a w hs => rsq_v w s hv b r k (hs.new.cell m9z rfl) om om) rfl dc (fun _ _ => ?_)
  refine TL.nil (TV.next (.inl s9z) ?_)
  refine TV.step [8] kr dc rfl ⟨⟨_, rfl, ?_⟩, trivial⟩
  refine zq (PV.conv (v := ((s.sq r k : Nat) : Int)) Tb.int_3 Tb.int_55 rfl (M.conv_u om)) rfl ?_
  refine TL.nil (TV.next (.inl s9z) ?_)
  refine zv 9 rfl kr (M.PV.shlK rfl rfl om om (M.shl_nat hq60)) rfl (zv 10 rfl kr (M.PV.orK rfl rfl (M.or_nat h63 (M.p63 om))) rfl (zv 11 rfl kr (PV.nilCheck rfl) rfl (zv 12 rfl kr (PV.fieldAddr rfl Tb.fo_54_4) rfl (TV.step [13] kr dc rfl ⟨⟨_, rfl, ?_⟩, trivial⟩))))
  refine TL.store rfl rfl Tb.cells_3 rfl u9z d9z rfl rfl ?_
  refine TL.nil (TV.next (.inl s9z) ?_)
  refine TV.done kr ?_
  refine TQ.thenC (zr (za rfl (zt (TQ.retE1 rfl rfl ?_))))
  have hE : actI s c ⟨3, [r, k]⟩ = 0 := by rw [wet_e, if_neg (by omega), if_neg (by first | exact g2 | omega), if_neg (by rw [g3]; decide)]
  have hC := (chg_yes (s := s) (c := c) (o := ⟨3, [r, k]⟩) hE).trans wet_c
  exact ⟨(), by rw [hE], by rw [hC]; exact hgt, by rw [hC]; exact List.Sublist.refl _⟩
  refine TL.call rfl Tb.gofn_116 (fun a w hs => rsq_v w s hv b r k (hs.new.cell m9z rfl) om om) rfl dc (fun _ _ => ?_)
  refine TL.nil (TV.next (.inl s9z) ?_)
  refine TV.step [3, 8] kr dc rfl ⟨⟨_, rfl, ?_⟩, ⟨_, rfl, ?_⟩, trivial⟩
  refine zq (PV.load rfl Tb.one_3 m9z rfl) rfl ?_
  refine TL.nil (TV.next (.inl s9z) ?_)
  refine TV.step [8] kr dc rfl ⟨⟨_, rfl, ?_⟩, trivial⟩
  refine zq (PV.conv (v := ((s.sq r k : Nat) : Int)) Tb.int_3 Tb.int_55 rfl (M.conv_u om)) rfl ?_
  refine TL.nil (TV.next (.inl s9z) ?_)
  refine zv 9 rfl kr (M.PV.shlK rfl rfl om om (M.shl_nat hq60)) rfl (zv 10 rfl kr (M.PV.orK rfl rfl (M.or_nat h63 (M.p63 om))) rfl (zv 11 rfl kr (PV.nilCheck rfl) rfl (zv 12 rfl kr (PV.fieldAddr rfl Tb.fo_54_4) rfl (TV.step [13] kr dc rfl ⟨⟨_, rfl, ?_⟩, trivial⟩))))
  refine TL.store rfl rfl Tb.cells_3 rfl u9z d9z rfl rfl ?_
  refine TL.nil (TV.next (.inl s9z) ?_)
  refine TV.done kr ?_
  refine TQ.thenC (zr (za rfl (zt (TQ.retE1 rfl rfl ?_))))
  have hE : actI s c ⟨3, [r, k]⟩ = 0 := by rw [wet_e, if_neg (by omega), if_neg (by first | exact g2 | omega), if_neg (by rw [g3]; decide)]
  have hC := (chg_yes (s := s) (c := c) (o := ⟨3, [r, k]⟩) hE).trans wet_c
  exact ⟨(), by rw [hE], by rw [hC]; exact hgt, by rw [hC]; exact List.Sublist.refl _⟩
  refine zq (PV.conv (v := ((s.sq r k : Nat) : Int)) Tb.int_3 Tb.int_55 rfl (M.conv_u om)) rfl ?_
  refine TL.nil (TV.next (.inl s9z) ?_)
  refine zv 9 rfl kr (M.PV.shlK rfl rfl om om (M.shl_nat hq60)) rfl (TV.step [3] kr dc rfl ⟨⟨_, rfl, ?_⟩, trivial⟩)
  refine zq (PV.load rfl Tb.one_3 m9z rfl) rfl ?_
  refine TL.nil (TV.next (.inl s9z) ?_)
  refine zv 10 rfl kr (M.PV.orK rfl rfl (M.or_nat h63 (M.p63 om))) rfl (zv 11 rfl kr (PV.nilCheck rfl) rfl (zv 12 rfl kr (PV.fieldAddr rfl Tb.fo_54_4) rfl (TV.step [13] kr dc rfl ⟨⟨_, rfl, ?_⟩, trivial⟩)))
  refine TL.store rfl rfl Tb.cells_3 rfl u9z d9z rfl rfl ?_
  refine TL.nil (TV.next (.inl s9z) ?_)
  refine TV.done kr ?_
  refine TQ.thenC (zr (za rfl (zt (TQ.retE1 rfl rfl ?_))))
  have hE : actI s c ⟨3, [r, k]⟩ = 0 := by rw [wet_e, if_neg (by omega), if_neg (by first | exact g2 | omega), if_neg (by rw [g3]; decide)]
  have hC := (chg_yes (s := s) (c := c) (o := ⟨3, [r, k]⟩) hE).trans wet_c
  exact ⟨(), by rw [hE], by rw [hC]; exact hgt, by rw [hC]; exact List.Sublist.refl _⟩
end Go.Proofs.YtbnjmkidbfmomaaGreatDoor
