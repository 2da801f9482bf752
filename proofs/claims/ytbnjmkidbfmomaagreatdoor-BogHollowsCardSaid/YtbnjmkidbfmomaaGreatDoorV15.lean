/- Hf Hg -/
import Derived.Test.YtbnjmkidbfmomaaGreatDoorV06
import Derived.Test.YtbnjmkidbfmomaaGreatDoorV14
set_option linter.unusedVariables false
set_option linter.unusedSimpArgs false
set_option maxRecDepth 100000
namespace Go.Proofs.YtbnjmkidbfmomaaGreatDoor.H
open Go.Sx Go.RowKit Go.Sand
def tpK (ls : List (List Int)) (gs : List Int) (xs : List Int) (i : Nat) (t : Int) (k : Nat) : List Int := mk xs.length fun j => xs.getD j 0 + (if j < k then t * getM ls i j else 0) - (if j = i then t * limI ls gs i else 0)
def rpK (ls : List (List Int)) (xs : List Int) (i : Nat) (t : Int) (k : Nat) : List Int := mk xs.length fun j => xs.getD j 0 + (if j < k then t * getM ls i j else 0)
theorem tpK_len (ls : List (List Int)) (gs : List Int) (xs : List Int) (i : Nat) (t : Int) (k : Nat) : (tpK ls gs xs i t k).length = xs.length := mk_len _ _
theorem rpK_len (ls : List (List Int)) (xs : List Int) (i : Nat) (t : Int) (k : Nat) : (rpK ls xs i t k).length = xs.length := mk_len _ _
theorem tp_start {ls : List (List Int)} {gs : List Int} {xs : List Int} {i : Nat} {t : Int} (hi : i < xs.length) : xs.set i (xs.getD i 0 - t * limI ls gs i) = tpK ls gs xs i t 0 := by
  refine mk_eq (by simp) fun j hj => ?_
  rw [set_at hi, if_neg (Nat.not_lt_zero j)]
  by_cases e : i = j
  · subst e; simp
  · rw [if_neg e, if_neg (fun h => e h.symm)]; omega
theorem tp_step {ls : List (List Int)} {gs : List Int} {xs : List Int} {i k : Nat} {t : Int} (hk : k < xs.length) : (tpK ls gs xs i t k).set k ((tpK ls gs xs i t k).getD k 0 + t * getM ls i k) = tpK ls gs xs i t (k + 1) := by
  refine mk_set hk ?_ fun j hj hne => ?_
  · unfold tpK
    rw [mk_at _ hk]
    simp only [Nat.lt_irrefl, if_false, Nat.lt_succ_self, if_true]
    omega
  · have e : (j < k + 1) ↔ (j < k) := by omega
    simp only [e]
theorem tp_end {ls : List (List Int)} {gs : List Int} {xs : List Int} {i k : Nat} {t : Int} (hk : k = xs.length) : tpK ls gs xs i t k = tpN ls gs xs i t :=
  mk_congr fun j hj => by
    have e : j < k := by omega
    simp only [e, if_true]
theorem rp_start (ls : List (List Int)) (xs : List Int) (i : Nat) (t : Int) : xs = rpK ls xs i t 0 := mk_eq rfl fun j hj => by rw [if_neg (Nat.not_lt_zero j)]; omega
theorem rp_step {ls : List (List Int)} {xs : List Int} {i k : Nat} {t : Int} (hk : k < xs.length) : (rpK ls xs i t k).set k ((rpK ls xs i t k).getD k 0 + t * getM ls i k) = rpK ls xs i t (k + 1) := by
  refine mk_set hk ?_ fun j hj hne => ?_
  · unfold rpK
    rw [mk_at _ hk]
    simp only [Nat.lt_irrefl, if_false, Nat.lt_succ_self, if_true]
    omega
  · have e : (j < k + 1) ↔ (j < k) := by omega
    simp only [e]
theorem rp_end {ls : List (List Int)} {gs : List Int} {xs : List Int} {i k : Nat} {t : Int} (hk : k = xs.length) (hi : i < xs.length) : (rpK ls xs i t k).set i ((rpK ls xs i t k).getD i 0 - t * limI ls gs i) = tpN ls gs xs i t := by
  subst hk
  refine mk_set hi ?_ fun j hj hne => ?_
  · unfold rpK
    rw [mk_at _ hi]
    simp only [hi, if_true]
  · simp only [hj, hne, if_true, if_false]; omega
theorem at_bd {xs : List Int} {B : Int} (hB : 0 ≤ B) (h : ∀ k, k < xs.length → -B ≤ xs.getD k 0 ∧ xs.getD k 0 ≤ B) (k : Nat) : -B ≤ xs.getD k 0 ∧ xs.getD k 0 ≤ B := by
  by_cases hk : k < xs.length
  · exact h k hk
  · have e : xs.getD k 0 = 0 := by simp [List.getD, hk]
    omega
theorem tpK_bd {ls : List (List Int)} {gs : List Int} (hB : HB ls gs) {xs : List Int} {i : Nat} (hi : i < gs.length) {t : Int} (ht : -1000000000 ≤ t ∧ t ≤ 1000000000) (hx9 : ∀ k, -1000000000000 ≤ xs.getD k 0 ∧ xs.getD k 0 ≤ 1000000000000) (k j : Nat) :
    -2000000000000 ≤ (tpK ls gs xs i t k).getD j 0 ∧ (tpK ls gs xs i t k).getD j 0 ≤ 2000000000000 := by
  refine at_bd (by decide) (fun j hj => ?_) j
  rw [tpK_len] at hj
  have h1 := mul_bd ht (hB.ent i j)
  have h2 := mul_bd (a := limI ls gs i) (c := 12) ht ⟨by have := (hB.lim hi).1; omega, (hB.lim hi).2⟩
  have h3 := hx9 j
  unfold tpK
  rw [mk_at _ hj]
  split <;> split <;> omega
theorem rpK_bd {ls : List (List Int)} {gs : List Int} (hB : HB ls gs) {xs : List Int} {i : Nat} {t : Int} (ht : -1000000000 ≤ t ∧ t ≤ 1000000000) (hx9 : ∀ k, -1000000000000 ≤ xs.getD k 0 ∧ xs.getD k 0 ≤ 1000000000000) (k j : Nat) :
    -2000000000000 ≤ (rpK ls xs i t k).getD j 0 ∧ (rpK ls xs i t k).getD j 0 ≤ 2000000000000 := by
  refine at_bd (by decide) (fun j hj => ?_) j
  rw [rpK_len] at hj
  have h1 := mul_bd ht (hB.ent i j)
  have h3 := hx9 j
  unfold rpK
  rw [mk_at _ hj]
  split <;> omega
theorem go_len {h : HD} {n : Nat} {xs l : List Int} (ho : gok h n 1 (ival xs)) (hl : l.length = n) : gok h n 1 (ival l) := by
  obtain ⟨h1, h2⟩ := ho
  refine ⟨by simp [hl], ?_⟩
  cases h with
  | none => exact h2
  | some hh =>
    obtain ⟨b, c, sp⟩ := hh
    simp only [List.length_map] at h1 h2 ⊢
    exact ⟨by omega, h2.2⟩
theorem go_lenI {h : HD} {n : Nat} {xs l : List Int} (ho : gok h n 1 (ival xs)) (hl : l.length = n) : goI (h, l) := by
  have := go_len ho hl
  subst hl
  exact this
theorem gbI_blk (b c : Nat) (l : List Int) : gbI (some (b, c, []), l) = [(b, Obj.cells (intsA l) 3 (0, 0))] := by
  show [(b, Obj.cells (ival l ++ []).toArray 3 (0, 0))] = _
  rw [List.append_nil]
  rfl
theorem goI_blk (b : Nat) (l : List Int) : goI (some (b, l.length, []), l) := ⟨by simp, by simp, Nat.le_refl _⟩
theorem sz_3 : (Tryz.prog.info? 3).map (·.size) = some 1 := by kernel_rfl
theorem copied_ok (w0 : World) (pl : Option Addr) (cl : Nat) (xs : List Int) (hx : IntsAt w0 pl xs) (N : Nat) (hN : xs.length = N) (hl : xs.length ≤ 1000000) :
    Calls Tryz.prog 217 #[.slice pl N cl] w0 (Post (X := Nat) (fun b => .slice (some ⟨b, 0, none⟩) N N) (fun _ => True) (fun b => [(b, Obj.cells (intsA (xs)) 3 (0, 0))]) w0) := by
  subst hN
  refine calls Tryz.func217 rfl (n := 11) rfl (by simp) ?_
  refine zr (za rfl (zk (zm rfl (zq (PV.len rfl Tb.sl_25) rfl (TL.makeI rfl rfl Tb.sl_25 Tb.zi_3 rfl om om rfl dc (fun b0 hb0 => ?_))))))
  refine za rfl (zk (zm rfl (zm rfl (TL.copyI (arr := intsA (List.replicate xs.length 0)) (G' := [(b0, Obj.cells (intsA (xs)) 3 (0, 0))]) rfl rfl Tb.sl_25 sz_3 hx (Nat.le_refl _) (by rw [intsA_size, List.length_replicate]; exact Nat.le_refl _) (by rw [put_all (by simp)]; exact Upd.head _) rfl dc ?_))))
  refine zk (zm rfl (za rfl (zt (TQ.retE1 rfl rfl ?_))))
  exact ⟨b0, rfl, trivial, List.Sublist.refl _⟩
set_option maxHeartbeats 1000000 in
theorem topple_ok {w0 w : World} {b cc : Nat} {xs : List Int} {R : Heap} (hn : New w0 w ((b, Obj.cells (intsA (xs)) 3 (0, 0)) :: R)) (p : Option Addr) (cp : Nat) (ls : List (List Int)) (hr : LsAt w0 p ls) (q : Option Addr) (cq : Nat) (gs : List Int) (hg : IntsAt w0 q gs) (hB : HB ls gs) (N : Nat) (hN : xs.length = N) (hxl : xs.length = gs.length) (i : Nat) (hi : i < gs.length) (t : Int) (ht : -1000000000 ≤ t ∧ t ≤ 1000000000) (hx9 : ∀ k, -1000000000000 ≤ xs.getD k 0 ∧ xs.getD k 0 ≤ 1000000000000) :
    Calls Tryz.prog 240 #[hv p ls.length cp q gs.length cq, .slice (some ⟨b, 0, none⟩) N cc, .int .i64 i, .int .i64 t] w (Post (X := Unit) (fun _ => .tuple #[]) (fun _ => True) (fun _ => (b, Obj.cells (intsA (tpN ls gs xs i t)) 3 (0, 0)) :: R) w0) := by
  have hn9 := hB.n
  have hl9 := hB.len
  have hrk := hB.rowl (k := i) (by omega)
  have hlim := hB.lim hi
  have hml := mul_bd (a := limI ls gs i) (c := 12) ht ⟨by omega, hlim.2⟩
  refine callsM hn Tryz.func240 rfl (n := 42) rfl (by simp) ?_
  refine zr (TL.box rfl rfl dc (fun b0 hb0 => ?_))
  refine zn (TC.seq ?_)
  have hxi := hx9 i
  refine TC.mix [true, true, true, false, true, true, true, false, false, false, false, false] ((b0, Obj.cells #[.slice p ls.length cp, .slice q gs.length cq] 27 (0, 0)) :: R) 6 Tb.mixed rfl kr kr kr kr s9z ?_
  refine TB.op (SOK.pure (PV.move rfl) rfl) dc ?_
  refine TB.op (SOK.pure (PV.move rfl) rfl) dc ?_
  refine TB.op (SOK.pure (PV.index1 (j := i) rfl rfl Tb.elm_25 rfl om) rfl) dc ?_
  refine TB.no ?_
  refine TB.op (SOK.pure (PV.move rfl) rfl) dc ?_
  refine TB.op (SOK.pure (PV.loadBox rfl Tb.agg_27 m9z rfl) rfl) dc ?_
  refine TB.op (SOK.pure (PV.move rfl) rfl) dc ?_
  refine TB.no ?_
  refine TB.no ?_
  refine TB.no ?_
  refine TB.no ?_
  refine TB.no ?_
  refine TB.fin ?_
  refine TX.step [3, 7] kr dc ⟨⟨_, rfl, ?_⟩, ⟨_, rfl, ?_⟩, trivial⟩
  refine zq (PV.loadI rfl Tb.one_3 m9z om) rfl ?_
  refine TL.nil ?_
  refine TX.next (.inl s9z) ?_
  refine TX.step [7] kr dc ⟨⟨_, rfl, ?_⟩, trivial⟩
  refine TL.call rfl Tb.gofn_219 (fun a w hs => limit_ok w _ _ _ (hr.new hs.new) _ _ _ (hg.new hs.new) hB i hi) rfl dc (fun _ _ => ?_)
  refine TL.nil ?_
  refine TX.next (.inl s9z) ?_
  refine TX.step [8] kr dc ⟨⟨_, rfl, ?_⟩, trivial⟩
  refine zq (PV.mul rfl rfl om) rfl (TL.nil ?_)
  refine TX.next (.inl s9z) ?_
  refine TX.step [9] kr dc ⟨⟨_, rfl, ?_⟩, trivial⟩
  refine zq (PV.sub rfl rfl om) rfl (TL.nil ?_)
  refine TX.next (.inl s9z) ?_
  refine TX.step [10] kr dc ⟨⟨_, rfl, ?_⟩, trivial⟩
  refine zq (PV.index1 (j := i) rfl rfl Tb.elm_25 rfl om) rfl (TL.nil ?_)
  refine TX.next (.inr kr) ?_
  refine TX.step [11] kr dc ⟨⟨_, rfl, ?_⟩, trivial⟩
  refine TL.storeIv (j := i) (xs' := tpK ls gs xs i t 0) rfl rfl Tb.cells_3 (tp_start om) u9z om rfl rfl ?_
  refine TL.nil ?_
  refine TX.next (.inr kr) ?_
  refine TX.done kr ?_
  refine TQ.thenC (TC.seq ?_)
  obtain ⟨q1, hq1p, p1, c1, hq1, hi1⟩ := hr i (by omega)
  refine TC.region (zq (PV.fieldAddr rfl Tb.fo_27_0) rfl (zq (PV.load rfl Tb.one_22 m9z rfl) rfl ?_))
  refine zm rfl (zq (PV.indexA rfl hq1p rfl Tb.elm_22 rfl om) rfl (zq (PV.loadOld rfl Tb.one_25 hq1) rfl (zq (PV.len rfl Tb.sl_25) rfl (zm rfl (zn (TC.block (TC.loopK [1, 3, 25, 26] (X := Nat) (fun k => k ≤ xs.length) (fun k => [(27, .int .i64 k)]) (fun k => (b0, Obj.cells #[.slice p ls.length cp, .slice q gs.length cq] 27 (0, 0)) :: (b, Obj.cells (intsA (tpK ls gs xs i t k)) 3 (0, 0)) :: R) (fun k => xs.length - k) 0 (Nat.zero_le _) l9z s9z ?_)))))))
  intro k hk
  refine zr (zq (PV.lss rfl rfl) rfl (zn (TC.seq (TC.cd rfl (fun h0 => ?_) (fun h0 => ?_)))))
  refine TC.skip (TQ.thenC (TC.seq (TC.block (TC.seq ?_))))
  obtain ⟨q2, hq2p, hq2⟩ := hi1 k (by omega)
  refine TC.region (zm rfl (zq (PV.indexA rfl hq2p rfl Tb.elm_25 rfl om) rfl (zq (PV.loadOld rfl Tb.one_3 hq2) rfl (za rfl (za rfl (zn ?_))))))
  have hmk := mul_bd ht (hB.ent i k)
  unfold getM at hmk
  have hwk := tpK_bd hB hi ht hx9 k k
  refine TC.region (zm rfl (zm rfl (zq (PV.index1 (j := k) rfl rfl Tb.elm_25 rfl om) rfl (zq (PV.loadI rfl Tb.one_3 m9z (by rw [tpK_len]; omega)) rfl ?_))))
  refine zm rfl (zm rfl (zq (PV.mul rfl rfl om) rfl (zq (PV.add rfl rfl om) rfl (zq (PV.index1 (j := k) rfl rfl Tb.elm_25 rfl om) rfl (TL.storeIv (j := k) (xs' := tpK ls gs xs i t (k + 1)) rfl rfl Tb.cells_3 (tp_step om) u9z (by rw [tpK_len]; omega) rfl rfl ?_)))))
  refine TL.nil (TQ.blkN (TQ.thenC (TC.region (zq (PV.add rfl rfl om) rfl (zm rfl (TL.nil (TQ.thenN (TQ.backK (k + 1) l9z l9z s9z om om))))))))
  refine TC.exit (TQ.thenE (TQ.thenE (TQ.blkS (TQ.retN rfl (Res.nil) ?_))))
  exact ⟨(), rfl, trivial, by rw [tp_end (show k = xs.length by omega)]; exact List.Sublist.cons _ (List.Sublist.refl _)⟩
  refine TL.call rfl Tb.gofn_219 (fun a w hs => limit_ok w _ _ _ (hr.new hs.new) _ _ _ (hg.new hs.new) hB i hi) rfl dc (fun _ _ => ?_)
  refine TL.nil ?_
  refine TX.next (.inl s9z) ?_
  refine TX.step [3, 8] kr dc ⟨⟨_, rfl, ?_⟩, ⟨_, rfl, ?_⟩, trivial⟩
  refine zq (PV.loadI rfl Tb.one_3 m9z om) rfl ?_
  refine TL.nil ?_
  refine TX.next (.inl s9z) ?_
  refine TX.step [8] kr dc ⟨⟨_, rfl, ?_⟩, trivial⟩
  refine zq (PV.mul rfl rfl om) rfl (TL.nil ?_)
  refine TX.next (.inl s9z) ?_
  refine TX.step [9] kr dc ⟨⟨_, rfl, ?_⟩, trivial⟩
  refine zq (PV.sub rfl rfl om) rfl (TL.nil ?_)
  refine TX.next (.inl s9z) ?_
  refine TX.step [10] kr dc ⟨⟨_, rfl, ?_⟩, trivial⟩
  refine zq (PV.index1 (j := i) rfl rfl Tb.elm_25 rfl om) rfl (TL.nil ?_)
  refine TX.next (.inr kr) ?_
  refine TX.step [11] kr dc ⟨⟨_, rfl, ?_⟩, trivial⟩
  refine TL.storeIv (j := i) (xs' := tpK ls gs xs i t 0) rfl rfl Tb.cells_3 (tp_start om) u9z om rfl rfl ?_
  refine TL.nil ?_
  refine TX.next (.inr kr) ?_
  refine TX.done kr ?_
  refine TQ.thenC (TC.seq ?_)
  obtain ⟨q1, hq1p, p1, c1, hq1, hi1⟩ := hr i (by omega)
  refine TC.region (zq (PV.fieldAddr rfl Tb.fo_27_0) rfl (zq (PV.load rfl Tb.one_22 m9z rfl) rfl ?_))
  refine zm rfl (zq (PV.indexA rfl hq1p rfl Tb.elm_22 rfl om) rfl (zq (PV.loadOld rfl Tb.one_25 hq1) rfl (zq (PV.len rfl Tb.sl_25) rfl (zm rfl (zn (TC.block (TC.loopK [1, 3, 25, 26] (X := Nat) (fun k => k ≤ xs.length) (fun k => [(27, .int .i64 k)]) (fun k => (b0, Obj.cells #[.slice p ls.length cp, .slice q gs.length cq] 27 (0, 0)) :: (b, Obj.cells (intsA (tpK ls gs xs i t k)) 3 (0, 0)) :: R) (fun k => xs.length - k) 0 (Nat.zero_le _) l9z s9z ?_)))))))
  intro k hk
  refine zr (zq (PV.lss rfl rfl) rfl (zn (TC.seq (TC.cd rfl (fun h1 => ?_) (fun h1 => ?_)))))
  refine TC.skip (TQ.thenC (TC.seq (TC.block (TC.seq ?_))))
  obtain ⟨q2, hq2p, hq2⟩ := hi1 k (by omega)
  refine TC.region (zm rfl (zq (PV.indexA rfl hq2p rfl Tb.elm_25 rfl om) rfl (zq (PV.loadOld rfl Tb.one_3 hq2) rfl (za rfl (za rfl (zn ?_))))))
  have hmk := mul_bd ht (hB.ent i k)
  unfold getM at hmk
  have hwk := tpK_bd hB hi ht hx9 k k
  refine TC.region (zm rfl (zm rfl (zq (PV.index1 (j := k) rfl rfl Tb.elm_25 rfl om) rfl (zq (PV.loadI rfl Tb.one_3 m9z (by rw [tpK_len]; omega)) rfl ?_))))
  refine zm rfl (zm rfl (zq (PV.mul rfl rfl om) rfl (zq (PV.add rfl rfl om) rfl (zq (PV.index1 (j := k) rfl rfl Tb.elm_25 rfl om) rfl (TL.storeIv (j := k) (xs' := tpK ls gs xs i t (k + 1)) rfl rfl Tb.cells_3 (tp_step om) u9z (by rw [tpK_len]; omega) rfl rfl ?_)))))
  refine TL.nil (TQ.blkN (TQ.thenC (TC.region (zq (PV.add rfl rfl om) rfl (zm rfl (TL.nil (TQ.thenN (TQ.backK (k + 1) l9z l9z s9z om om))))))))
  refine TC.exit (TQ.thenE (TQ.thenE (TQ.blkS (TQ.retN rfl (Res.nil) ?_))))
  exact ⟨(), rfl, trivial, by rw [tp_end (show k = xs.length by omega)]; exact List.Sublist.cons _ (List.Sublist.refl _)⟩
  refine zq (PV.mul rfl rfl om) rfl (TL.nil ?_)
  refine TX.next (.inl s9z) ?_
  refine TX.step [3] kr dc ⟨⟨_, rfl, ?_⟩, trivial⟩
  refine zq (PV.loadI rfl Tb.one_3 m9z om) rfl ?_
  refine TL.nil ?_
  refine TX.next (.inl s9z) ?_
  refine TX.step [9] kr dc ⟨⟨_, rfl, ?_⟩, trivial⟩
  refine zq (PV.sub rfl rfl om) rfl (TL.nil ?_)
  refine TX.next (.inl s9z) ?_
  refine TX.step [10] kr dc ⟨⟨_, rfl, ?_⟩, trivial⟩
  refine zq (PV.index1 (j := i) rfl rfl Tb.elm_25 rfl om) rfl (TL.nil ?_)
  refine TX.next (.inr kr) ?_
  refine TX.step [11] kr dc ⟨⟨_, rfl, ?_⟩, trivial⟩
  refine TL.storeIv (j := i) (xs' := tpK ls gs xs i t 0) rfl rfl Tb.cells_3 (tp_start om) u9z om rfl rfl ?_
  refine TL.nil ?_
  refine TX.next (.inr kr) ?_
  refine TX.done kr ?_
  refine TQ.thenC (TC.seq ?_)
  obtain ⟨q1, hq1p, p1, c1, hq1, hi1⟩ := hr i (by omega)
  refine TC.region (zq (PV.fieldAddr rfl Tb.fo_27_0) rfl (zq (PV.load rfl Tb.one_22 m9z rfl) rfl ?_))
  refine zm rfl (zq (PV.indexA rfl hq1p rfl Tb.elm_22 rfl om) rfl (zq (PV.loadOld rfl Tb.one_25 hq1) rfl (zq (PV.len rfl Tb.sl_25) rfl (zm rfl (zn (TC.block (TC.loopK [1, 3, 25, 26] (X := Nat) (fun k => k ≤ xs.length) (fun k => [(27, .int .i64 k)]) (fun k => (b0, Obj.cells #[.slice p ls.length cp, .slice q gs.length cq] 27 (0, 0)) :: (b, Obj.cells (intsA (tpK ls gs xs i t k)) 3 (0, 0)) :: R) (fun k => xs.length - k) 0 (Nat.zero_le _) l9z s9z ?_)))))))
  intro k hk
  refine zr (zq (PV.lss rfl rfl) rfl (zn (TC.seq (TC.cd rfl (fun h2 => ?_) (fun h2 => ?_)))))
  refine TC.skip (TQ.thenC (TC.seq (TC.block (TC.seq ?_))))
  obtain ⟨q2, hq2p, hq2⟩ := hi1 k (by omega)
  refine TC.region (zm rfl (zq (PV.indexA rfl hq2p rfl Tb.elm_25 rfl om) rfl (zq (PV.loadOld rfl Tb.one_3 hq2) rfl (za rfl (za rfl (zn ?_))))))
  have hmk := mul_bd ht (hB.ent i k)
  unfold getM at hmk
  have hwk := tpK_bd hB hi ht hx9 k k
  refine TC.region (zm rfl (zm rfl (zq (PV.index1 (j := k) rfl rfl Tb.elm_25 rfl om) rfl (zq (PV.loadI rfl Tb.one_3 m9z (by rw [tpK_len]; omega)) rfl ?_))))
  refine zm rfl (zm rfl (zq (PV.mul rfl rfl om) rfl (zq (PV.add rfl rfl om) rfl (zq (PV.index1 (j := k) rfl rfl Tb.elm_25 rfl om) rfl (TL.storeIv (j := k) (xs' := tpK ls gs xs i t (k + 1)) rfl rfl Tb.cells_3 (tp_step om) u9z (by rw [tpK_len]; omega) rfl rfl ?_)))))
  refine TL.nil (TQ.blkN (TQ.thenC (TC.region (zq (PV.add rfl rfl om) rfl (zm rfl (TL.nil (TQ.thenN (TQ.backK (k + 1) l9z l9z s9z om om))))))))
  refine TC.exit (TQ.thenE (TQ.thenE (TQ.blkS (TQ.retN rfl (Res.nil) ?_))))
  exact ⟨(), rfl, trivial, by rw [tp_end (show k = xs.length by omega)]; exact List.Sublist.cons _ (List.Sublist.refl _)⟩
set_option maxHeartbeats 1000000 in
theorem rtopple_ok (w0 : World) (p : Option Addr) (cp : Nat) (ls : List (List Int)) (hr : LsAt w0 p ls) (q : Option Addr) (cq : Nat) (gs : List Int) (hg : IntsAt w0 q gs) (hB : HB ls gs) (pl : Option Addr) (cl : Nat) (xs : List Int) (hx : IntsAt w0 pl xs) (N : Nat) (hN : xs.length = N) (hxl : xs.length = gs.length) (i : Nat) (hi : i < gs.length) (t : Int) (ht : -1000000000 ≤ t ∧ t ≤ 1000000000) (hx9 : ∀ k, -1000000000000 ≤ xs.getD k 0 ∧ xs.getD k 0 ≤ 1000000000000) :
    Calls Tryz.prog 193 #[hv p ls.length cp q gs.length cq, .slice pl N cl, .int .i64 i, .int .i64 t] w0 (Post (X := HD) (fun h => gval h N) (fun h => gok h N 1 (ival (tpN ls gs xs i t))) (fun h => gbI (h, tpN ls gs xs i t)) w0) := by
  have hn9 := hB.n
  have hl9 := hB.len
  have hrk := hB.rowl (k := i) (by omega)
  have hlim := hB.lim hi
  have hml := mul_bd (a := limI ls gs i) (c := 12) ht ⟨by omega, hlim.2⟩
  refine calls Tryz.func193 rfl (n := 48) rfl (by simp) ?_
  refine zr (TL.box rfl rfl dc (fun b0 hb0 => ?_))
  refine za rfl (zk (TL.buildSlice0 Tb.sl_25 Tb.zi_3 rfl dc (fun bA hbA => ?_)))
  refine zm rfl (TL.append0 (m := N) (news := ival xs) (bA := bA) rfl rfl Tb.sl_25 Tb.zi_3 rfl t9z (fun w' hN2 => ints_src Tb.sl_25 hN (hx.new hN2)) om om rfl dc (fun h9 ho9 => ?_))
  refine za rfl (zn (TC.seq (zr (za rfl (zn (TC.block (TC.loopK [2, 3, 4, 8, 9] (X := Nat) (fun k => k ≤ xs.length) (fun k => [(10, .int .i64 k)]) (fun k => gbI (h9, rpK ls xs i t k) ++ [(b0, Obj.cells #[.slice p ls.length cp, .slice q gs.length cq] 27 (0, 0))]) (fun k => xs.length - k) 0 (Nat.zero_le _) l9z (by rw [← rp_start]; exact List.Sublist.refl _) ?_)))))))
  intro k hk
  refine TC.seq (zr (zm rfl (zm rfl (zq (PV.lenG rfl ho9 Tb.sl_25) rfl (zq (PV.lss rfl rfl) rfl (zn (TC.cd rfl (fun h0 => ?_) (fun h0 => ?_))))))))
  refine TC.skip (TQ.thenC (TC.seq (TC.block ?_)))
  obtain ⟨q1, hq1p, p1, c1, hq1, hi1⟩ := hr i (by omega)
  obtain ⟨q2, hq2p, hq2⟩ := hi1 k (by omega)
  have hmk := mul_bd ht (hB.ent i k)
  unfold getM at hmk
  have hwk := rpK_bd hB (i := i) ht hx9 k k
  refine TC.draw 16 Tb.mixed kr ?_
  simp only [List.take_succ_cons, List.take_zero, List.drop_succ_cons, List.drop_zero]
  refine TS.pure (PV.move rfl) rfl dc ?_
  refine TS.pure (PV.move rfl) rfl dc ?_
  refine TS.pure (PV.indexG (j := k) rfl rfl (go_len ho9 ((rpK_len ls xs i t k).trans hN)) Tb.elm_25 rfl om) rfl dc ?_
  refine TS.pure (PV.loadGI (y := (h9, rpK ls xs i t k)) (v := (rpK ls xs i t k).getD k 0) rfl Tb.one_3 (fun yy hyy => by repeat (first | exact List.mem_append_left _ hyy | refine List.mem_append_right _ ?_ | refine List.Mem.tail _ ?_)) (go_lenI ho9 ((rpK_len ls xs i t k).trans hN)) (by rw [rpK_len]; omega) rfl) rfl (by decide) ?_
  refine TS.pure (PV.move rfl) rfl dc ?_
  refine TS.pure (PV.fieldAddr rfl Tb.fo_27_0) rfl dc ?_
  refine TS.pure (PV.load rfl Tb.one_22 m9z rfl) rfl dc ?_
  refine TS.pure (PV.move rfl) rfl dc ?_
  refine TS.pure (PV.indexA rfl hq1p rfl Tb.elm_22 rfl om) rfl dc ?_
  refine TS.pure (PV.loadOld rfl Tb.one_25 hq1) rfl dc ?_
  refine TS.pure (PV.move rfl) rfl dc ?_
  refine TS.pure (PV.indexA rfl hq2p rfl Tb.elm_25 rfl om) rfl dc ?_
  refine TS.pure (PV.loadOld rfl Tb.one_3 hq2) rfl dc ?_
  refine TS.pure (PV.mul rfl rfl om) rfl dc ?_
  refine TS.pure (PV.add rfl rfl om) rfl dc ?_
  refine TS.pure (PV.indexG (j := k) rfl rfl (go_len ho9 ((rpK_len ls xs i t k).trans hN)) Tb.elm_25 rfl om) rfl dc ?_
  refine TS.nil ?_
  refine TL.putI (h := h9) (xs := rpK ls xs i t k) (xs' := rpK ls xs i t (k + 1)) (j := k) rfl rfl Tb.cells_3 (go_lenI ho9 ((rpK_len ls xs i t k).trans hN)) (rp_step om) p9z (by rw [rpK_len]; omega) rfl rfl ?_
  refine TL.nil (TQ.blkN (TQ.thenC (TC.region (zm rfl (zq (PV.add rfl rfl om) rfl (za rfl (TL.nil (TQ.thenN (TQ.backK (k + 1) l9z l9z (List.Sublist.refl _) om om)))))))))
  refine TC.exit (TQ.thenE (TQ.thenE (TQ.blkS (TQ.thenC (TC.seq ?_)))))
  have hwi := rpK_bd hB (i := i) ht hx9 k i
  refine TC.mix [true, true, true, false, true, true, true, false, false, false, false, false] [(b0, Obj.cells #[.slice p ls.length cp, .slice q gs.length cq] 27 (0, 0))] 6 Tb.mixed rfl kr kr kr kr s9z ?_
  refine TB.op (SOK.pure (PV.move rfl) rfl) dc ?_
  refine TB.op (SOK.pure (PV.move rfl) rfl) dc ?_
  refine TB.op (SOK.pure (PV.indexG (j := i) rfl rfl (go_len ho9 ((rpK_len ls xs i t k).trans hN)) Tb.elm_25 rfl om) rfl) dc ?_
  refine TB.no ?_
  refine TB.op (SOK.pure (PV.move rfl) rfl) dc ?_
  refine TB.op (SOK.pure (PV.loadBox rfl Tb.agg_27 m9z rfl) rfl) dc ?_
  refine TB.op (SOK.pure (PV.move rfl) rfl) dc ?_
  refine TB.no ?_
  refine TB.no ?_
  refine TB.no ?_
  refine TB.no ?_
  refine TB.no ?_
  refine TB.fin ?_
  refine TX.step [3, 7] kr dc ⟨⟨_, rfl, ?_⟩, ⟨_, rfl, ?_⟩, trivial⟩
  refine zq (PV.loadGI (y := (h9, rpK ls xs i t k)) (j := i) (v := (rpK ls xs i t k).getD i 0) rfl Tb.one_3 (fun yy hyy => by repeat (first | exact List.mem_append_left _ hyy | refine List.mem_append_right _ ?_ | refine List.Mem.tail _ ?_)) (go_lenI ho9 ((rpK_len ls xs i t k).trans hN)) (by rw [rpK_len]; omega) rfl) rfl ?_
  refine TL.nil ?_
  refine TX.next (.inl s9z) ?_
  refine TX.step [7] kr dc ⟨⟨_, rfl, ?_⟩, trivial⟩
  refine TL.call rfl Tb.gofn_130 (fun a w hs => rlimit_ok w _ _ _ (hr.new hs.new) _ _ _ (hg.new hs.new) hB i hi) rfl dc (fun _ _ => ?_)
  refine TL.nil ?_
  refine TX.next (.inl s9z) ?_
  refine TX.step [8] kr dc ⟨⟨_, rfl, ?_⟩, trivial⟩
  refine zq (PV.mul rfl rfl om) rfl (TL.nil ?_)
  refine TX.next (.inl s9z) ?_
  refine TX.step [9] kr dc ⟨⟨_, rfl, ?_⟩, trivial⟩
  refine zq (PV.sub rfl rfl om) rfl (TL.nil ?_)
  refine TX.next (.inl s9z) ?_
  refine TX.step [10] kr dc ⟨⟨_, rfl, ?_⟩, trivial⟩
  refine zq (PV.indexG (j := i) rfl rfl (go_len ho9 ((rpK_len ls xs i t k).trans hN)) Tb.elm_25 rfl om) rfl (TL.nil ?_)
  refine TX.next (.inr kr) ?_
  refine TX.step [11] kr dc ⟨⟨_, rfl, ?_⟩, trivial⟩
  refine TL.putI (h := h9) (xs := rpK ls xs i t k) (xs' := tpN ls gs xs i t) (j := i) rfl rfl Tb.cells_3 (go_lenI ho9 ((rpK_len ls xs i t k).trans hN)) (rp_end om om) p9z (by rw [rpK_len]; omega) rfl rfl ?_
  refine TL.nil ?_
  refine TX.next (.inr kr) ?_
  refine TX.done kr ?_
  refine TQ.thenC (zr (zm rfl (za rfl (zt (TQ.retE1 rfl rfl ?_)))))
  exact ⟨h9, rfl, go_len ho9 ((tp_len _ _ _ _ _).trans hN), List.sublist_append_left _ _⟩
  refine TL.call rfl Tb.gofn_130 (fun a w hs => rlimit_ok w _ _ _ (hr.new hs.new) _ _ _ (hg.new hs.new) hB i hi) rfl dc (fun _ _ => ?_)
  refine TL.nil ?_
  refine TX.next (.inl s9z) ?_
  refine TX.step [3, 8] kr dc ⟨⟨_, rfl, ?_⟩, ⟨_, rfl, ?_⟩, trivial⟩
  refine zq (PV.loadGI (y := (h9, rpK ls xs i t k)) (j := i) (v := (rpK ls xs i t k).getD i 0) rfl Tb.one_3 (fun yy hyy => by repeat (first | exact List.mem_append_left _ hyy | refine List.mem_append_right _ ?_ | refine List.Mem.tail _ ?_)) (go_lenI ho9 ((rpK_len ls xs i t k).trans hN)) (by rw [rpK_len]; omega) rfl) rfl ?_
  refine TL.nil ?_
  refine TX.next (.inl s9z) ?_
  refine TX.step [8] kr dc ⟨⟨_, rfl, ?_⟩, trivial⟩
  refine zq (PV.mul rfl rfl om) rfl (TL.nil ?_)
  refine TX.next (.inl s9z) ?_
  refine TX.step [9] kr dc ⟨⟨_, rfl, ?_⟩, trivial⟩
  refine zq (PV.sub rfl rfl om) rfl (TL.nil ?_)
  refine TX.next (.inl s9z) ?_
  refine TX.step [10] kr dc ⟨⟨_, rfl, ?_⟩, trivial⟩
  refine zq (PV.indexG (j := i) rfl rfl (go_len ho9 ((rpK_len ls xs i t k).trans hN)) Tb.elm_25 rfl om) rfl (TL.nil ?_)
  refine TX.next (.inr kr) ?_
  refine TX.step [11] kr dc ⟨⟨_, rfl, ?_⟩, trivial⟩
  refine TL.putI (h := h9) (xs := rpK ls xs i t k) (xs' := tpN ls gs xs i t) (j := i) rfl rfl Tb.cells_3 (go_lenI ho9 ((rpK_len ls xs i t k).trans hN)) (rp_end om om) p9z (by rw [rpK_len]; omega) rfl rfl ?_
  refine TL.nil ?_
  refine TX.next (.inr kr) ?_
  refine TX.done kr ?_
  refine TQ.thenC (zr (zm rfl (za rfl (zt (TQ.retE1 rfl rfl ?_)))))
  exact ⟨h9, rfl, go_len ho9 ((tp_len _ _ _ _ _).trans hN), List.sublist_append_left _ _⟩
  refine zq (PV.mul rfl rfl om) rfl (TL.nil ?_)
  refine TX.next (.inl s9z) ?_
  refine TX.step [3] kr dc ⟨⟨_, rfl, ?_⟩, trivial⟩
  refine zq (PV.loadGI (y := (h9, rpK ls xs i t k)) (j := i) (v := (rpK ls xs i t k).getD i 0) rfl Tb.one_3 (fun yy hyy => by repeat (first | exact List.mem_append_left _ hyy | refine List.mem_append_right _ ?_ | refine List.Mem.tail _ ?_)) (go_lenI ho9 ((rpK_len ls xs i t k).trans hN)) (by rw [rpK_len]; omega) rfl) rfl ?_
  refine TL.nil ?_
  refine TX.next (.inl s9z) ?_
  refine TX.step [9] kr dc ⟨⟨_, rfl, ?_⟩, trivial⟩
  refine zq (PV.sub rfl rfl om) rfl (TL.nil ?_)
  refine TX.next (.inl s9z) ?_
  refine TX.step [10] kr dc ⟨⟨_, rfl, ?_⟩, trivial⟩
  refine zq (PV.indexG (j := i) rfl rfl (go_len ho9 ((rpK_len ls xs i t k).trans hN)) Tb.elm_25 rfl om) rfl (TL.nil ?_)
  refine TX.next (.inr kr) ?_
  refine TX.step [11] kr dc ⟨⟨_, rfl, ?_⟩, trivial⟩
  refine TL.putI (h := h9) (xs := rpK ls xs i t k) (xs' := tpN ls gs xs i t) (j := i) rfl rfl Tb.cells_3 (go_lenI ho9 ((rpK_len ls xs i t k).trans hN)) (rp_end om om) p9z (by rw [rpK_len]; omega) rfl rfl ?_
  refine TL.nil ?_
  refine TX.next (.inr kr) ?_
  refine TX.done kr ?_
  refine TQ.thenC (zr (zm rfl (za rfl (zt (TQ.retE1 rfl rfl ?_)))))
  exact ⟨h9, rfl, go_len ho9 ((tp_len _ _ _ _ _).trans hN), List.sublist_append_left _ _⟩
end Go.Proofs.YtbnjmkidbfmomaaGreatDoor.H
namespace Go.Proofs.YtbnjmkidbfmomaaGreatDoor.H
open Go.Sx Go.RowKit Go.Sand
theorem quo_bd {a b : Int} (ha : 0 ≤ a) (hb : 1 ≤ b) : 0 ≤ a.tdiv b ∧ a.tdiv b ≤ a ∧ a.tdiv b * b ≤ a ∧ (a.tdiv b = 0 → a < b) := by
  have h1 : a.tdiv b = a / b := Int.tdiv_eq_ediv_of_nonneg ha
  have h2 := Int.emod_add_mul_ediv a b
  have h3 := Int.emod_nonneg a (show b ≠ 0 by omega)
  have h4 := Int.emod_lt_of_pos a (show 0 < b by omega)
  have h5 : 0 ≤ a / b := Int.ediv_nonneg ha (by omega)
  have h6 : b * (a / b) = a / b * b := Int.mul_comm _ _
  have h7 : a / b * 1 ≤ a / b * b := Int.mul_le_mul_of_nonneg_left hb h5
  rw [h1]
  refine ⟨h5, by omega, by omega, fun e => ?_⟩
  rw [e] at h2
  omega
structure RunL (ls : List (List Int)) (gs xs c m : List Int) : Prop where
  cl : c.length = gs.length
  ml : m.length = gs.length
  r : Run gs.length (lk ls) (gd gs) (gd xs) (gd c) (gd m)
abbrev StbL (ls : List (List Int)) (gs xs c m : List Int) : Prop := c.length = gs.length ∧ m.length = gs.length ∧ Stb gs.length (lk ls) (gd gs) (gd xs) (gd c) (gd m)
theorem RunL.start {ls : List (List Int)} {gs xs : List Int} (hl : xs.length = gs.length) (h0 : ∀ k, 0 ≤ xs.getD k 0) : RunL ls gs xs xs (List.replicate gs.length 0) :=
  ⟨hl, by simp, (Run.zero fun i _ => h0 i).congr (fun _ _ => rfl) (fun _ _ => rfl) fun i hi => by simp [gd, List.getD, hi]⟩
theorem HB.diag {ls : List (List Int)} {gs : List Int} (h : HB ls gs) {i : Nat} (hi : i < gs.length) : getM ls i i = 0 := (h.mu i i hi hi).2 rfl
theorem RunL.step {ls : List (List Int)} {gs xs c m : List Int} (hB : HB ls gs) (h : RunL ls gs xs c m) {i : Nat} (hi : i < gs.length) {k : Int} (hk : 0 ≤ k) (hle : k * limI ls gs i ≤ c.getD i 0) : RunL ls gs xs (tpN ls gs c i k) (m.set i (m.getD i 0 + k)) := by
  refine ⟨by rw [tp_len]; exact h.cl, by simp [h.ml], (h.r.step hB.G hi (hB.diag hi) hk hle).congr (fun _ _ => rfl) (fun j hj => ?_) fun j hj => ?_⟩
  · show (tpN ls gs c i k).getD j 0 = _
    unfold tpN
    rw [mk_at _ (by rw [h.cl]; exact hj)]
    by_cases e : j = i
    · subst e
      rw [if_pos rfl, if_pos rfl, hB.diag hj]
      show c.getD j 0 + k * 0 - k * limI ls gs j = c.getD j 0 - k * limI ls gs j
      omega
    · rw [if_neg e, if_neg e]
      show _ = c.getD j 0 + k * getM ls i j
      omega
  · show (m.set i (m.getD i 0 + k)).getD j 0 = _
    rw [set_at (by rw [h.ml]; exact hi)]
    by_cases e : i = j
    · subst e; simp
    · rw [if_neg e, if_neg (fun h => e h.symm)]
theorem sm_bd {f : Nat → Int} {B : Int} : ∀ {n : Nat}, (∀ i, i < n → f i ≤ B) → sm n f ≤ B * n
  | 0, _ => by simp [sm]
  | n + 1, h => by
    have h1 := sm_bd (f := f) (B := B) (n := n) fun i hi => h i (by omega)
    have h2 := h n (by omega)
    have e : B * ((n + 1 : Nat) : Int) = B * n + B := by grind
    show sm n f + f n ≤ _
    omega
theorem mul5 {a b : Int} {n : Nat} (hn : n ≤ 5) (ha : 0 ≤ a) (h : b ≤ a * n) : b ≤ 5 * a := by
  have : a * n ≤ a * 5 := Int.mul_le_mul_of_nonneg_left (by omega) ha
  omega
theorem RunL.bd {ls : List (List Int)} {gs xs c m : List Int} (hB : HB ls gs) (h : RunL ls gs xs c m) (h0 : ∀ k, 0 ≤ xs.getD k 0 ∧ xs.getD k 0 ≤ 1000) :
    (∀ j, j < gs.length → 0 ≤ m.getD j 0 ∧ m.getD j 0 ≤ 25000) ∧ (∀ j, j < gs.length → 0 ≤ c.getD j 0 ∧ c.getD j 0 ≤ 1000000) ∧ sm gs.length (gd m) ≤ 125000 := by
  have hn := hB.n
  have hT := mul5 hn.2 (by decide) (sm_bd (f := gd xs) (n := gs.length) (B := 1000) fun i _ => (h0 i).2)
  have hb := bound hB.G (t := gd xs) (m := gd m) (fun i _ => (h0 i).1) h.r.m0 (fun i hi => by rw [← h.r.eq i hi]; exact h.r.c0 i hi)
  have hT0 := sm_nonneg (f := gd xs) (n := gs.length) fun i _ => (h0 i).1
  have hm : ∀ j, j < gs.length → 0 ≤ m.getD j 0 ∧ m.getD j 0 ≤ 25000 := fun j hj => by
    have h1 : (m.getD j 0) ≤ sm gs.length (gd xs) * gs.length := by have := hb j hj; rw [Int.mul_comm] at this; exact this
    have h2 := mul5 hn.2 hT0 h1
    exact ⟨h.r.m0 j hj, by omega⟩
  refine ⟨hm, fun j hj => ⟨h.r.c0 j hj, ?_⟩, mul5 hn.2 (by decide) (sm_bd (f := gd m) (n := gs.length) (B := 25000) fun i hi => (hm i hi).2)⟩
  have he : c.getD j 0 = xs.getD j 0 - dl gs.length (lk ls) (gd gs) (gd m) j := h.r.eq j hj
  have h1 := hm j hj
  have h2 := (hB.lim hj).1
  have h3 : 0 ≤ lim gs.length (lk ls) (gd gs) j * gd m j := Int.mul_nonneg (by unfold limI at h2; omega) h1.1
  have h4 := mul5 hn.2 (by decide) (sm_bd (f := fun q => lk ls j q * gd m q) (n := gs.length) (B := 50000) fun i hi => by
    have := mul_bd (t := getM ls j i) (T := 2) (a := m.getD i 0) (c := 25000) (by have := hB.ent j i; omega) (hm i hi)
    show getM ls j i * m.getD i 0 ≤ 50000
    omega)
  have h5 := (h0 j).2
  unfold dl at he
  omega
theorem sum_put {m : List Int} {n i : Nat} (hl : m.length = n) (hi : i < n) (k : Int) : sm n (gd (m.set i (m.getD i 0 + k))) = sm n (gd m) + k := by
  have h1 := sm_add (f := gd m) (h := fun j => 1 * (if j = i then k else 0)) n
  rw [sm_pt (f := fun _ => 1) k i n, if_pos hi] at h1
  rw [show sm n (gd (m.set i (m.getD i 0 + k))) = sm n (fun j => gd m j + 1 * (if j = i then k else 0)) from sm_congr fun j hj => by
    show (m.set i (m.getD i 0 + k)).getD j 0 = _
    rw [set_at (by omega)]
    by_cases e : i = j
    · subst e; rw [if_pos rfl, if_pos rfl]; show _ = m.getD i 0 + _; omega
    · rw [if_neg e, if_neg (fun h => e h.symm)]; show _ = m.getD j 0 + _; omega]
  omega
theorem RunL.stb {ls : List (List Int)} {gs xs c m : List Int} (h : RunL ls gs xs c m) (hc : ∀ j, j < gs.length → c.getD j 0 < limI ls gs j) : StbL ls gs xs c m := ⟨h.cl, h.ml, h.r, hc⟩
def grI (gs m : List Int) : Int := sm gs.length fun i => m.getD i 0 * gs.getD i 0
theorem gr_put {gs m : List Int} {i : Nat} (hl : m.length = gs.length) (hi : i < gs.length) (k : Int) : grI gs (m.set i (m.getD i 0 + k)) = grI gs m + k * gs.getD i 0 := by
  unfold grI
  have h1 := sm_add (f := fun j => m.getD j 0 * gs.getD j 0) (h := fun j => gs.getD j 0 * (if j = i then k else 0)) gs.length
  rw [sm_pt (f := fun j => gs.getD j 0) k i gs.length, if_pos hi] at h1
  rw [show sm gs.length (fun j => (m.set i (m.getD i 0 + k)).getD j 0 * gs.getD j 0) = sm gs.length (fun j => m.getD j 0 * gs.getD j 0 + gs.getD j 0 * (if j = i then k else 0)) from sm_congr fun j hj => by
    rw [set_at (by omega)]
    by_cases e : i = j
    · subst e; rw [if_pos rfl, if_pos rfl]; grind
    · rw [if_neg e, if_neg (fun h => e h.symm)]; omega, h1, Int.mul_comm (gs.getD i 0) k]
theorem gr_bd {ls : List (List Int)} {gs xs c m : List Int} (hB : HB ls gs) (h : RunL ls gs xs c m) (h0 : ∀ k, 0 ≤ xs.getD k 0 ∧ xs.getD k 0 ≤ 1000) : 0 ≤ grI gs m ∧ grI gs m ≤ 250000 := by
  have hm := (h.bd hB h0).1
  refine ⟨sm_nonneg fun i hi => Int.mul_nonneg (hm i hi).1 (hB.gat i).1, mul5 hB.n.2 (by decide) (sm_bd (f := fun i => m.getD i 0 * gs.getD i 0) (n := gs.length) (B := 50000) fun i hi => ?_)⟩
  have := mul_bd (t := m.getD i 0) (T := 25000) (a := gs.getD i 0) (c := 2) (by have := hm i hi; omega) (hB.gat i)
  omega
theorem gr_zero (gs : List Int) : grI gs (List.replicate gs.length 0) = 0 := by
  unfold grI
  refine (sm_congr fun i hi => ?_).trans (sm_zero gs.length)
  rw [show (List.replicate gs.length (0 : Int)).getD i 0 = 0 by simp [List.getD, hi], Int.zero_mul]
theorem big_of {c : List Int} {n : Nat} (hl : c.length = n) (h : ∀ j, j < n → 0 ≤ c.getD j 0 ∧ c.getD j 0 ≤ 1000000) (k : Nat) : -1000000000000 ≤ c.getD k 0 ∧ c.getD k 0 ≤ 1000000000000 :=
  at_bd (by decide) (fun j hj => by have := h j (by omega); omega) k
set_option maxHeartbeats 2000000 in
theorem settle_ok (w0 : World) (p : Option Addr) (cp : Nat) (ls : List (List Int)) (hr : LsAt w0 p ls) (q : Option Addr) (cq : Nat) (gs : List Int) (hg : IntsAt w0 q gs) (hB : HB ls gs) (pl : Option Addr) (cl : Nat) (xs : List Int) (hx : IntsAt w0 pl xs) (N : Nat) (hN : xs.length = N) (hxl : xs.length = gs.length) (hx0 : ∀ k, 0 ≤ xs.getD k 0 ∧ xs.getD k 0 ≤ 1000) :
    Calls Tryz.prog 218 #[hv p ls.length cp q gs.length cq, .slice pl N cl] w0 (Post (X := Nat × Nat × List Int × List Int) (fun y => .tuple #[.slice (some ⟨y.1, 0, none⟩) gs.length gs.length, .slice (some ⟨y.2.1, 0, none⟩) gs.length gs.length]) (fun y => StbL ls gs xs y.2.2.1 y.2.2.2) (fun y => [(y.2.1, Obj.cells (intsA y.2.2.2) 3 (0, 0)), (y.1, Obj.cells (intsA y.2.2.1) 3 (0, 0))]) w0) := by
  have hn9 := hB.n
  obtain rfl : N = gs.length := by omega
  refine calls Tryz.func218 rfl (n := 43) rfl (by simp) ?_
  refine zr (TL.box rfl rfl dc (fun b0 hb0 => ?_))
  refine za rfl (za rfl (zn (TC.scopeJ [2] (X := Nat × Nat × List Int × List Int) (fun x => RunL ls gs xs x.2.2.1 x.2.2.2) (fun x => [(4, .slice (some ⟨x.1, 0, none⟩) gs.length gs.length), (5, .slice (some ⟨x.2.1, 0, none⟩) gs.length gs.length)]) (fun x => [(x.2.1, Obj.cells (intsA x.2.2.2) 3 (0, 0)), (x.1, Obj.cells (intsA x.2.2.1) 3 (0, 0)), (b0, Obj.cells #[.slice p ls.length cp, .slice q gs.length cq] 27 (0, 0))]) (fun x => (130000 - sm gs.length (gd x.2.2.2)).toNat) rfl ?_ ?_)))
  refine TC.mix [true, false, true, true, false, false, false] [(b0, Obj.cells #[.slice p ls.length cp, .slice q gs.length cq] 27 (0, 0))] 4 Tb.mixed rfl kr kr kr kr s9z ?_
  refine TB.op (SOK.pure (PV.move rfl) rfl) dc ?_
  refine TB.no ?_
  refine TB.op (SOK.pure (PV.move rfl) rfl) dc ?_
  refine TB.op (SOK.pure (PV.len rfl Tb.sl_25) rfl) dc ?_
  refine TB.no ?_
  refine TB.no ?_
  refine TB.no ?_
  refine TB.fin ?_
  refine TX.step [1, 4] kr dc ⟨⟨_, rfl, ?_⟩, ⟨_, rfl, ?_⟩, trivial⟩
  refine TL.call rfl Tb.gofn_217 (fun a w hs => copied_ok w _ _ _ (hx.new hs.new) _ hxl om) rfl dc (fun bC _ => ?_)
  refine TL.nil ?_
  refine TX.next (.inl s9z) ?_
  refine TX.step [4, 5] kr dc ⟨⟨_, rfl, ?_⟩, ⟨_, rfl, ?_⟩, trivial⟩
  refine TL.makeI (k := gs.length) rfl rfl Tb.sl_25 Tb.zi_3 rfl om om rfl dc (fun bT hbT => ?_)
  refine TL.nil ?_
  refine TX.next (.inl s9z) ?_
  refine TX.step [5] kr dc ⟨⟨_, rfl, ?_⟩, trivial⟩
  refine za rfl (TL.nil ?_)
  refine TX.next (.inl s9z) ?_
  refine TX.step [6] kr dc ⟨⟨_, rfl, ?_⟩, trivial⟩
  refine za rfl (TL.nil ?_)
  refine TX.next (.inr kr) ?_
  refine TX.done kr ?_
  refine TQ.thenN (TQ.perm (G' := [(bT, Obj.cells (intsA (List.replicate gs.length 0)) 3 (0, 0)), (bC, Obj.cells (intsA xs) 3 (0, 0)), (b0, Obj.cells #[.slice p ls.length cp, .slice q gs.length cq] 27 (0, 0))]) (by repeat (first | exact List.Perm.refl _ | refine permTake t9z ?_ | refine permMid ?_)) ?_)
  refine TQ.midK (bC, bT, xs, List.replicate gs.length 0) l9z l9z s9z (RunL.start hxl fun k => (hx0 k).1)
  refine za rfl (TL.nil ?_)
  refine TX.next (.inl s9z) ?_
  refine TX.step [4] kr dc ⟨⟨_, rfl, ?_⟩, trivial⟩
  refine TL.makeI (k := gs.length) rfl rfl Tb.sl_25 Tb.zi_3 rfl om om rfl dc (fun bT hbT => ?_)
  refine TL.nil ?_
  refine TX.next (.inl s9z) ?_
  refine TX.step [6] kr dc ⟨⟨_, rfl, ?_⟩, trivial⟩
  refine za rfl (TL.nil ?_)
  refine TX.next (.inr kr) ?_
  refine TX.done kr ?_
  refine TQ.thenN (TQ.perm (G' := [(bT, Obj.cells (intsA (List.replicate gs.length 0)) 3 (0, 0)), (bC, Obj.cells (intsA xs) 3 (0, 0)), (b0, Obj.cells #[.slice p ls.length cp, .slice q gs.length cq] 27 (0, 0))]) (by repeat (first | exact List.Perm.refl _ | refine permTake t9z ?_ | refine permMid ?_)) ?_)
  refine TQ.midK (bC, bT, xs, List.replicate gs.length 0) l9z l9z s9z (RunL.start hxl fun k => (hx0 k).1)
  refine TL.makeI (k := gs.length) rfl rfl Tb.sl_25 Tb.zi_3 rfl om om rfl dc (fun bT hbT => ?_)
  refine TL.nil ?_
  refine TX.next (.inl s9z) ?_
  refine TX.step [1] kr dc ⟨⟨_, rfl, ?_⟩, trivial⟩
  refine TL.call rfl Tb.gofn_217 (fun a w hs => copied_ok w _ _ _ (hx.new hs.new) _ hxl om) rfl dc (fun bC _ => ?_)
  refine TL.nil ?_
  refine TX.next (.inl s9z) ?_
  refine TX.step [5] kr dc ⟨⟨_, rfl, ?_⟩, trivial⟩
  refine za rfl (TL.nil ?_)
  refine TX.next (.inl s9z) ?_
  refine TX.step [6] kr dc ⟨⟨_, rfl, ?_⟩, trivial⟩
  refine za rfl (TL.nil ?_)
  refine TX.next (.inr kr) ?_
  refine TX.done kr ?_
  refine TQ.thenN (TQ.perm (G' := [(bT, Obj.cells (intsA (List.replicate gs.length 0)) 3 (0, 0)), (bC, Obj.cells (intsA xs) 3 (0, 0)), (b0, Obj.cells #[.slice p ls.length cp, .slice q gs.length cq] 27 (0, 0))]) (by repeat (first | exact List.Perm.refl _ | refine permTake t9z ?_ | refine permMid ?_)) ?_)
  refine TQ.midK (bC, bT, xs, List.replicate gs.length 0) l9z l9z s9z (RunL.start hxl fun k => (hx0 k).1)
  intro x hx9
  have hbd := hx9.bd hB hx0
  have hcl := hx9.cl
  have hml := hx9.ml
  refine TC.lit [(2, _), (4, _), (5, _)] l9z ?_
  refine TC.seq (zr (zm rfl (zq (PV.len rfl Tb.sl_25) rfl (zm rfl (zn (TC.block (TC.lit [(2, _), (4, _), (5, _), (14, _), (15, _)] l9z ?_)))))))
  refine TC.loopK [2, 4, 5, 14] (X := Nat) (fun k => k ≤ gs.length ∧ ∀ j, j < k → x.2.2.1.getD j 0 < limI ls gs j) (fun k => [(15, .int .i64 k)]) (fun k => [(x.2.1, Obj.cells (intsA x.2.2.2) 3 (0, 0)), (x.1, Obj.cells (intsA x.2.2.1) 3 (0, 0)), (b0, Obj.cells #[.slice p ls.length cp, .slice q gs.length cq] 27 (0, 0))]) (fun k => gs.length - k) 0 ⟨Nat.zero_le _, fun j hj => absurd hj (Nat.not_lt_zero _)⟩ l9z s9z ?_
  intro k hk
  refine TC.lit [(2, _), (4, _), (5, _), (14, _), (15, _)] l9z ?_
  refine zr (zq (PV.lss rfl rfl) rfl (zn (TC.seq (TC.cd rfl (fun h0 => ?_) (fun h0 => ?_)))))
  refine TC.skip (TQ.thenC (TC.seq (TC.block (zr (zm rfl (za rfl (zn (TC.seq ?_))))))))
  have hck := hbd.2.1 k (by omega)
  have hlk := hB.lim (i := k) (by omega)
  have hqb := quo_bd hck.1 hlk.1
  refine TC.any Tb.mixed rfl rfl ?_
  refine TA.op (OpOK.pure (PV.move rfl) rfl dc) dc ?_
  refine TA.op (OpOK.pure (PV.move rfl) rfl dc) dc ?_
  refine TA.op (OpOK.pure (PV.index1 (j := k) rfl rfl Tb.elm_25 rfl om) rfl dc) dc ?_
  refine TA.op (OpOK.pure (PV.loadI rfl Tb.one_3 m9z om) rfl dc) dc ?_
  refine TA.op (OpOK.pure (PV.loadBox rfl Tb.agg_27 m9z rfl) rfl dc) dc ?_
  refine TA.op (OpOK.pure (PV.move rfl) rfl dc) dc ?_
  refine TA.op (OpOK.call rfl Tb.gofn_219 (fun a w hs => limit_ok w _ _ _ (hr.new hs.new) _ _ _ (hg.new hs.new) hB k om) rfl dc) dc ?_
  refine TA.op (OpOK.pure (PV.quo rfl rfl om om) rfl dc) dc ?_
  refine TA.op (OpOK.pure (PV.assign rfl) rfl dc) dc ?_
  show TQ _ _ _ _ _
  refine TQ.thenC (zr (zm rfl (zq (PV.gtr rfl rfl) rfl (zn (TC.cd rfl (fun h1 => ?_) (fun h1 => ?_))))))
  refine TC.seq ?_
  have hmk := hbd.1 k (by omega)
  have hnx := hx9.step hB (i := k) (by omega) hqb.1 hqb.2.2.1
  have hsp := sum_put (m := x.2.2.2) hml (show k < gs.length by omega) ((x.2.2.1.getD k 0).tdiv (limI ls gs k))
  refine TC.region (zq (PV.loadBox rfl Tb.agg_27 m9z rfl) rfl ?_)
  refine zm rfl (zm rfl (zm rfl (TL.callW (X := Unit) (fun _ => .tuple #[]) (fun _ => True) (fun _ => (x.1, Obj.cells (intsA (tpN ls gs x.2.2.1 k ((x.2.2.1.getD k 0).tdiv (limI ls gs k)))) 3 (0, 0)) :: [(x.2.1, Obj.cells (intsA x.2.2.2) 3 (0, 0)), (b0, Obj.cells #[.slice p ls.length cp, .slice q gs.length cq] 27 (0, 0))]) rfl Tb.gofn_240 (fun a w hs => topple_ok (R := [(x.2.1, Obj.cells (intsA x.2.2.2) 3 (0, 0)), (b0, Obj.cells #[.slice p ls.length cp, .slice q gs.length cq] 27 (0, 0))]) (hs.new.perm (by repeat (first | exact List.Perm.refl _ | refine permTake t9z ?_ | refine permMid ?_))) p cp ls hr q cq gs hg hB _ hcl hcl k (by omega) ((x.2.2.1.getD k 0).tdiv (limI ls gs k)) (by omega) (big_of hcl hbd.2.1)) rfl (by decide) (fun _ _ => ?_))))
  refine zk (zm rfl (zm rfl (zq (PV.index1 (j := k) rfl rfl Tb.elm_25 rfl om) rfl (zq (PV.loadI rfl Tb.one_3 m9z om) rfl ?_))))
  refine zm rfl (zq (PV.add rfl rfl om) rfl (zq (PV.index1 (j := k) rfl rfl Tb.elm_25 rfl om) rfl (TL.storeIv (j := k) (xs' := x.2.2.2.set k (x.2.2.2.getD k 0 + ((x.2.2.1.getD k 0).tdiv (limI ls gs k)))) rfl rfl Tb.cells_3 rfl u9z om rfl rfl ?_)))
  refine zn (TC.goto ?_)
  refine TQ.blkG ?_
  refine TQ.thenGo ?_
  refine TQ.thenGo ?_
  refine TQ.blkG ?_
  refine TQ.thenGo ?_
  refine TQ.jmG ?_
  refine TQ.perm (G' := [(x.2.1, Obj.cells (intsA (x.2.2.2.set k (x.2.2.2.getD k 0 + ((x.2.2.1.getD k 0).tdiv (limI ls gs k))))) 3 (0, 0)), (x.1, Obj.cells (intsA (tpN ls gs x.2.2.1 k ((x.2.2.1.getD k 0).tdiv (limI ls gs k)))) 3 (0, 0)), (b0, Obj.cells #[.slice p ls.length cp, .slice q gs.length cq] 27 (0, 0))]) (by repeat (first | exact List.Perm.refl _ | refine permTake t9z ?_ | refine permMid ?_)) ?_
  refine TQ.backK (x.1, x.2.1, tpN ls gs x.2.2.1 k ((x.2.2.1.getD k 0).tdiv (limI ls gs k)), x.2.2.2.set k (x.2.2.2.getD k 0 + ((x.2.2.1.getD k 0).tdiv (limI ls gs k)))) l9z l9z s9z hnx (by have h8 := (hnx.bd hB hx0).2.2; simp only [hsp] at h8 ⊢; omega)
  refine TC.skip (TQ.blkN (TQ.thenC (TC.region (zq (PV.add rfl rfl om) rfl (zm rfl (TL.nil (TQ.thenN (TQ.backK (k + 1) l9z l9z s9z ⟨by omega, fun j hj => if e : j < k then hk.2 j e else (show k = j by omega) ▸ (hqb.2.2.2 om)⟩ om))))))))
  refine TC.exit (TQ.thenE (TQ.thenE (TQ.blkS (TQ.thenC (zr (zm rfl (zm rfl (za rfl (za rfl (zt (TQ.jmR ?_)))))))))))
  refine TQ.retE2 rfl rfl rfl ?_
  exact ⟨x, rfl, hx9.stb (fun j hj => hk.2 j (by omega)), by first | exact List.Sublist.refl _ | exact List.Sublist.cons_cons _ (List.Sublist.cons_cons _ (List.nil_sublist _))⟩
end Go.Proofs.YtbnjmkidbfmomaaGreatDoor.H
