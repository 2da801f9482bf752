/- A heap topples: contracts. -/
import Derived.Test.YtgafpkcnhpoobaaJn
set_option linter.unusedVariables false
set_option linter.unusedSimpArgs false
namespace Go.Proofs.Ytgafpkcnhpoobaa
open Go.Sx Go.RowKit Go.Sand

def tpK (ls : List (List Int)) (gs : List Int) (xs : List Int) (i : Nat) (t : Int) (k : Nat) : List Int := mk xs.length fun j => xs.getD j 0 + (if j < k then t * getM ls i j else 0) - (if j = i then t * limI ls gs i else 0)
def rpK (ls : List (List Int)) (xs : List Int) (i : Nat) (t : Int) (k : Nat) : List Int := mk xs.length fun j => xs.getD j 0 + (if j < k then t * getM ls i j else 0)
theorem tpK_len (ls : List (List Int)) (gs : List Int) (xs : List Int) (i : Nat) (t : Int) (k : Nat) : (tpK ls gs xs i t k).length = xs.length := mk_len _ _
theorem rpK_len (ls : List (List Int)) (xs : List Int) (i : Nat) (t : Int) (k : Nat) : (rpK ls xs i t k).length = xs.length := mk_len _ _
theorem tp_start {ls : List (List Int)} {gs : List Int} {xs : List Int} {i : Nat} {t : Int} (hi : i < xs.length) : xs.set i (xs.getD i 0 - t * limI ls gs i) = tpK ls gs xs i t 0 := by
  refine mk_eq (by simp) fun j hj => ?_
  rw [set_at hi, if_neg (Nat.not_lt_zero j)]
  by_cases e : i = j
  · subst e; simp
  · rw [if_neg e, if_neg (fun h => e h.symm)]; omega
theorem tp_step {ls : List (List Int)} {gs : List Int} {xs : List Int} {i k : Nat} {t : Int} (hk : k < xs.length) : (tpK ls gs xs i t k).set k ((tpK ls gs xs i t k).getD k 0 + t * getM ls i k) = tpK ls gs xs i t (k + 1) := by
  refine mk_set hk ?_ fun j hj hne => ?_
  · unfold tpK
    rw [mk_at _ hk]
    simp only [Nat.lt_irrefl, if_false, Nat.lt_succ_self, if_true]
    omega
  · have e : (j < k + 1) ↔ (j < k) := by omega
    simp only [e]
theorem tp_end {ls : List (List Int)} {gs : List Int} {xs : List Int} {i k : Nat} {t : Int} (hk : k = xs.length) : tpK ls gs xs i t k = tpN ls gs xs i t :=
  mk_congr fun j hj => by
    have e : j < k := by omega
    simp only [e, if_true]
theorem rp_start (ls : List (List Int)) (xs : List Int) (i : Nat) (t : Int) : xs = rpK ls xs i t 0 := mk_eq rfl fun j hj => by rw [if_neg (Nat.not_lt_zero j)]; omega
theorem rp_step {ls : List (List Int)} {xs : List Int} {i k : Nat} {t : Int} (hk : k < xs.length) : (rpK ls xs i t k).set k ((rpK ls xs i t k).getD k 0 + t * getM ls i k) = rpK ls xs i t (k + 1) := by
  refine mk_set hk ?_ fun j hj hne => ?_
  · unfold rpK
    rw [mk_at _ hk]
    simp only [Nat.lt_irrefl, if_false, Nat.lt_succ_self, if_true]
    omega
  · have e : (j < k + 1) ↔ (j < k) := by omega
    simp only [e]
theorem rp_end {ls : List (List Int)} {gs : List Int} {xs : List Int} {i k : Nat} {t : Int} (hk : k = xs.length) (hi : i < xs.length) : (rpK ls xs i t k).set i ((rpK ls xs i t k).getD i 0 - t * limI ls gs i) = tpN ls gs xs i t := by
  subst hk
  refine mk_set hi ?_ fun j hj hne => ?_
  · unfold rpK
    rw [mk_at _ hi]
    simp only [hi, if_true]
  · simp only [hj, hne, if_true, if_false]; omega
theorem at_bd {xs : List Int} {B : Int} (hB : 0 ≤ B) (h : ∀ k, k < xs.length → -B ≤ xs.getD k 0 ∧ xs.getD k 0 ≤ B) (k : Nat) : -B ≤ xs.getD k 0 ∧ xs.getD k 0 ≤ B := by
  by_cases hk : k < xs.length
  · exact h k hk
  · have e : xs.getD k 0 = 0 := by simp [List.getD, hk]
    omega
theorem tpK_bd {ls : List (List Int)} {gs : List Int} (hB : HB ls gs) {xs : List Int} {i : Nat} (hi : i < gs.length) {t : Int} (ht : -1000000000 ≤ t ∧ t ≤ 1000000000) (hx9 : ∀ k, -1000000000000 ≤ xs.getD k 0 ∧ xs.getD k 0 ≤ 1000000000000) (k j : Nat) :
    -2000000000000 ≤ (tpK ls gs xs i t k).getD j 0 ∧ (tpK ls gs xs i t k).getD j 0 ≤ 2000000000000 := by
  refine at_bd (by decide) (fun j hj => ?_) j
  rw [tpK_len] at hj
  have h1 := mul_bd ht (hB.ent i j)
  have h2 := mul_bd (a := limI ls gs i) (c := 12) ht ⟨by have := (hB.lim hi).1; omega, (hB.lim hi).2⟩
  have h3 := hx9 j
  unfold tpK
  rw [mk_at _ hj]
  split <;> split <;> omega
theorem rpK_bd {ls : List (List Int)} {gs : List Int} (hB : HB ls gs) {xs : List Int} {i : Nat} {t : Int} (ht : -1000000000 ≤ t ∧ t ≤ 1000000000) (hx9 : ∀ k, -1000000000000 ≤ xs.getD k 0 ∧ xs.getD k 0 ≤ 1000000000000) (k j : Nat) :
    -2000000000000 ≤ (rpK ls xs i t k).getD j 0 ∧ (rpK ls xs i t k).getD j 0 ≤ 2000000000000 := by
  refine at_bd (by decide) (fun j hj => ?_) j
  rw [rpK_len] at hj
  have h1 := mul_bd ht (hB.ent i j)
  have h3 := hx9 j
  unfold rpK
  rw [mk_at _ hj]
  split <;> omega
theorem go_len {h : HD} {n : Nat} {xs l : List Int} (ho : gok h n 1 (ival xs)) (hl : l.length = n) : gok h n 1 (ival l) := by
  obtain ⟨h1, h2⟩ := ho
  refine ⟨by simp [hl], ?_⟩
  cases h with
  | none => exact h2
  | some hh =>
    obtain ⟨b, c, sp⟩ := hh
    simp only [List.length_map] at h1 h2 ⊢
    exact ⟨by omega, h2.2⟩
theorem go_lenI {h : HD} {n : Nat} {xs l : List Int} (ho : gok h n 1 (ival xs)) (hl : l.length = n) : goI (h, l) := by
  have := go_len ho hl
  subst hl
  exact this
theorem gbI_blk (b c : Nat) (l : List Int) : gbI (some (b, c, []), l) = [(b, Obj.cells (intsA l) 3 (0, 0))] := by
  show [(b, Obj.cells (ival l ++ []).toArray 3 (0, 0))] = _
  rw [List.append_nil]
  rfl
theorem goI_blk (b : Nat) (l : List Int) : goI (some (b, l.length, []), l) := ⟨by simp, by simp, Nat.le_refl _⟩
theorem gval_blk (b n : Nat) : gval (some (b, n, [])) n = .slice (some ⟨b, 0, none⟩) n n := rfl
theorem sz_3 : (Try.prog.info? 3).map (·.size) = some 1 := by kernel_rfl


set_option maxRecDepth 100000 in
theorem copied_ok (w0 : World) (pl : Option Addr) (cl : Nat) (xs : List Int) (hx : IntsAt w0 pl xs) (N : Nat) (hN : xs.length = N) (hl : xs.length ≤ 1000000) :
    Calls Try.prog 73 #[.slice pl N cl] w0 (Post (X := Nat) (fun b => .slice (some ⟨b, 0, none⟩) N N) (fun _ => True) (fun b => [(b, Obj.cells (intsA (xs)) 3 (0, 0))]) w0) := by
  subst hN
  refine calls Try.func73 rfl (n := 11) rfl (by simp) ?_
  refine TC.seq ?_
  refine TC.region ?_
  refine TL.pure (PV.assign rfl) rfl (by decide) ?_
  refine TL.nil ?_
  refine TQ.thenC ?_
  refine TC.seq ?_
  refine TC.region ?_
  refine TL.pure (PV.move rfl) rfl (by decide) ?_
  refine TL.pure (PV.len rfl Tb.sl_23) rfl (by decide) ?_
  refine TL.makeI rfl rfl Tb.sl_23 Tb.zi_3 rfl (by omega) (by omega) rfl (by decide) (fun b0 hb0 => ?_)
  refine TL.pure (PV.assign rfl) rfl (by decide) ?_
  refine TL.nil ?_
  refine TQ.thenC ?_
  refine TC.seq ?_
  refine TC.region ?_
  refine TL.pure (PV.move rfl) rfl (by decide) ?_
  refine TL.pure (PV.move rfl) rfl (by decide) ?_
  refine TL.copyI (arr := intsA (List.replicate xs.length 0)) (G' := [(b0, Obj.cells (intsA (xs)) 3 (0, 0))]) rfl rfl Tb.sl_23 sz_3 hx (Nat.le_refl _) (by rw [intsA_size, List.length_replicate]; exact Nat.le_refl _) (by rw [put_all (by simp)]; exact Upd.head _) rfl (by decide) ?_
  refine TL.nil ?_
  refine TQ.thenC ?_
  refine TC.seq ?_
  refine TC.region ?_
  refine TL.pure (PV.move rfl) rfl (by decide) ?_
  refine TL.pure (PV.assign rfl) rfl (by decide) ?_
  refine TL.nil ?_
  refine TQ.thenC ?_
  refine TC.ret ?_
  refine TQ.retE1 rfl rfl ?_
  exact ⟨b0, rfl, trivial, List.Sublist.refl _⟩

set_option maxRecDepth 100000 in
set_option maxHeartbeats 1000000 in
theorem topple_ok {w0 w : World} {b cc : Nat} {xs : List Int} {R : Heap} (hn : New w0 w ((b, Obj.cells (intsA (xs)) 3 (0, 0)) :: R)) (p : Option Addr) (cp : Nat) (ls : List (List Int)) (hr : LsAt w0 p ls) (q : Option Addr) (cq : Nat) (gs : List Int) (hg : IntsAt w0 q gs) (hB : HB ls gs) (N : Nat) (hN : xs.length = N) (hxl : xs.length = gs.length) (i : Nat) (hi : i < gs.length) (t : Int) (ht : -1000000000 ≤ t ∧ t ≤ 1000000000) (hx9 : ∀ k, -1000000000000 ≤ xs.getD k 0 ∧ xs.getD k 0 ≤ 1000000000000) :
    Calls Try.prog 74 #[hv p ls.length cp q gs.length cq, .slice (some ⟨b, 0, none⟩) N cc, .int .i64 i, .int .i64 t] w (Post (X := Unit) (fun _ => .tuple #[]) (fun _ => True) (fun _ => (b, Obj.cells (intsA (tpN ls gs xs i t)) 3 (0, 0)) :: R) w0) := by
  have hn9 := hB.n
  have hl9 := hB.len
  have hrk := hB.rowl (k := i) (by omega)
  have hlim := hB.lim hi
  have hml := mul_bd (a := limI ls gs i) (c := 12) ht ⟨by omega, hlim.2⟩
  refine callsM hn Try.func74 rfl (n := 42) rfl (by simp) ?_
  refine TC.seq ?_
  refine TC.region ?_
  refine TL.box rfl rfl (by decide) (fun b0 hb0 => ?_)
  refine TL.nil ?_
  refine TQ.thenC ?_
  refine TC.seq ?_
  have hxi := hx9 i
  refine TC.mix [true, true, true, false, true, true, true, false, false, false, false, false] ((b0, Obj.cells #[.slice p ls.length cp, .slice q gs.length cq] 25 (0, 0)) :: R) 6 Tb.mixed rfl (by kernel_rfl) (by kernel_rfl) (by kernel_rfl) (by kernel_rfl) (by repeat (first | exact List.Sublist.slnil | exact List.nil_sublist _ | exact List.Sublist.refl _ | refine List.Sublist.cons_cons _ ?_ | refine List.Sublist.cons _ ?_ | refine List.Sublist.trans ?_ (List.sublist_append_right _ _))) ?_
  refine TB.op (SOK.pure (PV.move rfl) rfl) (by decide) ?_
  refine TB.op (SOK.pure (PV.move rfl) rfl) (by decide) ?_
  refine TB.op (SOK.pure (PV.index1 (j := i) rfl rfl Tb.elm_23 rfl (by omega)) rfl) (by decide) ?_
  refine TB.no ?_
  refine TB.op (SOK.pure (PV.move rfl) rfl) (by decide) ?_
  refine TB.op (SOK.pure (PV.loadBox rfl Tb.agg_25 (by repeat (first | exact List.Mem.head _ | refine List.Mem.tail _ ?_ | refine List.mem_append_right _ ?_)) rfl) rfl) (by decide) ?_
  refine TB.op (SOK.pure (PV.move rfl) rfl) (by decide) ?_
  refine TB.no ?_
  refine TB.no ?_
  refine TB.no ?_
  refine TB.no ?_
  refine TB.no ?_
  refine TB.fin ?_
  refine TX.step [3, 7] (by kernel_rfl) (by decide) ⟨⟨_, rfl, ?_⟩, ⟨_, rfl, ?_⟩, trivial⟩
  · skip
    refine TL.pure (PV.loadI rfl Tb.one_3 (by repeat (first | exact List.Mem.head _ | refine List.Mem.tail _ ?_ | refine List.mem_append_right _ ?_)) (by omega)) rfl (by decide) ?_
    refine TL.nil ?_
    refine TX.next (.inl (by repeat (first | exact List.Sublist.slnil | exact List.nil_sublist _ | exact List.Sublist.refl _ | refine List.Sublist.cons_cons _ ?_ | refine List.Sublist.cons _ ?_ | refine List.Sublist.trans ?_ (List.sublist_append_right _ _)))) ?_
    refine TX.step [7] (by kernel_rfl) (by decide) ⟨⟨_, rfl, ?_⟩, trivial⟩
    refine TL.call rfl Tb.gofn_61 (fun a w hs => limit_ok w _ _ _ (hr.new hs.new) _ _ _ (hg.new hs.new) hB i hi) rfl (by decide) (fun _ _ => ?_)
    refine TL.nil ?_
    refine TX.next (.inl (by repeat (first | exact List.Sublist.slnil | exact List.nil_sublist _ | exact List.Sublist.refl _ | refine List.Sublist.cons_cons _ ?_ | refine List.Sublist.cons _ ?_ | refine List.Sublist.trans ?_ (List.sublist_append_right _ _)))) ?_
    refine TX.step [8] (by kernel_rfl) (by decide) ⟨⟨_, rfl, ?_⟩, trivial⟩
    refine TL.pure (PV.mul rfl rfl (by omega)) rfl (by decide) ?_
    refine TL.nil ?_
    refine TX.next (.inl (by repeat (first | exact List.Sublist.slnil | exact List.nil_sublist _ | exact List.Sublist.refl _ | refine List.Sublist.cons_cons _ ?_ | refine List.Sublist.cons _ ?_ | refine List.Sublist.trans ?_ (List.sublist_append_right _ _)))) ?_
    refine TX.step [9] (by kernel_rfl) (by decide) ⟨⟨_, rfl, ?_⟩, trivial⟩
    refine TL.pure (PV.sub rfl rfl (by omega)) rfl (by decide) ?_
    refine TL.nil ?_
    refine TX.next (.inl (by repeat (first | exact List.Sublist.slnil | exact List.nil_sublist _ | exact List.Sublist.refl _ | refine List.Sublist.cons_cons _ ?_ | refine List.Sublist.cons _ ?_ | refine List.Sublist.trans ?_ (List.sublist_append_right _ _)))) ?_
    refine TX.step [10] (by kernel_rfl) (by decide) ⟨⟨_, rfl, ?_⟩, trivial⟩
    refine TL.pure (PV.index1 (j := i) rfl rfl Tb.elm_23 rfl (by omega)) rfl (by decide) ?_
    refine TL.nil ?_
    refine TX.next (.inr (by kernel_rfl)) ?_
    refine TX.step [11] (by kernel_rfl) (by decide) ⟨⟨_, rfl, ?_⟩, trivial⟩
    refine TL.storeIv (j := i) (xs' := tpK ls gs xs i t 0) rfl rfl Tb.cells_3 (tp_start (by omega)) (by repeat (first | exact Upd.head _ | apply Upd.tail | apply Upd.appR)) (by omega) rfl rfl ?_
    refine TL.nil ?_
    refine TX.next (.inr (by kernel_rfl)) ?_
    refine TX.done (by kernel_rfl) ?_
    refine TQ.thenC ?_
    refine TC.seq ?_
    obtain ⟨q1, hq1p, p1, c1, hq1, hi1⟩ := hr i (by omega)
    refine TC.region ?_
    refine TL.pure (PV.fieldAddr rfl Tb.fo_25_0) rfl (by decide) ?_
    refine TL.pure (PV.load rfl Tb.one_22 (by repeat (first | exact List.Mem.head _ | refine List.Mem.tail _ ?_ | refine List.mem_append_right _ ?_)) rfl) rfl (by decide) ?_
    refine TL.pure (PV.move rfl) rfl (by decide) ?_
    refine TL.pure (PV.indexA rfl hq1p rfl Tb.elm_22 rfl (by omega)) rfl (by decide) ?_
    refine TL.pure (PV.loadOld rfl Tb.one_23 hq1) rfl (by decide) ?_
    refine TL.pure (PV.len rfl Tb.sl_23) rfl (by decide) ?_
    refine TL.pure (PV.move rfl) rfl (by decide) ?_
    refine TL.nil ?_
    refine TQ.thenC ?_
    refine TC.block ?_
    refine TC.loopK [1, 3, 25, 26] (X := Nat) (fun k => k ≤ xs.length) (fun k => [(27, .int .i64 k)]) (fun k => (b0, Obj.cells #[.slice p ls.length cp, .slice q gs.length cq] 25 (0, 0)) :: (b, Obj.cells (intsA (tpK ls gs xs i t k)) 3 (0, 0)) :: R) (fun k => xs.length - k) 0 (Nat.zero_le _) (by repeat (first | exact True.intro | refine And.intro rfl ?_)) (by repeat (first | exact List.Sublist.slnil | exact List.nil_sublist _ | exact List.Sublist.refl _ | refine List.Sublist.cons_cons _ ?_ | refine List.Sublist.cons _ ?_ | refine List.Sublist.trans ?_ (List.sublist_append_right _ _))) ?_
    intro k hk
    refine TC.seq ?_
    refine TC.region ?_
    refine TL.pure (PV.lss rfl rfl) rfl (by decide) ?_
    refine TL.nil ?_
    refine TQ.thenC ?_
    refine TC.seq ?_
    first | refine TC.condD rfl (fun h0 => ?_) (fun h0 => ?_) | refine TC.cond rfl (fun h0 => ?_) (fun h0 => ?_)
    · skip
      refine TC.skip ?_
      refine TQ.thenC ?_
      refine TC.seq ?_
      refine TC.block ?_
      refine TC.seq ?_
      obtain ⟨q2, hq2p, hq2⟩ := hi1 k (by omega)
      refine TC.region ?_
      refine TL.pure (PV.move rfl) rfl (by decide) ?_
      refine TL.pure (PV.indexA rfl hq2p rfl Tb.elm_23 rfl (by omega)) rfl (by decide) ?_
      refine TL.pure (PV.loadOld rfl Tb.one_3 hq2) rfl (by decide) ?_
      refine TL.pure (PV.assign rfl) rfl (by decide) ?_
      refine TL.pure (PV.assign rfl) rfl (by decide) ?_
      refine TL.nil ?_
      refine TQ.thenC ?_
      have hmk := mul_bd ht (hB.ent i k)
      unfold getM at hmk
      have hwk := tpK_bd hB hi ht hx9 k k
      refine TC.region ?_
      refine TL.pure (PV.move rfl) rfl (by decide) ?_
      refine TL.pure (PV.move rfl) rfl (by decide) ?_
      refine TL.pure (PV.index1 (j := k) rfl rfl Tb.elm_23 rfl (by omega)) rfl (by decide) ?_
      refine TL.pure (PV.loadI rfl Tb.one_3 (by repeat (first | exact List.Mem.head _ | refine List.Mem.tail _ ?_ | refine List.mem_append_right _ ?_)) (by rw [tpK_len]; omega)) rfl (by decide) ?_
      refine TL.pure (PV.move rfl) rfl (by decide) ?_
      refine TL.pure (PV.move rfl) rfl (by decide) ?_
      refine TL.pure (PV.mul rfl rfl (by omega)) rfl (by decide) ?_
      refine TL.pure (PV.add rfl rfl (by omega)) rfl (by decide) ?_
      refine TL.pure (PV.index1 (j := k) rfl rfl Tb.elm_23 rfl (by omega)) rfl (by decide) ?_
      refine TL.storeIv (j := k) (xs' := tpK ls gs xs i t (k + 1)) rfl rfl Tb.cells_3 (tp_step (by omega)) (by repeat (first | exact Upd.head _ | apply Upd.tail | apply Upd.appR)) (by rw [tpK_len]; omega) rfl rfl ?_
      refine TL.nil ?_
      refine TQ.blkN ?_
      refine TQ.thenC ?_
      refine TC.region ?_
      refine TL.pure (PV.add rfl rfl (by omega)) rfl (by decide) ?_
      refine TL.pure (PV.move rfl) rfl (by decide) ?_
      refine TL.nil ?_
      refine TQ.thenN ?_
      refine TQ.backK (k + 1) (by repeat (first | exact True.intro | refine And.intro rfl ?_)) (by repeat (first | exact True.intro | refine And.intro rfl ?_)) (by repeat (first | exact List.Sublist.slnil | exact List.nil_sublist _ | exact List.Sublist.refl _ | refine List.Sublist.cons_cons _ ?_ | refine List.Sublist.cons _ ?_ | refine List.Sublist.trans ?_ (List.sublist_append_right _ _))) (by omega) (by omega)
    · skip
      refine TC.exit ?_
      refine TQ.thenE ?_
      refine TQ.thenE ?_
      refine TQ.blkS ?_
      refine TQ.retN rfl (Res.nil) ?_
      exact ⟨(), rfl, trivial, by rw [tp_end (show k = xs.length by omega)]; exact List.Sublist.cons _ (List.Sublist.refl _)⟩
  · skip
    refine TL.call rfl Tb.gofn_61 (fun a w hs => limit_ok w _ _ _ (hr.new hs.new) _ _ _ (hg.new hs.new) hB i hi) rfl (by decide) (fun _ _ => ?_)
    refine TL.nil ?_
    refine TX.next (.inl (by repeat (first | exact List.Sublist.slnil | exact List.nil_sublist _ | exact List.Sublist.refl _ | refine List.Sublist.cons_cons _ ?_ | refine List.Sublist.cons _ ?_ | refine List.Sublist.trans ?_ (List.sublist_append_right _ _)))) ?_
    refine TX.step [3, 8] (by kernel_rfl) (by decide) ⟨⟨_, rfl, ?_⟩, ⟨_, rfl, ?_⟩, trivial⟩
    · skip
      refine TL.pure (PV.loadI rfl Tb.one_3 (by repeat (first | exact List.Mem.head _ | refine List.Mem.tail _ ?_ | refine List.mem_append_right _ ?_)) (by omega)) rfl (by decide) ?_
      refine TL.nil ?_
      refine TX.next (.inl (by repeat (first | exact List.Sublist.slnil | exact List.nil_sublist _ | exact List.Sublist.refl _ | refine List.Sublist.cons_cons _ ?_ | refine List.Sublist.cons _ ?_ | refine List.Sublist.trans ?_ (List.sublist_append_right _ _)))) ?_
      refine TX.step [8] (by kernel_rfl) (by decide) ⟨⟨_, rfl, ?_⟩, trivial⟩
      refine TL.pure (PV.mul rfl rfl (by omega)) rfl (by decide) ?_
      refine TL.nil ?_
      refine TX.next (.inl (by repeat (first | exact List.Sublist.slnil | exact List.nil_sublist _ | exact List.Sublist.refl _ | refine List.Sublist.cons_cons _ ?_ | refine List.Sublist.cons _ ?_ | refine List.Sublist.trans ?_ (List.sublist_append_right _ _)))) ?_
      refine TX.step [9] (by kernel_rfl) (by decide) ⟨⟨_, rfl, ?_⟩, trivial⟩
      refine TL.pure (PV.sub rfl rfl (by omega)) rfl (by decide) ?_
      refine TL.nil ?_
      refine TX.next (.inl (by repeat (first | exact List.Sublist.slnil | exact List.nil_sublist _ | exact List.Sublist.refl _ | refine List.Sublist.cons_cons _ ?_ | refine List.Sublist.cons _ ?_ | refine List.Sublist.trans ?_ (List.sublist_append_right _ _)))) ?_
      refine TX.step [10] (by kernel_rfl) (by decide) ⟨⟨_, rfl, ?_⟩, trivial⟩
      refine TL.pure (PV.index1 (j := i) rfl rfl Tb.elm_23 rfl (by omega)) rfl (by decide) ?_
      refine TL.nil ?_
      refine TX.next (.inr (by kernel_rfl)) ?_
      refine TX.step [11] (by kernel_rfl) (by decide) ⟨⟨_, rfl, ?_⟩, trivial⟩
      refine TL.storeIv (j := i) (xs' := tpK ls gs xs i t 0) rfl rfl Tb.cells_3 (tp_start (by omega)) (by repeat (first | exact Upd.head _ | apply Upd.tail | apply Upd.appR)) (by omega) rfl rfl ?_
      refine TL.nil ?_
      refine TX.next (.inr (by kernel_rfl)) ?_
      refine TX.done (by kernel_rfl) ?_
      refine TQ.thenC ?_
      refine TC.seq ?_
      obtain ⟨q1, hq1p, p1, c1, hq1, hi1⟩ := hr i (by omega)
      refine TC.region ?_
      refine TL.pure (PV.fieldAddr rfl Tb.fo_25_0) rfl (by decide) ?_
      refine TL.pure (PV.load rfl Tb.one_22 (by repeat (first | exact List.Mem.head _ | refine List.Mem.tail _ ?_ | refine List.mem_append_right _ ?_)) rfl) rfl (by decide) ?_
      refine TL.pure (PV.move rfl) rfl (by decide) ?_
      refine TL.pure (PV.indexA rfl hq1p rfl Tb.elm_22 rfl (by omega)) rfl (by decide) ?_
      refine TL.pure (PV.loadOld rfl Tb.one_23 hq1) rfl (by decide) ?_
      refine TL.pure (PV.len rfl Tb.sl_23) rfl (by decide) ?_
      refine TL.pure (PV.move rfl) rfl (by decide) ?_
      refine TL.nil ?_
      refine TQ.thenC ?_
      refine TC.block ?_
      refine TC.loopK [1, 3, 25, 26] (X := Nat) (fun k => k ≤ xs.length) (fun k => [(27, .int .i64 k)]) (fun k => (b0, Obj.cells #[.slice p ls.length cp, .slice q gs.length cq] 25 (0, 0)) :: (b, Obj.cells (intsA (tpK ls gs xs i t k)) 3 (0, 0)) :: R) (fun k => xs.length - k) 0 (Nat.zero_le _) (by repeat (first | exact True.intro | refine And.intro rfl ?_)) (by repeat (first | exact List.Sublist.slnil | exact List.nil_sublist _ | exact List.Sublist.refl _ | refine List.Sublist.cons_cons _ ?_ | refine List.Sublist.cons _ ?_ | refine List.Sublist.trans ?_ (List.sublist_append_right _ _))) ?_
      intro k hk
      refine TC.seq ?_
      refine TC.region ?_
      refine TL.pure (PV.lss rfl rfl) rfl (by decide) ?_
      refine TL.nil ?_
      refine TQ.thenC ?_
      refine TC.seq ?_
      first | refine TC.condD rfl (fun h1 => ?_) (fun h1 => ?_) | refine TC.cond rfl (fun h1 => ?_) (fun h1 => ?_)
      · skip
        refine TC.skip ?_
        refine TQ.thenC ?_
        refine TC.seq ?_
        refine TC.block ?_
        refine TC.seq ?_
        obtain ⟨q2, hq2p, hq2⟩ := hi1 k (by omega)
        refine TC.region ?_
        refine TL.pure (PV.move rfl) rfl (by decide) ?_
        refine TL.pure (PV.indexA rfl hq2p rfl Tb.elm_23 rfl (by omega)) rfl (by decide) ?_
        refine TL.pure (PV.loadOld rfl Tb.one_3 hq2) rfl (by decide) ?_
        refine TL.pure (PV.assign rfl) rfl (by decide) ?_
        refine TL.pure (PV.assign rfl) rfl (by decide) ?_
        refine TL.nil ?_
        refine TQ.thenC ?_
        have hmk := mul_bd ht (hB.ent i k)
        unfold getM at hmk
        have hwk := tpK_bd hB hi ht hx9 k k
        refine TC.region ?_
        refine TL.pure (PV.move rfl) rfl (by decide) ?_
        refine TL.pure (PV.move rfl) rfl (by decide) ?_
        refine TL.pure (PV.index1 (j := k) rfl rfl Tb.elm_23 rfl (by omega)) rfl (by decide) ?_
        refine TL.pure (PV.loadI rfl Tb.one_3 (by repeat (first | exact List.Mem.head _ | refine List.Mem.tail _ ?_ | refine List.mem_append_right _ ?_)) (by rw [tpK_len]; omega)) rfl (by decide) ?_
        refine TL.pure (PV.move rfl) rfl (by decide) ?_
        refine TL.pure (PV.move rfl) rfl (by decide) ?_
        refine TL.pure (PV.mul rfl rfl (by omega)) rfl (by decide) ?_
        refine TL.pure (PV.add rfl rfl (by omega)) rfl (by decide) ?_
        refine TL.pure (PV.index1 (j := k) rfl rfl Tb.elm_23 rfl (by omega)) rfl (by decide) ?_
        refine TL.storeIv (j := k) (xs' := tpK ls gs xs i t (k + 1)) rfl rfl Tb.cells_3 (tp_step (by omega)) (by repeat (first | exact Upd.head _ | apply Upd.tail | apply Upd.appR)) (by rw [tpK_len]; omega) rfl rfl ?_
        refine TL.nil ?_
        refine TQ.blkN ?_
        refine TQ.thenC ?_
        refine TC.region ?_
        refine TL.pure (PV.add rfl rfl (by omega)) rfl (by decide) ?_
        refine TL.pure (PV.move rfl) rfl (by decide) ?_
        refine TL.nil ?_
        refine TQ.thenN ?_
        refine TQ.backK (k + 1) (by repeat (first | exact True.intro | refine And.intro rfl ?_)) (by repeat (first | exact True.intro | refine And.intro rfl ?_)) (by repeat (first | exact List.Sublist.slnil | exact List.nil_sublist _ | exact List.Sublist.refl _ | refine List.Sublist.cons_cons _ ?_ | refine List.Sublist.cons _ ?_ | refine List.Sublist.trans ?_ (List.sublist_append_right _ _))) (by omega) (by omega)
      · skip
        refine TC.exit ?_
        refine TQ.thenE ?_
        refine TQ.thenE ?_
        refine TQ.blkS ?_
        refine TQ.retN rfl (Res.nil) ?_
        exact ⟨(), rfl, trivial, by rw [tp_end (show k = xs.length by omega)]; exact List.Sublist.cons _ (List.Sublist.refl _)⟩
    · skip
      refine TL.pure (PV.mul rfl rfl (by omega)) rfl (by decide) ?_
      refine TL.nil ?_
      refine TX.next (.inl (by repeat (first | exact List.Sublist.slnil | exact List.nil_sublist _ | exact List.Sublist.refl _ | refine List.Sublist.cons_cons _ ?_ | refine List.Sublist.cons _ ?_ | refine List.Sublist.trans ?_ (List.sublist_append_right _ _)))) ?_
      refine TX.step [3] (by kernel_rfl) (by decide) ⟨⟨_, rfl, ?_⟩, trivial⟩
      refine TL.pure (PV.loadI rfl Tb.one_3 (by repeat (first | exact List.Mem.head _ | refine List.Mem.tail _ ?_ | refine List.mem_append_right _ ?_)) (by omega)) rfl (by decide) ?_
      refine TL.nil ?_
      refine TX.next (.inl (by repeat (first | exact List.Sublist.slnil | exact List.nil_sublist _ | exact List.Sublist.refl _ | refine List.Sublist.cons_cons _ ?_ | refine List.Sublist.cons _ ?_ | refine List.Sublist.trans ?_ (List.sublist_append_right _ _)))) ?_
      refine TX.step [9] (by kernel_rfl) (by decide) ⟨⟨_, rfl, ?_⟩, trivial⟩
      refine TL.pure (PV.sub rfl rfl (by omega)) rfl (by decide) ?_
      refine TL.nil ?_
      refine TX.next (.inl (by repeat (first | exact List.Sublist.slnil | exact List.nil_sublist _ | exact List.Sublist.refl _ | refine List.Sublist.cons_cons _ ?_ | refine List.Sublist.cons _ ?_ | refine List.Sublist.trans ?_ (List.sublist_append_right _ _)))) ?_
      refine TX.step [10] (by kernel_rfl) (by decide) ⟨⟨_, rfl, ?_⟩, trivial⟩
      refine TL.pure (PV.index1 (j := i) rfl rfl Tb.elm_23 rfl (by omega)) rfl (by decide) ?_
      refine TL.nil ?_
      refine TX.next (.inr (by kernel_rfl)) ?_
      refine TX.step [11] (by kernel_rfl) (by decide) ⟨⟨_, rfl, ?_⟩, trivial⟩
      refine TL.storeIv (j := i) (xs' := tpK ls gs xs i t 0) rfl rfl Tb.cells_3 (tp_start (by omega)) (by repeat (first | exact Upd.head _ | apply Upd.tail | apply Upd.appR)) (by omega) rfl rfl ?_
      refine TL.nil ?_
      refine TX.next (.inr (by kernel_rfl)) ?_
      refine TX.done (by kernel_rfl) ?_
      refine TQ.thenC ?_
      refine TC.seq ?_
      obtain ⟨q1, hq1p, p1, c1, hq1, hi1⟩ := hr i (by omega)
      refine TC.region ?_
      refine TL.pure (PV.fieldAddr rfl Tb.fo_25_0) rfl (by decide) ?_
      refine TL.pure (PV.load rfl Tb.one_22 (by repeat (first | exact List.Mem.head _ | refine List.Mem.tail _ ?_ | refine List.mem_append_right _ ?_)) rfl) rfl (by decide) ?_
      refine TL.pure (PV.move rfl) rfl (by decide) ?_
      refine TL.pure (PV.indexA rfl hq1p rfl Tb.elm_22 rfl (by omega)) rfl (by decide) ?_
      refine TL.pure (PV.loadOld rfl Tb.one_23 hq1) rfl (by decide) ?_
      refine TL.pure (PV.len rfl Tb.sl_23) rfl (by decide) ?_
      refine TL.pure (PV.move rfl) rfl (by decide) ?_
      refine TL.nil ?_
      refine TQ.thenC ?_
      refine TC.block ?_
      refine TC.loopK [1, 3, 25, 26] (X := Nat) (fun k => k ≤ xs.length) (fun k => [(27, .int .i64 k)]) (fun k => (b0, Obj.cells #[.slice p ls.length cp, .slice q gs.length cq] 25 (0, 0)) :: (b, Obj.cells (intsA (tpK ls gs xs i t k)) 3 (0, 0)) :: R) (fun k => xs.length - k) 0 (Nat.zero_le _) (by repeat (first | exact True.intro | refine And.intro rfl ?_)) (by repeat (first | exact List.Sublist.slnil | exact List.nil_sublist _ | exact List.Sublist.refl _ | refine List.Sublist.cons_cons _ ?_ | refine List.Sublist.cons _ ?_ | refine List.Sublist.trans ?_ (List.sublist_append_right _ _))) ?_
      intro k hk
      refine TC.seq ?_
      refine TC.region ?_
      refine TL.pure (PV.lss rfl rfl) rfl (by decide) ?_
      refine TL.nil ?_
      refine TQ.thenC ?_
      refine TC.seq ?_
      first | refine TC.condD rfl (fun h2 => ?_) (fun h2 => ?_) | refine TC.cond rfl (fun h2 => ?_) (fun h2 => ?_)
      · skip
        refine TC.skip ?_
        refine TQ.thenC ?_
        refine TC.seq ?_
        refine TC.block ?_
        refine TC.seq ?_
        obtain ⟨q2, hq2p, hq2⟩ := hi1 k (by omega)
        refine TC.region ?_
        refine TL.pure (PV.move rfl) rfl (by decide) ?_
        refine TL.pure (PV.indexA rfl hq2p rfl Tb.elm_23 rfl (by omega)) rfl (by decide) ?_
        refine TL.pure (PV.loadOld rfl Tb.one_3 hq2) rfl (by decide) ?_
        refine TL.pure (PV.assign rfl) rfl (by decide) ?_
        refine TL.pure (PV.assign rfl) rfl (by decide) ?_
        refine TL.nil ?_
        refine TQ.thenC ?_
        have hmk := mul_bd ht (hB.ent i k)
        unfold getM at hmk
        have hwk := tpK_bd hB hi ht hx9 k k
        refine TC.region ?_
        refine TL.pure (PV.move rfl) rfl (by decide) ?_
        refine TL.pure (PV.move rfl) rfl (by decide) ?_
        refine TL.pure (PV.index1 (j := k) rfl rfl Tb.elm_23 rfl (by omega)) rfl (by decide) ?_
        refine TL.pure (PV.loadI rfl Tb.one_3 (by repeat (first | exact List.Mem.head _ | refine List.Mem.tail _ ?_ | refine List.mem_append_right _ ?_)) (by rw [tpK_len]; omega)) rfl (by decide) ?_
        refine TL.pure (PV.move rfl) rfl (by decide) ?_
        refine TL.pure (PV.move rfl) rfl (by decide) ?_
        refine TL.pure (PV.mul rfl rfl (by omega)) rfl (by decide) ?_
        refine TL.pure (PV.add rfl rfl (by omega)) rfl (by decide) ?_
        refine TL.pure (PV.index1 (j := k) rfl rfl Tb.elm_23 rfl (by omega)) rfl (by decide) ?_
        refine TL.storeIv (j := k) (xs' := tpK ls gs xs i t (k + 1)) rfl rfl Tb.cells_3 (tp_step (by omega)) (by repeat (first | exact Upd.head _ | apply Upd.tail | apply Upd.appR)) (by rw [tpK_len]; omega) rfl rfl ?_
        refine TL.nil ?_
        refine TQ.blkN ?_
        refine TQ.thenC ?_
        refine TC.region ?_
        refine TL.pure (PV.add rfl rfl (by omega)) rfl (by decide) ?_
        refine TL.pure (PV.move rfl) rfl (by decide) ?_
        refine TL.nil ?_
        refine TQ.thenN ?_
        refine TQ.backK (k + 1) (by repeat (first | exact True.intro | refine And.intro rfl ?_)) (by repeat (first | exact True.intro | refine And.intro rfl ?_)) (by repeat (first | exact List.Sublist.slnil | exact List.nil_sublist _ | exact List.Sublist.refl _ | refine List.Sublist.cons_cons _ ?_ | refine List.Sublist.cons _ ?_ | refine List.Sublist.trans ?_ (List.sublist_append_right _ _))) (by omega) (by omega)
      · skip
        refine TC.exit ?_
        refine TQ.thenE ?_
        refine TQ.thenE ?_
        refine TQ.blkS ?_
        refine TQ.retN rfl (Res.nil) ?_
        exact ⟨(), rfl, trivial, by rw [tp_end (show k = xs.length by omega)]; exact List.Sublist.cons _ (List.Sublist.refl _)⟩

set_option maxRecDepth 100000 in
set_option maxHeartbeats 1000000 in
theorem rtopple_ok (w0 : World) (p : Option Addr) (cp : Nat) (ls : List (List Int)) (hr : LsAt w0 p ls) (q : Option Addr) (cq : Nat) (gs : List Int) (hg : IntsAt w0 q gs) (hB : HB ls gs) (pl : Option Addr) (cl : Nat) (xs : List Int) (hx : IntsAt w0 pl xs) (N : Nat) (hN : xs.length = N) (hxl : xs.length = gs.length) (i : Nat) (hi : i < gs.length) (t : Int) (ht : -1000000000 ≤ t ∧ t ≤ 1000000000) (hx9 : ∀ k, -1000000000000 ≤ xs.getD k 0 ∧ xs.getD k 0 ≤ 1000000000000) :
    Calls Try.prog 75 #[hv p ls.length cp q gs.length cq, .slice pl N cl, .int .i64 i, .int .i64 t] w0 (Post (X := HD) (fun h => gval h N) (fun h => gok h N 1 (ival (tpN ls gs xs i t))) (fun h => gbI (h, tpN ls gs xs i t)) w0) := by
  have hn9 := hB.n
  have hl9 := hB.len
  have hrk := hB.rowl (k := i) (by omega)
  have hlim := hB.lim hi
  have hml := mul_bd (a := limI ls gs i) (c := 12) ht ⟨by omega, hlim.2⟩
  refine calls Try.func75 rfl (n := 48) rfl (by simp) ?_
  refine TC.seq ?_
  refine TC.region ?_
  refine TL.box rfl rfl (by decide) (fun b0 hb0 => ?_)
  refine TL.pure (PV.assign rfl) rfl (by decide) ?_
  refine TL.nil ?_
  refine TQ.thenC ?_
  refine TC.seq ?_
  refine TC.region ?_
  refine TL.buildSlice0 Tb.sl_23 Tb.zi_3 rfl (by decide) (fun bA hbA => ?_)
  refine TL.pure (PV.move rfl) rfl (by decide) ?_
  refine TL.append0 (m := N) (news := ival xs) (bA := bA) rfl rfl Tb.sl_23 Tb.zi_3 rfl (by repeat (first | exact Take.head _ | apply Take.tail | apply Take.appR)) (fun w' hN2 => ints_src Tb.sl_23 hN (hx.new hN2)) (by omega) (by omega) rfl (by decide) (fun h9 ho9 => ?_)
  refine TL.pure (PV.assign rfl) rfl (by decide) ?_
  refine TL.nil ?_
  refine TQ.thenC ?_
  refine TC.seq ?_
  refine TC.seq ?_
  refine TC.region ?_
  refine TL.pure (PV.assign rfl) rfl (by decide) ?_
  refine TL.nil ?_
  refine TQ.thenC ?_
  refine TC.block ?_
  refine TC.loopK [2, 3, 4, 8, 9] (X := Nat) (fun k => k ≤ xs.length) (fun k => [(10, .int .i64 k)]) (fun k => gbI (h9, rpK ls xs i t k) ++ [(b0, Obj.cells #[.slice p ls.length cp, .slice q gs.length cq] 25 (0, 0))]) (fun k => xs.length - k) 0 (Nat.zero_le _) (by repeat (first | exact True.intro | refine And.intro rfl ?_)) (by rw [← rp_start]; exact List.Sublist.refl _) ?_
  intro k hk
  refine TC.seq ?_
  refine TC.seq ?_
  refine TC.region ?_
  refine TL.pure (PV.move rfl) rfl (by decide) ?_
  refine TL.pure (PV.move rfl) rfl (by decide) ?_
  refine TL.pure (PV.lenG rfl ho9 Tb.sl_23) rfl (by decide) ?_
  refine TL.pure (PV.lss rfl rfl) rfl (by decide) ?_
  refine TL.nil ?_
  refine TQ.thenC ?_
  first | refine TC.condD rfl (fun h0 => ?_) (fun h0 => ?_) | refine TC.cond rfl (fun h0 => ?_) (fun h0 => ?_)
  · skip
    refine TC.skip ?_
    refine TQ.thenC ?_
    refine TC.seq ?_
    refine TC.block ?_
    obtain ⟨q1, hq1p, p1, c1, hq1, hi1⟩ := hr i (by omega)
    obtain ⟨q2, hq2p, hq2⟩ := hi1 k (by omega)
    have hmk := mul_bd ht (hB.ent i k)
    unfold getM at hmk
    have hwk := rpK_bd hB (i := i) ht hx9 k k
    refine TC.draw 16 Tb.mixed (by kernel_rfl) ?_
    simp only [List.take_succ_cons, List.take_zero, List.drop_succ_cons, List.drop_zero]
    refine TS.pure (PV.move rfl) rfl (by decide) ?_
    refine TS.pure (PV.move rfl) rfl (by decide) ?_
    refine TS.pure (PV.indexG (j := k) rfl rfl (go_len ho9 ((rpK_len ls xs i t k).trans hN)) Tb.elm_23 rfl (by omega)) rfl (by decide) ?_
    refine TS.pure (PV.loadGI (y := (h9, rpK ls xs i t k)) (v := (rpK ls xs i t k).getD k 0) rfl Tb.one_3 (fun yy hyy => by repeat (first | exact List.mem_append_left _ hyy | refine List.mem_append_right _ ?_ | refine List.Mem.tail _ ?_)) (go_lenI ho9 ((rpK_len ls xs i t k).trans hN)) (by rw [rpK_len]; omega) rfl) rfl (by decide) ?_
    refine TS.pure (PV.move rfl) rfl (by decide) ?_
    refine TS.pure (PV.fieldAddr rfl Tb.fo_25_0) rfl (by decide) ?_
    refine TS.pure (PV.load rfl Tb.one_22 (by repeat (first | exact List.Mem.head _ | refine List.Mem.tail _ ?_ | refine List.mem_append_right _ ?_)) rfl) rfl (by decide) ?_
    refine TS.pure (PV.move rfl) rfl (by decide) ?_
    refine TS.pure (PV.indexA rfl hq1p rfl Tb.elm_22 rfl (by omega)) rfl (by decide) ?_
    refine TS.pure (PV.loadOld rfl Tb.one_23 hq1) rfl (by decide) ?_
    refine TS.pure (PV.move rfl) rfl (by decide) ?_
    refine TS.pure (PV.indexA rfl hq2p rfl Tb.elm_23 rfl (by omega)) rfl (by decide) ?_
    refine TS.pure (PV.loadOld rfl Tb.one_3 hq2) rfl (by decide) ?_
    refine TS.pure (PV.mul rfl rfl (by omega)) rfl (by decide) ?_
    refine TS.pure (PV.add rfl rfl (by omega)) rfl (by decide) ?_
    refine TS.pure (PV.indexG (j := k) rfl rfl (go_len ho9 ((rpK_len ls xs i t k).trans hN)) Tb.elm_23 rfl (by omega)) rfl (by decide) ?_
    refine TS.nil ?_
    refine TL.putI (h := h9) (xs := rpK ls xs i t k) (xs' := rpK ls xs i t (k + 1)) (j := k) rfl rfl Tb.cells_3 (go_lenI ho9 ((rpK_len ls xs i t k).trans hN)) (rp_step (by omega)) (by repeat (first | exact PutH.here _ _ _ _ | apply PutH.tail | apply PutH.app)) (by rw [rpK_len]; omega) rfl rfl ?_
    refine TL.nil ?_
    refine TQ.blkN ?_
    refine TQ.thenC ?_
    refine TC.region ?_
    refine TL.pure (PV.move rfl) rfl (by decide) ?_
    refine TL.pure (PV.add rfl rfl (by omega)) rfl (by decide) ?_
    refine TL.pure (PV.assign rfl) rfl (by decide) ?_
    refine TL.nil ?_
    refine TQ.thenN ?_
    refine TQ.backK (k + 1) (by repeat (first | exact True.intro | refine And.intro rfl ?_)) (by repeat (first | exact True.intro | refine And.intro rfl ?_)) (List.Sublist.refl _) (by omega) (by omega)
  · skip
    refine TC.exit ?_
    refine TQ.thenE ?_
    refine TQ.thenE ?_
    refine TQ.blkS ?_
    refine TQ.thenC ?_
    refine TC.seq ?_
    have hwi := rpK_bd hB (i := i) ht hx9 k i
    refine TC.mix [true, true, true, false, true, true, true, false, false, false, false, false] [(b0, Obj.cells #[.slice p ls.length cp, .slice q gs.length cq] 25 (0, 0))] 6 Tb.mixed rfl (by kernel_rfl) (by kernel_rfl) (by kernel_rfl) (by kernel_rfl) (by repeat (first | exact List.Sublist.slnil | exact List.nil_sublist _ | exact List.Sublist.refl _ | refine List.Sublist.cons_cons _ ?_ | refine List.Sublist.cons _ ?_ | refine List.Sublist.trans ?_ (List.sublist_append_right _ _))) ?_
    refine TB.op (SOK.pure (PV.move rfl) rfl) (by decide) ?_
    refine TB.op (SOK.pure (PV.move rfl) rfl) (by decide) ?_
    refine TB.op (SOK.pure (PV.indexG (j := i) rfl rfl (go_len ho9 ((rpK_len ls xs i t k).trans hN)) Tb.elm_23 rfl (by omega)) rfl) (by decide) ?_
    refine TB.no ?_
    refine TB.op (SOK.pure (PV.move rfl) rfl) (by decide) ?_
    refine TB.op (SOK.pure (PV.loadBox rfl Tb.agg_25 (by repeat (first | exact List.Mem.head _ | refine List.Mem.tail _ ?_ | refine List.mem_append_right _ ?_)) rfl) rfl) (by decide) ?_
    refine TB.op (SOK.pure (PV.move rfl) rfl) (by decide) ?_
    refine TB.no ?_
    refine TB.no ?_
    refine TB.no ?_
    refine TB.no ?_
    refine TB.no ?_
    refine TB.fin ?_
    refine TX.step [3, 7] (by kernel_rfl) (by decide) ⟨⟨_, rfl, ?_⟩, ⟨_, rfl, ?_⟩, trivial⟩
    · skip
      refine TL.pure (PV.loadGI (y := (h9, rpK ls xs i t k)) (j := i) (v := (rpK ls xs i t k).getD i 0) rfl Tb.one_3 (fun yy hyy => by repeat (first | exact List.mem_append_left _ hyy | refine List.mem_append_right _ ?_ | refine List.Mem.tail _ ?_)) (go_lenI ho9 ((rpK_len ls xs i t k).trans hN)) (by rw [rpK_len]; omega) rfl) rfl (by decide) ?_
      refine TL.nil ?_
      refine TX.next (.inl (by repeat (first | exact List.Sublist.slnil | exact List.nil_sublist _ | exact List.Sublist.refl _ | refine List.Sublist.cons_cons _ ?_ | refine List.Sublist.cons _ ?_ | refine List.Sublist.trans ?_ (List.sublist_append_right _ _)))) ?_
      refine TX.step [7] (by kernel_rfl) (by decide) ⟨⟨_, rfl, ?_⟩, trivial⟩
      refine TL.call rfl Tb.gofn_63 (fun a w hs => rlimit_ok w _ _ _ (hr.new hs.new) _ _ _ (hg.new hs.new) hB i hi) rfl (by decide) (fun _ _ => ?_)
      refine TL.nil ?_
      refine TX.next (.inl (by repeat (first | exact List.Sublist.slnil | exact List.nil_sublist _ | exact List.Sublist.refl _ | refine List.Sublist.cons_cons _ ?_ | refine List.Sublist.cons _ ?_ | refine List.Sublist.trans ?_ (List.sublist_append_right _ _)))) ?_
      refine TX.step [8] (by kernel_rfl) (by decide) ⟨⟨_, rfl, ?_⟩, trivial⟩
      refine TL.pure (PV.mul rfl rfl (by omega)) rfl (by decide) ?_
      refine TL.nil ?_
      refine TX.next (.inl (by repeat (first | exact List.Sublist.slnil | exact List.nil_sublist _ | exact List.Sublist.refl _ | refine List.Sublist.cons_cons _ ?_ | refine List.Sublist.cons _ ?_ | refine List.Sublist.trans ?_ (List.sublist_append_right _ _)))) ?_
      refine TX.step [9] (by kernel_rfl) (by decide) ⟨⟨_, rfl, ?_⟩, trivial⟩
      refine TL.pure (PV.sub rfl rfl (by omega)) rfl (by decide) ?_
      refine TL.nil ?_
      refine TX.next (.inl (by repeat (first | exact List.Sublist.slnil | exact List.nil_sublist _ | exact List.Sublist.refl _ | refine List.Sublist.cons_cons _ ?_ | refine List.Sublist.cons _ ?_ | refine List.Sublist.trans ?_ (List.sublist_append_right _ _)))) ?_
      refine TX.step [10] (by kernel_rfl) (by decide) ⟨⟨_, rfl, ?_⟩, trivial⟩
      refine TL.pure (PV.indexG (j := i) rfl rfl (go_len ho9 ((rpK_len ls xs i t k).trans hN)) Tb.elm_23 rfl (by omega)) rfl (by decide) ?_
      refine TL.nil ?_
      refine TX.next (.inr (by kernel_rfl)) ?_
      refine TX.step [11] (by kernel_rfl) (by decide) ⟨⟨_, rfl, ?_⟩, trivial⟩
      refine TL.putI (h := h9) (xs := rpK ls xs i t k) (xs' := tpN ls gs xs i t) (j := i) rfl rfl Tb.cells_3 (go_lenI ho9 ((rpK_len ls xs i t k).trans hN)) (rp_end (by omega) (by omega)) (by repeat (first | exact PutH.here _ _ _ _ | apply PutH.tail | apply PutH.app)) (by rw [rpK_len]; omega) rfl rfl ?_
      refine TL.nil ?_
      refine TX.next (.inr (by kernel_rfl)) ?_
      refine TX.done (by kernel_rfl) ?_
      refine TQ.thenC ?_
      refine TC.seq ?_
      refine TC.region ?_
      refine TL.pure (PV.move rfl) rfl (by decide) ?_
      refine TL.pure (PV.assign rfl) rfl (by decide) ?_
      refine TL.nil ?_
      refine TQ.thenC ?_
      refine TC.ret ?_
      refine TQ.retE1 rfl rfl ?_
      exact ⟨h9, rfl, go_len ho9 ((tp_len _ _ _ _ _).trans hN), List.sublist_append_left _ _⟩
    · skip
      refine TL.call rfl Tb.gofn_63 (fun a w hs => rlimit_ok w _ _ _ (hr.new hs.new) _ _ _ (hg.new hs.new) hB i hi) rfl (by decide) (fun _ _ => ?_)
      refine TL.nil ?_
      refine TX.next (.inl (by repeat (first | exact List.Sublist.slnil | exact List.nil_sublist _ | exact List.Sublist.refl _ | refine List.Sublist.cons_cons _ ?_ | refine List.Sublist.cons _ ?_ | refine List.Sublist.trans ?_ (List.sublist_append_right _ _)))) ?_
      refine TX.step [3, 8] (by kernel_rfl) (by decide) ⟨⟨_, rfl, ?_⟩, ⟨_, rfl, ?_⟩, trivial⟩
      · skip
        refine TL.pure (PV.loadGI (y := (h9, rpK ls xs i t k)) (j := i) (v := (rpK ls xs i t k).getD i 0) rfl Tb.one_3 (fun yy hyy => by repeat (first | exact List.mem_append_left _ hyy | refine List.mem_append_right _ ?_ | refine List.Mem.tail _ ?_)) (go_lenI ho9 ((rpK_len ls xs i t k).trans hN)) (by rw [rpK_len]; omega) rfl) rfl (by decide) ?_
        refine TL.nil ?_
        refine TX.next (.inl (by repeat (first | exact List.Sublist.slnil | exact List.nil_sublist _ | exact List.Sublist.refl _ | refine List.Sublist.cons_cons _ ?_ | refine List.Sublist.cons _ ?_ | refine List.Sublist.trans ?_ (List.sublist_append_right _ _)))) ?_
        refine TX.step [8] (by kernel_rfl) (by decide) ⟨⟨_, rfl, ?_⟩, trivial⟩
        refine TL.pure (PV.mul rfl rfl (by omega)) rfl (by decide) ?_
        refine TL.nil ?_
        refine TX.next (.inl (by repeat (first | exact List.Sublist.slnil | exact List.nil_sublist _ | exact List.Sublist.refl _ | refine List.Sublist.cons_cons _ ?_ | refine List.Sublist.cons _ ?_ | refine List.Sublist.trans ?_ (List.sublist_append_right _ _)))) ?_
        refine TX.step [9] (by kernel_rfl) (by decide) ⟨⟨_, rfl, ?_⟩, trivial⟩
        refine TL.pure (PV.sub rfl rfl (by omega)) rfl (by decide) ?_
        refine TL.nil ?_
        refine TX.next (.inl (by repeat (first | exact List.Sublist.slnil | exact List.nil_sublist _ | exact List.Sublist.refl _ | refine List.Sublist.cons_cons _ ?_ | refine List.Sublist.cons _ ?_ | refine List.Sublist.trans ?_ (List.sublist_append_right _ _)))) ?_
        refine TX.step [10] (by kernel_rfl) (by decide) ⟨⟨_, rfl, ?_⟩, trivial⟩
        refine TL.pure (PV.indexG (j := i) rfl rfl (go_len ho9 ((rpK_len ls xs i t k).trans hN)) Tb.elm_23 rfl (by omega)) rfl (by decide) ?_
        refine TL.nil ?_
        refine TX.next (.inr (by kernel_rfl)) ?_
        refine TX.step [11] (by kernel_rfl) (by decide) ⟨⟨_, rfl, ?_⟩, trivial⟩
        refine TL.putI (h := h9) (xs := rpK ls xs i t k) (xs' := tpN ls gs xs i t) (j := i) rfl rfl Tb.cells_3 (go_lenI ho9 ((rpK_len ls xs i t k).trans hN)) (rp_end (by omega) (by omega)) (by repeat (first | exact PutH.here _ _ _ _ | apply PutH.tail | apply PutH.app)) (by rw [rpK_len]; omega) rfl rfl ?_
        refine TL.nil ?_
        refine TX.next (.inr (by kernel_rfl)) ?_
        refine TX.done (by kernel_rfl) ?_
        refine TQ.thenC ?_
        refine TC.seq ?_
        refine TC.region ?_
        refine TL.pure (PV.move rfl) rfl (by decide) ?_
        refine TL.pure (PV.assign rfl) rfl (by decide) ?_
        refine TL.nil ?_
        refine TQ.thenC ?_
        refine TC.ret ?_
        refine TQ.retE1 rfl rfl ?_
        exact ⟨h9, rfl, go_len ho9 ((tp_len _ _ _ _ _).trans hN), List.sublist_append_left _ _⟩
      · skip
        refine TL.pure (PV.mul rfl rfl (by omega)) rfl (by decide) ?_
        refine TL.nil ?_
        refine TX.next (.inl (by repeat (first | exact List.Sublist.slnil | exact List.nil_sublist _ | exact List.Sublist.refl _ | refine List.Sublist.cons_cons _ ?_ | refine List.Sublist.cons _ ?_ | refine List.Sublist.trans ?_ (List.sublist_append_right _ _)))) ?_
        refine TX.step [3] (by kernel_rfl) (by decide) ⟨⟨_, rfl, ?_⟩, trivial⟩
        refine TL.pure (PV.loadGI (y := (h9, rpK ls xs i t k)) (j := i) (v := (rpK ls xs i t k).getD i 0) rfl Tb.one_3 (fun yy hyy => by repeat (first | exact List.mem_append_left _ hyy | refine List.mem_append_right _ ?_ | refine List.Mem.tail _ ?_)) (go_lenI ho9 ((rpK_len ls xs i t k).trans hN)) (by rw [rpK_len]; omega) rfl) rfl (by decide) ?_
        refine TL.nil ?_
        refine TX.next (.inl (by repeat (first | exact List.Sublist.slnil | exact List.nil_sublist _ | exact List.Sublist.refl _ | refine List.Sublist.cons_cons _ ?_ | refine List.Sublist.cons _ ?_ | refine List.Sublist.trans ?_ (List.sublist_append_right _ _)))) ?_
        refine TX.step [9] (by kernel_rfl) (by decide) ⟨⟨_, rfl, ?_⟩, trivial⟩
        refine TL.pure (PV.sub rfl rfl (by omega)) rfl (by decide) ?_
        refine TL.nil ?_
        refine TX.next (.inl (by repeat (first | exact List.Sublist.slnil | exact List.nil_sublist _ | exact List.Sublist.refl _ | refine List.Sublist.cons_cons _ ?_ | refine List.Sublist.cons _ ?_ | refine List.Sublist.trans ?_ (List.sublist_append_right _ _)))) ?_
        refine TX.step [10] (by kernel_rfl) (by decide) ⟨⟨_, rfl, ?_⟩, trivial⟩
        refine TL.pure (PV.indexG (j := i) rfl rfl (go_len ho9 ((rpK_len ls xs i t k).trans hN)) Tb.elm_23 rfl (by omega)) rfl (by decide) ?_
        refine TL.nil ?_
        refine TX.next (.inr (by kernel_rfl)) ?_
        refine TX.step [11] (by kernel_rfl) (by decide) ⟨⟨_, rfl, ?_⟩, trivial⟩
        refine TL.putI (h := h9) (xs := rpK ls xs i t k) (xs' := tpN ls gs xs i t) (j := i) rfl rfl Tb.cells_3 (go_lenI ho9 ((rpK_len ls xs i t k).trans hN)) (rp_end (by omega) (by omega)) (by repeat (first | exact PutH.here _ _ _ _ | apply PutH.tail | apply PutH.app)) (by rw [rpK_len]; omega) rfl rfl ?_
        refine TL.nil ?_
        refine TX.next (.inr (by kernel_rfl)) ?_
        refine TX.done (by kernel_rfl) ?_
        refine TQ.thenC ?_
        refine TC.seq ?_
        refine TC.region ?_
        refine TL.pure (PV.move rfl) rfl (by decide) ?_
        refine TL.pure (PV.assign rfl) rfl (by decide) ?_
        refine TL.nil ?_
        refine TQ.thenC ?_
        refine TC.ret ?_
        refine TQ.retE1 rfl rfl ?_
        exact ⟨h9, rfl, go_len ho9 ((tp_len _ _ _ _ _).trans hN), List.sublist_append_left _ _⟩

end Go.Proofs.Ytgafpkcnhpoobaa
