/- Thinning: contracts. -/
import Derived.Test.YtaeobkgogipceaaDoorQi
set_option linter.unusedVariables false
set_option linter.unusedSimpArgs false
namespace Go.Proofs.YtaeobkgogipceaaDoor
open Go.Sx Go.RowKit

theorem rev_take {L k : Nat} (h : k < L) : (List.range L).reverse.take (L - k) = (List.range L).reverse.take (L - (k + 1)) ++ [k] := by
  rw [show L - k = (L - (k + 1)) + 1 by omega, List.take_add_one]
  congr 1
  rw [List.getElem?_reverse (by rw [List.length_range]; omega), List.length_range, List.getElem?_range (by omega), show L - 1 - (L - (k + 1)) = k by omega]
  rfl
theorem rev_map (l : List Nat) : (List.range l.length).reverse.map (fun k => l.getD k 0) = l.reverse := by
  rw [List.map_reverse]
  congr 1
  refine List.ext_getElem (by simp) fun i h1 h2 => ?_
  simp [List.getD, h2]
/-- A step of thinning. -/
def tnS (m : Mo.Md) (E T q : Nat) : Nat := if Mo.en m (Mo.dif T (2 ^ q)) = E then Mo.dif T (2 ^ q) else T
theorem tnS_sub (m : Mo.Md) (E T q : Nat) : Mo.Sub (tnS m E T q) T := by
  unfold tnS; split
  · exact Mo.dif_sub _ _
  · exact Mo.Sub.refl _
def tnF (m : Mo.Md) (E T : Nat) (l : List Nat) : Nat := l.foldl (tnS m E) T
theorem tnF_sub (m : Mo.Md) (E : Nat) : ∀ (l : List Nat) (T : Nat), Mo.Sub (tnF m E T l) T
  | [], T => Mo.Sub.refl T
  | q :: l, T => (tnF_sub m E l _).trans (tnS_sub m E T q)
theorem tnF_snoc (m : Mo.Md) (E T : Nat) (l : List Nat) (q : Nat) : tnF m E T (l ++ [q]) = tnS m E (tnF m E T l) q := by
  unfold tnF; rw [List.foldl_append]; rfl
theorem tnF_thn {m : Mo.Md} {E S : Nat} : ∀ (k T : Nat), (∀ i, i < k → T.testBit i = true → S.testBit i = true) → Mo.en m T = E → tnF m E T ((List.range k).filter S.testBit).reverse = Mo.thn m E k T
  | 0, _, _, _ => rfl
  | k + 1, T, h, hE => by
    rw [List.range_succ, List.filter_append, List.filter_cons]
    by_cases hs : S.testBit k = true
    · rw [if_pos hs, List.filter_nil, List.reverse_append]
      show tnF m E (tnS m E T k) ((List.range k).filter S.testBit).reverse = Mo.thn m E k (if Mo.en m (Mo.dif T (2 ^ k)) = E then Mo.dif T (2 ^ k) else T)
      refine tnF_thn k _ (fun i hi hb => h i (by omega) (tnS_sub m E T k i hb)) ?_
      unfold tnS
      split
      · assumption
      · exact hE
    · rw [if_neg hs, List.filter_nil, List.append_nil]
      have : T.testBit k = false := by
        cases hb : T.testBit k
        · rfl
        · exact absurd (h k (Nat.lt_succ_self _) hb) hs
      rw [Mo.thn_skip this]
      exact tnF_thn k T (fun i hi hb => h i (by omega) hb) hE
theorem tnF_all {m : Mo.Md} (ho : Mo.Ok m) {S : Nat} (hS : S < 2 ^ m.N) : tnF m (Mo.en m S) S (Mo.sqL S).reverse = Mo.thin m S := by
  rw [sq_range hS (by have := ho.N36; omega)]
  exact tnF_thn m.N S (fun _ _ h => h) rfl
theorem ndd_or {m : Mo.Md} (ho : Mo.Ok m) {S : Nat} (hS : S < 2 ^ m.N) : orL (fun q => !decide (Mo.en m (Mo.dif S (2 ^ q)) = Mo.en m S)) (Mo.sqL S) = Mo.ndd m S := Nat.eq_of_testBit_eq fun i => by
  unfold Mo.ndd
  rw [orL_t, Mo.msk_t]
  have h : decide (i ∈ Mo.sqL S) = (decide (i < m.N) && S.testBit i) := by
    have := Mo.mem_sq (i := i) (Mo.p64 ho hS)
    cases hb : S.testBit i
    · rw [decide_eq_false (fun h1 => by rw [this, hb] at h1; cases h1), Bool.and_false]
    · rw [decide_eq_true (this.2 hb), decide_eq_true (Mo.tb_in hS hb)]; rfl
  rw [h, Bool.and_assoc]
theorem ndd_lt (m : Mo.Md) (S : Nat) : Mo.ndd m S < 2 ^ m.N := Mo.msk_lt _ _
/-- The needed squares below a number. -/
def ndF (m : Mo.Md) (S k : Nat) : List Nat := (List.range k).filter fun s => S.testBit s && !decide (Mo.en m (Mo.dif S (2 ^ s)) = Mo.en m S)
theorem ndF_zero (m : Mo.Md) (S : Nat) : ndF m S 0 = [] := rfl
theorem ndF_len (m : Mo.Md) (S k : Nat) : (ndF m S k).length ≤ k := Nat.le_trans (List.length_filter_le _ _) (by rw [List.length_range]; exact Nat.le_refl _)
theorem ndF_yes {m : Mo.Md} {S k : Nat} (h1 : S.testBit k = true) (h2 : ¬ Mo.en m (Mo.dif S (2 ^ k)) = Mo.en m S) : ofN (ndF m S (k + 1)) = ofN (ndF m S k) ++ [(k : Int)] := by
  unfold ndF ofN
  rw [List.range_succ, List.filter_append, List.map_append, List.filter_cons, if_pos (by rw [h1, decide_eq_false h2]; rfl)]; rfl
theorem ndF_no {m : Mo.Md} {S k : Nat} (h : (S.testBit k && !decide (Mo.en m (Mo.dif S (2 ^ k)) = Mo.en m S)) = false) : ofN (ndF m S (k + 1)) = ofN (ndF m S k) := by
  unfold ndF ofN
  rw [List.range_succ, List.filter_append, List.map_append, List.filter_cons, if_neg (by rw [h]; decide)]; simp
theorem ndF_all {m : Mo.Md} (ho : Mo.Ok m) (S : Nat) : ndF m S m.N = Mo.sqL (Mo.ndd m S) := by
  rw [sq_range (ndd_lt m S) (by have := ho.N36; omega)]
  exact List.filter_congr fun i hi => by
    unfold Mo.ndd
    rw [Mo.msk_t, decide_eq_true (List.mem_range.1 hi), Bool.true_and]
def ndL (r c k w : Int) : List Int := if gI r c k w = 0 then ofN (Mo.sqL (Mo.ndd (Mo.mD r c k) w.toNat)) else []
theorem ndL_no {r c k w : Int} (h : gI r c k w ≠ 0) : ndL r c k w = [] := if_neg h
theorem ndL_ok {m : Mo.Md} (ho : Mo.Ok m) {S : Nat} (hS : S < 2 ^ m.N) : ndL m.R m.C m.K S = ofN (Mo.sqL (Mo.ndd m S)) := if_pos (gI_ok ho hS)
theorem pc_half {x : Nat} (h : x < 2 ^ 63) : Mo.pc x = x % 2 + Mo.pc (x / 2) := by
  unfold Mo.pc
  have e : Mo.cnt 64 x.testBit = Mo.cnt (1 + 63) x.testBit := rfl
  rw [e, Mo.cnt_add, Mo.cnt_more (n := 63) (m := 64) (by decide) (fun i hi => Mo.tb_out (n := 63) (by omega : x / 2 < 2 ^ 63) hi)]
  have a : Mo.cnt 1 x.testBit = x % 2 := by
    show 0 + (x.testBit 0).toNat = _
    rw [Nat.testBit_zero]
    rcases Nat.mod_two_eq_zero_or_one x with h0 | h0 <;> rw [h0] <;> rfl
  have b : Mo.cnt 63 (fun i => x.testBit (1 + i)) = Mo.cnt 63 (x / 2).testBit := Mo.cnt_congr fun i _ => by rw [Nat.add_comm 1 i, Nat.testBit_succ]
  rw [a, b]
theorem pc_zero : Mo.pc 0 = 0 := Mo.cnt_zero fun i _ => Nat.zero_testBit i


set_option maxRecDepth 100000 in
theorem size_ok (w0 : World) (x : Nat) (hx : x < 9223372036854775808) :
    Calls Tryd.prog 83 #[.int .i64 x] w0 (Post (X := Unit) (fun _ => .int .i64 (Mo.pc x : Nat)) (fun _ => True) (fun _ => []) w0) := by
  refine calls Tryd.func83 rfl (n := 13) rfl (by simp) ?_
  refine TC.seq ?_
  refine TC.region ?_
  refine TL.pure (PV.assign rfl) rfl (by decide) ?_
  refine TL.nil ?_
  refine TQ.thenC ?_
  refine TC.seq ?_
  refine TC.region ?_
  refine TL.pure (PV.assign rfl) rfl (by decide) ?_
  refine TL.nil ?_
  refine TQ.thenC ?_
  refine TC.seq ?_
  refine TC.block ?_
  refine TC.loopG [2] (X := Nat × Nat) (fun y => y.1 < 9223372036854775808 ∧ y.2 + Mo.pc y.1 = Mo.pc x) (fun y => [(0, .int .i64 y.1), (3, .int .i64 y.2)]) (fun y => y.1) (x, 0) ⟨hx, Nat.zero_add _⟩ (by repeat (first | exact True.intro | refine And.intro rfl ?_)) ?_
  intro y hy
  have hph := pc_half (x := y.1) (by omega)
  have hpl := Mo.cnt_le 64 x.testBit
  have hpe : Mo.pc x = Mo.cnt 64 x.testBit := rfl
  refine TC.seq ?_
  refine TC.seq ?_
  refine TC.region ?_
  refine TL.pure (PV.move rfl) rfl (by decide) ?_
  refine TL.pure (PV.gtr rfl rfl) rfl (by decide) ?_
  refine TL.nil ?_
  refine TQ.thenC ?_
  first | refine TC.condD rfl (fun hpos => ?_) (fun hpos => ?_) | refine TC.cond rfl (fun hpos => ?_) (fun hpos => ?_)
  · skip
    refine TC.skip ?_
    refine TQ.thenC ?_
    refine TC.seq ?_
    refine TC.block ?_
    refine TC.region ?_
    refine TL.pure (PV.move rfl) rfl (by decide) ?_
    refine TL.pure (PV.move rfl) rfl (by decide) ?_
    refine TL.pure (PV.remN (b := 2) rfl rfl (by decide) (by omega)) rfl (by decide) ?_
    refine TL.pure (PV.add rfl rfl (by omega)) rfl (by decide) ?_
    refine TL.pure (PV.assign rfl) rfl (by decide) ?_
    refine TL.nil ?_
    refine TQ.blkN ?_
    refine TQ.thenC ?_
    refine TC.region ?_
    refine TL.pure (PV.move rfl) rfl (by decide) ?_
    refine TL.pure (PV.quoN (b := 2) rfl rfl (by decide) (by omega)) rfl (by decide) ?_
    refine TL.pure (PV.assign rfl) rfl (by decide) ?_
    refine TL.nil ?_
    refine TQ.thenN ?_
    refine TQ.backK (y.1 / 2, y.2 + y.1 % 2) (And.intro rfl (And.intro (by show some _ = some _; congr 2) True.intro)) (by repeat (first | exact True.intro | refine And.intro rfl ?_)) (by repeat (first | exact List.Sublist.slnil | exact List.nil_sublist _ | exact List.Sublist.refl _ | refine List.Sublist.cons_cons _ ?_ | refine List.Sublist.cons _ ?_ | refine List.Sublist.trans ?_ (List.sublist_append_right _ _))) ⟨by simp only; omega, by simp only; omega⟩ (by simp only; omega)
  · skip
    refine TC.exit ?_
    refine TQ.thenE ?_
    refine TQ.thenE ?_
    refine TQ.blkS ?_
    refine TQ.thenC ?_
    refine TC.seq ?_
    have hz : y.1 = 0 := by omega
    have hy2 := hy.2
    rw [hz, pc_zero] at hy2
    refine TC.region ?_
    refine TL.pure (PV.move rfl) rfl (by decide) ?_
    refine TL.pure (PV.assign rfl) rfl (by decide) ?_
    refine TL.nil ?_
    refine TQ.thenC ?_
    refine TC.ret ?_
    refine TQ.retE1 rfl rfl ?_
    exact ⟨(), by rw [← hy2]; rfl, trivial, List.nil_sublist _⟩

set_option maxRecDepth 100000 in
theorem backward_ok (w0 : World) (p : Option Addr) (n c : Nat) :
    Calls Tryd.prog 81 #[.slice p n c] w0 (Post (X := Nat) (fun b => .func (.func 99) #[] #[.pointer (some ⟨b, 0, none⟩)]) (fun _ => True) (fun b => [(b, Obj.cells #[.slice p n c] 24 (0, 0))]) w0) := by
  refine calls Tryd.func81 rfl (n := 4) rfl (by simp) ?_
  refine TC.seq ?_
  refine TC.region ?_
  refine TL.box rfl rfl (by decide) (fun b0 hb0 => ?_)
  refine TL.pure (PV.assign rfl) rfl (by decide) ?_
  refine TL.nil ?_
  refine TQ.thenC ?_
  refine TC.seq ?_
  refine TC.region ?_
  refine TL.pure (PV.makeFunc rfl) rfl (by decide) ?_
  refine TL.pure (PV.assign rfl) rfl (by decide) ?_
  refine TL.nil ?_
  refine TQ.thenC ?_
  refine TC.ret ?_
  refine TQ.retE1 rfl rfl ?_
  exact ⟨b0, rfl, trivial, List.Sublist.refl _⟩

set_option maxRecDepth 100000 in
set_option maxHeartbeats 1000000 in
theorem backward_it (w0 : World) (l : List Nat) (p : Option Addr) (c : Nat) (G9 : Heap) (hsm : ofN l ≠ [] → ∃ q, p = some q) (hi : ∀ (w0 w : World) (G : Heap), New w0 w G → (∀ y ∈ G9, y ∈ G) → IntsAt w p (ofN l)) (b : Nat) (hl : l.length ≤ 36) :
    Iter Tryd.prog 99 [.pointer (some ⟨b, 0, none⟩)] (fun k : Nat => [.int .i64 k, .int .i64 (l.getD k 0 : Nat)]) w0 ((b, Obj.cells #[.slice p (ofN l).length c] 24 (0, 0)) :: G9) (fun xs => xs = (List.range l.length).reverse) (fun xs => xs <+: (List.range l.length).reverse) := by
  intro X Y w lY F H Fx Hx s0 hk hY h0 hN
  have hlen : (ofN l).length = l.length := List.length_map _
  refine callsIG Tryd.func99 rfl (n := 19) rfl (by simp) hN ?_
  refine TG.seq ?_
  refine TG.region (by repeat (first | with_reducible exact RB.lo | with_reducible exact QN.lo | with_reducible exact bodyM_lo | with_reducible exact bodyP_lo | with_reducible apply lo_then | with_reducible apply lo_blk)) (by kernel_rfl) ?_
  refine TL.pure (PV.load rfl Tb.one_24 (hk _ _ (List.Mem.head _)) rfl) rfl (by decide) ?_
  refine TL.pure (PV.len rfl Tb.sl_24) rfl (by decide) ?_
  refine TL.pure (PV.sub rfl rfl (by omega)) rfl (by decide) ?_
  refine TL.pure (PV.assign rfl) rfl (by decide) ?_
  refine TL.nil ?_
  refine TQ.thenG ?_
  refine TG.block ?_
  refine TG.loopK [0, 1] (X := Nat × X) (fun y => y.1 ≤ l.length ∧ F ((List.range l.length).reverse.take (l.length - y.1)) y.2) (fun y => [(3, .int .i64 ((y.1 : Nat) - 1 : Int))]) (fun y => H y.2) (fun y => y.1) (l.length, s0) ⟨Nat.le_refl _, by rw [Nat.sub_self]; exact h0⟩ (And.intro (by show some _ = some _; rw [hlen]) True.intro) (List.Sublist.refl _) ?_
  intro y hy
  refine TG.seq ?_
  refine TG.seq ?_
  refine TG.region (by repeat (first | with_reducible exact RB.lo | with_reducible exact QN.lo | with_reducible exact bodyM_lo | with_reducible exact bodyP_lo | with_reducible apply lo_then | with_reducible apply lo_blk)) (by kernel_rfl) ?_
  refine TL.pure (PV.move rfl) rfl (by decide) ?_
  refine TL.pure (PV.geq rfl rfl) rfl (by decide) ?_
  refine TL.nil ?_
  refine TQ.thenG ?_
  first | refine TG.condD rfl (fun hge => ?_) (fun hge => ?_) | refine TG.cond rfl (fun hge => ?_) (fun hge => ?_)
  · skip
    refine TG.skip ?_
    refine TQ.thenG ?_
    refine TG.seq ?_
    refine TG.block ?_
    refine TG.seq ?_
    obtain ⟨j, hj⟩ : ∃ j, y.1 = j + 1 := ⟨y.1 - 1, by omega⟩
    have hjl : j < l.length := by have := hy.1; omega
    obtain ⟨q, hq, hcell⟩ := RdI.at hsm hi (j := j) (by omega)
    have hval := ofN_at hjl
    have hrt := rev_take hjl
    have hij : ((y.1 : Nat) : Int) - 1 = ((j : Nat) : Int) := by omega
    refine TG.regionL ?_
    refine TGL.pre 6 (by repeat (first | with_reducible exact RB.lo | with_reducible exact QN.lo | with_reducible exact bodyM_lo | with_reducible exact bodyP_lo | with_reducible apply lo_then | with_reducible apply lo_blk)) (by kernel_rfl) ?_
    simp only [List.take_succ_cons, List.take_zero, List.drop_succ_cons, List.drop_zero]
    refine TL.pure (PV.move rfl) rfl (by decide) ?_
    refine TL.pure (PV.move rfl) rfl (by decide) ?_
    refine TL.pure (PV.load rfl Tb.one_24 (hk _ _ (List.Mem.head _)) rfl) rfl (by decide) ?_
    refine TL.pure (PV.move rfl) rfl (by decide) ?_
    refine TL.pure (PV.indexA (j := j) rfl hq rfl Tb.elm_24 (by omega) (by omega)) rfl (by decide) ?_
    refine TL.pure (PV.loadW rfl Tb.one_3 (fun w hw => (hcell _ _ _ hw (fun z hz => hk _ _ (List.Mem.tail _ hz))).trans (by rw [hval]))) rfl (by decide) ?_
    refine TL.nil ?_
    refine TQ.thenL ?_
    refine TGL.yield (F ((List.range l.length).reverse.take (l.length - j))) H (fun z => Fx ((List.range l.length).reverse.take (l.length - j)) z) Hx rfl rfl (fun w' hw' => ?_) rfl (by decide) (fun s1 hs1 => ?_) (fun z hz => ?_)
    · skip
      have h7 := hY ((List.range l.length).reverse.take (l.length - (j + 1))) j y.2 w' [] (by rw [← hrt]; exact List.take_prefix _ _) (hj ▸ hy.2) (by rw [List.append_nil]; exact hw')
      rw [← hrt] at h7
      simp only [hij]
      simpa using h7
    · skip
      refine TGL.opsAll (by repeat (first | with_reducible exact RB.lo | with_reducible exact QN.lo | with_reducible exact bodyM_lo | with_reducible exact bodyP_lo | with_reducible apply lo_then | with_reducible apply lo_blk)) (by kernel_rfl) ?_
      refine TL.pure (PV.not rfl) rfl (by decide) ?_
      refine TL.nil ?_
      refine TQ.thenG ?_
      refine TG.condF rfl ?_
      refine TG.skip ?_
      refine TQ.gblkN ?_
      refine TQ.thenG ?_
      refine TG.region (by repeat (first | with_reducible exact RB.lo | with_reducible exact QN.lo | with_reducible exact bodyM_lo | with_reducible exact bodyP_lo | with_reducible apply lo_then | with_reducible apply lo_blk)) (by kernel_rfl) ?_
      refine TL.pure (PV.move rfl) rfl (by decide) ?_
      refine TL.pure (PV.sub rfl rfl (by omega)) rfl (by decide) ?_
      refine TL.pure (PV.assign rfl) rfl (by decide) ?_
      refine TL.nil ?_
      refine TQ.backG (j, s1) (And.intro (by show some _ = some _; simp only [hij]) True.intro) (by repeat (first | exact True.intro | refine And.intro rfl ?_)) (List.Sublist.refl _) ⟨by simp only; omega, hs1⟩ (by simp only; omega)
    · skip
      refine TGL.opsAll (by repeat (first | with_reducible exact RB.lo | with_reducible exact QN.lo | with_reducible exact bodyM_lo | with_reducible exact bodyP_lo | with_reducible apply lo_then | with_reducible apply lo_blk)) (by kernel_rfl) ?_
      refine TL.pure (PV.not rfl) rfl (by decide) ?_
      refine TL.nil ?_
      refine TQ.thenG ?_
      refine TG.condT rfl ?_
      refine TG.ret ?_
      refine TQ.gblkR ?_
      refine TQ.gthenR ?_
      refine TQ.gthenR ?_
      refine TQ.gblkR ?_
      refine TQ.retI rfl (fun w9 v9 hw9 => ⟨⟨_, rfl⟩, .inr ⟨_, z, List.take_prefix _ _, hz, hw9⟩⟩)
  · skip
    refine TG.exit ?_
    refine TQ.gthenE ?_
    refine TQ.gthenE ?_
    refine TQ.gblkS ?_
    have hz9 : y.1 = 0 := by omega
    refine TQ.retIN rfl (fun w9 v9 hw9 => ⟨⟨_, rfl⟩, .inl ⟨(List.range l.length).reverse.take (l.length - y.1), y.2, by rw [hz9]; exact List.take_of_length_le (by simp), hy.2, hw9⟩⟩)

set_option maxRecDepth 100000 in
set_option maxHeartbeats 1000000 in
theorem Thin_ok (w0 : World) (ht : TzAt w0) (r c k w9 : Int) :
    Calls Tryd.prog 42 #[.agg #[.int .i64 r, .int .i64 c, .int .i64 k], .int .i64 w9] w0 (Post (X := Unit) (fun _ => .tuple #[.int .i64 (zI r c k w9 (Mo.thin (Mo.mD r c k) w9.toNat : Nat)), .int .i64 (gI r c k w9)]) (fun _ => True) (fun _ => []) w0) := by
  refine callsRF Tryd.func42 rfl (n := 39) rfl (by simp) ?_
  refine TC.seq ?_
  refine TC.region ?_
  refine TL.box rfl rfl (by decide) (fun b0 hb0 => ?_)
  refine TL.pure (PV.assign rfl) rfl (by decide) ?_
  refine TL.pure (PV.assign rfl) rfl (by decide) ?_
  refine TL.nil ?_
  refine TQ.thenC ?_
  refine TC.seq ?_
  refine TC.seq ?_
  refine TC.region ?_
  refine TL.pure (PV.loadBox rfl Tb.agg_23 (by repeat (first | exact List.Mem.head _ | refine List.Mem.tail _ ?_ | refine List.mem_append_right _ ?_)) rfl) rfl (by decide) ?_
  refine TL.pure (PV.move rfl) rfl (by decide) ?_
  refine TL.call rfl Tb.gofn_64 (fun a w hs => validateSet_ok w _ _ _ _) rfl (by decide) (fun _ _ => ?_)
  refine TL.pure (PV.assign rfl) rfl (by decide) ?_
  refine TL.nil ?_
  refine TQ.thenC ?_
  refine TC.seq ?_
  refine TC.region ?_
  refine TL.pure (PV.move rfl) rfl (by decide) ?_
  refine TL.pure (PV.neq rfl rfl) rfl (by decide) ?_
  refine TL.nil ?_
  refine TQ.thenC ?_
  first | refine TC.condD rfl (fun hv => ?_) (fun hv => ?_) | refine TC.cond rfl (fun hv => ?_) (fun hv => ?_)
  · skip
    refine TC.seq ?_
    refine TC.region ?_
    refine TL.pure (PV.move rfl) rfl (by decide) ?_
    refine TL.pure (PV.assign rfl) rfl (by decide) ?_
    refine TL.pure (PV.assign rfl) rfl (by decide) ?_
    refine TL.nil ?_
    refine TQ.thenC ?_
    refine TC.ret ?_
    refine TQ.thenR ?_
    refine TQ.retM0 ?_
    refine TQ.retE2 rfl rfl rfl ?_
    exact ⟨(), by simp only [zI_no hv, zB_no hv], trivial, List.nil_sublist _⟩
  · skip
    obtain ⟨m, S, ho, hS, rfl, rfl, rfl, rfl⟩ := gI_is (show gI r c k w9 = 0 by omega)
    have hN := ho.N36
    have hS63 := set63 ho hS
    have hzv := zI_ok ho hS
    have hbv := zB_ok ho hS
    have hgv := gI_ok ho hS
    have hen63 := set63 ho (Mo.en_lt hS)
    have hq36 := sq_len36 ho hS
    refine TC.skip ?_
    refine TQ.thenC ?_
    refine TC.seq ?_
    refine TC.region ?_
    refine TL.pure (PV.loadBox rfl Tb.agg_23 (by repeat (first | exact List.Mem.head _ | refine List.Mem.tail _ ?_ | refine List.mem_append_right _ ?_)) rfl) rfl (by decide) ?_
    refine TL.pure (PV.move rfl) rfl (by decide) ?_
    refine TL.call rfl Tb.gofn_70 (fun a w hs => endOf_ok w (ht.new hs.new) m ho S hS) rfl (by decide) (fun _ _ => ?_)
    refine TL.pure (PV.move rfl) rfl (by decide) ?_
    refine TL.alloc Tb.zero_3 rfl (by decide) (fun b1 hb1 => ?_)
    refine TL.alloc Tb.zero_3 rfl (by decide) (fun b2 hb2 => ?_)
    refine TL.store rfl rfl Tb.cells_3 rfl (by repeat (first | exact Upd.head _ | apply Upd.tail | apply Upd.appR)) (by first | decide | (simp; done) | (simp; omega) | omega) rfl rfl ?_
    refine TL.store rfl rfl Tb.cells_3 rfl (by repeat (first | exact Upd.head _ | apply Upd.tail | apply Upd.appR)) (by first | decide | (simp; done) | (simp; omega) | omega) rfl rfl ?_
    refine TL.nil ?_
    refine TQ.thenC ?_
    refine TC.seq ?_
    refine TC.seq ?_
    refine TC.region ?_
    refine TL.pure (PV.move rfl) rfl (by decide) ?_
    refine TL.call rfl Tb.gofn_58 (fun a w hs => squares_ok w S) rfl (by decide) (fun bx hbx => ?_)
    refine TL.callW (fun x : Value × Heap => x.1) (fun x => RdI (ofN (Mo.sqL S)) x) (fun x => x.2 ++ ((bx, Obj.cells #[.int .i64 (S : Nat)] 3 (0, 0)) :: [(b2, Obj.cells #[.int .i64 (S : Nat)] 3 (0, 0)), (b1, Obj.cells #[.int .i64 (Mo.en m S : Nat)] 3 (0, 0)), (b0, Obj.cells #[.int .i64 m.R, .int .i64 m.C, .int .i64 m.K] 23 (0, 0))])) rfl Tb.gofn_57 (fun a w hs => listOfS_ok (ht) bx S hS63 hq36 hs.new) rfl (by decide) (fun z9 hz9 => ?_)
    obtain ⟨v9, G9⟩ := z9
    obtain ⟨p9, c9, rfl, hsm9, hi9⟩ := hz9
    refine TL.call rfl Tb.gofn_81 (fun a w hs => backward_ok w p9 _ c9) rfl (by decide) (fun y9 hy9 => ?_)
    refine TL.nil ?_
    refine TQ.thenC ?_
    refine TC.block ?_
    refine TC.rangeFunc (encs := fun k : Nat => [.int .i64 k, .int .i64 ((Mo.sqL S).getD k 0 : Nat)]) (kept := (y9, Obj.cells #[.slice p9 (ofN (Mo.sqL S)).length c9] 24 (0, 0)) :: G9) (α := Nat) (X := Nat) (Y := Unit) (Z := Nat) (ps := [26, 27]) (fun pre s => s = tnF m (Mo.en m S) S (pre.map fun k => (Mo.sqL S).getD k 0)) (fun s => (y9, Obj.cells #[.slice p9 (ofN (Mo.sqL S)).length c9] 24 (0, 0)) :: (G9 ++ [(bx, Obj.cells #[.int .i64 (S : Nat)] 3 (0, 0)), (b2, Obj.cells #[.int .i64 (s : Nat)] 3 (0, 0)), (b1, Obj.cells #[.int .i64 (Mo.en m S : Nat)] 3 (0, 0)), (b0, Obj.cells #[.int .i64 m.R, .int .i64 m.C, .int .i64 m.K] 23 (0, 0))])) (fun pre y => False) (fun y => []) S (fun x s z => z = s) (fun x z => [(10, .int .i64 ((Mo.sqL S).getD x 0 : Nat)), (2, .pointer (some ⟨b0, 0, none⟩)), (7, .pointer (some ⟨b1, 0, none⟩)), (8, .pointer (some ⟨b2, 0, none⟩))]) (fun x z => (y9, Obj.cells #[.slice p9 (ofN (Mo.sqL S)).length c9] 24 (0, 0)) :: (G9 ++ [(bx, Obj.cells #[.int .i64 (S : Nat)] 3 (0, 0)), (b2, Obj.cells #[.int .i64 (z : Nat)] 3 (0, 0)), (b1, Obj.cells #[.int .i64 (Mo.en m S : Nat)] 3 (0, 0)), (b0, Obj.cells #[.int .i64 m.R, .int .i64 m.C, .int .i64 m.K] 23 (0, 0))])) rfl Tb.gofn_99 (backward_it w0 (Mo.sqL S) p9 c9 G9 hsm9 hi9 y9 hq36) (fun _ => rfl) (by decide) rfl (List.Sublist.refl _) (fun s q hq => by rcases List.mem_cons.1 hq with h1 | h1; (rw [h1]; exact List.Mem.head _); exact List.Mem.tail _ (List.mem_append_left _ h1)) ?_ ?_ ?_ ?_
    · skip
      intro lR TR pre x s hp_ hF_
      refine TG.region (by repeat (first | with_reducible exact RB.lo | with_reducible exact QN.lo | with_reducible exact bodyM_lo | with_reducible exact bodyP_lo | with_reducible apply lo_then | with_reducible apply lo_blk)) (by kernel_rfl) ?_
      refine TL.pure (PV.assign rfl) rfl (by decide) ?_
      refine TL.nil ?_
      refine TQ.gmid s rfl (by repeat (first | exact True.intro | refine And.intro rfl ?_)) (List.Sublist.refl _)
    · skip
      intro lR TR pre x s z hp_ hF_ hz_
      obtain rfl : s = z := hz_.symm
      have hmem := pre_mem hp_
      have hxl : x < (Mo.sqL S).length := by simpa using hmem
      have hqm : (Mo.sqL S).getD x 0 ∈ Mo.sqL S := by simp [List.getD, hxl]
      have hqN := sq_lt ho hS hqm
      have hsS : Mo.Sub s S := by rw [hF_]; exact tnF_sub m _ _ S
      have hsN := hsS.lt hS
      have hs63 := set63 ho hsN
      have hdN := Mo.dif_lt (b := 2 ^ ((Mo.sqL S).getD x 0)) hsN
      have hsn : tnF m (Mo.en m S) S ((pre ++ [x]).map fun k => (Mo.sqL S).getD k 0) = tnS m (Mo.en m S) s ((Mo.sqL S).getD x 0) := by rw [List.map_append, List.map_cons, List.map_nil, tnF_snoc, ← hF_]
      refine TG.perm (G' := (y9, Obj.cells #[.slice p9 (ofN (Mo.sqL S)).length c9] 24 (0, 0)) :: (G9 ++ ((bx, Obj.cells #[.int .i64 (S : Nat)] 3 (0, 0)) :: (b2, Obj.cells #[.int .i64 (s : Nat)] 3 (0, 0)) :: (b1, Obj.cells #[.int .i64 (Mo.en m S : Nat)] 3 (0, 0)) :: (b0, Obj.cells #[.int .i64 m.R, .int .i64 m.C, .int .i64 m.K] 23 (0, 0)) :: TR))) (List.Perm.of_eq (by simp only [List.append_assoc, List.cons_append, List.nil_append])) ?_
      refine TG.block ?_
      refine TG.seq ?_
      refine TG.mix (by repeat (first | with_reducible exact RB.lo | with_reducible exact QN.lo | with_reducible exact bodyM_lo | with_reducible exact bodyP_lo | with_reducible apply lo_then | with_reducible apply lo_blk)) (by kernel_rfl) [true, true, false, false, false] [(bx, Obj.cells #[.int .i64 (S : Nat)] 3 (0, 0)), (b2, Obj.cells #[.int .i64 (s : Nat)] 3 (0, 0)), (b1, Obj.cells #[.int .i64 (Mo.en m S : Nat)] 3 (0, 0)), (b0, Obj.cells #[.int .i64 m.R, .int .i64 m.C, .int .i64 m.K] 23 (0, 0))] 3 Tb.mixed rfl (by kernel_rfl) (by kernel_rfl) (by kernel_rfl) (by kernel_rfl) (by repeat (first | exact List.Sublist.slnil | exact List.nil_sublist _ | exact List.Sublist.refl _ | refine List.Sublist.cons_cons _ ?_ | refine List.Sublist.cons _ ?_ | refine List.Sublist.trans ?_ (List.sublist_append_right _ _))) ?_
      refine TB.op (SOK.pure (PV.load rfl Tb.one_3 (by repeat (first | exact List.Mem.head _ | refine List.Mem.tail _ ?_ | refine List.mem_append_right _ ?_)) rfl) rfl) (by decide) ?_
      refine TB.op (SOK.pure (PV.move rfl) rfl) (by decide) ?_
      refine TB.no ?_
      refine TB.no ?_
      refine TB.no ?_
      refine TB.fin ?_
      refine TX.step [2] (by kernel_rfl) (by decide) ⟨⟨_, rfl, ?_⟩, trivial⟩
      refine TL.call rfl Tb.gofn_79 (fun a w hs => only_ok w _ (by omega)) rfl (by decide) (fun _ _ => ?_)
      refine TL.nil ?_
      refine TX.next (.inl (by repeat (first | exact List.Sublist.slnil | exact List.nil_sublist _ | exact List.Sublist.refl _ | refine List.Sublist.cons_cons _ ?_ | refine List.Sublist.cons _ ?_ | refine List.Sublist.trans ?_ (List.sublist_append_right _ _)))) ?_
      refine TX.step [3] (by kernel_rfl) (by decide) ⟨⟨_, rfl, ?_⟩, trivial⟩
      refine TL.pure (PV.andNotK rfl rfl (i64_andNot_nat hs63 (p63 (by omega)))) rfl (by decide) ?_
      refine TL.nil ?_
      refine TX.next (.inl (by repeat (first | exact List.Sublist.slnil | exact List.nil_sublist _ | exact List.Sublist.refl _ | refine List.Sublist.cons_cons _ ?_ | refine List.Sublist.cons _ ?_ | refine List.Sublist.trans ?_ (List.sublist_append_right _ _)))) ?_
      refine TX.step [4] (by kernel_rfl) (by decide) ⟨⟨_, rfl, ?_⟩, trivial⟩
      refine TL.pure (PV.assign rfl) rfl (by decide) ?_
      refine TL.nil ?_
      refine TX.next (.inr (by kernel_rfl)) ?_
      refine TX.done (by kernel_rfl) ?_
      refine TQ.thenG ?_
      refine TG.seq ?_
      refine TG.mix (by repeat (first | with_reducible exact RB.lo | with_reducible exact QN.lo | with_reducible exact bodyM_lo | with_reducible exact bodyP_lo | with_reducible apply lo_then | with_reducible apply lo_blk)) (by kernel_rfl) [true, true, false, true, false] [(bx, Obj.cells #[.int .i64 (S : Nat)] 3 (0, 0)), (b2, Obj.cells #[.int .i64 (s : Nat)] 3 (0, 0)), (b1, Obj.cells #[.int .i64 (Mo.en m S : Nat)] 3 (0, 0)), (b0, Obj.cells #[.int .i64 m.R, .int .i64 m.C, .int .i64 m.K] 23 (0, 0))] 2 Tb.mixed rfl (by kernel_rfl) (by kernel_rfl) (by kernel_rfl) (by kernel_rfl) (by repeat (first | exact List.Sublist.slnil | exact List.nil_sublist _ | exact List.Sublist.refl _ | refine List.Sublist.cons_cons _ ?_ | refine List.Sublist.cons _ ?_ | refine List.Sublist.trans ?_ (List.sublist_append_right _ _))) ?_
      refine TB.op (SOK.pure (PV.loadBox rfl Tb.agg_23 (by repeat (first | exact List.Mem.head _ | refine List.Mem.tail _ ?_ | refine List.mem_append_right _ ?_)) rfl) rfl) (by decide) ?_
      refine TB.op (SOK.pure (PV.move rfl) rfl) (by decide) ?_
      refine TB.no ?_
      refine TB.op (SOK.pure (PV.load rfl Tb.one_3 (by repeat (first | exact List.Mem.head _ | refine List.Mem.tail _ ?_ | refine List.mem_append_right _ ?_)) rfl) rfl) (by decide) ?_
      refine TB.no ?_
      refine TB.fin ?_
      refine TX.step [2] (by kernel_rfl) (by decide) ⟨⟨_, rfl, ?_⟩, trivial⟩
      refine TL.call rfl Tb.gofn_70 (fun a w hs => endOf_ok w (ht.new hs.new) m ho _ hdN) rfl (by decide) (fun _ _ => ?_)
      refine TL.nil ?_
      refine TX.next (.inl (by repeat (first | exact List.Sublist.slnil | exact List.nil_sublist _ | exact List.Sublist.refl _ | refine List.Sublist.cons_cons _ ?_ | refine List.Sublist.cons _ ?_ | refine List.Sublist.trans ?_ (List.sublist_append_right _ _)))) ?_
      refine TX.step [4] (by kernel_rfl) (by decide) ⟨⟨_, rfl, ?_⟩, trivial⟩
      refine TL.pure (PV.eql rfl rfl) rfl (by decide) ?_
      refine TL.nil ?_
      refine TX.next (.inl (by repeat (first | exact List.Sublist.slnil | exact List.nil_sublist _ | exact List.Sublist.refl _ | refine List.Sublist.cons_cons _ ?_ | refine List.Sublist.cons _ ?_ | refine List.Sublist.trans ?_ (List.sublist_append_right _ _)))) ?_
      refine TX.done (by kernel_rfl) ?_
      refine TQ.thenG ?_
      first | refine TG.condD rfl (fun heq => ?_) (fun heq => ?_) | refine TG.cond rfl (fun heq => ?_) (fun heq => ?_)
      · skip
        refine TG.region (by repeat (first | with_reducible exact RB.lo | with_reducible exact QN.lo | with_reducible exact bodyM_lo | with_reducible exact bodyP_lo | with_reducible apply lo_then | with_reducible apply lo_blk)) (by kernel_rfl) ?_
        refine TL.pure (PV.move rfl) rfl (by decide) ?_
        refine TL.store rfl rfl Tb.cells_3 rfl (by repeat (first | exact Upd.head _ | apply Upd.tail | apply Upd.appR)) (by first | decide | (simp; done) | (simp; omega) | omega) rfl rfl ?_
        refine TL.nil ?_
        refine TQ.gblkN ?_
        first
          | (refine TQ.goOn (Mo.dif s (2 ^ ((Mo.sqL S).getD x 0))) ?_ (by simp only [List.append_assoc, List.cons_append, List.nil_append]; exact List.Sublist.refl _)
             rw [hsn]; exact (if_pos (by omega)).symm; done)
          | (refine TQ.goOn s ?_ (by simp only [List.append_assoc, List.cons_append, List.nil_append]; exact List.Sublist.refl _)
             rw [hsn]; exact (if_neg (by omega)).symm; done)
      · skip
        refine TG.skip ?_
        refine TQ.gblkN ?_
        first
          | (refine TQ.goOn (Mo.dif s (2 ^ ((Mo.sqL S).getD x 0))) ?_ (by simp only [List.append_assoc, List.cons_append, List.nil_append]; exact List.Sublist.refl _)
             rw [hsn]; exact (if_pos (by omega)).symm; done)
          | (refine TQ.goOn s ?_ (by simp only [List.append_assoc, List.cons_append, List.nil_append]; exact List.Sublist.refl _)
             rw [hsn]; exact (if_neg (by omega)).symm; done)
    · skip
      intro dB lB oB xs_ s hD_ hF_
      have hs9 : s = Mo.thin m S := by rw [hF_, hD_, rev_map]; exact tnF_all ho hS
      refine TQ.perm (G' := (y9, Obj.cells #[.slice p9 (ofN (Mo.sqL S)).length c9] 24 (0, 0)) :: (G9 ++ ((bx, Obj.cells #[.int .i64 (S : Nat)] 3 (0, 0)) :: (b2, Obj.cells #[.int .i64 (s : Nat)] 3 (0, 0)) :: (b1, Obj.cells #[.int .i64 (Mo.en m S : Nat)] 3 (0, 0)) :: (b0, Obj.cells #[.int .i64 m.R, .int .i64 m.C, .int .i64 m.K] 23 (0, 0)) :: [(lB, oB), (dB, .deferred (some []))]))) (List.Perm.of_eq (by simp only [List.append_assoc, List.cons_append, List.nil_append])) ?_
      refine TQ.gblkN ?_
      refine TQ.thenD ?_
      refine TG.seq ?_
      refine TG.region (by repeat (first | with_reducible exact RB.lo | with_reducible exact QN.lo | with_reducible exact bodyM_lo | with_reducible exact bodyP_lo | with_reducible apply lo_then | with_reducible apply lo_blk)) (by kernel_rfl) ?_
      refine TL.pure (PV.load rfl Tb.one_3 (by repeat (first | exact List.Mem.head _ | refine List.Mem.tail _ ?_ | refine List.mem_append_right _ ?_)) rfl) rfl (by decide) ?_
      refine TL.pure (PV.assign rfl) rfl (by decide) ?_
      refine TL.pure (PV.assign rfl) rfl (by decide) ?_
      refine TL.nil ?_
      refine TQ.thenG ?_
      refine TG.ret ?_
      refine TQ.retM (by repeat (first | exact Take.head _ | apply Take.tail | apply Take.appR)) ?_
      refine TQ.retE2 rfl rfl rfl ?_
      exact ⟨(), by simp only [hzv, hgv]; rw [hs9]; rfl, trivial, List.nil_sublist _⟩
    · skip
      intro dB lB oB xs_ y hP_ hF_
      exact hF_.elim

end Go.Proofs.YtaeobkgogipceaaDoor
