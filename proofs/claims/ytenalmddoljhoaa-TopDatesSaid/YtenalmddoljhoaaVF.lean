/- A round that proves a clash: contract. -/
import Derived.Test.YtenalmddoljhoaaVE
import Derived.Test.YtenalmddoljhoaaLay2
set_option linter.unusedVariables false
set_option linter.unusedSimpArgs false
namespace Go.Proofs.Ytenalmddoljhoaa
open Go.Sx Go.RowKit

section
open Go.Lib Go.Sort Go.Shelf
theorem put_frontI {l l' : List Int} {sp : List Value} (hl : l'.length = l.length) : putCells (Value.int .i64) 0 l'.toArray (ival l ++ sp).toArray = (ival l' ++ sp).toArray := by
  apply Array.ext_getElem?
  intro k
  simp only [putCells, Array.getElem?_mapIdx, List.getElem?_toArray, List.size_toArray, Nat.zero_le, true_and, Nat.zero_add, Nat.sub_zero]
  by_cases hk : k < l.length
  · rw [List.getElem?_append_left (by simp; omega), List.getElem?_append_left (by simp; omega), List.getElem?_eq_getElem (by simp; omega), Option.map_some, if_pos (by omega), List.getElem?_eq_getElem (by simp; omega)]
    simp [hl, hk]
  · rw [List.getElem?_append_right (by simp; omega), List.getElem?_append_right (by simp; omega)]
    simp only [List.length_map, hl]
    cases sp[k - l.length]? with
    | none => rfl
    | some v => rw [Option.map_some, if_neg (by omega)]
theorem rev_ok {w0 w : World} {b cap K : Nat} {xs : List Int} {sp : List Value} {R : Heap} (hn : New w0 w ((b, .cells (ival xs ++ sp).toArray 3 (0, 0)) :: R)) (hK : xs.length = K) (hl : K ≤ 100000) :
    Calls Try.prog 68 #[.slice (some ⟨b, 0, none⟩) K cap] w fun e w' => ∃ _ : Unit, e = .returned (.tuple #[]) ∧ True ∧ New w0 w' ((b, .cells (ival xs.reverse ++ sp).toArray 3 (0, 0)) :: R) := by
  subst hK
  have hb := hn.here _ (List.Mem.head _)
  simp only at hb
  have hH : Holds (Value.int .i64) w b 0 xs.toArray := by
    intro j hj
    have hj : j < xs.length := by simpa using hj
    refine ⟨?_, by simp [World.frozen?, hb]⟩
    simp only [World.cell?, hb, Nat.zero_add]
    rw [List.getElem?_toArray, List.getElem?_append_left (by simp; omega)]
    simp [hj]
  have h := AnyG.slices_Reverse_int Try.revI b 0 cap xs w hH (by omega)
  change Calls Try.prog 68 _ _ _ at h
  refine h.mono ?_
  rintro e w' ⟨rfl, m, rfl⟩
  refine ⟨(), rfl, trivial, ?_⟩
  have hm : New w0 (Go.Sort.ahead w m) ((b, .cells (ival xs ++ sp).toArray 3 (0, 0)) :: R) := ⟨⟨hn.below.os, hn.below.tape, hn.below.output, hn.below.size, hn.below.block⟩, hn.nodup, hn.ge, hn.here, Nat.le_trans hn.drawn (Nat.le_add_right _ _)⟩
  refine hm.turn (.head _) ?_ ?_ rfl rfl rfl (by simp [putRow, mapBlock]) rfl
  · show (w.heap.modify b _)[b]? = _
    rw [Array.getElem?_modify, if_pos rfl, hb, Option.map_some]
    simp only [onCells, put_frontI (l := xs) (l' := xs.reverse) (by simp)]
  · intro k hk
    show (w.heap.modify b _)[k]? = w.heap[k]?
    rw [Array.getElem?_modify, if_neg (fun e => hk e.symm)]
end
theorem by_step {rs : List Bd} {s : LSt} {k : Nat} (h : ∀ p, 0 ≤ s.by_.getD p 0) : ∀ p, 0 ≤ (lstep rs s k).by_.getD p 0 := by
  intro p
  unfold lstep
  split
  · simp only [getD_set]
    split
    · omega
    · exact h p
  · exact h p
theorem by_pass {rs : List Bd} {s : LSt} (h : ∀ p, 0 ≤ s.by_.getD p 0) : ∀ k p, 0 ≤ (lpass rs s k).by_.getD p 0
  | 0, p => h p
  | k + 1, p => by_step (by_pass h k) p
theorem by_low (N : Nat) (rs : List Bd) : ∀ i p, 0 ≤ (lowN N rs i).by_.getD p 0
  | 0, p => by
    show 0 ≤ (List.replicate N (0 : Int)).getD p 0
    by_cases hb : p < N <;> simp [List.getD, List.getElem?_replicate, hb]
  | i + 1, p => by_pass (by_low N rs i) rs.length p
theorem bk_int (N : Nat) (rs : List Bd) (i p : Nat) : (lowN N rs i).by_.getD p 0 = ((bk (lowN N rs i) p : Nat) : Int) := by
  have := by_low N rs i p
  unfold bk
  omega
def wayL (rs : List Bd) (s : LSt) (y t : Nat) : List Int := (List.range t).map fun i => ((bk s (itr rs s y i) : Nat) : Int)
theorem wayL_len (rs : List Bd) (s : LSt) (y t : Nat) : (wayL rs s y t).length = t := by simp [wayL]
theorem wayL_succ (rs : List Bd) (s : LSt) (y t : Nat) : wayL rs s y (t + 1) = wayL rs s y t ++ [((bk s (itr rs s y t) : Nat) : Int)] := by simp [wayL, List.range_succ]
theorem wayL_at {rs : List Bd} {s : LSt} {y t i : Nat} (hi : i < t) : (wayL rs s y t).getD i 0 = ((bk s (itr rs s y i) : Nat) : Int) := by simp [wayL, List.getD, hi]
theorem rev_at {rs : List Bd} {s : LSt} {y t i : Nat} (hi : i < t) : kat (wayL rs s y t).reverse i = bk s (itr rs s y (t - 1 - i)) := by
  unfold kat
  have e : (wayL rs s y t).reverse.getD i 0 = (wayL rs s y t).getD (t - 1 - i) 0 := by
    have hl := wayL_len rs s y t
    rw [List.getD, List.getElem?_reverse (l := wayL rs s y t) (i := i) (by rw [hl]; exact hi), hl]
    rfl
  rw [e, wayL_at (i := t - 1 - i) (t := t) (by omega)]
  rfl
theorem sum_rev {rs : List Bd} {s : LSt} {y t : Nat} : ∀ i, i ≤ t → sumK rs (wayL rs s y t).reverse i + sumR rs s y (t - i) = sumR rs s y t
  | 0, _ => by simp [sumK]
  | i + 1, hi => by
    have ih := sum_rev (rs := rs) (s := s) (y := y) (t := t) i (by omega)
    have e : t - i = (t - (i + 1)) + 1 := by omega
    have e2 : sumR rs s y (t - i) = sumR rs s y (t - (i + 1)) + eM rs (bk s (itr rs s y (t - (i + 1)))) := by rw [e]; rfl
    rw [e2] at ih
    simp only [sumK]
    rw [rev_at (by omega), show t - 1 - i = t - (i + 1) by omega]
    omega
/-- The round that is found proves the clash. -/
structure CR (n : Int) (rs : List Bd) (ls : List Int) : Prop where
  len : 1 ≤ ls.length ∧ ls.length ≤ 8
  ks : ∀ i, i < ls.length → 0 ≤ ls.getD i 0 ∧ ls.getD i 0 < (rs.length : Int)
  ring : isRoundB rs ls = true
  neg : sumL rs ls < 0
theorem Rnd.cr {rs : List Bd} {N : Nat} {s : LSt} {y q : Nat} (hv : Valid (N : Int) rs) (r : Rnd rs N s y q) : CR (N : Int) rs (wayL rs s y q).reverse := by
  have hp := hv.pts
  have h1 := r.q1
  have h2 := r.qN
  have hl : (wayL rs s y q).reverse.length = q := by rw [List.length_reverse, wayL_len]
  refine ⟨by omega, fun i hi => ?_, ?_, ?_⟩
  · rw [hl] at hi
    have e : (wayL rs s y q).reverse.getD i 0 = (wayL rs s y q).getD (q - 1 - i) 0 := by
      have hl := wayL_len rs s y q
      rw [List.getD, List.getElem?_reverse (by omega), hl]
      rfl
    rw [e, wayL_at (by omega)]
    have := (r.ok (q - 1 - i)).1
    omega
  · rw [round_yes (fun i hi => ?_), decide_eq_true (by rw [hl]; omega)]
    rw [hl] at hi
    unfold ring1
    rw [hl]
    have hm : (i + 1) % q < q := Nat.mod_lt _ (by omega)
    rw [rev_at hi, rev_at hm]
    have o1 := r.ok (q - 1 - i)
    have o2 := r.ok (q - 1 - (i + 1) % q)
    have v1 := hv.at o1.1
    have v2 := hv.at o2.1
    have e9 : itr rs s y (q - 1 - i) = nxt rs s (itr rs s y (q - 1 - (i + 1) % q)) := by
      by_cases hi2 : i + 1 = q
      · rw [hi2, Nat.mod_self, show q - 1 - i = 0 by omega]
        have hb := r.back
        rw [show q = q - 1 + 1 by omega] at hb
        exact hb.symm
      · rw [Nat.mod_eq_of_lt (by omega), show q - 1 - i = (q - 1 - (i + 1)) + 1 by omega]
        rfl
    have e1 := o1.2.1
    have e2 : eA rs (bk s (itr rs s y (q - 1 - (i + 1) % q))) = itr rs s y (q - 1 - i) := e9.symm
    refine decide_eq_true ?_
    have e3 : (rs.getD (bk s (itr rs s y (q - 1 - i))) default).b.toNat = (rs.getD (bk s (itr rs s y (q - 1 - (i + 1) % q))) default).a.toNat := e1.trans e2.symm
    omega
  · have h3 := sum_rev (rs := rs) (s := s) (y := y) (t := q) q (Nat.le_refl _)
    have h4 := r.neg
    rw [Nat.sub_self] at h3
    unfold sumL
    rw [hl]
    simp only [sumR] at h3
    omega
theorem CR.clash {n : Int} {rs : List Bd} {ls : List Int} (hv : Valid n rs) (h : CR n rs ls) : clashI n rs ls = 0 := by
  have h1 := h.len
  unfold clashI
  rw [if_neg (show ¬ validateI n rs ≠ 0 from not_not_intro hv), if_neg (by omega), if_pos (all_of (fun i hi => decide_eq_true (h.ks i hi))), if_pos ⟨h.ring, h.neg⟩]


section
variable {P : Program} {n : Nat} {w0 : World} {E : Env} {G : Heap} {d : Option Nat} {ty : TypeId} {pos : String} {aft : Array Edge} {g : Option (Nat × Bool)}
theorem PV.indexJ {x y : Operand} {b len cap e j : Nat} {i : Int} {t : Nat} (hx : evo E x = some (.slice (some ⟨b, 0, none⟩) len cap)) (hy : evo E y = some (.int .i64 i))
    (ht : elemOf' P t = some (e, 1)) (hi : i = (j : Int)) (hj : j < len) : PV P n w0 E G ⟨d, .indexAddr t x y, ty, pos, aft, g⟩ (.pointer (some ⟨b, j, none⟩)) := by
  have h := PV.index (P := P) (n := n) (w0 := w0) (G := G) (d := d) (ty := ty) (pos := pos) (aft := aft) (g := g) hx hy ht hi hj
  rw [Nat.zero_add, Nat.mul_one] at h
  exact h
theorem PV.loadIV {x : Operand} {b j : Nat} {t : Nat} {xs : List Int} {e : TypeId} {fr : Nat × Nat} {v : Int} (hx : evo E x = some (.pointer (some ⟨b, j, none⟩))) (ht : oneB P t = true)
    (hm : (b, Obj.cells (intsA xs) e fr) ∈ G) (hj : j < xs.length) (hv : xs.getD j 0 = v) :
    PV P n w0 E G ⟨d, .load t x, ty, pos, aft, g⟩ (.int .i64 v) := by
  subst hv
  exact PV.loadI hx ht hm hj
end

def clB (n : Int) (rs : List Bd) : Bool := decide (validateI n rs = 0 ∧ (lowN n.toNat rs n.toNat).last ≠ -1)
structure CO (n : Int) (rs : List Bd) (x : HD × List Int) : Prop where
  ok : goI x
  yes : clB n rs = true → CR n rs x.2
  no : clB n rs = false → x.2 = []
structure WI (rs : List Bd) (s : LSt) (y q : Nat) (v : Nat × HD × List Int) : Prop where
  one : 1 ≤ v.1
  le : v.1 ≤ q
  eq : v.2.2 = wayL rs s y v.1
  ok : goI v.2
theorem WI.len {rs : List Bd} {s : LSt} {y q : Nat} {v : Nat × HD × List Int} (h : WI rs s y q v) : v.2.2.length = v.1 := by rw [h.eq, wayL_len]
theorem WI.lt {rs : List Bd} {N : Nat} {s : LSt} {y q : Nat} {v : Nat × HD × List Int} (r : Rnd rs N s y q) (h : WI rs s y q v) (hne : itr rs s y v.1 ≠ y) : v.1 < q := by
  have := h.le
  by_cases e : v.1 = q
  · rw [e] at hne; exact absurd r.back hne
  · omega
theorem WI.end_ {rs : List Bd} {N : Nat} {s : LSt} {y q : Nat} {v : Nat × HD × List Int} (r : Rnd rs N s y q) (h : WI rs s y q v) (he : itr rs s y v.1 = y) : v.1 = q := by
  have h1 := h.le
  have h2 := h.one
  by_cases e : v.1 = q
  · exact e
  · exact absurd he (r.first v.1 h2 (by omega))
theorem WI.step {rs : List Bd} {s : LSt} {y q : Nat} {v : Nat × HD × List Int} {h' : HD} (h : WI rs s y q v) (hlt : v.1 < q) (ho : goI (h', v.2.2 ++ [((bk s (itr rs s y v.1) : Nat) : Int)])) : WI rs s y q (v.1 + 1, h', v.2.2 ++ [((bk s (itr rs s y v.1) : Nat) : Int)]) :=
  ⟨Nat.le_succ_of_le h.one, hlt, by show v.2.2 ++ _ = wayL rs s y (v.1 + 1); rw [h.eq, wayL_succ], ho⟩
theorem goI_len {h : HD} {l l' : List Int} (ho : goI (h, l)) (e : l'.length = l.length) : goI (h, l') := by
  obtain ⟨h1, h2⟩ := ho
  refine ⟨by simp, ?_⟩
  obtain _ | ⟨b, c, s⟩ := h
  · simp only at h2 ⊢; omega
  · simp only [List.length_map] at h2 ⊢
    omega
theorem hdi_some {x : HD × List Int} (ho : goI x) (hl : 0 < x.2.length) : ∃ b c s, x.1 = some (b, c, s) := by
  obtain ⟨_ | ⟨b, c, s⟩, l⟩ := x
  · have : l.length = 0 := ho.2
    simp only at hl; omega
  · exact ⟨b, c, s, rfl⟩

set_option maxRecDepth 100000 in
set_option maxHeartbeats 4000000 in
theorem Clash_ok (w0 : World) (n : Int) (p : Option Addr) (cap : Nat) (rs : List Bd) (hr : BdsAt w0 p rs) :
    Calls Try.prog 28 #[cv n p rs.length cap] w0 (Post (X := HD × List Int) (fun x => .tuple #[gvI x, .bool (clB n rs), .int .i64 (validateI n rs)]) (fun x => CO n rs x) (fun x => gbI x) w0) := by
  refine calls Try.func28 rfl (n := 74) rfl (by simp) ?_
  refine TC.seq ?_
  refine TC.region ?_
  refine TL.box rfl rfl (by decide) (fun b0 hb0 => ?_)
  refine TL.pure (PV.assign rfl) rfl (by decide) ?_
  refine TL.pure (PV.assign rfl) rfl (by decide) ?_
  refine TL.pure (PV.assign rfl) rfl (by decide) ?_
  refine TL.nil ?_
  refine TQ.thenC ?_
  refine TC.seq ?_
  refine TC.seq ?_
  refine TC.region ?_
  refine TL.pure (PV.loadBox rfl Tb.agg_24 (by repeat (first | exact List.Mem.head _ | refine List.Mem.tail _ ?_ | refine List.mem_append_right _ ?_)) rfl) rfl (by decide) ?_
  refine TL.call rfl Tb.gofn_21 (fun a w hs => validate_ok w _ _ _ _ (hr.new hs.new)) rfl (by decide) (fun _ _ => ?_)
  refine TL.pure (PV.assign rfl) rfl (by decide) ?_
  refine TL.nil ?_
  refine TQ.thenC ?_
  refine TC.seq ?_
  refine TC.region ?_
  refine TL.pure (PV.move rfl) rfl (by decide) ?_
  refine TL.pure (PV.neq rfl rfl) rfl (by decide) ?_
  refine TL.nil ?_
  refine TQ.thenC ?_
  first | refine TC.condD rfl (fun hbad => ?_) (fun hbad => ?_) | refine TC.cond rfl (fun hbad => ?_) (fun hbad => ?_)
  · skip
    refine TC.seq ?_
    refine TC.region ?_
    refine TL.pure (PV.move rfl) rfl (by decide) ?_
    refine TL.pure (PV.assign rfl) rfl (by decide) ?_
    refine TL.pure (PV.assign rfl) rfl (by decide) ?_
    refine TL.pure (PV.assign rfl) rfl (by decide) ?_
    refine TL.nil ?_
    refine TQ.thenC ?_
    refine TC.ret ?_
    refine TQ.thenR ?_
    refine TQ.retE3 rfl rfl rfl rfl ?_
    have hc : clB n rs = false := decide_eq_false (fun h => hbad h.1)
    exact ⟨(none, []), by rw [hc]; rfl, ⟨⟨rfl, rfl⟩, fun h => by (rw [hc] at h; cases h), fun _ => rfl⟩, List.nil_sublist _⟩
  · skip
    refine TC.skip ?_
    refine TQ.thenC ?_
    refine TC.seq ?_
    refine TC.region ?_
    refine TL.pure (PV.loadBox rfl Tb.agg_24 (by repeat (first | exact List.Mem.head _ | refine List.Mem.tail _ ?_ | refine List.mem_append_right _ ?_)) rfl) rfl (by decide) ?_
    refine TL.call rfl Tb.gofn_65 (fun a w hs => lower_ok w n p cap rs (hr.new hs.new) (vof hbad)) rfl (by decide) (fun z hz => ?_)
    refine TL.pure (PV.move rfl) rfl (by decide) ?_
    refine TL.pure (PV.extract rfl rfl) rfl (by decide) ?_
    refine TL.pure (PV.extract rfl rfl) rfl (by decide) ?_
    refine TL.pure (PV.extract rfl rfl) rfl (by decide) ?_
    refine TL.pure (PV.assign rfl) rfl (by decide) ?_
    refine TL.pure (PV.assign rfl) rfl (by decide) ?_
    refine TL.pure (PV.assign rfl) rfl (by decide) ?_
    refine TL.nil ?_
    refine TQ.thenC ?_
    refine TC.seq ?_
    refine TC.seq ?_
    refine TC.region ?_
    refine TL.pure (PV.move rfl) rfl (by decide) ?_
    refine TL.pure (PV.eql rfl rfl) rfl (by decide) ?_
    refine TL.nil ?_
    refine TQ.thenC ?_
    first | refine TC.condD rfl (fun hlast => ?_) (fun hlast => ?_) | refine TC.cond rfl (fun hlast => ?_) (fun hlast => ?_)
    · skip
      refine TC.seq ?_
      refine TC.region ?_
      refine TL.pure (PV.assign rfl) rfl (by decide) ?_
      refine TL.pure (PV.assign rfl) rfl (by decide) ?_
      refine TL.pure (PV.assign rfl) rfl (by decide) ?_
      refine TL.nil ?_
      refine TQ.thenC ?_
      refine TC.ret ?_
      refine TQ.thenR ?_
      refine TQ.retE3 rfl rfl rfl rfl ?_
      have hc : clB n rs = false := decide_eq_false (fun h => h.2 hlast)
      exact ⟨(none, []), by rw [hc, Decidable.of_not_not hbad]; rfl, ⟨⟨rfl, rfl⟩, fun h => by (rw [hc] at h; cases h), fun _ => rfl⟩, List.nil_sublist _⟩
    · skip
      refine TC.skip ?_
      refine TQ.thenC ?_
      refine TC.seq ?_
      refine TC.seq ?_
      have hv9 := vof hbad
      have hp9 := hv9.pts
      have hv : Valid ((n.toNat : Nat) : Int) rs := by rw [Int.toNat_of_nonneg (by omega)]; exact hv9
      obtain ⟨x0, hx0, hok, q, hr9⟩ := low_round hv (by omega) hlast
      rw [hx0]
      have hbl : (lowN n.toNat rs n.toNat).by_.length = n.toNat := (LOk.low hv9 n.toNat).bl
      refine TC.region ?_
      refine TL.pure (PV.fieldAddr rfl Tb.fo_24_0) rfl (by decide) ?_
      refine TL.pure (PV.load rfl Tb.one_3 (by repeat (first | exact List.Mem.head _ | refine List.Mem.tail _ ?_ | refine List.mem_append_right _ ?_)) rfl) rfl (by decide) ?_
      refine TL.pure (PV.move rfl) rfl (by decide) ?_
      refine TL.nil ?_
      refine TQ.thenC ?_
      refine TC.block ?_
      refine TC.loopG [1, 2, 3, 4, 7, 25] (X := Nat) (fun k => k ≤ n.toNat) (fun k => [(26, .int .i64 k), (8, .int .i64 (((itr rs (lowN n.toNat rs n.toNat) x0 k) : Nat) : Int))]) (fun k => n.toNat - k) 0 (Nat.zero_le _) (by repeat (first | exact True.intro | refine And.intro rfl ?_)) ?_
      intro k hk
      refine TC.seq ?_
      refine TC.region ?_
      refine TL.pure (PV.lss rfl rfl) rfl (by decide) ?_
      refine TL.nil ?_
      refine TQ.thenC ?_
      refine TC.seq ?_
      first | refine TC.condD rfl (fun hlt => ?_) (fun hlt => ?_) | refine TC.cond rfl (fun hlt => ?_) (fun hlt => ?_)
      · skip
        refine TC.skip ?_
        refine TQ.thenC ?_
        refine TC.seq ?_
        refine TC.block ?_
        obtain ⟨o1, o2, o3⟩ := hok k
        have o4 := bk_int n.toNat rs n.toNat (itr rs (lowN n.toNat rs n.toNat) x0 k)
        obtain ⟨qa, hqp, hqa⟩ := hr _ o1
        have hq0 := hqa 0 _ rfl
        have o5 := hv.at o1
        have o6 : (Value.int .i64 (rs.getD (bk (lowN n.toNat rs n.toNat) (itr rs (lowN n.toNat rs n.toNat) x0 k)) default).a) = .int .i64 ((itr rs (lowN n.toNat rs n.toNat) x0 (k + 1) : Nat) : Int) := congrArg _ (by show _ = ((eA rs (bk (lowN n.toNat rs n.toNat) (itr rs (lowN n.toNat rs n.toNat) x0 k)) : Nat) : Int); unfold eA; omega)
        rw [o6] at hq0
        refine TC.draw 9 Tb.mixed (by kernel_rfl) ?_
        simp only [List.take_succ_cons, List.take_zero, List.drop_succ_cons, List.drop_zero]
        refine TS.pure (PV.fieldAddr rfl Tb.fo_24_1) rfl (by decide) ?_
        refine TS.pure (PV.load rfl Tb.one_22 (by repeat (first | exact List.Mem.head _ | refine List.Mem.tail _ ?_ | refine List.mem_append_right _ ?_)) rfl) rfl (by decide) ?_
        refine TS.pure (PV.move rfl) rfl (by decide) ?_
        refine TS.pure (PV.move rfl) rfl (by decide) ?_
        refine TS.pure (PV.indexJ (j := (itr rs (lowN n.toNat rs n.toNat) x0 k)) rfl rfl Tb.elm_25 rfl (by omega)) rfl (by decide) ?_
        refine TS.pure (PV.loadIV (v := ((bk (lowN n.toNat rs n.toNat) (itr rs (lowN n.toNat rs n.toNat) x0 k) : Nat) : Int)) (j := (itr rs (lowN n.toNat rs n.toNat) x0 k)) rfl Tb.one_3 (by repeat (first | exact List.Mem.head _ | refine List.Mem.tail _ ?_ | refine List.mem_append_right _ ?_)) (by omega) o4) rfl (by decide) ?_
        refine TS.pure (PV.indexA (j := bk (lowN n.toNat rs n.toNat) (itr rs (lowN n.toNat rs n.toNat) x0 k)) rfl hqp rfl Tb.elm_22 rfl o1) rfl (by decide) ?_
        refine TS.pure (PV.fieldAddrA rfl Tb.fo_42_0) rfl (by decide) ?_
        refine TS.pure (PV.loadOld rfl Tb.one_3 hq0) rfl (by decide) ?_
        refine TS.nil ?_
        refine TL.pure (PV.assign rfl) rfl (by decide) ?_
        refine TL.nil ?_
        refine TQ.blkN ?_
        refine TQ.thenC ?_
        refine TC.region ?_
        refine TL.pure (PV.add rfl rfl (by omega)) rfl (by decide) ?_
        refine TL.pure (PV.move rfl) rfl (by decide) ?_
        refine TL.nil ?_
        refine TQ.thenN ?_
        refine TQ.backK (k + 1) (by repeat (first | exact True.intro | refine And.intro rfl ?_)) (by repeat (first | exact True.intro | refine And.intro rfl ?_)) (by repeat (first | exact List.Sublist.slnil | exact List.nil_sublist _ | exact List.Sublist.refl _ | refine List.Sublist.cons_cons _ ?_ | refine List.Sublist.cons _ ?_ | refine List.Sublist.trans ?_ (List.sublist_append_right _ _))) (by omega) (by omega)
      · skip
        refine TC.exit ?_
        refine TQ.thenE ?_
        refine TQ.thenE ?_
        refine TQ.blkS ?_
        refine TQ.thenC ?_
        refine TC.seq ?_
        have e9 : k = n.toNat := by omega
        rw [e9]
        obtain ⟨o1, o2, o3⟩ := (show bk (lowN n.toNat rs n.toNat) (itr rs (lowN n.toNat rs n.toNat) x0 n.toNat) < rs.length ∧ eB rs (bk (lowN n.toNat rs n.toNat) (itr rs (lowN n.toNat rs n.toNat) x0 n.toNat)) = (itr rs (lowN n.toNat rs n.toNat) x0 n.toNat) ∧ (itr rs (lowN n.toNat rs n.toNat) x0 n.toNat) < n.toNat from hr9.ok 0)
        have o4 := bk_int n.toNat rs n.toNat (itr rs (lowN n.toNat rs n.toNat) x0 n.toNat)
        obtain ⟨qa, hqp, hqa⟩ := hr _ o1
        have hq0 := hqa 0 _ rfl
        have o5 := hv.at o1
        have o6 : (Value.int .i64 (rs.getD (bk (lowN n.toNat rs n.toNat) (itr rs (lowN n.toNat rs n.toNat) x0 n.toNat)) default).a) = .int .i64 ((itr rs (lowN n.toNat rs n.toNat) (itr rs (lowN n.toNat rs n.toNat) x0 n.toNat) 1 : Nat) : Int) := congrArg _ (by show _ = ((eA rs (bk (lowN n.toNat rs n.toNat) (itr rs (lowN n.toNat rs n.toNat) x0 n.toNat)) : Nat) : Int); unfold eA; omega)
        rw [o6] at hq0
        refine TC.region ?_
        refine TL.pure (PV.move rfl) rfl (by decide) ?_
        refine TL.pure (PV.move rfl) rfl (by decide) ?_
        refine TL.pure (PV.indexJ (j := (itr rs (lowN n.toNat rs n.toNat) x0 n.toNat)) rfl rfl Tb.elm_25 rfl (by omega)) rfl (by decide) ?_
        refine TL.pure (PV.loadIV (v := ((bk (lowN n.toNat rs n.toNat) (itr rs (lowN n.toNat rs n.toNat) x0 n.toNat) : Nat) : Int)) (j := (itr rs (lowN n.toNat rs n.toNat) x0 n.toNat)) rfl Tb.one_3 (by repeat (first | exact List.Mem.head _ | refine List.Mem.tail _ ?_ | refine List.mem_append_right _ ?_)) (by omega) o4) rfl (by decide) ?_
        refine TL.buildSlice (cs := #[.int .i64 ((bk (lowN n.toNat rs n.toNat) (itr rs (lowN n.toNat rs n.toNat) x0 n.toNat) : Nat) : Int)]) rfl Tb.sl_25 Tb.zi_3 (by decide) (fill_i _) (by decide) rfl (by decide) (fun bR hbR => ?_)
        refine TL.pure (PV.assign rfl) rfl (by decide) ?_
        refine TL.nil ?_
        refine TQ.thenC ?_
        refine TC.seq ?_
        refine TC.seq ?_
        refine TC.any Tb.mixed rfl rfl ?_
        refine TA.op (OpOK.pure (PV.fieldAddr rfl Tb.fo_24_1) rfl (by decide)) (by decide) ?_
        refine TA.op (OpOK.pure (PV.load rfl Tb.one_22 (by repeat (first | exact List.Mem.head _ | refine List.Mem.tail _ ?_ | refine List.mem_append_right _ ?_)) rfl) rfl (by decide)) (by decide) ?_
        refine TA.op (OpOK.pure (PV.move rfl) rfl (by decide)) (by decide) ?_
        refine TA.op (OpOK.pure (PV.move rfl) rfl (by decide)) (by decide) ?_
        refine TA.op (OpOK.pure (PV.indexJ (j := (itr rs (lowN n.toNat rs n.toNat) x0 n.toNat)) rfl rfl Tb.elm_25 rfl (by omega)) rfl (by decide)) (by decide) ?_
        refine TA.op (OpOK.pure (PV.loadIV (v := ((bk (lowN n.toNat rs n.toNat) (itr rs (lowN n.toNat rs n.toNat) x0 n.toNat) : Nat) : Int)) (j := (itr rs (lowN n.toNat rs n.toNat) x0 n.toNat)) rfl Tb.one_3 (by repeat (first | exact List.Mem.head _ | refine List.Mem.tail _ ?_ | refine List.mem_append_right _ ?_)) (by omega) o4) rfl (by decide)) (by decide) ?_
        refine TA.op (OpOK.pure (PV.indexA (j := bk (lowN n.toNat rs n.toNat) (itr rs (lowN n.toNat rs n.toNat) x0 n.toNat)) rfl hqp rfl Tb.elm_22 rfl o1) rfl (by decide)) (by decide) ?_
        refine TA.op (OpOK.pure (PV.fieldAddrA rfl Tb.fo_42_0) rfl (by decide)) (by decide) ?_
        refine TA.op (OpOK.pure (PV.loadOld rfl Tb.one_3 hq0) rfl (by decide)) (by decide) ?_
        refine TA.op (OpOK.pure (PV.assign rfl) rfl (by decide)) (by decide) ?_
        show TQ _ _ _ _ _
        refine TQ.thenC ?_
        refine TC.block ?_
        refine TC.loopK [1, 2, 3, 4, 7, 8] (X := Nat × HD × List Int) (fun v => WI rs (lowN n.toNat rs n.toNat) (itr rs (lowN n.toNat rs n.toNat) x0 n.toNat) q v) (fun v => [(10, .int .i64 (((itr rs (lowN n.toNat rs n.toNat) (itr rs (lowN n.toNat rs n.toNat) x0 n.toNat) v.1) : Nat) : Int)), (9, gvI v.2)]) (fun v => gbI v.2 ++ (arrI z.2 (lowN n.toNat rs n.toNat).by_ :: arrI z.1 (lowN n.toNat rs n.toNat).ds :: [(b0, Obj.cells #[.int .i64 n, .slice p rs.length cap] 24 (0, 0))])) (fun v => q - v.1) (1, some (bR, 1, []), [((bk (lowN n.toNat rs n.toNat) (itr rs (lowN n.toNat rs n.toNat) x0 n.toNat) : Nat) : Int)]) ⟨Nat.le_refl _, hr9.q1, rfl, ⟨rfl, rfl, Nat.le_refl _⟩⟩ (by repeat (first | exact True.intro | refine And.intro rfl ?_)) (List.Sublist.refl _) ?_
        intro v hw
        refine TC.seq ?_
        refine TC.seq ?_
        refine TC.region ?_
        refine TL.pure (PV.move rfl) rfl (by decide) ?_
        refine TL.pure (PV.move rfl) rfl (by decide) ?_
        refine TL.pure (PV.neq rfl rfl) rfl (by decide) ?_
        refine TL.nil ?_
        refine TQ.thenC ?_
        first | refine TC.condD rfl (fun hne => ?_) (fun hne => ?_) | refine TC.cond rfl (fun hne => ?_) (fun hne => ?_)
        · skip
          refine TC.skip ?_
          refine TQ.thenC ?_
          refine TC.seq ?_
          refine TC.block ?_
          have hlt9 : v.1 < q := hw.lt hr9 (fun e => hne (congrArg _ e))
          have hwl := hw.len
          have hqN := hr9.qN
          obtain ⟨o1, o2, o3⟩ := hr9.ok v.1
          have o4 := bk_int n.toNat rs n.toNat (itr rs (lowN n.toNat rs n.toNat) (itr rs (lowN n.toNat rs n.toNat) x0 n.toNat) v.1)
          obtain ⟨qa, hqp, hqa⟩ := hr _ o1
          have hq0 := hqa 0 _ rfl
          have o5 := hv.at o1
          have o6 : (Value.int .i64 (rs.getD (bk (lowN n.toNat rs n.toNat) (itr rs (lowN n.toNat rs n.toNat) (itr rs (lowN n.toNat rs n.toNat) x0 n.toNat) v.1)) default).a) = .int .i64 ((itr rs (lowN n.toNat rs n.toNat) (itr rs (lowN n.toNat rs n.toNat) x0 n.toNat) (v.1 + 1) : Nat) : Int) := congrArg _ (by show _ = ((eA rs (bk (lowN n.toNat rs n.toNat) (itr rs (lowN n.toNat rs n.toNat) (itr rs (lowN n.toNat rs n.toNat) x0 n.toNat) v.1)) : Nat) : Int); unfold eA; omega)
          rw [o6] at hq0
          refine TC.region ?_
          refine TL.pure (PV.move rfl) rfl (by decide) ?_
          refine TL.pure (PV.move rfl) rfl (by decide) ?_
          refine TL.pure (PV.move rfl) rfl (by decide) ?_
          refine TL.pure (PV.indexJ (j := (itr rs (lowN n.toNat rs n.toNat) (itr rs (lowN n.toNat rs n.toNat) x0 n.toNat) v.1)) rfl rfl Tb.elm_25 rfl (by omega)) rfl (by decide) ?_
          refine TL.pure (PV.loadIV (v := ((bk (lowN n.toNat rs n.toNat) (itr rs (lowN n.toNat rs n.toNat) (itr rs (lowN n.toNat rs n.toNat) x0 n.toNat) v.1) : Nat) : Int)) (j := (itr rs (lowN n.toNat rs n.toNat) (itr rs (lowN n.toNat rs n.toNat) x0 n.toNat) v.1)) rfl Tb.one_3 (by repeat (first | exact List.Mem.head _ | refine List.Mem.tail _ ?_ | refine List.mem_append_right _ ?_)) (by omega) o4) rfl (by decide) ?_
          refine TL.buildSlice (cs := #[.int .i64 ((bk (lowN n.toNat rs n.toNat) (itr rs (lowN n.toNat rs n.toNat) (itr rs (lowN n.toNat rs n.toNat) x0 n.toNat) v.1) : Nat) : Int)]) rfl Tb.sl_25 Tb.zi_3 (by decide) (fill_i _) (by decide) rfl (by decide) (fun bI hbI => ?_)
          refine TL.appendI (x0 := v.2) (v := ((bk (lowN n.toNat rs n.toNat) (itr rs (lowN n.toNat rs n.toNat) (itr rs (lowN n.toNat rs n.toNat) x0 n.toNat) v.1) : Nat) : Int)) rfl rfl (by repeat (first | exact List.Mem.head _ | refine List.Mem.tail _ ?_ | refine List.mem_append_right _ ?_)) hw.ok (by repeat (first | exact TakeH.here _ _ _ _ | apply TakeH.tail | apply TakeH.app)) (by omega) rfl (by decide) (fun h9 ho9 => ?_)
          refine TL.pure (PV.assign rfl) rfl (by decide) ?_
          refine TL.nil ?_
          refine TQ.blkN ?_
          refine TQ.thenC ?_
          refine TC.draw 9 Tb.mixed (by kernel_rfl) ?_
          simp only [List.take_succ_cons, List.take_zero, List.drop_succ_cons, List.drop_zero]
          refine TS.pure (PV.fieldAddr rfl Tb.fo_24_1) rfl (by decide) ?_
          refine TS.pure (PV.load rfl Tb.one_22 (by repeat (first | exact List.Mem.head _ | refine List.Mem.tail _ ?_ | refine List.mem_append_right _ ?_)) rfl) rfl (by decide) ?_
          refine TS.pure (PV.move rfl) rfl (by decide) ?_
          refine TS.pure (PV.move rfl) rfl (by decide) ?_
          refine TS.pure (PV.indexJ (j := (itr rs (lowN n.toNat rs n.toNat) (itr rs (lowN n.toNat rs n.toNat) x0 n.toNat) v.1)) rfl rfl Tb.elm_25 rfl (by omega)) rfl (by decide) ?_
          refine TS.pure (PV.loadIV (v := ((bk (lowN n.toNat rs n.toNat) (itr rs (lowN n.toNat rs n.toNat) (itr rs (lowN n.toNat rs n.toNat) x0 n.toNat) v.1) : Nat) : Int)) (j := (itr rs (lowN n.toNat rs n.toNat) (itr rs (lowN n.toNat rs n.toNat) x0 n.toNat) v.1)) rfl Tb.one_3 (by repeat (first | exact List.Mem.head _ | refine List.Mem.tail _ ?_ | refine List.mem_append_right _ ?_)) (by omega) o4) rfl (by decide) ?_
          refine TS.pure (PV.indexA (j := bk (lowN n.toNat rs n.toNat) (itr rs (lowN n.toNat rs n.toNat) (itr rs (lowN n.toNat rs n.toNat) x0 n.toNat) v.1)) rfl hqp rfl Tb.elm_22 rfl o1) rfl (by decide) ?_
          refine TS.pure (PV.fieldAddrA rfl Tb.fo_42_0) rfl (by decide) ?_
          refine TS.pure (PV.loadOld rfl Tb.one_3 hq0) rfl (by decide) ?_
          refine TS.nil ?_
          refine TL.pure (PV.assign rfl) rfl (by decide) ?_
          refine TL.nil ?_
          refine TQ.thenN ?_
          refine TQ.backK (v.1 + 1, h9, v.2.2 ++ [((bk (lowN n.toNat rs n.toNat) (itr rs (lowN n.toNat rs n.toNat) (itr rs (lowN n.toNat rs n.toNat) x0 n.toNat) v.1) : Nat) : Int)]) (by repeat (first | exact True.intro | refine And.intro rfl ?_)) (by repeat (first | exact True.intro | refine And.intro rfl ?_)) (by repeat (first | exact List.Sublist.slnil | exact List.nil_sublist _ | exact List.Sublist.refl _ | exact List.sublist_append_left _ _ | refine List.Sublist.cons_cons _ ?_ | refine (List.append_sublist_append_left _).2 ?_ | refine List.Sublist.cons _ ?_ | refine List.Sublist.trans ?_ (List.sublist_append_right _ _))) (hw.step hlt9 ho9) (by simp only; omega)
        · skip
          refine TC.exit ?_
          refine TQ.thenE ?_
          refine TQ.thenE ?_
          refine TQ.blkS ?_
          refine TQ.thenC ?_
          refine TC.seq ?_
          have he9 : (itr rs (lowN n.toNat rs n.toNat) (itr rs (lowN n.toNat rs n.toNat) x0 n.toNat) v.1) = (itr rs (lowN n.toNat rs n.toNat) x0 n.toNat) := by omega
          have hq9 : v.1 = q := hw.end_ hr9 he9
          obtain ⟨v1, vh, vl⟩ := v
          have hwo := hw.ok
          have hwe := hw.eq
          have hwl := hw.len
          have hwq := hr9.q1
          have hwn := hr9.qN
          obtain ⟨bV, cV, sV, hve⟩ := hdi_some hwo (by omega)
          try simp only at hve hwe hwl hq9
          subst hve
          refine TC.region ?_
          refine TL.pure (PV.move rfl) rfl (by decide) ?_
          refine TL.callW (X := Unit) (fun _ => .tuple #[]) (fun _ => True) (fun _ => (bV, Obj.cells (ival vl.reverse ++ sV).toArray 3 (0, 0)) :: (arrI z.2 (lowN n.toNat rs n.toNat).by_ :: arrI z.1 (lowN n.toNat rs n.toNat).ds :: [(b0, Obj.cells #[.int .i64 n, .slice p rs.length cap] 24 (0, 0))])) rfl Tb.gofn_68 (fun a w hs => rev_ok hs.new rfl (show vl.length ≤ 100000 by omega)) rfl (by decide) (fun _ _ => ?_)
          refine TL.nil ?_
          refine TQ.thenC ?_
          refine TC.seq ?_
          refine TC.region ?_
          refine TL.pure (PV.move rfl) rfl (by decide) ?_
          refine TL.pure (PV.assign rfl) rfl (by decide) ?_
          refine TL.pure (PV.assign rfl) rfl (by decide) ?_
          refine TL.pure (PV.assign rfl) rfl (by decide) ?_
          refine TL.nil ?_
          refine TQ.thenC ?_
          refine TC.ret ?_
          refine TQ.retE3 rfl rfl rfl rfl ?_
          have hc : clB n rs = true := decide_eq_true ⟨Decidable.of_not_not hbad, hlast⟩
          have c9 := hr9.cr hv
          have c8 : vl.reverse = (wayL rs (lowN n.toNat rs n.toNat) (itr rs (lowN n.toNat rs n.toNat) x0 n.toNat) q).reverse := by rw [hwe, hq9]
          rw [← c8] at c9
          exact ⟨(some (bV, cV, sV), vl.reverse), by rw [hc, Decidable.of_not_not hbad]; show _ = Value.tuple #[gval (some (bV, cV, sV)) vl.reverse.length, _, _]; rw [List.length_reverse], ⟨goI_len hwo (by simp), fun _ => ⟨c9.len, c9.ks, c9.ring, c9.neg⟩, fun h => by (rw [hc] at h; cases h)⟩, List.sublist_append_left [_] _⟩

end Go.Proofs.Ytenalmddoljhoaa
