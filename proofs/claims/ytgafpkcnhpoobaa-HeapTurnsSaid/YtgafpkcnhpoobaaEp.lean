/- Fire, by the reference: contracts. -/
import Derived.Test.YtgafpkcnhpoobaaEo
set_option linter.unusedVariables false
set_option linter.unusedSimpArgs false
namespace Go.Proofs.Ytgafpkcnhpoobaa
open Go.Sx Go.RowKit Go.Sand

def flB (n : Nat) (bs : List Int) : List Bool := (List.range n).map (inB bs)
def nwK (ls : List (List Int)) (gs xs bs : List Int) (k : Nat) : List Bool := (List.range gs.length).map fun j => inB bs j || (decide (j < k) && rdB ls gs xs bs j)
theorem fl_len (n : Nat) (bs : List Int) : (flB n bs).length = n := by simp [flB]
theorem nw_len (ls : List (List Int)) (gs xs bs : List Int) (k : Nat) : (nwK ls gs xs bs k).length = gs.length := by simp [nwK]
theorem fl_at {n : Nat} {bs : List Int} {j : Nat} (hj : j < n) : (flB n bs).getD j false = inB bs j := by simp [flB, List.getD, hj]
theorem fl_nil (n : Nat) : flB n [] = List.replicate n false := by
  refine List.ext_getElem (by simp [flB]) fun i h1 h2 => ?_
  simp [flB, inB]
theorem nw_start (ls : List (List Int)) (gs xs bs : List Int) : flB gs.length bs = nwK ls gs xs bs 0 := by
  unfold flB nwK
  exact List.map_congr_left fun j _ => by simp
theorem nw_skip {ls : List (List Int)} {gs xs bs : List Int} {k : Nat} (h : rdB ls gs xs bs k = false) : nwK ls gs xs bs (k + 1) = nwK ls gs xs bs k := by
  unfold nwK
  refine List.map_congr_left fun j _ => ?_
  by_cases e : j = k
  · subst e; rw [h]; simp
  · rw [show decide (j < k + 1) = decide (j < k) from decide_eq_decide.2 (by omega)]
theorem nw_put {ls : List (List Int)} {gs xs bs : List Int} {k : Nat} (h : rdB ls gs xs bs k = true) : bval (nwK ls gs xs bs (k + 1)) = (bval (nwK ls gs xs bs k)).set k (.bool true) := by
  rw [bval, bval, ← List.map_set (f := Value.bool) (a := true)]
  congr 1
  refine List.ext_getElem (by simp [nwK]) fun j h1 h2 => ?_
  rw [List.getElem_set]
  simp only [nwK, List.getElem_map, List.getElem_range]
  by_cases e : k = j
  · subst e
    rw [if_pos rfl, h, decide_eq_true (Nat.lt_succ_self k)]; simp
  · rw [if_neg e, show decide (j < k + 1) = decide (j < k) from decide_eq_decide.2 (by omega)]
theorem nw_end {ls : List (List Int)} {gs xs bs : List Int} {k : Nat} (hk : k = gs.length) : nwK ls gs xs bs k = flB gs.length (bs ++ rdK ls gs xs bs k) := by
  unfold nwK flB
  refine List.map_congr_left fun j hj => ?_
  have hj := List.mem_range.1 hj
  unfold inB
  rw [Bool.eq_iff_iff]
  simp only [Bool.or_eq_true, Bool.and_eq_true, decide_eq_true_eq, List.mem_append, mem_rd]
  constructor
  · rintro (h | ⟨h1, h2⟩)
    · exact .inl h
    · exact .inr ⟨j, h1, rfl, h2⟩
  · rintro (h | ⟨i, h1, h2, h3⟩)
    · exact .inl h
    · obtain rfl : j = i := by omega
      exact .inr ⟨h1, h3⟩
section
variable {P : Program} {n : Nat} {w0 : World} {E : Env} {G : Heap} {ty : TypeId} {pos : String} {aft : Array Edge} {g : Option (Nat × Bool)} {d : Option Nat}
theorem PV.loadGO {x : Operand} {j t : Nat} {y : HD × List Bool} {v : Bool} (hx : evo E x = some (.pointer (some ⟨(y.1.map (·.1)).getD 0, j * 1, none⟩))) (ht : oneB P t = true)
    (hm : ∀ q ∈ gbO y, q ∈ G) (hok : goO y) (hj : j < y.2.length) (hv : y.2.getD j false = v) : PV P n w0 E G ⟨d, .load t x, ty, pos, aft, g⟩ (.bool v) := by
  subst hv
  obtain ⟨h, l⟩ := y
  cases h with
  | none => exact absurd hok.2 (by simp only at hj ⊢; omega)
  | some hh =>
    obtain ⟨b, cap, sp⟩ := hh
    simp only [Option.map_some, Option.getD_some] at hx
    exact PV.loadG' hx ht (hm _ (.head _)) (bval_at rfl hj)
end
theorem go_lenB {h : HD} {n : Nat} {xs l : List Bool} (ho : gok h n 1 (bval xs)) (hl : l.length = n) : gok h n 1 (bval l) := by
  obtain ⟨h1, h2⟩ := ho
  refine ⟨by simp [hl], ?_⟩
  cases h with
  | none => exact h2
  | some hh =>
    obtain ⟨b, c, sp⟩ := hh
    simp only [List.length_map] at h1 h2 ⊢
    exact ⟨by omega, h2.2⟩
theorem go_lenO {h : HD} {n : Nat} {xs l : List Bool} (ho : gok h n 1 (bval xs)) (hl : l.length = n) : goO (h, l) := by
  have := go_lenB ho hl
  subst hl
  exact this
theorem fo_meas {n a b : Nat} {m : Bool} (hb : b ≤ n) (h0 : m = false → b = a) (h1 : m = true → a < b) : 2 * (n - b) + (if m = true then 1 else 0) < 2 * (n - a) + 1 := by
  cases m with
  | false => have := h0 rfl; simp; omega
  | true => have := h1 rfl; simp; omega
theorem perm_out (A B O R : Heap) (e : Nat × Obj) : List.Perm (A ++ (B ++ (O ++ (e :: R)))) (O ++ (e :: (A ++ (B ++ R)))) := by
  have h1 : List.Perm ((A ++ B) ++ (O ++ (e :: R))) (O ++ ((A ++ B) ++ (e :: R))) := List.perm_append_comm_assoc _ _ _
  have h2 : List.Perm ((A ++ B) ++ (e :: R)) (e :: ((A ++ B) ++ R)) := List.perm_middle
  have h3 := h1.trans (h2.append_left O)
  simpa only [List.append_assoc] using h3
structure FoI (ls : List (List Int)) (gs xs : List Int) (x : HD × List Int × HD × Bool) : Prop where
  br : BrI ls gs xs x.2.1
  ok : goI (x.1, x.2.1)
  fl : gok x.2.2.1 gs.length 1 (bval (flB gs.length x.2.1))
  more : x.2.2.2 = false → rdL ls gs xs x.2.1 = []
structure FiI (ls : List (List Int)) (gs xs bs : List Int) (k : Nat) (y : HD × List Int × Bool) : Prop where
  le : k ≤ gs.length
  eq : y.2.1 = bs ++ rdK ls gs xs bs k
  ok : goI (y.1, y.2.1)
  more : y.2.2 = false → rdK ls gs xs bs k = []
  more2 : y.2.2 = true → rdK ls gs xs bs k ≠ []
theorem FiI.skip {ls : List (List Int)} {gs xs bs : List Int} {k : Nat} {y : HD × List Int × Bool} (h : FiI ls gs xs bs k y) (hk : k < gs.length) (hb : rdB ls gs xs bs k = false) : FiI ls gs xs bs (k + 1) y := by
  have e : rdK ls gs xs bs (k + 1) = rdK ls gs xs bs k := by show (if rdB ls gs xs bs k = true then _ else _) = _; rw [if_neg (by rw [hb]; decide)]
  exact ⟨hk, by rw [e]; exact h.eq, h.ok, by rw [e]; exact h.more, by rw [e]; exact h.more2⟩
theorem FiI.step {ls : List (List Int)} {gs xs bs : List Int} {k : Nat} {y : HD × List Int × Bool} {h' : HD} (h : FiI ls gs xs bs k y) (hk : k < gs.length) (hb : rdB ls gs xs bs k = true) (ho : goI (h', y.2.1 ++ [(k : Int)])) : FiI ls gs xs bs (k + 1) (h', y.2.1 ++ [(k : Int)], true) := by
  have e : rdK ls gs xs bs (k + 1) = rdK ls gs xs bs k ++ [(k : Int)] := by show (if rdB ls gs xs bs k = true then _ else _) = _; rw [if_pos hb]
  exact ⟨hk, by rw [e, ← List.append_assoc, ← h.eq], ho, fun h => Bool.noConfusion h, fun _ => by rw [e]; simp⟩


set_option maxRecDepth 100000 in
set_option maxHeartbeats 4000000 in
theorem rburn_ok (w0 : World) (p : Option Addr) (cp : Nat) (ls : List (List Int)) (hr : LsAt w0 p ls) (q : Option Addr) (cq : Nat) (gs : List Int) (hg : IntsAt w0 q gs) (hB : HB ls gs) (pl : Option Addr) (cl : Nat) (xs : List Int) (hx : IntsAt w0 pl xs) (N : Nat) (hN : xs.length = N) (hn : xs.length = gs.length) (hx0 : ∀ k, 0 ≤ xs.getD k 0 ∧ xs.getD k 0 ≤ 30) :
    Calls Try.prog 87 #[hv p ls.length cp q gs.length cq, .slice pl N cl] w0 (Post (X := HD × List Int) (fun y => gvI y) (fun y => BrP ls gs xs y.2 ∧ goI y) (fun y => gbI y) w0) := by
  have hn9 := hB.n
  have hl9 := hB.len
  obtain rfl : N = gs.length := by omega
  refine calls Try.func87 rfl (n := 68) rfl (by simp) ?_
  refine TC.seq ?_
  refine TC.region ?_
  refine TL.box rfl rfl (by decide) (fun b0 hb0 => ?_)
  refine TL.pure (PV.assign rfl) rfl (by decide) ?_
  refine TL.nil ?_
  refine TQ.thenC ?_
  refine TC.seq ?_
  refine TC.region ?_
  refine TL.pure (PV.assign rfl) rfl (by decide) ?_
  refine TL.nil ?_
  refine TQ.thenC ?_
  refine TC.seq ?_
  refine TC.region ?_
  refine TL.pure (PV.move rfl) rfl (by decide) ?_
  refine TL.pure (PV.len rfl Tb.sl_23) rfl (by decide) ?_
  refine TL.makeO (k := gs.length) rfl rfl Tb.sl_71 Tb.zi_4 rfl (by omega) (by omega) rfl (by decide) (fun bJ hbJ => ?_)
  refine TL.congrG (G' := gblk (some (bJ, gs.length, [])) 4 (bval (List.replicate gs.length false)) ++ [(b0, Obj.cells #[.slice p ls.length cp, .slice q gs.length cq] 25 (0, 0))]) (by show [(bJ, Obj.cells (bval (List.replicate gs.length false) ++ []).toArray 4 (0, 0))] ++ _ = _; rw [List.append_nil]; rfl) ?_
  refine TL.pure (PV.assign rfl) rfl (by decide) ?_
  refine TL.nil ?_
  refine TQ.thenC ?_
  refine TC.seq ?_
  refine TC.seq ?_
  refine TC.region ?_
  refine TL.pure (PV.assign rfl) rfl (by decide) ?_
  refine TL.nil ?_
  refine TQ.thenC ?_
  refine TC.block ?_
  refine TC.lit [(1, _), (2, _), (4, _), (5, _), (6, _), (7, _)] (by repeat (first | exact True.intro | refine And.intro rfl ?_)) ?_
  refine TC.loopK [1, 2, 4] (X := HD × List Int × HD × Bool) (fun x => FoI ls gs xs x) (fun x => [(7, .bool x.2.2.2), (6, gval x.2.2.1 gs.length), (5, gvI (x.1, x.2.1))]) (fun x => gblk x.2.2.1 4 (bval (flB gs.length x.2.1)) ++ (gbI (x.1, x.2.1) ++ [(b0, Obj.cells #[.slice p ls.length cp, .slice q gs.length cq] 25 (0, 0))])) (fun x => 2 * (gs.length - x.2.1.length) + (if x.2.2.2 = true then 1 else 0)) (none, [], some (bJ, gs.length, []), true) ⟨BrI.zero _ _ _, goI_nil, ⟨by simp [flB], by simp [flB], Nat.le_refl _⟩, fun h => Bool.noConfusion h⟩ (by repeat (first | exact True.intro | refine And.intro rfl ?_)) (by rw [fl_nil]; exact List.Sublist.refl _) ?_
  intro x hx9
  have hgl := hx9.br.goo.le
  refine TC.lit [(1, _), (2, _), (4, _), (5, _), (6, _), (7, _)] (by repeat (first | exact True.intro | refine And.intro rfl ?_)) ?_
  refine TC.seq ?_
  refine TC.seq ?_
  refine TC.region ?_
  refine TL.pure (PV.move rfl) rfl (by decide) ?_
  refine TL.nil ?_
  refine TQ.thenC ?_
  first | refine TC.condD rfl (fun hmore => ?_) (fun hmore => ?_) | refine TC.cond rfl (fun hmore => ?_) (fun hmore => ?_)
  · skip
    refine TC.skip ?_
    refine TQ.thenC ?_
    refine TC.block ?_
    refine TC.seq ?_
    refine TC.region ?_
    refine TL.pure (PV.assign rfl) rfl (by decide) ?_
    refine TL.nil ?_
    refine TQ.thenC ?_
    refine TC.seq ?_
    refine TC.region ?_
    refine TL.buildSlice0 Tb.sl_71 Tb.zi_4 rfl (by decide) (fun bA hbA => ?_)
    refine TL.pure (PV.move rfl) rfl (by decide) ?_
    refine TL.append0 (m := gs.length) (news := bval (flB gs.length x.2.1)) (bA := bA) rfl rfl Tb.sl_71 Tb.zi_4 rfl (by repeat (first | exact Take.head _ | apply Take.tail | apply Take.appR)) (fun w' hN2 => src_g Tb.sl_71 hx9.fl (fun yy hyy => by repeat (first | exact List.mem_append_left _ hyy | exact List.mem_append_left _ (List.mem_append_right _ hyy) | exact List.mem_append_left _ (List.mem_append_left _ hyy) | refine List.mem_append_right _ ?_ | refine List.Mem.tail _ ?_)) (bval_one _) hN2) (by omega) (by omega) rfl (by decide) (fun h8 ho8 => ?_)
    refine TL.pure (PV.assign rfl) rfl (by decide) ?_
    refine TL.nil ?_
    refine TQ.thenC ?_
    refine TC.seq ?_
    refine TC.seq ?_
    refine TC.region ?_
    refine TL.pure (PV.assign rfl) rfl (by decide) ?_
    refine TL.nil ?_
    refine TQ.thenC ?_
    refine TC.block ?_
    refine TC.lit [(1, _), (2, _), (4, _), (5, _), (6, _), (7, _), (8, _), (9, _)] (by repeat (first | exact True.intro | refine And.intro rfl ?_)) ?_
    refine TC.loopK [1, 2, 4, 6, 8] (X := Nat × HD × List Int × Bool) (fun k => FiI ls gs xs x.2.1 k.1 k.2) (fun k => [(9, .int .i64 k.1), (7, .bool k.2.2.2), (5, gvI (k.2.1, k.2.2.1))]) (fun k => gblk h8 4 (bval (nwK ls gs xs x.2.1 k.1)) ++ (gblk x.2.2.1 4 (bval (flB gs.length x.2.1)) ++ (gbI (k.2.1, k.2.2.1) ++ [(b0, Obj.cells #[.slice p ls.length cp, .slice q gs.length cq] 25 (0, 0))]))) (fun k => gs.length - k.1) (0, x.1, x.2.1, false) ⟨Nat.zero_le _, by simp [rdK], hx9.ok, fun _ => rfl, fun h => Bool.noConfusion h⟩ (by repeat (first | exact True.intro | refine And.intro rfl ?_)) (by rw [← nw_start]; exact List.Sublist.refl _) ?_
    intro k hk
    have hkl := hk.le
    have hlo : k.2.2.1.length ≤ 1000000 := by rw [hk.eq, List.length_append]; have := rd_len ls gs xs x.2.1 k.1; omega
    refine TC.lit [(1, _), (2, _), (4, _), (5, _), (6, _), (7, _), (8, _), (9, _)] (by repeat (first | exact True.intro | refine And.intro rfl ?_)) ?_
    refine TC.seq ?_
    refine TC.seq ?_
    refine TC.region ?_
    refine TL.pure (PV.move rfl) rfl (by decide) ?_
    refine TL.pure (PV.move rfl) rfl (by decide) ?_
    refine TL.pure (PV.len rfl Tb.sl_23) rfl (by decide) ?_
    refine TL.pure (PV.lss rfl rfl) rfl (by decide) ?_
    refine TL.nil ?_
    refine TQ.thenC ?_
    first | refine TC.condD rfl (fun hlt => ?_) (fun hlt => ?_) | refine TC.cond rfl (fun hlt => ?_) (fun hlt => ?_)
    · skip
      refine TC.skip ?_
      refine TQ.thenC ?_
      refine TC.seq ?_
      refine TC.block ?_
      refine TC.seq ?_
      refine TC.region ?_
      refine TL.pure (PV.assign rfl) rfl (by decide) ?_
      refine TL.nil ?_
      refine TQ.thenC ?_
      refine TC.seq ?_
      refine TC.seq ?_
      refine TC.region ?_
      refine TL.pure (PV.assign rfl) rfl (by decide) ?_
      refine TL.nil ?_
      refine TQ.thenC ?_
      refine TC.block ?_
      refine TC.lit [(1, _), (2, _), (4, _), (5, _), (6, _), (7, _), (8, _), (9, _), (10, _), (11, _)] (by repeat (first | exact True.intro | refine And.intro rfl ?_)) ?_
      refine TC.loopG [1, 2, 4, 5, 6, 7, 8, 9] (X := Nat) (fun u => u ≤ gs.length) (fun u => [(11, .int .i64 u), (10, .int .i64 (sm u (lbF ls x.2.1 k.1)))]) (fun u => gs.length - u) 0 (Nat.zero_le _) (by repeat (first | exact True.intro | refine And.intro rfl ?_)) ?_
      intro u hu
      refine TC.lit [(1, _), (2, _), (4, _), (5, _), (6, _), (7, _), (8, _), (9, _), (10, _), (11, _)] (by repeat (first | exact True.intro | refine And.intro rfl ?_)) ?_
      refine TC.seq ?_
      refine TC.seq ?_
      refine TC.region ?_
      refine TL.pure (PV.move rfl) rfl (by decide) ?_
      refine TL.pure (PV.move rfl) rfl (by decide) ?_
      refine TL.pure (PV.len rfl Tb.sl_23) rfl (by decide) ?_
      refine TL.pure (PV.lss rfl rfl) rfl (by decide) ?_
      refine TL.nil ?_
      refine TQ.thenC ?_
      first | refine TC.condD rfl (fun hlt2 => ?_) (fun hlt2 => ?_) | refine TC.cond rfl (fun hlt2 => ?_) (fun hlt2 => ?_)
      · skip
        refine TC.skip ?_
        refine TQ.thenC ?_
        refine TC.seq ?_
        refine TC.block ?_
        refine TC.seq ?_
        have hf9 := fl_at (bs := x.2.1) (show u < gs.length by omega)
        refine TC.region ?_
        refine TL.pure (PV.move rfl) rfl (by decide) ?_
        refine TL.pure (PV.move rfl) rfl (by decide) ?_
        refine TL.pure (PV.indexG (j := u) rfl rfl hx9.fl Tb.elm_71 rfl (by omega)) rfl (by decide) ?_
        refine TL.pure (PV.loadGO (y := (x.2.2.1, (flB gs.length x.2.1))) (j := u) (v := inB x.2.1 u) rfl Tb.one_4 (fun yy hyy => by repeat (first | exact List.mem_append_left _ hyy | exact List.mem_append_left _ (List.mem_append_right _ hyy) | exact List.mem_append_left _ (List.mem_append_left _ hyy) | refine List.mem_append_right _ ?_ | refine List.Mem.tail _ ?_)) (go_lenO hx9.fl (fl_len _ _)) (by show u < (flB gs.length x.2.1).length; rw [fl_len]; omega) hf9) rfl (by decide) ?_
        refine TL.pure ((by first | exact PV.notD rfl | exact PV.not rfl)) rfl (by decide) ?_
        refine TL.nil ?_
        refine TQ.thenC ?_
        first | refine TC.condD rfl (fun hfl => ?_) (fun hfl => ?_) | refine TC.cond rfl (fun hfl => ?_) (fun hfl => ?_)
        · skip
          obtain ⟨q1, hq1p, p1, c1, hq1, hi1⟩ := hr k.1 (by omega)
          have hrk := hB.rowl (k := k.1) (by omega)
          obtain ⟨q2, hq2p, hq2⟩ := hi1 u (by omega)
          have hen : 0 ≤ (ls.getD k.1 []).getD u 0 ∧ (ls.getD k.1 []).getD u 0 ≤ 2 := hB.ent k.1 u
          have hlb := lb_bd hB x.2.1 k.1 u
          refine TC.region ?_
          refine TL.pure (PV.move rfl) rfl (by decide) ?_
          refine TL.pure (PV.fieldAddr rfl Tb.fo_25_0) rfl (by decide) ?_
          refine TL.pure (PV.load rfl Tb.one_22 (by repeat (first | exact List.Mem.head _ | refine List.Mem.tail _ ?_ | refine List.mem_append_right _ ?_)) rfl) rfl (by decide) ?_
          refine TL.pure (PV.move rfl) rfl (by decide) ?_
          refine TL.pure (PV.indexA rfl hq1p rfl Tb.elm_22 rfl (by omega)) rfl (by decide) ?_
          refine TL.pure (PV.loadOld rfl Tb.one_23 hq1) rfl (by decide) ?_
          refine TL.pure (PV.move rfl) rfl (by decide) ?_
          refine TL.pure (PV.indexA rfl hq2p rfl Tb.elm_23 rfl (by omega)) rfl (by decide) ?_
          refine TL.pure (PV.loadOld rfl Tb.one_3 hq2) rfl (by decide) ?_
          refine TL.pure (PV.add rfl rfl (by omega)) rfl (by decide) ?_
          refine TL.pure (PV.assign rfl) rfl (by decide) ?_
          refine TL.nil ?_
          refine TQ.blkN ?_
          refine TQ.thenC ?_
          refine TC.region ?_
          refine TL.pure (PV.move rfl) rfl (by decide) ?_
          refine TL.pure (PV.add rfl rfl (by omega)) rfl (by decide) ?_
          refine TL.pure (PV.assign rfl) rfl (by decide) ?_
          refine TL.nil ?_
          refine TQ.thenN ?_
          refine TQ.backK (u + 1) (by refine And.intro rfl (And.intro ?_ True.intro); show some (Value.int .i64 _) = some (Value.int .i64 _); first | rw [lb_f (by simpa [inB] using hfl)] | rw [lb_t (by simpa [inB] using hfl)]) (by repeat (first | exact True.intro | refine And.intro rfl ?_)) (by repeat (first | exact List.Sublist.slnil | exact List.nil_sublist _ | exact List.Sublist.refl _ | refine List.Sublist.cons_cons _ ?_ | refine List.Sublist.cons _ ?_ | refine List.Sublist.trans ?_ (List.sublist_append_right _ _))) (by omega) (by omega)
        · skip
          refine TC.skip ?_
          refine TQ.blkN ?_
          refine TQ.thenC ?_
          refine TC.region ?_
          refine TL.pure (PV.move rfl) rfl (by decide) ?_
          refine TL.pure (PV.add rfl rfl (by omega)) rfl (by decide) ?_
          refine TL.pure (PV.assign rfl) rfl (by decide) ?_
          refine TL.nil ?_
          refine TQ.thenN ?_
          refine TQ.backK (u + 1) (by refine And.intro rfl (And.intro ?_ True.intro); show some (Value.int .i64 _) = some (Value.int .i64 _); first | rw [lb_f (by simpa [inB] using hfl)] | rw [lb_t (by simpa [inB] using hfl)]) (by repeat (first | exact True.intro | refine And.intro rfl ?_)) (by repeat (first | exact List.Sublist.slnil | exact List.nil_sublist _ | exact List.Sublist.refl _ | refine List.Sublist.cons_cons _ ?_ | refine List.Sublist.cons _ ?_ | refine List.Sublist.trans ?_ (List.sublist_append_right _ _))) (by omega) (by omega)
      · skip
        refine TC.exit ?_
        refine TQ.thenE ?_
        refine TQ.thenE ?_
        refine TQ.blkS ?_
        refine TQ.thenC ?_
        refine TC.seq ?_
        obtain rfl : u = gs.length := by omega
        have hf9 := fl_at (bs := x.2.1) (show k.1 < gs.length by omega)
        obtain ⟨q2, hq2p, hq2⟩ := hx k.1 (by omega)
        refine TC.region ?_
        refine TL.pure (PV.move rfl) rfl (by decide) ?_
        refine TL.pure (PV.move rfl) rfl (by decide) ?_
        refine TL.pure (PV.indexG (j := k.1) rfl rfl hx9.fl Tb.elm_71 rfl (by omega)) rfl (by decide) ?_
        refine TL.pure (PV.loadGO (y := (x.2.2.1, (flB gs.length x.2.1))) (j := k.1) (v := inB x.2.1 k.1) rfl Tb.one_4 (fun yy hyy => by repeat (first | exact List.mem_append_left _ hyy | exact List.mem_append_left _ (List.mem_append_right _ hyy) | exact List.mem_append_left _ (List.mem_append_left _ hyy) | refine List.mem_append_right _ ?_ | refine List.Mem.tail _ ?_)) (go_lenO hx9.fl (fl_len _ _)) (by show k.1 < (flB gs.length x.2.1).length; rw [fl_len]; omega) hf9) rfl (by decide) ?_
        refine TL.pure ((by first | exact PV.notD rfl | exact PV.not rfl)) rfl (by decide) ?_
        refine TL.pure (PV.move rfl) rfl (by decide) ?_
        first | refine TL.splitD 51 rfl (fun g1 => ?_) (fun g1 => ?_) | refine TL.split 51 rfl (fun g1 => ?_) (fun g1 => ?_)
        · skip
          refine TL.pure (PV.move rfl) rfl (by decide) ?_
          refine TL.pure (PV.move rfl) rfl (by decide) ?_
          refine TL.pure (PV.indexA rfl hq2p rfl Tb.elm_23 rfl (by omega)) rfl (by decide) ?_
          refine TL.pure (PV.loadOld rfl Tb.one_3 hq2) rfl (by decide) ?_
          refine TL.pure (PV.move rfl) rfl (by decide) ?_
          refine TL.pure (PV.geq rfl rfl) rfl (by decide) ?_
          refine TL.pure (PV.pickT rfl rfl) rfl (by decide) ?_
          refine TL.nil ?_
          refine TQ.thenC ?_
          first | refine TC.condD rfl (fun hb => ?_) (fun hb => ?_) | refine TC.cond rfl (fun hb => ?_) (fun hb => ?_)
          · skip
            refine TC.seq ?_
            refine TC.region ?_
            refine TL.pure (PV.move rfl) rfl (by decide) ?_
            refine TL.pure (PV.move rfl) rfl (by decide) ?_
            refine TL.pure (PV.indexG (j := k.1) rfl rfl ho8 Tb.elm_71 rfl (by omega)) rfl (by decide) ?_
            refine TL.put1 (h := h8) (len := gs.length) (ys := bval (nwK ls gs xs x.2.1 k.1)) (ys' := bval (nwK ls gs xs x.2.1 (k.1 + 1))) (j := k.1) (v := .bool true) rfl rfl Tb.cells_4 rfl (go_lenB ho8 (nw_len _ _ _ _ _)) (nw_put (rd_yes (by simpa [inB] using g1) hb)) (by repeat (first | exact PutH.here _ _ _ _ | apply PutH.tail | apply PutH.app)) (by omega) rfl rfl ?_
            refine TL.nil ?_
            refine TQ.thenC ?_
            refine TC.seq ?_
            refine TC.region ?_
            refine TL.pure (PV.assign rfl) rfl (by decide) ?_
            refine TL.nil ?_
            refine TQ.thenC ?_
            refine TC.region ?_
            refine TL.pure (PV.move rfl) rfl (by decide) ?_
            refine TL.pure (PV.move rfl) rfl (by decide) ?_
            refine TL.buildSlice (cs := #[.int .i64 k.1]) rfl Tb.sl_23 Tb.zi_3 (by decide) (fill_i _) (by decide) rfl (by decide) (fun bE hbE => ?_)
            refine TL.appendI (x0 := (k.2.1, k.2.2.1)) rfl rfl (by repeat (first | exact List.Mem.head _ | refine List.Mem.tail _ ?_ | refine List.mem_append_right _ ?_)) hk.ok (by repeat (first | exact TakeH.here _ _ _ _ | apply TakeH.tail | apply TakeH.app)) (by show k.2.2.1.length ≤ 1000000; omega) rfl (by decide) (fun hh hho => ?_)
            let nx : Nat × HD × List Int × Bool := (k.1 + 1, hh, k.2.2.1 ++ [(k.1 : Int)], true)
            have hn1 : nx.1 = k.1 + 1 := rfl
            have hnx : FiI ls gs xs x.2.1 nx.1 nx.2 := hk.step (by omega) (rd_yes (by simpa [inB] using g1) hb) hho
            refine TL.perm (G' := gblk h8 4 (bval (nwK ls gs xs x.2.1 (k.1 + 1))) ++ (gblk x.2.2.1 4 (bval (flB gs.length x.2.1)) ++ (gbI (hh, k.2.2.1 ++ [(k.1 : Int)]) ++ ((bE, Obj.cells #[.int .i64 k.1] 3 (0, 0)) :: [(b0, Obj.cells #[.slice p ls.length cp, .slice q gs.length cq] 25 (0, 0))])))) (perm_out _ _ _ _ _) ?_
            refine TL.pure (PV.assign rfl) rfl (by decide) ?_
            refine TL.nil ?_
            refine TQ.blkN ?_
            refine TQ.thenC ?_
            refine TC.region ?_
            refine TL.pure (PV.move rfl) rfl (by decide) ?_
            refine TL.pure (PV.add rfl rfl (by omega)) rfl (by decide) ?_
            refine TL.pure (PV.assign rfl) rfl (by decide) ?_
            refine TL.nil ?_
            refine TQ.thenN ?_
            refine TQ.backK nx (by repeat (first | exact True.intro | refine And.intro rfl ?_)) (by repeat (first | exact True.intro | refine And.intro rfl ?_)) (by first | exact List.Sublist.refl _ | (rw [hnw]; exact List.Sublist.refl _) | exact List.Sublist.append_left (List.Sublist.append_left (List.Sublist.append_left (List.Sublist.cons _ (List.Sublist.refl _)) _) _) _) hnx (by omega)
          · skip
            let nx : Nat × HD × List Int × Bool := (k.1 + 1, k.2)
            have hn1 : nx.1 = k.1 + 1 := rfl
            have hrf := rd_low (ls := ls) (gs := gs) (xs := xs) (bs := x.2.1) (i := k.1) hb
            have hnx : FiI ls gs xs x.2.1 nx.1 nx.2 := hk.skip (by omega) hrf
            have hnw := nw_skip hrf
            refine TC.skip ?_
            refine TQ.blkN ?_
            refine TQ.thenC ?_
            refine TC.region ?_
            refine TL.pure (PV.move rfl) rfl (by decide) ?_
            refine TL.pure (PV.add rfl rfl (by omega)) rfl (by decide) ?_
            refine TL.pure (PV.assign rfl) rfl (by decide) ?_
            refine TL.nil ?_
            refine TQ.thenN ?_
            refine TQ.backK nx (by repeat (first | exact True.intro | refine And.intro rfl ?_)) (by repeat (first | exact True.intro | refine And.intro rfl ?_)) (by first | exact List.Sublist.refl _ | (rw [hnw]; exact List.Sublist.refl _) | exact List.Sublist.append_left (List.Sublist.append_left (List.Sublist.append_left (List.Sublist.cons _ (List.Sublist.refl _)) _) _) _) hnx (by omega)
        · skip
          refine TL.skip rfl (fun k hk => by cases hk; decide) ?_
          refine TL.skip rfl (fun k hk => by cases hk; decide) ?_
          refine TL.skip rfl (fun k hk => by cases hk; decide) ?_
          refine TL.skip rfl (fun k hk => by cases hk; decide) ?_
          refine TL.skip rfl (fun k hk => by cases hk; decide) ?_
          refine TL.skip rfl (fun k hk => by cases hk; decide) ?_
          refine TL.pure (PV.pickF rfl rfl) rfl (by decide) ?_
          refine TL.nil ?_
          refine TQ.thenC ?_
          refine TC.condF rfl ?_
          let nx : Nat × HD × List Int × Bool := (k.1 + 1, k.2)
          have hn1 : nx.1 = k.1 + 1 := rfl
          have hrf : rdB ls gs xs x.2.1 k.1 = false := rd_in (by simpa [inB] using g1)
          have hnx : FiI ls gs xs x.2.1 nx.1 nx.2 := hk.skip (by omega) hrf
          have hnw := nw_skip hrf
          refine TC.skip ?_
          refine TQ.blkN ?_
          refine TQ.thenC ?_
          refine TC.region ?_
          refine TL.pure (PV.move rfl) rfl (by decide) ?_
          refine TL.pure (PV.add rfl rfl (by omega)) rfl (by decide) ?_
          refine TL.pure (PV.assign rfl) rfl (by decide) ?_
          refine TL.nil ?_
          refine TQ.thenN ?_
          refine TQ.backK nx (by repeat (first | exact True.intro | refine And.intro rfl ?_)) (by repeat (first | exact True.intro | refine And.intro rfl ?_)) (by first | exact List.Sublist.refl _ | (rw [hnw]; exact List.Sublist.refl _) | exact List.Sublist.append_left (List.Sublist.append_left (List.Sublist.append_left (List.Sublist.cons _ (List.Sublist.refl _)) _) _) _) hnx (by omega)
    · skip
      refine TC.exit ?_
      refine TQ.thenE ?_
      refine TQ.thenE ?_
      refine TQ.blkS ?_
      refine TQ.thenC ?_
      have hke : k.1 = gs.length := by omega
      have h8e : k.2.2.1 = x.2.1 ++ rdL ls gs xs x.2.1 := by have h9 := hk.eq; rw [hke] at h9; exact h9
      have hfe : (nwK ls gs xs x.2.1 k.1) = flB gs.length k.2.2.1 := by rw [nw_end hke, hk.eq]
      have ho8n : gok h8 gs.length 1 (bval (nwK ls gs xs x.2.1 k.1)) := go_lenB ho8 (nw_len _ _ _ _ _)
      have hrd : k.2.2.2 = false → rdL ls gs xs k.2.2.1 = [] := fun h => by have h7 := hk.more h; have h6 := hk.eq; rw [h7, List.append_nil] at h6; rw [hke] at h7; rw [h6]; exact h7
      refine TC.region ?_
      refine TL.pure (PV.move rfl) rfl (by decide) ?_
      refine TL.pure (PV.assign rfl) rfl (by decide) ?_
      refine TL.nil ?_
      refine TQ.blkN ?_
      refine TQ.thenN ?_
      refine TQ.backK (k.2.1, k.2.2.1, h8, k.2.2.2) (by repeat (first | exact True.intro | refine And.intro rfl ?_)) (by repeat (first | exact True.intro | refine And.intro rfl ?_)) (by rw [← hfe]; exact List.Sublist.append_left (List.sublist_append_right _ _) _) ⟨by have h7 := hx9.br.step; rw [← h8e] at h7; exact h7, hk.ok, by rw [hfe] at ho8n; exact ho8n, fun h => hrd h⟩ (by show 2 * (gs.length - k.2.2.1.length) + (if k.2.2.2 = true then 1 else 0) < 2 * (gs.length - x.2.1.length) + (if x.2.2.2 = true then 1 else 0); rw [if_pos hmore]; exact fo_meas (by rw [h8e]; exact hx9.br.step.goo.le) (fun h => by have h7 := hk.more h; have h6 := hk.eq; rw [h7, List.append_nil] at h6; rw [h6]) (fun h => by have h7 := hk.more2 h; rw [hk.eq, List.length_append]; have := List.length_pos_iff.2 h7; omega))
  · skip
    refine TC.exit ?_
    refine TQ.thenE ?_
    refine TQ.thenE ?_
    refine TQ.blkS ?_
    refine TQ.thenC ?_
    refine TC.seq ?_
    refine TC.region ?_
    refine TL.pure (PV.move rfl) rfl (by decide) ?_
    refine TL.pure (PV.assign rfl) rfl (by decide) ?_
    refine TL.nil ?_
    refine TQ.thenC ?_
    refine TC.ret ?_
    refine TQ.retE1 rfl rfl ?_
    exact ⟨(x.1, x.2.1), rfl, ⟨⟨hx9.br, hx9.more (by simpa using hmore)⟩, hx9.ok⟩, List.Sublist.trans (List.sublist_append_left _ _) (List.sublist_append_right _ _)⟩

set_option maxRecDepth 100000 in
set_option maxHeartbeats 1000000 in
theorem rlasts_ok (w0 : World) (p : Option Addr) (cp : Nat) (ls : List (List Int)) (hr : LsAt w0 p ls) (q : Option Addr) (cq : Nat) (gs : List Int) (hg : IntsAt w0 q gs) (hB : HB ls gs) (pl : Option Addr) (cl : Nat) (xs : List Int) (hx : IntsAt w0 pl xs) (N : Nat) (hN : xs.length = N) (hn : xs.length = gs.length) (hx0 : ∀ k, 0 ≤ xs.getD k 0 ∧ xs.getD k 0 ≤ 30) :
    Calls Try.prog 85 #[hv p ls.length cp q gs.length cq, .slice pl N cl] w0 (Post (X := Bool) (fun b => .bool b) (fun b => b = true ↔ Lst gs.length (lk ls) (gd gs) (gd xs)) (fun _ => []) w0) := by
  refine calls Try.func85 rfl (n := 17) rfl (by simp) ?_
  refine TC.seq ?_
  refine TC.region ?_
  refine TL.box rfl rfl (by decide) (fun b0 hb0 => ?_)
  refine TL.pure (PV.assign rfl) rfl (by decide) ?_
  refine TL.nil ?_
  refine TQ.thenC ?_
  refine TC.seq ?_
  refine TC.region ?_
  refine TL.pure (PV.loadBox rfl Tb.agg_25 (by repeat (first | exact List.Mem.head _ | refine List.Mem.tail _ ?_ | refine List.mem_append_right _ ?_)) rfl) rfl (by decide) ?_
  refine TL.pure (PV.move rfl) rfl (by decide) ?_
  refine TL.call rfl Tb.gofn_70 (fun a w hs => calm_ok w _ _ _ (hr.new hs.new) _ _ _ (hg.new hs.new) hB _ _ _ (hx.new hs.new) _ hN hn) rfl (by decide) (fun _ _ => ?_)
  refine TL.pure (PV.move rfl) rfl (by decide) ?_
  first | refine TL.splitD 8 rfl (fun g1 => ?_) (fun g1 => ?_) | refine TL.split 8 rfl (fun g1 => ?_) (fun g1 => ?_)
  · skip
    refine TL.pure (PV.loadBox rfl Tb.agg_25 (by repeat (first | exact List.Mem.head _ | refine List.Mem.tail _ ?_ | refine List.mem_append_right _ ?_)) rfl) rfl (by decide) ?_
    refine TL.pure (PV.move rfl) rfl (by decide) ?_
    refine TL.call rfl Tb.gofn_87 (fun a w hs => rburn_ok w _ _ _ (hr.new hs.new) _ _ _ (hg.new hs.new) hB _ _ _ (hx.new hs.new) _ hN hn hx0) rfl (by decide) (fun y9 hy9 => ?_)
    refine TL.pure (PV.lenG rfl hy9.2 Tb.sl_23) rfl (by decide) ?_
    refine TL.pure (PV.move rfl) rfl (by decide) ?_
    refine TL.pure (PV.len rfl Tb.sl_23) rfl (by decide) ?_
    refine TL.pure (PV.eql rfl rfl) rfl (by decide) ?_
    refine TL.pure (PV.pickT rfl rfl) rfl (by decide) ?_
    refine TL.pure (PV.assign rfl) rfl (by decide) ?_
    refine TL.nil ?_
    refine TQ.thenC ?_
    refine TC.ret ?_
    refine TQ.retE1 rfl rfl ?_
    first | exact ⟨_, rfl, by rw [decide_eq_true_eq, ← lst_iff hB hn (fun k => (hx0 k).1) hy9.1 g1]; omega, List.nil_sublist _⟩ | exact ⟨false, rfl, ⟨fun h => (by cases h), fun h => by rw [lst_calm hn h] at g1; exact absurd g1 (by decide)⟩, List.nil_sublist _⟩
  · skip
    refine TL.skip rfl (fun k hk => by cases hk; decide) ?_
    refine TL.skip rfl (fun k hk => by cases hk; decide) ?_
    refine TL.skip rfl (fun k hk => by cases hk; decide) ?_
    refine TL.skip rfl (fun k hk => by cases hk; decide) ?_
    refine TL.skip rfl (fun k hk => by cases hk; decide) ?_
    refine TL.skip rfl (fun k hk => by cases hk; decide) ?_
    refine TL.skip rfl (fun k hk => by cases hk; decide) ?_
    refine TL.pure (PV.pickF rfl rfl) rfl (by decide) ?_
    refine TL.pure (PV.assign rfl) rfl (by decide) ?_
    refine TL.nil ?_
    refine TQ.thenC ?_
    refine TC.ret ?_
    refine TQ.retE1 rfl rfl ?_
    first | exact ⟨_, rfl, by rw [decide_eq_true_eq, ← lst_iff hB hn (fun k => (hx0 k).1) hy9.1 g1]; omega, List.nil_sublist _⟩ | exact ⟨false, rfl, ⟨fun h => (by cases h), fun h => by rw [lst_calm hn h] at g1; exact absurd g1 (by decide)⟩, List.nil_sublist _⟩

set_option maxRecDepth 100000 in
theorem rLasts_ok (w0 : World) (p : Option Addr) (cp : Nat) (ls : List (List Int)) (hr : LsAt w0 p ls) (q : Option Addr) (cq : Nat) (gs : List Int) (hg : IntsAt w0 q gs) (hlo : ∀ k, (ls.getD k []).length ≤ 1000000) (pl : Option Addr) (cl : Nat) (xs : List Int) (hx : IntsAt w0 pl xs) (hxo : xs.length ≤ 1000000) :
    Calls Try.prog 42 #[hv p ls.length cp q gs.length cq, .slice pl xs.length cl] w0 (Post (X := Bool) (fun b => .tuple #[.bool b, .int .i64 (givI ls gs [xs])]) (fun b => LtP ls gs xs b) (fun _ => []) w0) := by
  refine calls Try.func42 rfl (n := 17) rfl (by simp) ?_
  refine TC.seq ?_
  refine TC.region ?_
  refine TL.box rfl rfl (by decide) (fun b0 hb0 => ?_)
  refine TL.pure (PV.assign rfl) rfl (by decide) ?_
  refine TL.pure (PV.assign rfl) rfl (by decide) ?_
  refine TL.nil ?_
  refine TQ.thenC ?_
  refine TC.seq ?_
  refine TC.region ?_
  refine TL.pure (PV.loadBox rfl Tb.agg_25 (by repeat (first | exact List.Mem.head _ | refine List.Mem.tail _ ?_ | refine List.mem_append_right _ ?_)) rfl) rfl (by decide) ?_
  refine TL.pure (PV.move rfl) rfl (by decide) ?_
  refine TL.buildSlice (cs := #[.slice pl xs.length cl]) rfl Tb.sl_22 Tb.zi_23 (by decide) (fill_o _ _ _) (by decide) rfl (by decide) (fun bS hbS => ?_)
  refine TL.call rfl Tb.gofn_69 (fun a w hs => given_ok w _ _ _ (hr.new hs.new) _ _ _ (hg.new hs.new) hlo _ 1 [xs] (LsAt.one hs.new (by repeat (first | exact List.Mem.head _ | refine List.Mem.tail _ ?_ | refine List.mem_append_right _ ?_)) (hx.new hs.new)) (by simp) (one_len hxo)) rfl (by decide) (fun _ _ => ?_)
  refine TL.pure (PV.assign rfl) rfl (by decide) ?_
  refine TL.nil ?_
  refine TQ.thenC ?_
  refine TC.seq ?_
  refine TC.seq ?_
  refine TC.region ?_
  refine TL.pure (PV.move rfl) rfl (by decide) ?_
  refine TL.pure (PV.neq rfl rfl) rfl (by decide) ?_
  refine TL.nil ?_
  refine TQ.thenC ?_
  first | refine TC.condD rfl (fun hbad => ?_) (fun hbad => ?_) | refine TC.cond rfl (fun hbad => ?_) (fun hbad => ?_)
  · skip
    refine TC.seq ?_
    refine TC.region ?_
    refine TL.pure (PV.move rfl) rfl (by decide) ?_
    refine TL.pure (PV.assign rfl) rfl (by decide) ?_
    refine TL.pure (PV.assign rfl) rfl (by decide) ?_
    refine TL.nil ?_
    refine TQ.thenC ?_
    refine TC.ret ?_
    refine TQ.thenR ?_
    refine TQ.retE2 rfl rfl rfl ?_
    exact ⟨false, rfl, ⟨fun _ => rfl, fun h2 => absurd hbad h2⟩, List.nil_sublist _⟩
  · skip
    refine TC.skip ?_
    refine TQ.thenC ?_
    refine TC.seq ?_
    refine TC.region ?_
    refine TL.pure (PV.loadBox rfl Tb.agg_25 (by repeat (first | exact List.Mem.head _ | refine List.Mem.tail _ ?_ | refine List.mem_append_right _ ?_)) rfl) rfl (by decide) ?_
    refine TL.pure (PV.move rfl) rfl (by decide) ?_
    refine TL.call rfl Tb.gofn_85 (fun a w hs => rlasts_ok w _ _ _ (hr.new hs.new) _ _ _ (hg.new hs.new) (giv_hb hbad).1 _ _ _ (hx.new hs.new) _ rfl (giv_ne hbad).1 (giv_ne hbad).2) rfl (by decide) (fun b9 hb9 => ?_)
    refine TL.pure (PV.assign rfl) rfl (by decide) ?_
    refine TL.pure (PV.assign rfl) rfl (by decide) ?_
    refine TL.nil ?_
    refine TQ.thenC ?_
    refine TC.ret ?_
    refine TQ.retE2 rfl rfl rfl ?_
    exact ⟨b9, by rw [Decidable.of_not_not hbad], ⟨fun h2 => absurd h2 hbad, fun _ => hb9⟩, List.nil_sublist _⟩

set_option maxRecDepth 100000 in
theorem rBurn_ok (w0 : World) (p : Option Addr) (cp : Nat) (ls : List (List Int)) (hr : LsAt w0 p ls) (q : Option Addr) (cq : Nat) (gs : List Int) (hg : IntsAt w0 q gs) (hlo : ∀ k, (ls.getD k []).length ≤ 1000000) (pl : Option Addr) (cl : Nat) (xs : List Int) (hx : IntsAt w0 pl xs) (hxo : xs.length ≤ 1000000) :
    Calls Try.prog 44 #[hv p ls.length cp q gs.length cq, .slice pl xs.length cl] w0 (Post (X := HD × List Int) (fun y => .tuple #[gvI y, .int .i64 (givI ls gs [xs])]) (fun y => BuP ls gs xs y.2 ∧ goI y) (fun y => gbI y) w0) := by
  refine calls Try.func44 rfl (n := 17) rfl (by simp) ?_
  refine TC.seq ?_
  refine TC.region ?_
  refine TL.box rfl rfl (by decide) (fun b0 hb0 => ?_)
  refine TL.pure (PV.assign rfl) rfl (by decide) ?_
  refine TL.pure (PV.assign rfl) rfl (by decide) ?_
  refine TL.nil ?_
  refine TQ.thenC ?_
  refine TC.seq ?_
  refine TC.region ?_
  refine TL.pure (PV.loadBox rfl Tb.agg_25 (by repeat (first | exact List.Mem.head _ | refine List.Mem.tail _ ?_ | refine List.mem_append_right _ ?_)) rfl) rfl (by decide) ?_
  refine TL.pure (PV.move rfl) rfl (by decide) ?_
  refine TL.buildSlice (cs := #[.slice pl xs.length cl]) rfl Tb.sl_22 Tb.zi_23 (by decide) (fill_o _ _ _) (by decide) rfl (by decide) (fun bS hbS => ?_)
  refine TL.call rfl Tb.gofn_69 (fun a w hs => given_ok w _ _ _ (hr.new hs.new) _ _ _ (hg.new hs.new) hlo _ 1 [xs] (LsAt.one hs.new (by repeat (first | exact List.Mem.head _ | refine List.Mem.tail _ ?_ | refine List.mem_append_right _ ?_)) (hx.new hs.new)) (by simp) (one_len hxo)) rfl (by decide) (fun _ _ => ?_)
  refine TL.pure (PV.assign rfl) rfl (by decide) ?_
  refine TL.nil ?_
  refine TQ.thenC ?_
  refine TC.seq ?_
  refine TC.seq ?_
  refine TC.region ?_
  refine TL.pure (PV.move rfl) rfl (by decide) ?_
  refine TL.pure (PV.neq rfl rfl) rfl (by decide) ?_
  refine TL.nil ?_
  refine TQ.thenC ?_
  first | refine TC.condD rfl (fun hbad => ?_) (fun hbad => ?_) | refine TC.cond rfl (fun hbad => ?_) (fun hbad => ?_)
  · skip
    refine TC.seq ?_
    refine TC.region ?_
    refine TL.pure (PV.move rfl) rfl (by decide) ?_
    refine TL.pure (PV.assign rfl) rfl (by decide) ?_
    refine TL.pure (PV.assign rfl) rfl (by decide) ?_
    refine TL.nil ?_
    refine TQ.thenC ?_
    refine TC.ret ?_
    refine TQ.thenR ?_
    refine TQ.retE2 rfl rfl rfl ?_
    exact ⟨(none, []), rfl, ⟨⟨fun _ => rfl, fun h2 => absurd hbad h2⟩, goI_nil⟩, List.nil_sublist _⟩
  · skip
    refine TC.skip ?_
    refine TQ.thenC ?_
    refine TC.seq ?_
    refine TC.region ?_
    refine TL.pure (PV.loadBox rfl Tb.agg_25 (by repeat (first | exact List.Mem.head _ | refine List.Mem.tail _ ?_ | refine List.mem_append_right _ ?_)) rfl) rfl (by decide) ?_
    refine TL.pure (PV.move rfl) rfl (by decide) ?_
    refine TL.call rfl Tb.gofn_87 (fun a w hs => rburn_ok w _ _ _ (hr.new hs.new) _ _ _ (hg.new hs.new) (giv_hb hbad).1 _ _ _ (hx.new hs.new) _ rfl (giv_ne hbad).1 (giv_ne hbad).2) rfl (by decide) (fun y9 hy9 => ?_)
    refine TL.pure (PV.assign rfl) rfl (by decide) ?_
    refine TL.pure (PV.assign rfl) rfl (by decide) ?_
    refine TL.nil ?_
    refine TQ.thenC ?_
    refine TC.ret ?_
    refine TQ.retE2 rfl rfl rfl ?_
    exact ⟨y9, by rw [Decidable.of_not_not hbad], ⟨⟨fun h2 => absurd h2 hbad, fun _ => hy9.1⟩, hy9.2⟩, List.sublist_append_left _ _⟩

end Go.Proofs.Ytgafpkcnhpoobaa
