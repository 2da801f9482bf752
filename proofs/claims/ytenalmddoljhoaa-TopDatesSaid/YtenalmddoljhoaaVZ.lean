/- The tightest bounds, and the sums of bounds: contracts. -/
import Derived.Test.YtenalmddoljhoaaVY
set_option linter.unusedVariables false
set_option linter.unusedSimpArgs false
namespace Go.Proofs.Ytenalmddoljhoaa
open Go.Sx Go.RowKit

theorem TC.perm {P : Program} {n : Nat} {w0 : World} {c : Code} {Q : Exit → Act → World → Prop} {E : Env} {G D : Heap} (hp : List.Perm D G) (h : TC P n w0 c Q E D) : TC P n w0 c Q E G := fun a w hs => h a w (hs.world (hs.new.perm hp))
theorem TL.appendBL {P : Program} {n : Nat} {w0 : World} {E : Env} {G : Heap} {d : Nat} {ty : TypeId} {pos : String} {aft : Array Edge} {g : Option (Nat × Bool)} {ops : Array Oper} {Q : Exit → Act → World → Prop} {l : List Oper} {t e by_ : Nat} {z : Value} {s x : Operand} {h0 : HD} {ys : List Bd} {b : Nat} {r : Bd} {R : Heap} (ht : P.underlying t = some (.slice e)) (hz : zeroI P e = some (z, 3, by_)) (hzs : z.cells.size = 3) (hby : by_ = 24)
    (hsv : evo E s = some (gval h0 ys.length)) (hx : evo E x = some (.slice (some ⟨b, 0, none⟩) 1 1)) (hm : (b, Obj.cells r.cells.toArray e (0, 0)) ∈ G)
    (hok : goB h0 ys) (hT : TakeH h0 e (bdc ys) G R) (hb : ys.length ≤ 1000000) (hg : wants ops E g = some true) (hd : d < n)
    (h : ∀ h', goB h' (ys ++ [r]) → TL P n w0 ops Q l ((d, gval h' (ys ++ [r]).length) :: E) (gbB e h' (ys ++ [r]) ++ R)) :
    TL P n w0 ops Q (⟨some d, .call { callee := .builtin .append, args := #[s, x], argTypes := #[t, t] }, ty, pos, aft, g⟩ :: l) E G :=
  TL.appendBd ht hz hzs hby hsv hx hm rfl hok hT hb hg hd (fun h' ho => by
    have h9 := h h' ho
    rw [List.length_append] at h9
    exact h9)
def tight (l : List Bd) : List Bd := dedB (srtB l)
theorem srt_len (l : List Bd) : (srtB l).length = l.length := (srtB_perm l).length_eq
def addB (r s : Bd) : Bd := ⟨r.a, s.b, r.m + s.m⟩
def goesB (r s : Bd) : Bool := decide (r.b = s.a ∧ r.a ≠ s.b)
def sumG (r : Bd) : List Bd → List Bd
  | [] => []
  | s :: l => if goesB r s = true then addB r s :: sumG r l else sumG r l
def sumsB (l1 l2 : List Bd) : List Bd := l1.flatMap fun r => sumG r l2
theorem sumG_app (r : Bd) : ∀ l m, sumG r (l ++ m) = sumG r l ++ sumG r m
  | [], m => rfl
  | s :: l, m => by
    simp only [List.cons_append, sumG]
    split
    · rw [sumG_app r l m, List.cons_append]
    · exact sumG_app r l m
theorem sumG_len (r : Bd) : ∀ l, (sumG r l).length ≤ l.length
  | [] => Nat.le_refl _
  | s :: l => by
    have := sumG_len r l
    unfold sumG
    split <;> simp only [List.length_cons] <;> omega
theorem sumG_yes {r : Bd} {l : List Bd} {k : Nat} (hk : k < l.length) (h : goesB r (l.getD k default) = true) : sumG r (l.take (k + 1)) = sumG r (l.take k) ++ [addB r (l.getD k default)] := by
  have e : l.getD k default = l[k] := by simp [List.getD, hk]
  rw [List.take_succ_eq_append_getElem hk, sumG_app, ← e]
  simp only [sumG, if_pos h]
theorem sumG_no {r : Bd} {l : List Bd} {k : Nat} (hk : k < l.length) (h : ¬ goesB r (l.getD k default) = true) : sumG r (l.take (k + 1)) = sumG r (l.take k) := by
  have e : l.getD k default = l[k] := by simp [List.getD, hk]
  rw [List.take_succ_eq_append_getElem hk, sumG_app, ← e]
  simp only [sumG, if_neg h, List.append_nil]
def partO (l1 l2 : List Bd) (i : Nat) : List Bd := (l1.take i).flatMap fun r => sumG r l2
theorem partO_succ {l1 l2 : List Bd} {i : Nat} (hi : i < l1.length) : partO l1 l2 (i + 1) = partO l1 l2 i ++ sumG (l1.getD i default) l2 := by
  have e : l1.getD i default = l1[i] := by simp [List.getD, hi]
  unfold partO
  rw [List.take_succ_eq_append_getElem hi, List.flatMap_append, e]
  simp
theorem partO_len (l1 l2 : List Bd) : ∀ i, i ≤ l1.length → (partO l1 l2 i).length ≤ i * l2.length
  | 0, _ => by simp [partO]
  | i + 1, hi => by
    have h1 := partO_len l1 l2 i (by omega)
    have h2 := sumG_len (l1.getD i default) l2
    rw [partO_succ (by omega), List.length_append, Nat.add_mul]
    omega
theorem partO_all (l1 l2 : List Bd) : partO l1 l2 l1.length = sumsB l1 l2 := by
  unfold partO sumsB
  rw [List.take_length]
theorem sums_room {L1 L2 i j : Nat} (hi : i < L1) (hj : j ≤ L2) (h : L1 * L2 ≤ 1000000) : i * L2 + j ≤ 1000000 := by
  have h1 : (i + 1) * L2 ≤ L1 * L2 := Nat.mul_le_mul_right _ hi
  rw [Nat.add_mul] at h1
  omega
structure SS (l1 l2 : List Bd) (i j : Nat) (x : HD × List Bd) : Prop where
  le : j ≤ l2.length
  eq : x.2 = partO l1 l2 i ++ sumG (l1.getD i default) (l2.take j)
  ok : goB x.1 x.2
structure SO (l1 l2 : List Bd) (i : Nat) (x : HD × List Bd) : Prop where
  le : i ≤ l1.length
  eq : x.2 = partO l1 l2 i
  ok : goB x.1 x.2
theorem SO.zero (l1 l2 : List Bd) : SO l1 l2 0 (none, []) := ⟨Nat.zero_le _, rfl, ⟨rfl, rfl⟩⟩
theorem SO.start {l1 l2 : List Bd} {i : Nat} {x : HD × List Bd} (h : SO l1 l2 i x) : SS l1 l2 i 0 x := ⟨Nat.zero_le _, by rw [h.eq]; simp [sumG], h.ok⟩
theorem SS.len {l1 l2 : List Bd} {i j : Nat} {x : HD × List Bd} (h : SS l1 l2 i j x) (hi : i < l1.length) (hl : l1.length * l2.length ≤ 1000000) : x.2.length ≤ 1000000 := by
  have h1 := partO_len l1 l2 i (by omega)
  have h2 := sumG_len (l1.getD i default) (l2.take j)
  have h3 := h.le
  rw [List.length_take, Nat.min_eq_left h3] at h2
  rw [h.eq, List.length_append]
  have := sums_room hi h3 hl
  omega
theorem SS.put {l1 l2 : List Bd} {i j : Nat} {x : HD × List Bd} {h' : HD} (h : SS l1 l2 i j x) (hj : j < l2.length) (hg : goesB (l1.getD i default) (l2.getD j default) = true)
    (ho : goB h' (x.2 ++ [addB (l1.getD i default) (l2.getD j default)])) : SS l1 l2 i (j + 1) (h', x.2 ++ [addB (l1.getD i default) (l2.getD j default)]) :=
  ⟨hj, by show x.2 ++ _ = _; rw [h.eq, sumG_yes hj hg, List.append_assoc], ho⟩
theorem SS.skip {l1 l2 : List Bd} {i j : Nat} {x : HD × List Bd} (h : SS l1 l2 i j x) (hj : j < l2.length) (hg : ¬ goesB (l1.getD i default) (l2.getD j default) = true) : SS l1 l2 i (j + 1) x :=
  ⟨hj, by rw [h.eq, sumG_no hj hg], h.ok⟩
theorem SS.fin {l1 l2 : List Bd} {i j : Nat} {x : HD × List Bd} (h : SS l1 l2 i j x) (hi : i < l1.length) (hj : ¬ j < l2.length) : SO l1 l2 (i + 1) x := by
  have := h.le
  exact ⟨hi, by rw [h.eq, partO_succ hi, show j = l2.length by omega, List.take_length], h.ok⟩
theorem SO.fin {l1 l2 : List Bd} {i : Nat} {x : HD × List Bd} (h : SO l1 l2 i x) (hi : ¬ i < l1.length) : x.2 = sumsB l1 l2 := by
  have := h.le
  rw [h.eq, show i = l1.length by omega, partO_all]


set_option maxRecDepth 100000 in
theorem tight_ok {w0 w : World} {b cap K : Nat} {l : List Bd} {sp : List Value} {R : Heap} (hn : New w0 w ((b, .cells (bdc l ++ sp).toArray 88 (0, 0)) :: R)) (hK : l.length = K) (hgo : goB (some (b, cap, sp)) l) (hl : K ≤ 100000) :
    Calls Try.prog 91 #[.slice (some ⟨b, 0, none⟩) K cap] w (Post (X := List Value) (fun _ => .slice (some ⟨b, 0, none⟩) (tight l).length cap) (fun s => goB (some (b, cap, s)) (tight l)) (fun s => (b, .cells (bdc (tight l) ++ s).toArray 88 (0, 0)) :: R) w0) := by
  refine callsM hn Try.func91 rfl (n := 7) rfl (by simp) ?_
  refine TC.seq ?_
  refine TC.region ?_
  refine TL.pure (PV.assign rfl) rfl (by decide) ?_
  refine TL.nil ?_
  refine TQ.thenC ?_
  refine TC.seq ?_
  refine TC.region ?_
  refine TL.pure (PV.move rfl) rfl (by decide) ?_
  refine TL.callW (X := Unit) (fun _ => .tuple #[]) (fun _ => True) (fun _ => (b, Obj.cells (bdc (srtB l) ++ sp).toArray 88 (0, 0)) :: R) rfl Tb.gofn_95 (fun a w hs => sort_ok hs.new hK hl) rfl (by decide) (fun _ _ => ?_)
  refine TL.nil ?_
  refine TQ.thenC ?_
  refine TC.seq ?_
  refine TC.region ?_
  refine TL.pure (PV.move rfl) rfl (by decide) ?_
  refine TL.callW (X := List Value) (fun _ => .slice (some ⟨b, 0, none⟩) (tight l).length cap) (fun s => goB (some (b, cap, s)) (tight l)) (fun s => (b, .cells (bdc (tight l) ++ s).toArray 88 (0, 0)) :: R) rfl Tb.gofn_97 (fun a w hs => compact_ok hs.new ((srt_len l).trans hK) (goB_len hgo (srt_len l)) hl) rfl (by decide) (fun s9 hs9 => ?_)
  refine TL.pure (PV.assign rfl) rfl (by decide) ?_
  refine TL.nil ?_
  refine TQ.thenC ?_
  refine TC.ret ?_
  refine TQ.retE1 rfl rfl ?_
  exact ⟨s9, rfl, hs9, List.Sublist.refl _⟩

set_option maxRecDepth 100000 in
set_option maxHeartbeats 2000000 in
theorem sums_ok (w0 : World) (p q : Option Addr) (c1 c2 : Nat) (l1 l2 : List Bd) (h1 : BdsAt w0 p l1) (h2 : BdsAt w0 q l2) (hm1 : ∀ r ∈ l1, -1000000000 ≤ r.m ∧ r.m ≤ 1000000000) (hm2 : ∀ r ∈ l2, -1000000000 ≤ r.m ∧ r.m ≤ 1000000000) (hl : l1.length * l2.length ≤ 1000000) (hl1 : l1.length ≤ 1000000) (hl2 : l2.length ≤ 1000000) :
    Calls Try.prog 93 #[.slice p l1.length c1, .slice q l2.length c2] w0 (Post (X := HD × List Bd) (fun x => gval x.1 x.2.length) (fun x => goB x.1 x.2 ∧ x.2 = sumsB l1 l2) (fun x => gbB 88 x.1 x.2) w0) := by
  refine calls Try.func93 rfl (n := 50) rfl (by simp) ?_
  refine TC.seq ?_
  refine TC.region ?_
  refine TL.pure (PV.assign rfl) rfl (by decide) ?_
  refine TL.nil ?_
  refine TQ.thenC ?_
  refine TC.seq ?_
  refine TC.region ?_
  refine TL.pure (PV.assign rfl) rfl (by decide) ?_
  refine TL.nil ?_
  refine TQ.thenC ?_
  refine TC.seq ?_
  refine TC.seq ?_
  refine TC.region ?_
  refine TL.pure (PV.move rfl) rfl (by decide) ?_
  refine TL.pure (PV.len rfl Tb.sl_74) rfl (by decide) ?_
  refine TL.pure (PV.move rfl) rfl (by decide) ?_
  refine TL.nil ?_
  refine TQ.thenC ?_
  refine TC.block ?_
  refine TC.loopK [1, 4, 10, 11] (X := Nat × HD × List Bd) (fun v => SO l1 l2 v.1 v.2) (fun v => [(12, .int .i64 v.1), (5, gval v.2.1 v.2.2.length)]) (fun v => gbB 88 v.2.1 v.2.2) (fun v => l1.length - v.1) (0, none, []) (SO.zero l1 l2) (by repeat (first | exact True.intro | refine And.intro rfl ?_)) (List.nil_sublist _) ?_
  intro v hv
  refine TC.seq ?_
  refine TC.region ?_
  refine TL.pure (PV.lss rfl rfl) rfl (by decide) ?_
  refine TL.nil ?_
  refine TQ.thenC ?_
  refine TC.seq ?_
  first | refine TC.condD rfl (fun hlt => ?_) (fun hlt => ?_) | refine TC.cond rfl (fun hlt => ?_) (fun hlt => ?_)
  · skip
    refine TC.skip ?_
    refine TQ.thenC ?_
    refine TC.seq ?_
    refine TC.block ?_
    refine TC.seq ?_
    obtain ⟨q1, hq1p, hq1⟩ := h1 v.1 (by omega)
    refine TC.region ?_
    refine TL.pure (PV.indexA rfl hq1p rfl Tb.elm_74 rfl (by omega)) rfl (by decide) ?_
    refine TL.pure (PV.loadAggA rfl Tb.agg_88 rfl hq1) rfl (by decide) ?_
    refine TL.alloc Tb.zero_88 rfl (by decide) (fun b0 hb0 => ?_)
    refine TL.storeAgg rfl rfl Tb.cells_88 (by repeat (first | exact Upd.head _ | apply Upd.tail | apply Upd.appR)) rfl rfl rfl rfl rfl ?_
    refine TL.nil ?_
    refine TQ.thenC ?_
    refine TC.seq ?_
    refine TC.region ?_
    refine TL.pure (PV.move rfl) rfl (by decide) ?_
    refine TL.pure (PV.len rfl Tb.sl_74) rfl (by decide) ?_
    refine TL.pure (PV.move rfl) rfl (by decide) ?_
    refine TL.nil ?_
    refine TQ.thenC ?_
    refine TC.block ?_
    refine TC.perm (D := gbB 88 v.2.1 v.2.2 ++ [(b0, Obj.cells (l1.getD v.1 default).cells.toArray 88 (0, 0))]) (List.perm_append_singleton _ _) ?_
    refine TC.loopK [1, 4, 7, 10, 11, 12, 16, 17] (X := Nat × HD × List Bd) (fun u => SS l1 l2 v.1 u.1 u.2) (fun u => [(18, .int .i64 u.1), (5, gval u.2.1 u.2.2.length)]) (fun u => gbB 88 u.2.1 u.2.2 ++ [(b0, Obj.cells (l1.getD v.1 default).cells.toArray 88 (0, 0))]) (fun u => l2.length - u.1) (0, v.2) (hv.start) (by repeat (first | exact True.intro | refine And.intro rfl ?_)) (List.Sublist.refl _) ?_
    intro u hu
    refine TC.seq ?_
    refine TC.region ?_
    refine TL.pure (PV.lss rfl rfl) rfl (by decide) ?_
    refine TL.nil ?_
    refine TQ.thenC ?_
    refine TC.seq ?_
    first | refine TC.condD rfl (fun hlt2 => ?_) (fun hlt2 => ?_) | refine TC.cond rfl (fun hlt2 => ?_) (fun hlt2 => ?_)
    · skip
      refine TC.skip ?_
      refine TQ.thenC ?_
      refine TC.seq ?_
      refine TC.block ?_
      refine TC.seq ?_
      obtain ⟨q2, hq2p, hq2⟩ := h2 u.1 (by omega)
      have hul := hu.len (by omega) hl
      have m1 := hm1 (l1.getD v.1 default) (bd_mem (by omega))
      have m2 := hm2 (l2.getD u.1 default) (bd_mem (by omega))
      refine TC.region ?_
      refine TL.pure (PV.indexA rfl hq2p rfl Tb.elm_74 rfl (by omega)) rfl (by decide) ?_
      refine TL.pure (PV.loadAggA rfl Tb.agg_88 rfl hq2) rfl (by decide) ?_
      refine TL.alloc Tb.zero_88 rfl (by decide) (fun b1 hb1 => ?_)
      refine TL.storeAgg rfl rfl Tb.cells_88 (by repeat (first | exact Upd.head _ | apply Upd.tail | apply Upd.appR)) rfl rfl rfl rfl rfl ?_
      refine TL.nil ?_
      refine TQ.thenC ?_
      refine TC.seq ?_
      refine TC.region ?_
      refine TL.pure (PV.fieldAddr rfl Tb.fo_88_1) rfl (by decide) ?_
      refine TL.pure (PV.load rfl Tb.one_3 (by repeat (first | exact List.Mem.head _ | refine List.Mem.tail _ ?_ | refine List.mem_append_right _ ?_)) rfl) rfl (by decide) ?_
      refine TL.pure (PV.fieldAddr rfl Tb.fo_88_0) rfl (by decide) ?_
      refine TL.pure (PV.load rfl Tb.one_3 (by repeat (first | exact List.Mem.head _ | refine List.Mem.tail _ ?_ | refine List.mem_append_right _ ?_)) rfl) rfl (by decide) ?_
      refine TL.pure (PV.eql rfl rfl) rfl (by decide) ?_
      refine TL.pure (PV.move rfl) rfl (by decide) ?_
      first | refine TL.splitD 27 rfl (fun e1 => ?_) (fun e1 => ?_) | refine TL.split 27 rfl (fun e1 => ?_) (fun e1 => ?_)
      · skip
        refine TL.pure (PV.fieldAddr rfl Tb.fo_88_0) rfl (by decide) ?_
        refine TL.pure (PV.load rfl Tb.one_3 (by repeat (first | exact List.Mem.head _ | refine List.Mem.tail _ ?_ | refine List.mem_append_right _ ?_)) rfl) rfl (by decide) ?_
        refine TL.pure (PV.fieldAddr rfl Tb.fo_88_1) rfl (by decide) ?_
        refine TL.pure (PV.load rfl Tb.one_3 (by repeat (first | exact List.Mem.head _ | refine List.Mem.tail _ ?_ | refine List.mem_append_right _ ?_)) rfl) rfl (by decide) ?_
        refine TL.pure (PV.neq rfl rfl) rfl (by decide) ?_
        let nx : Nat × HD × List Bd := (u.1 + 1, u.2)
        have hn1 : nx.1 = u.1 + 1 := rfl
        have hnx : ¬ goesB (l1.getD v.1 default) (l2.getD u.1 default) = true → SS l1 l2 v.1 nx.1 nx.2 := fun h => hu.skip (by omega) h
        refine TL.pure (PV.pickT rfl rfl) rfl (by decide) ?_
        refine TL.nil ?_
        refine TQ.thenC ?_
        first | refine TC.condD rfl (fun hgoes => ?_) (fun hgoes => ?_) | refine TC.cond rfl (fun hgoes => ?_) (fun hgoes => ?_)
        · skip
          refine TC.region ?_
          refine TL.pure (PV.move rfl) rfl (by decide) ?_
          refine TL.pure (PV.fieldAddr rfl Tb.fo_88_0) rfl (by decide) ?_
          refine TL.pure (PV.load rfl Tb.one_3 (by repeat (first | exact List.Mem.head _ | refine List.Mem.tail _ ?_ | refine List.mem_append_right _ ?_)) rfl) rfl (by decide) ?_
          refine TL.pure (PV.fieldAddr rfl Tb.fo_88_1) rfl (by decide) ?_
          refine TL.pure (PV.load rfl Tb.one_3 (by repeat (first | exact List.Mem.head _ | refine List.Mem.tail _ ?_ | refine List.mem_append_right _ ?_)) rfl) rfl (by decide) ?_
          refine TL.pure (PV.fieldAddr rfl Tb.fo_88_2) rfl (by decide) ?_
          refine TL.pure (PV.load rfl Tb.one_3 (by repeat (first | exact List.Mem.head _ | refine List.Mem.tail _ ?_ | refine List.mem_append_right _ ?_)) rfl) rfl (by decide) ?_
          refine TL.pure (PV.fieldAddr rfl Tb.fo_88_2) rfl (by decide) ?_
          refine TL.pure (PV.load rfl Tb.one_3 (by repeat (first | exact List.Mem.head _ | refine List.Mem.tail _ ?_ | refine List.mem_append_right _ ?_)) rfl) rfl (by decide) ?_
          refine TL.pure (PV.add rfl rfl (by omega)) rfl (by decide) ?_
          refine TL.pure (PV.build (cs := (addB (l1.getD v.1 default) (l2.getD u.1 default)).cells.toArray) rfl Tb.zero_88 Tb.pl_88 rfl) rfl (by decide) ?_
          refine TL.buildSlice (cs := (addB (l1.getD v.1 default) (l2.getD u.1 default)).cells.toArray) rfl Tb.sl_74 Tb.zi_88 (by decide) (fill_bd (addB (l1.getD v.1 default) (l2.getD u.1 default))) (by simp) rfl (by decide) (fun b5 hb5 => ?_)
          refine TL.appendBL (h0 := u.2.1) (ys := u.2.2) (r := addB (l1.getD v.1 default) (l2.getD u.1 default)) Tb.sl_74 Tb.zi_88 rfl rfl rfl rfl (by repeat (first | exact List.Mem.head _ | refine List.Mem.tail _ ?_ | refine List.mem_append_right _ ?_)) hu.ok (by repeat (first | exact TakeH.here _ _ _ _ | apply TakeH.tail | apply TakeH.app)) hul rfl (by decide) (fun h9 ho9 => ?_)
          let nx : Nat × HD × List Bd := (u.1 + 1, h9, u.2.2 ++ [addB (l1.getD v.1 default) (l2.getD u.1 default)])
          have hn1 : nx.1 = u.1 + 1 := rfl
          have hnx : SS l1 l2 v.1 nx.1 nx.2 := hu.put (by omega) (by unfold goesB; simp_all) ho9
          refine TL.pure (PV.assign rfl) rfl (by decide) ?_
          refine TL.nil ?_
          refine TQ.blkN ?_
          refine TQ.thenC ?_
          refine TC.region ?_
          refine TL.pure (PV.add rfl rfl (by omega)) rfl (by decide) ?_
          refine TL.pure (PV.move rfl) rfl (by decide) ?_
          refine TL.nil ?_
          refine TQ.thenN ?_
          refine TQ.backK nx (by repeat (first | exact True.intro | refine And.intro rfl ?_)) (by repeat (first | exact True.intro | refine And.intro rfl ?_)) (by repeat (first | exact List.Sublist.slnil | exact List.nil_sublist _ | exact List.Sublist.refl _ | exact List.sublist_append_left _ _ | refine List.Sublist.cons_cons _ ?_ | refine (List.append_sublist_append_left _).2 ?_ | refine List.Sublist.cons _ ?_ | refine List.Sublist.trans ?_ (List.sublist_append_right _ _))) (by first | exact hnx | exact hnx (by unfold goesB; simp_all)) (by rw [hn1]; omega)
        · skip
          refine TC.skip ?_
          refine TQ.blkN ?_
          refine TQ.thenC ?_
          refine TC.region ?_
          refine TL.pure (PV.add rfl rfl (by omega)) rfl (by decide) ?_
          refine TL.pure (PV.move rfl) rfl (by decide) ?_
          refine TL.nil ?_
          refine TQ.thenN ?_
          refine TQ.backK nx (by repeat (first | exact True.intro | refine And.intro rfl ?_)) (by repeat (first | exact True.intro | refine And.intro rfl ?_)) (by repeat (first | exact List.Sublist.slnil | exact List.nil_sublist _ | exact List.Sublist.refl _ | exact List.sublist_append_left _ _ | refine List.Sublist.cons_cons _ ?_ | refine (List.append_sublist_append_left _).2 ?_ | refine List.Sublist.cons _ ?_ | refine List.Sublist.trans ?_ (List.sublist_append_right _ _))) (by first | exact hnx | exact hnx (by unfold goesB; simp_all)) (by rw [hn1]; omega)
      · skip
        refine TL.skip rfl (fun k hk => by cases hk; decide) ?_
        refine TL.skip rfl (fun k hk => by cases hk; decide) ?_
        refine TL.skip rfl (fun k hk => by cases hk; decide) ?_
        refine TL.skip rfl (fun k hk => by cases hk; decide) ?_
        refine TL.skip rfl (fun k hk => by cases hk; decide) ?_
        let nx : Nat × HD × List Bd := (u.1 + 1, u.2)
        have hn1 : nx.1 = u.1 + 1 := rfl
        have hnx : ¬ goesB (l1.getD v.1 default) (l2.getD u.1 default) = true → SS l1 l2 v.1 nx.1 nx.2 := fun h => hu.skip (by omega) h
        refine TL.pure (PV.pickF rfl rfl) rfl (by decide) ?_
        refine TL.nil ?_
        refine TQ.thenC ?_
        refine TC.condF rfl ?_
        refine TC.skip ?_
        refine TQ.blkN ?_
        refine TQ.thenC ?_
        refine TC.region ?_
        refine TL.pure (PV.add rfl rfl (by omega)) rfl (by decide) ?_
        refine TL.pure (PV.move rfl) rfl (by decide) ?_
        refine TL.nil ?_
        refine TQ.thenN ?_
        refine TQ.backK nx (by repeat (first | exact True.intro | refine And.intro rfl ?_)) (by repeat (first | exact True.intro | refine And.intro rfl ?_)) (by repeat (first | exact List.Sublist.slnil | exact List.nil_sublist _ | exact List.Sublist.refl _ | exact List.sublist_append_left _ _ | refine List.Sublist.cons_cons _ ?_ | refine (List.append_sublist_append_left _).2 ?_ | refine List.Sublist.cons _ ?_ | refine List.Sublist.trans ?_ (List.sublist_append_right _ _))) (by first | exact hnx | exact hnx (by unfold goesB; simp_all)) (by rw [hn1]; omega)
    · skip
      refine TC.exit ?_
      refine TQ.thenE ?_
      refine TQ.thenE ?_
      refine TQ.blkS ?_
      refine TQ.blkN ?_
      refine TQ.thenC ?_
      refine TC.region ?_
      refine TL.pure (PV.add rfl rfl (by omega)) rfl (by decide) ?_
      refine TL.pure (PV.move rfl) rfl (by decide) ?_
      refine TL.nil ?_
      refine TQ.thenN ?_
      refine TQ.backK (v.1 + 1, u.2) (by repeat (first | exact True.intro | refine And.intro rfl ?_)) (by repeat (first | exact True.intro | refine And.intro rfl ?_)) (by repeat (first | exact List.Sublist.slnil | exact List.nil_sublist _ | exact List.Sublist.refl _ | exact List.sublist_append_left _ _ | refine List.Sublist.cons_cons _ ?_ | refine (List.append_sublist_append_left _).2 ?_ | refine List.Sublist.cons _ ?_ | refine List.Sublist.trans ?_ (List.sublist_append_right _ _))) (hu.fin (by omega) (by omega)) (by simp only; omega)
  · skip
    refine TC.exit ?_
    refine TQ.thenE ?_
    refine TQ.thenE ?_
    refine TQ.blkS ?_
    refine TQ.thenC ?_
    refine TC.seq ?_
    refine TC.region ?_
    refine TL.pure (PV.move rfl) rfl (by decide) ?_
    refine TL.pure (PV.assign rfl) rfl (by decide) ?_
    refine TL.nil ?_
    refine TQ.thenC ?_
    refine TC.ret ?_
    refine TQ.retE1 rfl rfl ?_
    exact ⟨v.2, rfl, ⟨hv.ok, hv.fin (by omega)⟩, List.Sublist.refl _⟩

end Go.Proofs.Ytenalmddoljhoaa
