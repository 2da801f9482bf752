/- The plain bounds of a core: contract. -/
import Derived.Test.YtenalmddoljhoaaVZ
import Derived.Test.YtenalmddoljhoaaVU
set_option linter.unusedVariables false
set_option linter.unusedSimpArgs false
namespace Go.Proofs.Ytenalmddoljhoaa
open Go.Sx Go.RowKit

def plainN (g : List Bd) : Nat → List Bd
  | 0 => g
  | i + 1 => tight (plainN g i ++ sumsB (plainN g i) g)
def plainB (N : Nat) (rs : List Bd) : List Bd := plainN (tight rs) N
theorem ded_pos (l : List Bd) : ∀ k, 0 < (dedK l (k + 1)).length
  | 0 => by rw [dedK, if_neg (by simp)]; simp
  | k + 1 => by
    have := ded_pos l k
    rw [dedK]
    split
    · exact this
    · rw [List.length_append]; omega
theorem tight_pos {l : List Bd} (h : 0 < l.length) : 0 < (tight l).length := by
  unfold tight dedB
  rw [srt_len]
  obtain ⟨k, hk⟩ : ∃ k, l.length = k + 1 := ⟨l.length - 1, by omega⟩
  rw [hk]
  exact ded_pos _ k
theorem plainN_pos {g : List Bd} (h : 0 < g.length) : ∀ i, 0 < (plainN g i).length
  | 0 => h
  | i + 1 => tight_pos (by rw [List.length_append]; have := plainN_pos h i; omega)
theorem hd_some {h : HD} {l : List Bd} (ho : goB h l) (hl : 0 < l.length) : ∃ b c s, h = some (b, c, s) := by
  obtain _ | ⟨b, c, s⟩ := h
  · have : l.length = 0 := ho.2
    omega
  · exact ⟨b, c, s, rfl⟩
theorem sums_len (l1 l2 : List Bd) : (sumsB l1 l2).length ≤ l1.length * l2.length := by
  rw [← partO_all]
  exact partO_len l1 l2 _ (Nat.le_refl _)
theorem fill_2g (h1 h2 : HD) (k1 k2 : Nat) : Instr.fill (fun i => some (i * 1, 1)) ((Array.range (2 * 1)).map ((Value.slice none 0 0).cells[· % (Value.slice none 0 0).cells.size]!)) [(0, gval h1 k1), (1, gval h2 k2)] = some #[gval h1 k1, gval h2 k2] := by
  cases h1 <;> cases h2 <;> kernel_rfl
theorem concat_g {w : World} {b : Nat} {h1 h2 : HD} {l1 l2 : List Bd} {w0 : World} {G : Heap} {e : TypeId} (hn : New w0 w G) (hm : (b, Obj.cells #[gval h1 l1.length, gval h2 l2.length] e (0, 0)) ∈ G) (o1 : goB h1 l1) (o2 : goB h2 l2) (g1 : BdsAt w (gp h1) l1) (g2 : BdsAt w (gp h2) l2) (hl : l1.length + l2.length ≤ 100000) :
    Calls Try.prog 92 #[.slice (some ⟨b, 0, none⟩) 2 2] w (Post (X := HD) (fun h => gval h (l1 ++ l2).length) (fun h => goB h (l1 ++ l2)) (fun h => gbB 88 h (l1 ++ l2)) w) := by
  rw [gval_eq o1, gval_eq o2] at hm
  have e1 : catK [(gp h1, gc h1, l1), (gp h2, gc h2, l2)] 2 = l1 ++ l2 := by simp [catK]
  have hc := concat2_ok w ⟨b, 0, none⟩ 2 [(gp h1, gc h1, l1), (gp h2, gc h2, l2)] (vs2 hn hm g1 g2) (by show (catK _ 2).length ≤ _; rw [e1, List.length_append]; exact hl) (by simp)
  refine hc.mono fun e w' ⟨h, he, ho, hN⟩ => ⟨h, ?_, ?_, ?_⟩
  · rw [he]
    show Ending.returned (gval h (catK [(gp h1, gc h1, l1), (gp h2, gc h2, l2)] 2).length) = _
    rw [e1]
  · have ho' : goB h (catK [(gp h1, gc h1, l1), (gp h2, gc h2, l2)] 2) := ho
    rwa [e1] at ho'
  · have hN' : New w w' (gbB 88 h (catK [(gp h1, gc h1, l1), (gp h2, gc h2, l2)] 2)) := hN
    rwa [e1] at hN'
theorem sums_g (w : World) (h1 h2 : HD) (l1 l2 : List Bd) (o1 : goB h1 l1) (o2 : goB h2 l2) (g1 : BdsAt w (gp h1) l1) (g2 : BdsAt w (gp h2) l2) (hm1 : ∀ r ∈ l1, -1000000000 ≤ r.m ∧ r.m ≤ 1000000000) (hm2 : ∀ r ∈ l2, -1000000000 ≤ r.m ∧ r.m ≤ 1000000000) (hl : l1.length * l2.length ≤ 1000000) (hl1 : l1.length ≤ 1000000) (hl2 : l2.length ≤ 1000000) :
    Calls Try.prog 93 #[gval h1 l1.length, gval h2 l2.length] w (Post (X := HD) (fun x => gval x (sumsB l1 l2).length) (fun x => goB x (sumsB l1 l2)) (fun x => gbB 88 x (sumsB l1 l2)) w) := by
  rw [gval_eq o1, gval_eq o2]
  refine (sums_ok w _ _ _ _ l1 l2 g1 g2 hm1 hm2 hl hl1 hl2).mono fun e w' ⟨x, he, ⟨ho, hx⟩, hN⟩ => ⟨x.1, ?_, ?_, ?_⟩
  · rw [he]
    show Ending.returned (gval x.1 x.2.length) = _
    rw [hx]
  · rw [← hx]; exact ho
  · rw [← hx]; exact hN
structure AC (rs : List Bd) (k : Nat) (x : HD × List Bd) : Prop where
  le : k ≤ rs.length
  eq : x.2 = rs.take k
  ok : goB x.1 x.2
theorem AC.zero (rs : List Bd) : AC rs 0 (none, []) := ⟨Nat.zero_le _, rfl, ⟨rfl, rfl⟩⟩
theorem AC.len {rs : List Bd} {k : Nat} {x : HD × List Bd} (h : AC rs k x) : x.2.length = k := by
  have := h.le
  rw [h.eq, List.length_take]; omega
theorem AC.step {rs : List Bd} {k : Nat} {x : HD × List Bd} {h' : HD} (h : AC rs k x) (hk : k < rs.length) (ho : goB h' (x.2 ++ [rs.getD k default])) : AC rs (k + 1) (h', x.2 ++ [rs.getD k default]) :=
  ⟨hk, by
    have e : rs.getD k default = rs[k] := by simp [List.getD, hk]
    show x.2 ++ _ = _
    rw [h.eq, List.take_succ_eq_append_getElem hk, e], ho⟩
theorem AC.all {rs : List Bd} {k : Nat} {x : HD × List Bd} (h : AC rs k x) (hk : ¬ k < rs.length) : x.2 = rs := by
  rw [h.eq, List.take_of_length_le (by omega)]
structure PI (g : List Bd) (hG : HD) (N : Nat) (u : Nat × HD × Heap) : Prop where
  le : u.1 ≤ N
  ok : goB u.2.1 (plainN g u.1)
  sub : (gbB 88 u.2.1 (plainN g u.1)).Sublist (u.2.2 ++ gbB 88 hG g)
theorem PI.zero {g : List Bd} {hG : HD} (N : Nat) (ho : goB hG g) : PI g hG N (0, hG, []) := ⟨Nat.zero_le _, ho, List.Sublist.refl _⟩
theorem PI.step {g : List Bd} {hG : HD} {N : Nat} {u : Nat × HD × Heap} {b c : Nat} {s : List Value} (h : PI g hG N u) (hlt : u.1 < N) (ho : goB (some (b, c, s)) (tight (plainN g u.1 ++ sumsB (plainN g u.1) g))) :
    PI g hG N (u.1 + 1, some (b, c, s), [(b, Obj.cells (bdc (tight (plainN g u.1 ++ sumsB (plainN g u.1) g)) ++ s).toArray 88 (0, 0))]) := ⟨hlt, ho, List.sublist_append_left _ _⟩


set_option maxRecDepth 100000 in
set_option maxHeartbeats 2000000 in
theorem plain_ok (w0 : World) (n : Int) (p : Option Addr) (cap : Nat) (rs : List Bd) (hr : BdsAt w0 p rs) (N : Nat) (hn : n = N) (hNs : N ≤ 1000) (hne : 0 < rs.length) (hl : rs.length ≤ 1000) (hPB : ∀ i, i ≤ N → (plainN (tight rs) i).length ≤ 300 ∧ ∀ r ∈ plainN (tight rs) i, -1000000000 ≤ r.m ∧ r.m ≤ 1000000000) :
    Calls Try.prog 84 #[cv n p rs.length cap] w0 (Post (X := HD) (fun h => gval h (plainB N rs).length) (fun h => goB h (plainB N rs)) (fun h => gbB 88 h (plainB N rs)) w0) := by
  refine calls Try.func84 rfl (n := 35) rfl (by simp) ?_
  refine TC.seq ?_
  refine TC.region ?_
  refine TL.box rfl rfl (by decide) (fun b0 hb0 => ?_)
  refine TL.pure (PV.assign rfl) rfl (by decide) ?_
  refine TL.nil ?_
  refine TQ.thenC ?_
  refine TC.seq ?_
  refine TC.region ?_
  refine TL.pure (PV.assign rfl) rfl (by decide) ?_
  refine TL.nil ?_
  refine TQ.thenC ?_
  refine TC.seq ?_
  refine TC.seq ?_
  refine TC.region ?_
  refine TL.pure (PV.fieldAddr rfl Tb.fo_24_1) rfl (by decide) ?_
  refine TL.pure (PV.load rfl Tb.one_22 (by repeat (first | exact List.Mem.head _ | refine List.Mem.tail _ ?_ | refine List.mem_append_right _ ?_)) rfl) rfl (by decide) ?_
  refine TL.pure (PV.len rfl Tb.sl_22) rfl (by decide) ?_
  refine TL.pure (PV.move rfl) rfl (by decide) ?_
  refine TL.nil ?_
  refine TQ.thenC ?_
  refine TC.block ?_
  refine TC.loopK [1, 2, 8, 9] (X := Nat × HD × List Bd) (fun v => AC rs v.1 v.2) (fun v => [(10, .int .i64 v.1), (3, gval v.2.1 v.2.2.length)]) (fun v => gbB 88 v.2.1 v.2.2 ++ [(b0, Obj.cells #[.int .i64 n, .slice p rs.length cap] 24 (0, 0))]) (fun v => rs.length - v.1) (0, none, []) (AC.zero rs) (by repeat (first | exact True.intro | refine And.intro rfl ?_)) (List.Sublist.refl _) ?_
  intro v hv
  refine TC.seq ?_
  refine TC.region ?_
  refine TL.pure (PV.lss rfl rfl) rfl (by decide) ?_
  refine TL.nil ?_
  refine TQ.thenC ?_
  refine TC.seq ?_
  first | refine TC.condD rfl (fun hlt => ?_) (fun hlt => ?_) | refine TC.cond rfl (fun hlt => ?_) (fun hlt => ?_)
  · skip
    refine TC.skip ?_
    refine TQ.thenC ?_
    refine TC.seq ?_
    refine TC.block ?_
    refine TC.seq ?_
    obtain ⟨q, hqp, hqa⟩ := hr v.1 (by omega)
    have hvl := hv.len
    refine TC.region ?_
    refine TL.pure (PV.indexA rfl hqp rfl Tb.elm_22 rfl (by omega)) rfl (by decide) ?_
    refine TL.pure (PV.loadAggA rfl Tb.agg_42 rfl hqa) rfl (by decide) ?_
    refine TL.alloc Tb.zero_42 rfl (by decide) (fun b1 hb1 => ?_)
    refine TL.storeAgg rfl rfl Tb.cells_42 (by repeat (first | exact Upd.head _ | apply Upd.tail | apply Upd.appR)) rfl rfl rfl rfl rfl ?_
    refine TL.nil ?_
    refine TQ.thenC ?_
    refine TC.region ?_
    refine TL.pure (PV.move rfl) rfl (by decide) ?_
    refine TL.pure (PV.loadBox rfl Tb.agg_42 (by repeat (first | exact List.Mem.head _ | refine List.Mem.tail _ ?_ | refine List.mem_append_right _ ?_)) rfl) rfl (by decide) ?_
    refine TL.buildSlice (cs := (rs.getD v.1 default).cells.toArray) rfl Tb.sl_74 Tb.zi_88 (by decide) (fill_bd (rs.getD v.1 default)) (by simp) rfl (by decide) (fun b5 hb5 => ?_)
    refine TL.appendBL (h0 := v.2.1) (ys := v.2.2) (r := (rs.getD v.1 default)) Tb.sl_74 Tb.zi_88 rfl rfl rfl rfl (by repeat (first | exact List.Mem.head _ | refine List.Mem.tail _ ?_ | refine List.mem_append_right _ ?_)) hv.ok (by repeat (first | exact TakeH.here _ _ _ _ | apply TakeH.tail | apply TakeH.app)) (by omega) rfl (by decide) (fun h9 ho9 => ?_)
    refine TL.pure (PV.assign rfl) rfl (by decide) ?_
    refine TL.nil ?_
    refine TQ.blkN ?_
    refine TQ.thenC ?_
    refine TC.region ?_
    refine TL.pure (PV.add rfl rfl (by omega)) rfl (by decide) ?_
    refine TL.pure (PV.move rfl) rfl (by decide) ?_
    refine TL.nil ?_
    refine TQ.thenN ?_
    refine TQ.backK (v.1 + 1, h9, v.2.2 ++ [(rs.getD v.1 default)]) (by repeat (first | exact True.intro | refine And.intro rfl ?_)) (by repeat (first | exact True.intro | refine And.intro rfl ?_)) (by repeat (first | exact List.Sublist.slnil | exact List.nil_sublist _ | exact List.Sublist.refl _ | exact List.sublist_append_left _ _ | refine List.Sublist.cons_cons _ ?_ | refine (List.append_sublist_append_left _).2 ?_ | refine List.Sublist.cons _ ?_ | refine List.Sublist.trans ?_ (List.sublist_append_right _ _))) (hv.step (by omega) ho9) (by simp only; omega)
  · skip
    refine TC.exit ?_
    refine TQ.thenE ?_
    refine TQ.thenE ?_
    refine TQ.blkS ?_
    refine TQ.thenC ?_
    refine TC.seq ?_
    have hve := hv.all (by omega)
    have hvo := hv.ok
    rw [hve] at hvo
    obtain ⟨b9, c9, s9, he⟩ := hd_some hvo hne
    rw [he] at hvo
    rw [he, hve]
    refine TC.region ?_
    refine TL.pure (PV.move rfl) rfl (by decide) ?_
    refine TL.callW (X := List Value) (fun _ => .slice (some ⟨b9, 0, none⟩) (tight rs).length c9) (fun s => goB (some (b9, c9, s)) (tight rs)) (fun s => (b9, .cells (bdc (tight rs) ++ s).toArray 88 (0, 0)) :: [(b0, Obj.cells #[.int .i64 n, .slice p rs.length cap] 24 (0, 0))]) rfl Tb.gofn_91 (fun a w hs => tight_ok hs.new rfl hvo (by omega)) rfl (by decide) (fun g9 hg9 => ?_)
    refine TL.pure (PV.assign rfl) rfl (by decide) ?_
    refine TL.nil ?_
    refine TQ.thenC ?_
    refine TC.seq ?_
    refine TC.region ?_
    refine TL.pure (PV.move rfl) rfl (by decide) ?_
    refine TL.pure (PV.assign rfl) rfl (by decide) ?_
    refine TL.nil ?_
    refine TQ.thenC ?_
    refine TC.seq ?_
    refine TC.seq ?_
    refine TC.region ?_
    refine TL.pure (PV.fieldAddr rfl Tb.fo_24_0) rfl (by decide) ?_
    refine TL.pure (PV.load rfl Tb.one_3 (by repeat (first | exact List.Mem.head _ | refine List.Mem.tail _ ?_ | refine List.mem_append_right _ ?_)) rfl) rfl (by decide) ?_
    refine TL.pure (PV.move rfl) rfl (by decide) ?_
    refine TL.nil ?_
    refine TQ.thenC ?_
    refine TC.block ?_
    refine TC.loopK [2, 3, 23] (X := Nat × HD × Heap) (fun u => PI (tight rs) (some (b9, c9, g9)) N u) (fun u => [(24, .int .i64 u.1), (6, gval u.2.1 (plainN (tight rs) u.1).length)]) (fun u => u.2.2 ++ gbB 88 (some (b9, c9, g9)) (tight rs)) (fun u => N - u.1) (0, (some (b9, c9, g9)), []) (PI.zero N hg9) (by repeat (first | exact True.intro | refine And.intro rfl ?_)) (by exact List.sublist_append_left _ _) ?_
    intro u hu
    refine TC.seq ?_
    refine TC.region ?_
    refine TL.pure (PV.lss rfl rfl) rfl (by decide) ?_
    refine TL.nil ?_
    refine TQ.thenC ?_
    refine TC.seq ?_
    first | refine TC.condD rfl (fun hlt2 => ?_) (fun hlt2 => ?_) | refine TC.cond rfl (fun hlt2 => ?_) (fun hlt2 => ?_)
    · skip
      refine TC.skip ?_
      refine TQ.thenC ?_
      refine TC.seq ?_
      refine TC.block ?_
      have B1 := hPB u.1 (by omega)
      have B2 := hPB 0 (by omega)
      have B3 : (plainN (tight rs) u.1).length * (tight rs).length ≤ 300 * 300 := Nat.mul_le_mul B1.1 B2.1
      have B4 := sums_len (plainN (tight rs) u.1) (tight rs)
      have B5 := plainN_pos (tight_pos hne) u.1
      have B6 : (tight rs).length ≤ 300 := B2.1
      have hpos : 0 < ((plainN (tight rs) u.1) ++ (sumsB (plainN (tight rs) u.1) (tight rs))).length := by rw [List.length_append]; omega
      have hlen9 : ((plainN (tight rs) u.1) ++ (sumsB (plainN (tight rs) u.1) (tight rs))).length ≤ 100000 := by rw [List.length_append]; omega
      refine TC.region ?_
      refine TL.pure (PV.move rfl) rfl (by decide) ?_
      refine TL.pure (PV.move rfl) rfl (by decide) ?_
      refine TL.pure (PV.move rfl) rfl (by decide) ?_
      refine TL.call (X := HD) (val := fun x => gval x (sumsB (plainN (tight rs) u.1) (tight rs)).length) (F := fun x => goB x (sumsB (plainN (tight rs) u.1) (tight rs))) (D := fun x => gbB 88 x (sumsB (plainN (tight rs) u.1) (tight rs))) rfl Tb.gofn_93 (fun a w hs => sums_g w u.2.1 (some (b9, c9, g9)) (plainN (tight rs) u.1) (tight rs) hu.ok hg9 (BdsAt.s hs.new (fun yy hyy => by have h8 := hu.sub.subset hyy; first | exact h8 | (repeat (first | exact h8 | refine List.mem_append_right _ ?_ | refine List.Mem.tail _ ?_))) hu.ok) (BdsAt.s hs.new (fun yy hyy => by repeat (first | exact hyy | refine List.mem_append_right _ ?_ | refine List.Mem.tail _ ?_)) hg9) B1.2 B2.2 (by omega) (by omega) (by omega)) rfl (by decide) (fun hS hhS => ?_)
      refine TL.buildSlice (cs := #[gval u.2.1 (plainN (tight rs) u.1).length, gval hS (sumsB (plainN (tight rs) u.1) (tight rs)).length]) rfl Tb.sl_114 Tb.zi_74 (by decide) (fill_2g _ _ _ _) (by decide) rfl (by decide) (fun bV hbV => ?_)
      refine TL.call (X := HD) (val := fun x => gval x ((plainN (tight rs) u.1) ++ (sumsB (plainN (tight rs) u.1) (tight rs))).length) (F := fun x => goB x ((plainN (tight rs) u.1) ++ (sumsB (plainN (tight rs) u.1) (tight rs)))) (D := fun x => gbB 88 x ((plainN (tight rs) u.1) ++ (sumsB (plainN (tight rs) u.1) (tight rs)))) rfl Tb.gofn_92 (fun a w hs => concat_g hs.new (by repeat (first | exact List.Mem.head _ | refine List.Mem.tail _ ?_ | refine List.mem_append_right _ ?_)) hu.ok hhS (BdsAt.s hs.new (fun yy hyy => by have h8 := hu.sub.subset hyy; first | exact h8 | (repeat (first | exact h8 | refine List.mem_append_right _ ?_ | refine List.Mem.tail _ ?_))) hu.ok) (BdsAt.s hs.new (fun yy hyy => by repeat (first | exact List.mem_append_left _ hyy | refine List.mem_append_right _ ?_ | refine List.Mem.tail _ ?_)) hhS) (by omega)) rfl (by decide) (fun hC hhC => ?_)
      obtain ⟨bC, cC, sC, rfl⟩ := hd_some hhC hpos
      refine TL.callW (X := List Value) (fun _ => .slice (some ⟨bC, 0, none⟩) (tight ((plainN (tight rs) u.1) ++ (sumsB (plainN (tight rs) u.1) (tight rs)))).length cC) (fun s => goB (some (bC, cC, s)) (tight ((plainN (tight rs) u.1) ++ (sumsB (plainN (tight rs) u.1) (tight rs))))) (fun s => (bC, .cells (bdc (tight ((plainN (tight rs) u.1) ++ (sumsB (plainN (tight rs) u.1) (tight rs)))) ++ s).toArray 88 (0, 0)) :: (bV, Obj.cells #[gval u.2.1 (plainN (tight rs) u.1).length, gval hS (sumsB (plainN (tight rs) u.1) (tight rs)).length] 74 (0, 0)) :: (gbB 88 hS (sumsB (plainN (tight rs) u.1) (tight rs)) ++ (u.2.2 ++ gbB 88 (some (b9, c9, g9)) (tight rs)))) rfl Tb.gofn_91 (fun a w hs => tight_ok hs.new rfl hhC hlen9) rfl (by decide) (fun s8 hs8 => ?_)
      refine TL.pure (PV.assign rfl) rfl (by decide) ?_
      refine TL.nil ?_
      refine TQ.blkN ?_
      refine TQ.thenC ?_
      refine TC.region ?_
      refine TL.pure (PV.add rfl rfl (by omega)) rfl (by decide) ?_
      refine TL.pure (PV.move rfl) rfl (by decide) ?_
      refine TL.nil ?_
      refine TQ.thenN ?_
      refine TQ.backK (u.1 + 1, some (bC, cC, s8), [(bC, Obj.cells (bdc (tight ((plainN (tight rs) u.1) ++ (sumsB (plainN (tight rs) u.1) (tight rs)))) ++ s8).toArray 88 (0, 0))]) (by repeat (first | exact True.intro | refine And.intro rfl ?_)) (by repeat (first | exact True.intro | refine And.intro rfl ?_)) (by repeat (first | exact List.Sublist.slnil | exact List.nil_sublist _ | exact List.Sublist.refl _ | exact List.sublist_append_left _ _ | refine List.Sublist.cons_cons _ ?_ | refine (List.append_sublist_append_left _).2 ?_ | refine List.Sublist.cons _ ?_ | refine List.Sublist.trans ?_ (List.sublist_append_right _ _))) (hu.step (by omega) hs8) (by simp only; omega)
    · skip
      refine TC.exit ?_
      refine TQ.thenE ?_
      refine TQ.thenE ?_
      refine TQ.blkS ?_
      refine TQ.thenC ?_
      refine TC.seq ?_
      have hle9 := hu.le
      have e9 : u.1 = N := by omega
      have hk9 := hu.ok
      have hs9 := hu.sub
      refine TC.region ?_
      refine TL.pure (PV.move rfl) rfl (by decide) ?_
      refine TL.pure (PV.assign rfl) rfl (by decide) ?_
      refine TL.nil ?_
      refine TQ.thenC ?_
      refine TC.ret ?_
      refine TQ.retE1 rfl rfl ?_
      exact ⟨u.2.1, by unfold plainB; rw [← e9], by unfold plainB; rw [← e9]; exact hk9, by unfold plainB; rw [← e9]; exact hs9⟩

end Go.Proofs.Ytenalmddoljhoaa
