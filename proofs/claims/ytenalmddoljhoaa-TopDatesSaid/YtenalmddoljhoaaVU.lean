/- The bounds of two cores: contracts, and the statement's own function. -/
import Derived.Test.YtenalmddoljhoaaVG
import Derived.Test.YtenalmddoljhoaaVT
set_option linter.unusedVariables false
set_option linter.unusedSimpArgs false
namespace Go.Proofs.Ytenalmddoljhoaa
open Go.Sx Go.RowKit

/-- The code for two cores. -/
def pairI (n1 : Int) (r1 : List Bd) (n2 : Int) (r2 : List Bd) : Int := if validateI n1 r1 ≠ 0 then validateI n1 r1 else if validateI n2 r2 ≠ 0 then validateI n2 r2 else if n1 ≠ n2 then 1 else 0
theorem pairI_1 {n1 : Int} {r1 : List Bd} {n2 : Int} {r2 : List Bd} (h : validateI n1 r1 ≠ 0) : pairI n1 r1 n2 r2 = validateI n1 r1 := if_pos h
theorem pairI_2 {n1 : Int} {r1 : List Bd} {n2 : Int} {r2 : List Bd} (h : ¬ validateI n1 r1 ≠ 0) (h2 : validateI n2 r2 ≠ 0) : pairI n1 r1 n2 r2 = validateI n2 r2 := by unfold pairI; rw [if_neg h, if_pos h2]
theorem pairI_3 {n1 : Int} {r1 : List Bd} {n2 : Int} {r2 : List Bd} (h : ¬ validateI n1 r1 ≠ 0) (h2 : ¬ validateI n2 r2 ≠ 0) (h3 : n1 ≠ n2) : pairI n1 r1 n2 r2 = 1 := by unfold pairI; rw [if_neg h, if_neg h2, if_pos h3]
theorem pairI_0 {n1 : Int} {r1 : List Bd} {n2 : Int} {r2 : List Bd} (h : ¬ validateI n1 r1 ≠ 0) (h2 : ¬ validateI n2 r2 ≠ 0) (h3 : ¬ n1 ≠ n2) : pairI n1 r1 n2 r2 = 0 := by unfold pairI; rw [if_neg h, if_neg h2, if_neg h3]
theorem pairI_is {n1 : Int} {r1 : List Bd} {n2 : Int} {r2 : List Bd} (h : pairI n1 r1 n2 r2 = 0) : Valid n1 r1 ∧ Valid n2 r2 ∧ n1 = n2 := by
  unfold pairI at h
  split at h
  · rename_i h1; exact absurd h h1
  · rename_i h1
    split at h
    · rename_i h2; exact absurd h h2
    · rename_i h2
      split at h
      · cases h
      · rename_i h3; exact ⟨vof h1, vof h2, Decidable.of_not_not h3⟩
def bothI (n1 : Int) (r1 : List Bd) (n2 : Int) (r2 : List Bd) : Int := if pairI n1 r1 n2 r2 ≠ 0 then pairI n1 r1 n2 r2 else if 20 < r1.length + r2.length then 3 else 0
theorem bothI_1 {n1 : Int} {r1 : List Bd} {n2 : Int} {r2 : List Bd} (h : pairI n1 r1 n2 r2 ≠ 0) : bothI n1 r1 n2 r2 = pairI n1 r1 n2 r2 := if_pos h
theorem bothI_2 {n1 : Int} {r1 : List Bd} {n2 : Int} {r2 : List Bd} (h : ¬ pairI n1 r1 n2 r2 ≠ 0) (h2 : 20 < r1.length + r2.length) : bothI n1 r1 n2 r2 = 3 := by unfold bothI; rw [if_neg h, if_pos h2]
theorem bothI_0 {n1 : Int} {r1 : List Bd} {n2 : Int} {r2 : List Bd} (h : ¬ pairI n1 r1 n2 r2 ≠ 0) (h2 : ¬ 20 < r1.length + r2.length) : bothI n1 r1 n2 r2 = 0 := by unfold bothI; rw [if_neg h, if_neg h2]
theorem bothI_is {n1 : Int} {r1 : List Bd} {n2 : Int} {r2 : List Bd} (h : bothI n1 r1 n2 r2 = 0) : Valid n1 r1 ∧ Valid n2 r2 ∧ n1 = n2 ∧ r1.length + r2.length ≤ 20 := by
  unfold bothI at h
  split at h
  · rename_i h1; exact absurd h h1
  · rename_i h1
    split at h
    · cases h
    · obtain ⟨e1, e2, e3⟩ := pairI_is (Decidable.of_not_not (p := pairI n1 r1 n2 r2 = 0) h1)
      exact ⟨e1, e2, e3, by omega⟩
theorem app_valid {n : Int} {r1 r2 : List Bd} (h1 : Valid n r1) (h2 : Valid n r2) (hl : r1.length + r2.length ≤ 20) : Valid n (r1 ++ r2) := by
  have hp := h1.pts
  unfold Valid validateI
  rw [if_neg (by omega), if_neg (by rw [List.length_append]; omega), if_pos (by rw [List.all_append, h1.all, h2.all]; rfl)]
theorem vs2 {w : World} {b : Nat} {p1 p2 : Option Addr} {c1 c2 : Nat} {l1 l2 : List Bd} {w0 : World} {G : Heap} {e : TypeId} (hn : New w0 w G) (hm : (b, Obj.cells #[.slice p1 l1.length c1, .slice p2 l2.length c2] e (0, 0)) ∈ G) (h1 : BdsAt w p1 l1) (h2 : BdsAt w p2 l2) :
    VsAt w ⟨b, 0, none⟩ [(p1, c1, l1), (p2, c2, l2)] := by
  intro j hj
  have hj2 : j = 0 ∨ j = 1 := by simp at hj; omega
  rcases hj2 with rfl | rfl
  · exact ⟨by rw [add_off]; exact hn.cell hm rfl, h1⟩
  · exact ⟨by rw [add_off]; exact hn.cell hm rfl, h2⟩
theorem concat_two {w : World} {b c1 c2 : Nat} {p1 p2 : Option Addr} {l1 l2 : List Bd} {w0 : World} {G : Heap} {e : TypeId} (hn : New w0 w G) (hm : (b, Obj.cells #[.slice p1 l1.length c1, .slice p2 l2.length c2] e (0, 0)) ∈ G) (h1 : BdsAt w p1 l1) (h2 : BdsAt w p2 l2) (hl : l1.length + l2.length ≤ 100000) :
    Calls Try.prog 85 #[.slice (some ⟨b, 0, none⟩) 2 2] w (Post (X := HD) (fun h => gval h (l1.length + l2.length)) (fun h => goB h (l1 ++ l2)) (fun h => gbB 42 h (l1 ++ l2)) w) := by
  have e1 : catK [(p1, c1, l1), (p2, c2, l2)] 2 = l1 ++ l2 := by simp [catK]
  have hc := concat_ok w ⟨b, 0, none⟩ 2 [(p1, c1, l1), (p2, c2, l2)] (vs2 hn hm h1 h2) (by show (catK _ 2).length ≤ _; rw [e1, List.length_append]; exact hl) (by simp)
  refine hc.mono fun e w' ⟨h, he, ho, hN⟩ => ⟨h, ?_, ?_, ?_⟩
  · rw [he]
    show Ending.returned (gval h (catK [(p1, c1, l1), (p2, c2, l2)] 2).length) = _
    rw [e1, List.length_append]
  · have ho' : goB h (catK [(p1, c1, l1), (p2, c2, l2)] 2) := ho
    rwa [e1] at ho'
  · have hN' : New w w' (gbB 42 h (catK [(p1, c1, l1), (p2, c2, l2)] 2)) := hN
    rwa [e1] at hN'
theorem fill_2 (p1 p2 : Option Addr) (k1 c1 k2 c2 : Nat) : Instr.fill (fun i => some (i * 1, 1)) ((Array.range (2 * 1)).map ((Value.slice none 0 0).cells[· % (Value.slice none 0 0).cells.size]!)) [(0, .slice p1 k1 c1), (1, .slice p2 k2 c2)] = some #[.slice p1 k1 c1, .slice p2 k2 c2] := by kernel_rfl
theorem check_both {n : Int} {r1 r2 : List Bd} {ds : List Int} (h1 : Valid n r1) (h2 : Valid n r2) (hl : r1.length + r2.length ≤ 20) (hx : checkI n r1 ds = 0 ∨ checkI n r1 ds = 7) :
    (checkI n (r1 ++ r2) ds = 0) ↔ (checkI n r1 ds = 0 ∧ checkI n r2 ds = 0) := by
  have e1 := check_vd hx
  obtain ⟨_, hd⟩ := vdI_is e1
  have e2 : vdI n r2 ds = 0 := vdI_ok (not_not_intro h2) hd
  have e3 : vdI n (r1 ++ r2) ds = 0 := vdI_ok (not_not_intro (app_valid h1 h2 hl)) hd
  unfold checkI
  rw [e1, e2, e3, List.all_append]
  cases r1.all (keepB ds) <;> cases r2.all (keepB ds) <;> simp


set_option maxRecDepth 100000 in
theorem pair_ok (w0 : World) (n1 : Int) (p1 : Option Addr) (c1 : Nat) (r1 : List Bd) (hr1 : BdsAt w0 p1 r1) (n2 : Int) (p2 : Option Addr) (c2 : Nat) (r2 : List Bd) (hr2 : BdsAt w0 p2 r2) :
    Calls Try.prog 78 #[cv n1 p1 r1.length c1, cv n2 p2 r2.length c2] w0 (Post (X := Unit) (fun _ => .int .i64 (pairI n1 r1 n2 r2)) (fun _ => True) (fun _ => []) w0) := by
  refine calls Try.func78 rfl (n := 22) rfl (by simp) ?_
  refine TC.seq ?_
  refine TC.region ?_
  refine TL.box rfl rfl (by decide) (fun b0 hb0 => ?_)
  refine TL.box rfl rfl (by decide) (fun b1 hb1 => ?_)
  refine TL.pure (PV.assign rfl) rfl (by decide) ?_
  refine TL.nil ?_
  refine TQ.thenC ?_
  refine TC.seq ?_
  refine TC.seq ?_
  refine TC.region ?_
  refine TL.pure (PV.loadBox rfl Tb.agg_24 (by repeat (first | exact List.Mem.head _ | refine List.Mem.tail _ ?_ | refine List.mem_append_right _ ?_)) rfl) rfl (by decide) ?_
  refine TL.call rfl Tb.gofn_21 (fun a w hs => validate_ok w _ _ _ _ (hr1.new hs.new)) rfl (by decide) (fun _ _ => ?_)
  refine TL.pure (PV.assign rfl) rfl (by decide) ?_
  refine TL.nil ?_
  refine TQ.thenC ?_
  refine TC.seq ?_
  refine TC.region ?_
  refine TL.pure (PV.move rfl) rfl (by decide) ?_
  refine TL.pure (PV.neq rfl rfl) rfl (by decide) ?_
  refine TL.nil ?_
  refine TQ.thenC ?_
  first | refine TC.condD rfl (fun h1 => ?_) (fun h1 => ?_) | refine TC.cond rfl (fun h1 => ?_) (fun h1 => ?_)
  · skip
    refine TC.seq ?_
    refine TC.region ?_
    refine TL.pure (PV.move rfl) rfl (by decide) ?_
    refine TL.pure (PV.assign rfl) rfl (by decide) ?_
    refine TL.nil ?_
    refine TQ.thenC ?_
    refine TC.ret ?_
    refine TQ.thenR ?_
    refine TQ.retE1 rfl rfl ?_
    exact ⟨(), by rw [pairI_1 h1], trivial, List.nil_sublist _⟩
  · skip
    refine TC.skip ?_
    refine TQ.thenC ?_
    refine TC.seq ?_
    refine TC.seq ?_
    refine TC.region ?_
    refine TL.pure (PV.loadBox rfl Tb.agg_24 (by repeat (first | exact List.Mem.head _ | refine List.Mem.tail _ ?_ | refine List.mem_append_right _ ?_)) rfl) rfl (by decide) ?_
    refine TL.call rfl Tb.gofn_21 (fun a w hs => validate_ok w _ _ _ _ (hr2.new hs.new)) rfl (by decide) (fun _ _ => ?_)
    refine TL.pure (PV.assign rfl) rfl (by decide) ?_
    refine TL.nil ?_
    refine TQ.thenC ?_
    refine TC.seq ?_
    refine TC.region ?_
    refine TL.pure (PV.move rfl) rfl (by decide) ?_
    refine TL.pure (PV.neq rfl rfl) rfl (by decide) ?_
    refine TL.nil ?_
    refine TQ.thenC ?_
    first | refine TC.condD rfl (fun h2 => ?_) (fun h2 => ?_) | refine TC.cond rfl (fun h2 => ?_) (fun h2 => ?_)
    · skip
      refine TC.seq ?_
      refine TC.region ?_
      refine TL.pure (PV.move rfl) rfl (by decide) ?_
      refine TL.pure (PV.assign rfl) rfl (by decide) ?_
      refine TL.nil ?_
      refine TQ.thenC ?_
      refine TC.ret ?_
      refine TQ.thenR ?_
      refine TQ.retE1 rfl rfl ?_
      exact ⟨(), by rw [pairI_2 h1 h2], trivial, List.nil_sublist _⟩
    · skip
      refine TC.skip ?_
      refine TQ.thenC ?_
      refine TC.seq ?_
      refine TC.seq ?_
      refine TC.region ?_
      refine TL.pure (PV.fieldAddr rfl Tb.fo_24_0) rfl (by decide) ?_
      refine TL.pure (PV.load rfl Tb.one_3 (by repeat (first | exact List.Mem.head _ | refine List.Mem.tail _ ?_ | refine List.mem_append_right _ ?_)) rfl) rfl (by decide) ?_
      refine TL.pure (PV.fieldAddr rfl Tb.fo_24_0) rfl (by decide) ?_
      refine TL.pure (PV.load rfl Tb.one_3 (by repeat (first | exact List.Mem.head _ | refine List.Mem.tail _ ?_ | refine List.mem_append_right _ ?_)) rfl) rfl (by decide) ?_
      refine TL.pure (PV.neq rfl rfl) rfl (by decide) ?_
      refine TL.nil ?_
      refine TQ.thenC ?_
      first | refine TC.condD rfl (fun h3 => ?_) (fun h3 => ?_) | refine TC.cond rfl (fun h3 => ?_) (fun h3 => ?_)
      · skip
        refine TC.seq ?_
        refine TC.region ?_
        refine TL.pure (PV.assign rfl) rfl (by decide) ?_
        refine TL.nil ?_
        refine TQ.thenC ?_
        refine TC.ret ?_
        refine TQ.thenR ?_
        refine TQ.retE1 rfl rfl ?_
        exact ⟨(), by rw [pairI_3 h1 h2 h3], trivial, List.nil_sublist _⟩
      · skip
        refine TC.skip ?_
        refine TQ.thenC ?_
        refine TC.seq ?_
        refine TC.region ?_
        refine TL.pure (PV.assign rfl) rfl (by decide) ?_
        refine TL.nil ?_
        refine TQ.thenC ?_
        refine TC.ret ?_
        refine TQ.retE1 rfl rfl ?_
        exact ⟨(), by rw [pairI_0 h1 h2 h3], trivial, List.nil_sublist _⟩

set_option maxRecDepth 100000 in
theorem rpair_ok (w0 : World) (n1 : Int) (p1 : Option Addr) (c1 : Nat) (r1 : List Bd) (hr1 : BdsAt w0 p1 r1) (n2 : Int) (p2 : Option Addr) (c2 : Nat) (r2 : List Bd) (hr2 : BdsAt w0 p2 r2) :
    Calls Try.prog 80 #[cv n1 p1 r1.length c1, cv n2 p2 r2.length c2] w0 (Post (X := Unit) (fun _ => .int .i64 (pairI n1 r1 n2 r2)) (fun _ => True) (fun _ => []) w0) := by
  refine calls Try.func80 rfl (n := 22) rfl (by simp) ?_
  refine TC.seq ?_
  refine TC.region ?_
  refine TL.box rfl rfl (by decide) (fun b0 hb0 => ?_)
  refine TL.box rfl rfl (by decide) (fun b1 hb1 => ?_)
  refine TL.pure (PV.assign rfl) rfl (by decide) ?_
  refine TL.nil ?_
  refine TQ.thenC ?_
  refine TC.seq ?_
  refine TC.seq ?_
  refine TC.region ?_
  refine TL.pure (PV.loadBox rfl Tb.agg_24 (by repeat (first | exact List.Mem.head _ | refine List.Mem.tail _ ?_ | refine List.mem_append_right _ ?_)) rfl) rfl (by decide) ?_
  refine TL.call rfl Tb.gofn_22 (fun a w hs => rvalidate_ok w _ _ _ _ (hr1.new hs.new)) rfl (by decide) (fun _ _ => ?_)
  refine TL.pure (PV.assign rfl) rfl (by decide) ?_
  refine TL.nil ?_
  refine TQ.thenC ?_
  refine TC.seq ?_
  refine TC.region ?_
  refine TL.pure (PV.move rfl) rfl (by decide) ?_
  refine TL.pure (PV.neq rfl rfl) rfl (by decide) ?_
  refine TL.nil ?_
  refine TQ.thenC ?_
  first | refine TC.condD rfl (fun h1 => ?_) (fun h1 => ?_) | refine TC.cond rfl (fun h1 => ?_) (fun h1 => ?_)
  · skip
    refine TC.seq ?_
    refine TC.region ?_
    refine TL.pure (PV.move rfl) rfl (by decide) ?_
    refine TL.pure (PV.assign rfl) rfl (by decide) ?_
    refine TL.nil ?_
    refine TQ.thenC ?_
    refine TC.ret ?_
    refine TQ.thenR ?_
    refine TQ.retE1 rfl rfl ?_
    exact ⟨(), by rw [pairI_1 h1], trivial, List.nil_sublist _⟩
  · skip
    refine TC.skip ?_
    refine TQ.thenC ?_
    refine TC.seq ?_
    refine TC.seq ?_
    refine TC.region ?_
    refine TL.pure (PV.loadBox rfl Tb.agg_24 (by repeat (first | exact List.Mem.head _ | refine List.Mem.tail _ ?_ | refine List.mem_append_right _ ?_)) rfl) rfl (by decide) ?_
    refine TL.call rfl Tb.gofn_22 (fun a w hs => rvalidate_ok w _ _ _ _ (hr2.new hs.new)) rfl (by decide) (fun _ _ => ?_)
    refine TL.pure (PV.assign rfl) rfl (by decide) ?_
    refine TL.nil ?_
    refine TQ.thenC ?_
    refine TC.seq ?_
    refine TC.region ?_
    refine TL.pure (PV.move rfl) rfl (by decide) ?_
    refine TL.pure (PV.neq rfl rfl) rfl (by decide) ?_
    refine TL.nil ?_
    refine TQ.thenC ?_
    first | refine TC.condD rfl (fun h2 => ?_) (fun h2 => ?_) | refine TC.cond rfl (fun h2 => ?_) (fun h2 => ?_)
    · skip
      refine TC.seq ?_
      refine TC.region ?_
      refine TL.pure (PV.move rfl) rfl (by decide) ?_
      refine TL.pure (PV.assign rfl) rfl (by decide) ?_
      refine TL.nil ?_
      refine TQ.thenC ?_
      refine TC.ret ?_
      refine TQ.thenR ?_
      refine TQ.retE1 rfl rfl ?_
      exact ⟨(), by rw [pairI_2 h1 h2], trivial, List.nil_sublist _⟩
    · skip
      refine TC.skip ?_
      refine TQ.thenC ?_
      refine TC.seq ?_
      refine TC.seq ?_
      refine TC.region ?_
      refine TL.pure (PV.fieldAddr rfl Tb.fo_24_0) rfl (by decide) ?_
      refine TL.pure (PV.load rfl Tb.one_3 (by repeat (first | exact List.Mem.head _ | refine List.Mem.tail _ ?_ | refine List.mem_append_right _ ?_)) rfl) rfl (by decide) ?_
      refine TL.pure (PV.fieldAddr rfl Tb.fo_24_0) rfl (by decide) ?_
      refine TL.pure (PV.load rfl Tb.one_3 (by repeat (first | exact List.Mem.head _ | refine List.Mem.tail _ ?_ | refine List.mem_append_right _ ?_)) rfl) rfl (by decide) ?_
      refine TL.pure (PV.neq rfl rfl) rfl (by decide) ?_
      refine TL.nil ?_
      refine TQ.thenC ?_
      first | refine TC.condD rfl (fun h3 => ?_) (fun h3 => ?_) | refine TC.cond rfl (fun h3 => ?_) (fun h3 => ?_)
      · skip
        refine TC.seq ?_
        refine TC.region ?_
        refine TL.pure (PV.assign rfl) rfl (by decide) ?_
        refine TL.nil ?_
        refine TQ.thenC ?_
        refine TC.ret ?_
        refine TQ.thenR ?_
        refine TQ.retE1 rfl rfl ?_
        exact ⟨(), by rw [pairI_3 h1 h2 h3], trivial, List.nil_sublist _⟩
      · skip
        refine TC.skip ?_
        refine TQ.thenC ?_
        refine TC.seq ?_
        refine TC.region ?_
        refine TL.pure (PV.assign rfl) rfl (by decide) ?_
        refine TL.nil ?_
        refine TQ.thenC ?_
        refine TC.ret ?_
        refine TQ.retE1 rfl rfl ?_
        exact ⟨(), by rw [pairI_0 h1 h2 h3], trivial, List.nil_sublist _⟩

set_option maxRecDepth 100000 in
set_option maxHeartbeats 2000000 in
theorem both_ok (w0 : World) (n1 : Int) (p1 : Option Addr) (c1 : Nat) (r1 : List Bd) (hr1 : BdsAt w0 p1 r1) (n2 : Int) (p2 : Option Addr) (c2 : Nat) (r2 : List Bd) (hr2 : BdsAt w0 p2 r2) (hl1 : r1.length ≤ 1000) (hl2 : r2.length ≤ 1000) :
    Calls Try.prog 52 #[cv n1 p1 r1.length c1, cv n2 p2 r2.length c2] w0 (Post (X := (Int × HD × List Bd)) (fun x => .tuple #[.agg #[.int .i64 x.1, gval x.2.1 x.2.2.length], .int .i64 (bothI n1 r1 n2 r2)]) (CF (bothI n1 r1 n2 r2) n1 (r1 ++ r2)) (fun x => gbB 42 x.2.1 x.2.2) w0) := by
  refine calls Try.func52 rfl (n := 32) rfl (by simp) ?_
  refine TC.seq ?_
  refine TC.region ?_
  refine TL.box rfl rfl (by decide) (fun b0 hb0 => ?_)
  refine TL.box rfl rfl (by decide) (fun b1 hb1 => ?_)
  refine TL.alloc Tb.zero_24 rfl (by decide) (fun b2 hb2 => ?_)
  refine TL.pure (PV.assign rfl) rfl (by decide) ?_
  refine TL.nil ?_
  refine TQ.thenC ?_
  refine TC.seq ?_
  refine TC.seq ?_
  refine TC.region ?_
  refine TL.pure (PV.loadBox rfl Tb.agg_24 (by repeat (first | exact List.Mem.head _ | refine List.Mem.tail _ ?_ | refine List.mem_append_right _ ?_)) rfl) rfl (by decide) ?_
  refine TL.pure (PV.loadBox rfl Tb.agg_24 (by repeat (first | exact List.Mem.head _ | refine List.Mem.tail _ ?_ | refine List.mem_append_right _ ?_)) rfl) rfl (by decide) ?_
  refine TL.call rfl Tb.gofn_78 (fun a w hs => pair_ok w _ _ _ _ (hr1.new hs.new) _ _ _ _ (hr2.new hs.new)) rfl (by decide) (fun _ _ => ?_)
  refine TL.pure (PV.assign rfl) rfl (by decide) ?_
  refine TL.nil ?_
  refine TQ.thenC ?_
  refine TC.seq ?_
  refine TC.region ?_
  refine TL.pure (PV.move rfl) rfl (by decide) ?_
  refine TL.pure (PV.neq rfl rfl) rfl (by decide) ?_
  refine TL.nil ?_
  refine TQ.thenC ?_
  first | refine TC.condD rfl (fun hne => ?_) (fun hne => ?_) | refine TC.cond rfl (fun hne => ?_) (fun hne => ?_)
  · skip
    refine TC.seq ?_
    refine TC.region ?_
    refine TL.pure (PV.build rfl Tb.zero_24 Tb.pl_24 rfl) rfl (by decide) ?_
    refine TL.pure (PV.move rfl) rfl (by decide) ?_
    refine TL.storeAgg rfl rfl Tb.cells_24 (by repeat (first | exact Upd.head _ | apply Upd.tail | apply Upd.appR)) rfl rfl (by first | rfl | exact sv_one _ _ _) rfl rfl ?_
    refine TL.pure (PV.assign rfl) rfl (by decide) ?_
    refine TL.nil ?_
    refine TQ.thenC ?_
    refine TC.ret ?_
    refine TQ.thenR ?_
    refine TQ.retR rfl (Res.agg rfl Tb.agg_24 (by repeat (first | exact List.Mem.head _ | refine List.Mem.tail _ ?_ | refine List.mem_append_right _ ?_)) rfl (Res.tmp rfl Res.nil)) ?_
    simp only [tup]
    exact ⟨(0, none, []), by rw [bothI_1 hne]; rfl, CF.bad (by rw [bothI_1 hne]; first | exact hne | decide), List.nil_sublist _⟩
  · skip
    refine TC.skip ?_
    refine TQ.thenC ?_
    refine TC.seq ?_
    refine TC.seq ?_
    refine TC.region ?_
    refine TL.pure (PV.fieldAddr rfl Tb.fo_24_1) rfl (by decide) ?_
    refine TL.pure (PV.load rfl Tb.one_22 (by repeat (first | exact List.Mem.head _ | refine List.Mem.tail _ ?_ | refine List.mem_append_right _ ?_)) rfl) rfl (by decide) ?_
    refine TL.pure (PV.len rfl Tb.sl_22) rfl (by decide) ?_
    refine TL.pure (PV.fieldAddr rfl Tb.fo_24_1) rfl (by decide) ?_
    refine TL.pure (PV.load rfl Tb.one_22 (by repeat (first | exact List.Mem.head _ | refine List.Mem.tail _ ?_ | refine List.mem_append_right _ ?_)) rfl) rfl (by decide) ?_
    refine TL.pure (PV.len rfl Tb.sl_22) rfl (by decide) ?_
    refine TL.pure (PV.add rfl rfl (by omega)) rfl (by decide) ?_
    refine TL.pure (PV.gtr rfl rfl) rfl (by decide) ?_
    refine TL.nil ?_
    refine TQ.thenC ?_
    first | refine TC.condD rfl (fun hlong => ?_) (fun hlong => ?_) | refine TC.cond rfl (fun hlong => ?_) (fun hlong => ?_)
    · skip
      refine TC.seq ?_
      refine TC.region ?_
      refine TL.pure (PV.build rfl Tb.zero_24 Tb.pl_24 rfl) rfl (by decide) ?_
      refine TL.storeAgg rfl rfl Tb.cells_24 (by repeat (first | exact Upd.head _ | apply Upd.tail | apply Upd.appR)) rfl rfl (by first | rfl | exact sv_one _ _ _) rfl rfl ?_
      refine TL.pure (PV.assign rfl) rfl (by decide) ?_
      refine TL.nil ?_
      refine TQ.thenC ?_
      refine TC.ret ?_
      refine TQ.thenR ?_
      refine TQ.retR rfl (Res.agg rfl Tb.agg_24 (by repeat (first | exact List.Mem.head _ | refine List.Mem.tail _ ?_ | refine List.mem_append_right _ ?_)) rfl (Res.tmp rfl Res.nil)) ?_
      simp only [tup]
      exact ⟨(0, none, []), by rw [bothI_2 hne (by omega)]; rfl, CF.bad (by rw [bothI_2 hne (by omega)]; first | exact hne | decide), List.nil_sublist _⟩
    · skip
      refine TC.skip ?_
      refine TQ.thenC ?_
      refine TC.seq ?_
      refine TC.mix [true, true, true, true, true, true, false, false, false, false, false] _ 5 Tb.mixed rfl (by kernel_rfl) (by kernel_rfl) (by kernel_rfl) (by kernel_rfl) (List.Sublist.refl _) ?_
      refine TB.op (SOK.pure (PV.fieldAddr rfl Tb.fo_24_0) rfl) (by decide) ?_
      refine TB.op (SOK.pure (PV.load rfl Tb.one_3 (by repeat (first | exact List.Mem.head _ | refine List.Mem.tail _ ?_ | refine List.mem_append_right _ ?_)) rfl) rfl) (by decide) ?_
      refine TB.op (SOK.pure (PV.fieldAddr rfl Tb.fo_24_1) rfl) (by decide) ?_
      refine TB.op (SOK.pure (PV.load rfl Tb.one_22 (by repeat (first | exact List.Mem.head _ | refine List.Mem.tail _ ?_ | refine List.mem_append_right _ ?_)) rfl) rfl) (by decide) ?_
      refine TB.op (SOK.pure (PV.fieldAddr rfl Tb.fo_24_1) rfl) (by decide) ?_
      refine TB.op (SOK.pure (PV.load rfl Tb.one_22 (by repeat (first | exact List.Mem.head _ | refine List.Mem.tail _ ?_ | refine List.mem_append_right _ ?_)) rfl) rfl) (by decide) ?_
      refine TB.no ?_
      refine TB.no ?_
      refine TB.no ?_
      refine TB.no ?_
      refine TB.no ?_
      refine TB.fin ?_
      refine TX.step [6] (by kernel_rfl) (by decide) ⟨⟨_, rfl, ?_⟩, trivial⟩
      refine TL.buildSlice (cs := #[.slice p1 r1.length c1, .slice p2 r2.length c2]) rfl Tb.sl_107 Tb.zi_22 (by decide) (fill_2 _ _ _ _ _ _) (by decide) rfl (by decide) (fun bV hbV => ?_)
      refine TL.nil ?_
      refine TX.next (.inl (by repeat (first | exact List.Sublist.slnil | exact List.nil_sublist _ | exact List.Sublist.refl _ | refine List.Sublist.cons_cons _ ?_ | refine List.Sublist.cons _ ?_ | refine List.Sublist.trans ?_ (List.sublist_append_right _ _)))) ?_
      refine TX.step [7] (by kernel_rfl) (by decide) ⟨⟨_, rfl, ?_⟩, trivial⟩
      refine TL.call rfl Tb.gofn_85 (fun a w hs => concat_two hs.new (by repeat (first | exact List.Mem.head _ | refine List.Mem.tail _ ?_ | refine List.mem_append_right _ ?_)) (hr1.new hs.new) (hr2.new hs.new) (by omega)) rfl (by decide) (fun h1 hh1 => ?_)
      refine TL.nil ?_
      refine TX.next (.inl (by repeat (first | exact List.Sublist.slnil | exact List.nil_sublist _ | exact List.Sublist.refl _ | refine List.Sublist.cons_cons _ ?_ | refine List.Sublist.cons _ ?_ | refine List.Sublist.trans ?_ (List.sublist_append_right _ _)))) ?_
      refine TX.step [8] (by kernel_rfl) (by decide) ⟨⟨_, rfl, ?_⟩, trivial⟩
      refine TL.pure (PV.build rfl Tb.zero_24 Tb.pl_24 (fill_sv _ _ _)) rfl (by decide) ?_
      refine TL.nil ?_
      refine TX.next (.inl (by repeat (first | exact List.Sublist.slnil | exact List.nil_sublist _ | exact List.Sublist.refl _ | refine List.Sublist.cons_cons _ ?_ | refine List.Sublist.cons _ ?_ | refine List.Sublist.trans ?_ (List.sublist_append_right _ _)))) ?_
      refine TX.step [9] (by kernel_rfl) (by decide) ⟨⟨_, rfl, ?_⟩, trivial⟩
      refine TL.storeAgg rfl rfl Tb.cells_24 (by repeat (first | exact Upd.head _ | apply Upd.tail | apply Upd.appR)) rfl rfl (by first | rfl | exact sv_one _ _ _) rfl rfl ?_
      refine TL.nil ?_
      refine TX.next (.inr (by kernel_rfl)) ?_
      refine TX.step [10] (by kernel_rfl) (by decide) ⟨⟨_, rfl, ?_⟩, trivial⟩
      refine TL.pure (PV.assign rfl) rfl (by decide) ?_
      refine TL.nil ?_
      refine TX.next (.inr (by kernel_rfl)) ?_
      refine TX.done (by kernel_rfl) ?_
      refine TQ.thenC ?_
      refine TC.ret ?_
      refine TQ.retR rfl (Res.agg rfl Tb.agg_24 (by repeat (first | exact List.Mem.head _ | refine List.Mem.tail _ ?_ | refine List.mem_append_right _ ?_)) rfl (Res.tmp rfl Res.nil)) ?_
      simp only [tup]
      have hE := bothI_0 hne (by omega)
      exact ⟨(n1, h1, r1 ++ r2), (by rw [hE, List.length_append] <;> try rfl), CF.good hE hh1, (by repeat (first | exact List.Sublist.slnil | exact List.nil_sublist _ | exact List.Sublist.refl _ | exact List.sublist_append_left _ _ | refine List.Sublist.cons_cons _ ?_ | refine (List.append_sublist_append_left _).2 ?_ | refine List.Sublist.cons _ ?_ | refine List.Sublist.trans ?_ (List.sublist_append_right _ _)))⟩

set_option maxRecDepth 100000 in
set_option maxHeartbeats 2000000 in
theorem rboth_ok (w0 : World) (n1 : Int) (p1 : Option Addr) (c1 : Nat) (r1 : List Bd) (hr1 : BdsAt w0 p1 r1) (n2 : Int) (p2 : Option Addr) (c2 : Nat) (r2 : List Bd) (hr2 : BdsAt w0 p2 r2) (hl1 : r1.length ≤ 1000) (hl2 : r2.length ≤ 1000) :
    Calls Try.prog 53 #[cv n1 p1 r1.length c1, cv n2 p2 r2.length c2] w0 (Post (X := (Int × HD × List Bd)) (fun x => .tuple #[.agg #[.int .i64 x.1, gval x.2.1 x.2.2.length], .int .i64 (bothI n1 r1 n2 r2)]) (CF (bothI n1 r1 n2 r2) n1 (r1 ++ r2)) (fun x => gbB 42 x.2.1 x.2.2) w0) := by
  refine calls Try.func53 rfl (n := 33) rfl (by simp) ?_
  refine TC.seq ?_
  refine TC.region ?_
  refine TL.box rfl rfl (by decide) (fun b0 hb0 => ?_)
  refine TL.box rfl rfl (by decide) (fun b1 hb1 => ?_)
  refine TL.alloc Tb.zero_24 rfl (by decide) (fun b2 hb2 => ?_)
  refine TL.pure (PV.assign rfl) rfl (by decide) ?_
  refine TL.nil ?_
  refine TQ.thenC ?_
  refine TC.seq ?_
  refine TC.seq ?_
  refine TC.region ?_
  refine TL.pure (PV.loadBox rfl Tb.agg_24 (by repeat (first | exact List.Mem.head _ | refine List.Mem.tail _ ?_ | refine List.mem_append_right _ ?_)) rfl) rfl (by decide) ?_
  refine TL.pure (PV.loadBox rfl Tb.agg_24 (by repeat (first | exact List.Mem.head _ | refine List.Mem.tail _ ?_ | refine List.mem_append_right _ ?_)) rfl) rfl (by decide) ?_
  refine TL.call rfl Tb.gofn_80 (fun a w hs => rpair_ok w _ _ _ _ (hr1.new hs.new) _ _ _ _ (hr2.new hs.new)) rfl (by decide) (fun _ _ => ?_)
  refine TL.pure (PV.assign rfl) rfl (by decide) ?_
  refine TL.nil ?_
  refine TQ.thenC ?_
  refine TC.seq ?_
  refine TC.region ?_
  refine TL.pure (PV.move rfl) rfl (by decide) ?_
  refine TL.pure (PV.neq rfl rfl) rfl (by decide) ?_
  refine TL.nil ?_
  refine TQ.thenC ?_
  first | refine TC.condD rfl (fun hne => ?_) (fun hne => ?_) | refine TC.cond rfl (fun hne => ?_) (fun hne => ?_)
  · skip
    refine TC.seq ?_
    refine TC.region ?_
    refine TL.pure (PV.build rfl Tb.zero_24 Tb.pl_24 rfl) rfl (by decide) ?_
    refine TL.pure (PV.move rfl) rfl (by decide) ?_
    refine TL.storeAgg rfl rfl Tb.cells_24 (by repeat (first | exact Upd.head _ | apply Upd.tail | apply Upd.appR)) rfl rfl (by first | rfl | exact sv_one _ _ _) rfl rfl ?_
    refine TL.pure (PV.assign rfl) rfl (by decide) ?_
    refine TL.nil ?_
    refine TQ.thenC ?_
    refine TC.ret ?_
    refine TQ.thenR ?_
    refine TQ.retR rfl (Res.agg rfl Tb.agg_24 (by repeat (first | exact List.Mem.head _ | refine List.Mem.tail _ ?_ | refine List.mem_append_right _ ?_)) rfl (Res.tmp rfl Res.nil)) ?_
    simp only [tup]
    exact ⟨(0, none, []), by rw [bothI_1 hne]; rfl, CF.bad (by rw [bothI_1 hne]; first | exact hne | decide), List.nil_sublist _⟩
  · skip
    refine TC.skip ?_
    refine TQ.thenC ?_
    refine TC.seq ?_
    refine TC.seq ?_
    refine TC.region ?_
    refine TL.pure (PV.fieldAddr rfl Tb.fo_24_1) rfl (by decide) ?_
    refine TL.pure (PV.load rfl Tb.one_22 (by repeat (first | exact List.Mem.head _ | refine List.Mem.tail _ ?_ | refine List.mem_append_right _ ?_)) rfl) rfl (by decide) ?_
    refine TL.pure (PV.len rfl Tb.sl_22) rfl (by decide) ?_
    refine TL.pure (PV.fieldAddr rfl Tb.fo_24_1) rfl (by decide) ?_
    refine TL.pure (PV.load rfl Tb.one_22 (by repeat (first | exact List.Mem.head _ | refine List.Mem.tail _ ?_ | refine List.mem_append_right _ ?_)) rfl) rfl (by decide) ?_
    refine TL.pure (PV.len rfl Tb.sl_22) rfl (by decide) ?_
    refine TL.pure (PV.add rfl rfl (by omega)) rfl (by decide) ?_
    refine TL.pure (PV.gtr rfl rfl) rfl (by decide) ?_
    refine TL.nil ?_
    refine TQ.thenC ?_
    first | refine TC.condD rfl (fun hlong => ?_) (fun hlong => ?_) | refine TC.cond rfl (fun hlong => ?_) (fun hlong => ?_)
    · skip
      refine TC.seq ?_
      refine TC.region ?_
      refine TL.pure (PV.build rfl Tb.zero_24 Tb.pl_24 rfl) rfl (by decide) ?_
      refine TL.storeAgg rfl rfl Tb.cells_24 (by repeat (first | exact Upd.head _ | apply Upd.tail | apply Upd.appR)) rfl rfl (by first | rfl | exact sv_one _ _ _) rfl rfl ?_
      refine TL.pure (PV.assign rfl) rfl (by decide) ?_
      refine TL.nil ?_
      refine TQ.thenC ?_
      refine TC.ret ?_
      refine TQ.thenR ?_
      refine TQ.retR rfl (Res.agg rfl Tb.agg_24 (by repeat (first | exact List.Mem.head _ | refine List.Mem.tail _ ?_ | refine List.mem_append_right _ ?_)) rfl (Res.tmp rfl Res.nil)) ?_
      simp only [tup]
      exact ⟨(0, none, []), by rw [bothI_2 hne (by omega)]; rfl, CF.bad (by rw [bothI_2 hne (by omega)]; first | exact hne | decide), List.nil_sublist _⟩
    · skip
      refine TC.skip ?_
      refine TQ.thenC ?_
      refine TC.seq ?_
      refine TC.region ?_
      refine TL.pure (PV.loadBox rfl Tb.agg_24 (by repeat (first | exact List.Mem.head _ | refine List.Mem.tail _ ?_ | refine List.mem_append_right _ ?_)) rfl) rfl (by decide) ?_
      refine TL.call rfl Tb.gofn_48 (fun a w hs => Copy_ok w n1 p1 c1 r1.length r1 rfl (hr1.new hs.new) (by omega)) rfl (by decide) (fun h0 hh0 => ?_)
      refine TL.alloc Tb.zero_24 rfl (by decide) (fun b3 hb3 => ?_)
      refine TL.storeAgg rfl rfl Tb.cells_24 (by repeat (first | exact Upd.head _ | apply Upd.tail | apply Upd.appR)) rfl rfl (by first | rfl | exact sv_one _ _ _) rfl rfl ?_
      refine TL.nil ?_
      refine TQ.thenC ?_
      refine TC.seq ?_
      refine TC.region ?_
      refine TL.pure (PV.fieldAddr rfl Tb.fo_24_1) rfl (by decide) ?_
      refine TL.pure (PV.load rfl Tb.one_22 (by repeat (first | exact List.Mem.head _ | refine List.Mem.tail _ ?_ | refine List.mem_append_right _ ?_)) rfl) rfl (by decide) ?_
      refine TL.pure (PV.fieldAddr rfl Tb.fo_24_1) rfl (by decide) ?_
      refine TL.pure (PV.load rfl Tb.one_22 (by repeat (first | exact List.Mem.head _ | refine List.Mem.tail _ ?_ | refine List.mem_append_right _ ?_)) rfl) rfl (by decide) ?_
      refine TL.appendBS Tb.sl_22 Tb.zi_42 rfl rfl (ys := r1) (xs := r2) rfl rfl rfl rfl (fun w' hN => hr2.new hN) hh0 (by repeat (first | exact TakeH.here _ _ _ _ | apply TakeH.tail | apply TakeH.app)) (by omega) rfl (by decide) (fun h1 hh1 _ => ?_)
      refine TL.pure (PV.fieldAddr rfl Tb.fo_24_1) rfl (by decide) ?_
      refine TL.store rfl rfl Tb.cells_22 (gval_one _ _) (by repeat (first | exact Upd.head _ | apply Upd.tail | apply Upd.appR)) (by simp) rfl rfl ?_
      refine TL.nil ?_
      refine TQ.thenC ?_
      refine TC.seq ?_
      refine TC.region ?_
      refine TL.pure (PV.loadBox rfl Tb.agg_24 (by repeat (first | exact List.Mem.head _ | refine List.Mem.tail _ ?_ | refine List.mem_append_right _ ?_)) rfl) rfl (by decide) ?_
      refine TL.storeAgg rfl rfl Tb.cells_24 (by repeat (first | exact Upd.head _ | apply Upd.tail | apply Upd.appR)) rfl rfl (by first | rfl | exact sv_one _ _ _) rfl rfl ?_
      refine TL.pure (PV.assign rfl) rfl (by decide) ?_
      refine TL.nil ?_
      refine TQ.thenC ?_
      refine TC.ret ?_
      refine TQ.retR rfl (Res.agg rfl Tb.agg_24 (by repeat (first | exact List.Mem.head _ | refine List.Mem.tail _ ?_ | refine List.mem_append_right _ ?_)) rfl (Res.tmp rfl Res.nil)) ?_
      simp only [tup]
      have hE := bothI_0 hne (by omega)
      exact ⟨(n1, h1, r1 ++ r2), (by rw [hE, List.length_append] <;> try rfl), CF.good hE hh1, (by repeat (first | exact List.Sublist.slnil | exact List.nil_sublist _ | exact List.Sublist.refl _ | exact List.sublist_append_left _ _ | refine List.Sublist.cons_cons _ ?_ | refine (List.append_sublist_append_left _).2 ?_ | refine List.Sublist.cons _ ?_ | refine List.Sublist.trans ?_ (List.sublist_append_right _ _)))⟩

set_option maxRecDepth 100000 in
set_option maxHeartbeats 2000000 in
theorem coreBoths_ok (hkn : KnownOk) (w0 : World) (n1 : Int) (p1 : Option Addr) (c1 : Nat) (r1 : List Bd) (hr1 : BdsAt w0 p1 r1) (n2 : Int) (p2 : Option Addr) (c2 : Nat) (r2 : List Bd) (hr2 : BdsAt w0 p2 r2) (pd : Option Addr) (cd : Nat) (ds : List Int) (hx : IntsAt w0 pd ds) :
    Calls Try.prog 13 #[cv n1 p1 r1.length c1, cv n2 p2 r2.length c2, .slice pd ds.length cd] w0 (Post (X := Unit) (fun _ => .bool true) (fun _ => True) (fun _ => []) w0) := by
  refine calls Try.func13 rfl (n := 80) rfl (by simp) ?_
  refine TC.seq ?_
  refine TC.region ?_
  refine TL.box rfl rfl (by decide) (fun b0 hb0 => ?_)
  refine TL.box rfl rfl (by decide) (fun b1 hb1 => ?_)
  refine TL.pure (PV.assign rfl) rfl (by decide) ?_
  refine TL.nil ?_
  refine TQ.thenC ?_
  refine TC.seq ?_
  refine TC.seq ?_
  refine TC.region ?_
  refine TL.pure (PV.loadBox rfl Tb.agg_24 (by repeat (first | exact List.Mem.head _ | refine List.Mem.tail _ ?_ | refine List.mem_append_right _ ?_)) rfl) rfl (by decide) ?_
  refine TL.call rfl Tb.gofn_17 (fun a w hs => long_ok w _ _ _ _ (hr1.new hs.new)) rfl (by decide) (fun _ _ => ?_)
  refine TL.pure (PV.move rfl) rfl (by decide) ?_
  first | refine TL.splitD 16 rfl (fun h0 => ?_) (fun h0 => ?_) | refine TL.split 16 rfl (fun h0 => ?_) (fun h0 => ?_)
  · skip
    refine TL.skip rfl (fun k hk => by cases hk; decide) ?_
    refine TL.skip rfl (fun k hk => by cases hk; decide) ?_
    refine TL.pure (PV.pickT rfl rfl) rfl (by decide) ?_
    refine TL.pure (PV.move rfl) rfl (by decide) ?_
    refine TL.skip rfl (fun k hk => by cases hk; decide) ?_
    refine TL.skip rfl (fun k hk => by cases hk; decide) ?_
    refine TL.skip rfl (fun k hk => by cases hk; decide) ?_
    refine TL.pure (PV.pickT rfl rfl) rfl (by decide) ?_
    refine TL.nil ?_
    refine TQ.thenC ?_
    refine TC.condT rfl ?_
    refine TC.seq ?_
    refine TC.region ?_
    refine TL.call rfl Tb.gofn_18 (fun a w hs => hkn w) rfl (by decide) (fun _ _ => ?_)
    refine TL.pure (PV.assign rfl) rfl (by decide) ?_
    refine TL.nil ?_
    refine TQ.thenC ?_
    refine TC.ret ?_
    refine TQ.thenR ?_
    refine TQ.retE1 rfl rfl ?_
    first | exact ⟨(), rfl, trivial, List.nil_sublist _⟩ | (exfalso; omega) | (exfalso; simp_all; done)
  · skip
    refine TL.pure (PV.loadBox rfl Tb.agg_24 (by repeat (first | exact List.Mem.head _ | refine List.Mem.tail _ ?_ | refine List.mem_append_right _ ?_)) rfl) rfl (by decide) ?_
    refine TL.call rfl Tb.gofn_17 (fun a w hs => long_ok w _ _ _ _ (hr2.new hs.new)) rfl (by decide) (fun _ _ => ?_)
    refine TL.pure (PV.pickF rfl rfl) rfl (by decide) ?_
    refine TL.pure (PV.move rfl) rfl (by decide) ?_
    first | refine TL.splitD 20 rfl (fun h1 => ?_) (fun h1 => ?_) | refine TL.split 20 rfl (fun h1 => ?_) (fun h1 => ?_)
    · skip
      refine TL.skip rfl (fun k hk => by cases hk; decide) ?_
      refine TL.skip rfl (fun k hk => by cases hk; decide) ?_
      refine TL.skip rfl (fun k hk => by cases hk; decide) ?_
      refine TL.pure (PV.pickT rfl rfl) rfl (by decide) ?_
      refine TL.nil ?_
      refine TQ.thenC ?_
      refine TC.condT rfl ?_
      refine TC.seq ?_
      refine TC.region ?_
      refine TL.call rfl Tb.gofn_18 (fun a w hs => hkn w) rfl (by decide) (fun _ _ => ?_)
      refine TL.pure (PV.assign rfl) rfl (by decide) ?_
      refine TL.nil ?_
      refine TQ.thenC ?_
      refine TC.ret ?_
      refine TQ.thenR ?_
      refine TQ.retE1 rfl rfl ?_
      first | exact ⟨(), rfl, trivial, List.nil_sublist _⟩ | (exfalso; omega) | (exfalso; simp_all; done)
    · skip
      refine TL.pure (PV.move rfl) rfl (by decide) ?_
      refine TL.pure (PV.len rfl Tb.sl_25) rfl (by decide) ?_
      refine TL.pure (PV.gtr rfl rfl) rfl (by decide) ?_
      refine TL.pure (PV.pickF rfl rfl) rfl (by decide) ?_
      refine TL.nil ?_
      refine TQ.thenC ?_
      first | refine TC.condD rfl (fun hlong => ?_) (fun hlong => ?_) | refine TC.cond rfl (fun hlong => ?_) (fun hlong => ?_)
      · skip
        refine TC.seq ?_
        refine TC.region ?_
        refine TL.call rfl Tb.gofn_18 (fun a w hs => hkn w) rfl (by decide) (fun _ _ => ?_)
        refine TL.pure (PV.assign rfl) rfl (by decide) ?_
        refine TL.nil ?_
        refine TQ.thenC ?_
        refine TC.ret ?_
        refine TQ.thenR ?_
        refine TQ.retE1 rfl rfl ?_
        first | exact ⟨(), rfl, trivial, List.nil_sublist _⟩ | (exfalso; omega) | (exfalso; simp_all; done)
      · skip
        refine TC.skip ?_
        refine TQ.thenC ?_
        refine TC.seq ?_
        refine TC.region ?_
        refine TL.pure (PV.loadBox rfl Tb.agg_24 (by repeat (first | exact List.Mem.head _ | refine List.Mem.tail _ ?_ | refine List.mem_append_right _ ?_)) rfl) rfl (by decide) ?_
        refine TL.pure (PV.loadBox rfl Tb.agg_24 (by repeat (first | exact List.Mem.head _ | refine List.Mem.tail _ ?_ | refine List.mem_append_right _ ?_)) rfl) rfl (by decide) ?_
        refine TL.call rfl Tb.gofn_52 (fun a w hs => both_ok w n1 p1 c1 r1 (hr1.new hs.new) n2 p2 c2 r2 (hr2.new hs.new) (by omega) (by omega)) rfl (by decide) (fun xa hxa => ?_)
        refine TL.pure (PV.move rfl) rfl (by decide) ?_
        refine TL.pure (PV.extract rfl rfl) rfl (by decide) ?_
        refine TL.pure (PV.extract rfl rfl) rfl (by decide) ?_
        refine TL.alloc Tb.zero_24 rfl (by decide) (fun b2 hb2 => ?_)
        refine TL.storeAgg rfl rfl Tb.cells_24 (by repeat (first | exact Upd.head _ | apply Upd.tail | apply Upd.appR)) rfl rfl (by first | rfl | exact sv_one _ _ _) rfl rfl ?_
        refine TL.pure (PV.assign rfl) rfl (by decide) ?_
        refine TL.nil ?_
        refine TQ.thenC ?_
        refine TC.seq ?_
        refine TC.region ?_
        refine TL.pure (PV.loadBox rfl Tb.agg_24 (by repeat (first | exact List.Mem.head _ | refine List.Mem.tail _ ?_ | refine List.mem_append_right _ ?_)) rfl) rfl (by decide) ?_
        refine TL.pure (PV.loadBox rfl Tb.agg_24 (by repeat (first | exact List.Mem.head _ | refine List.Mem.tail _ ?_ | refine List.mem_append_right _ ?_)) rfl) rfl (by decide) ?_
        refine TL.call rfl Tb.gofn_53 (fun a w hs => rboth_ok w n1 p1 c1 r1 (hr1.new hs.new) n2 p2 c2 r2 (hr2.new hs.new) (by omega) (by omega)) rfl (by decide) (fun ya hya => ?_)
        refine TL.pure (PV.move rfl) rfl (by decide) ?_
        refine TL.pure (PV.extract rfl rfl) rfl (by decide) ?_
        refine TL.pure (PV.extract rfl rfl) rfl (by decide) ?_
        refine TL.alloc Tb.zero_24 rfl (by decide) (fun b3 hb3 => ?_)
        refine TL.storeAgg rfl rfl Tb.cells_24 (by repeat (first | exact Upd.head _ | apply Upd.tail | apply Upd.appR)) rfl rfl (by first | rfl | exact sv_one _ _ _) rfl rfl ?_
        refine TL.pure (PV.assign rfl) rfl (by decide) ?_
        refine TL.nil ?_
        refine TQ.thenC ?_
        refine TC.seq ?_
        refine TC.seq ?_
        have lx := hxa.len
        have ly := hya.len
        have la : (r1 ++ r2).length = r1.length + r2.length := List.length_append
        refine TC.region ?_
        refine TL.pure (PV.loadBox rfl Tb.agg_24 (by repeat (first | exact List.Mem.head _ | refine List.Mem.tail _ ?_ | refine List.mem_append_right _ ?_)) rfl) rfl (by decide) ?_
        refine TL.pure (PV.loadBox rfl Tb.agg_24 (by repeat (first | exact List.Mem.head _ | refine List.Mem.tail _ ?_ | refine List.mem_append_right _ ?_)) rfl) rfl (by decide) ?_
        refine TL.call rfl Tb.gofn_51 (fun a w hs => equalS rfl rfl hxa.ok hya.ok (BdsAt.s hs.new (fun yy hyy => by repeat (first | exact List.mem_append_left _ hyy | refine List.mem_append_right _ ?_ | refine List.Mem.tail _ ?_)) hxa.ok) (BdsAt.s hs.new (fun yy hyy => by repeat (first | exact List.mem_append_left _ hyy | refine List.mem_append_right _ ?_ | refine List.Mem.tail _ ?_)) hya.ok) (by omega) (by omega)) rfl (by decide) (fun _ _ => ?_)
        refine TL.pure ((by first | exact PV.notD rfl | exact PV.not rfl)) rfl (by decide) ?_
        refine TL.pure (PV.move rfl) rfl (by decide) ?_
        first | refine TL.splitD 42 rfl (fun g0 => ?_) (fun g0 => ?_) | refine TL.split 42 rfl (fun g0 => ?_) (fun g0 => ?_)
        · skip
          exact (g0 (CF.same hxa hya)).elim
        · skip
          refine TL.pure (PV.move rfl) rfl (by decide) ?_
          refine TL.pure (PV.move rfl) rfl (by decide) ?_
          refine TL.pure (PV.neq rfl rfl) rfl (by decide) ?_
          refine TL.pure (PV.pickF rfl rfl) rfl (by decide) ?_
          refine TL.nil ?_
          refine TQ.thenC ?_
          first | refine TC.condD rfl (fun g1 => ?_) (fun g1 => ?_) | refine TC.cond rfl (fun g1 => ?_) (fun g1 => ?_)
          · skip
            exact (g1 rfl).elim
          · skip
            refine TC.skip ?_
            refine TQ.thenC ?_
            refine TC.seq ?_
            refine TC.mix [true, true, false, true, true, false, true, true, false, false, false, false] _ 6 Tb.mixed rfl (by kernel_rfl) (by kernel_rfl) (by kernel_rfl) (by kernel_rfl) (List.Sublist.refl _) ?_
            refine TB.op (SOK.pure (PV.loadBox rfl Tb.agg_24 (by repeat (first | exact List.Mem.head _ | refine List.Mem.tail _ ?_ | refine List.mem_append_right _ ?_)) rfl) rfl) (by decide) ?_
            refine TB.op (SOK.pure (PV.move rfl) rfl) (by decide) ?_
            refine TB.no ?_
            refine TB.op (SOK.pure (PV.loadBox rfl Tb.agg_24 (by repeat (first | exact List.Mem.head _ | refine List.Mem.tail _ ?_ | refine List.mem_append_right _ ?_)) rfl) rfl) (by decide) ?_
            refine TB.op (SOK.pure (PV.move rfl) rfl) (by decide) ?_
            refine TB.no ?_
            refine TB.op (SOK.pure (PV.loadBox rfl Tb.agg_24 (by repeat (first | exact List.Mem.head _ | refine List.Mem.tail _ ?_ | refine List.mem_append_right _ ?_)) rfl) rfl) (by decide) ?_
            refine TB.op (SOK.pure (PV.move rfl) rfl) (by decide) ?_
            refine TB.no ?_
            refine TB.no ?_
            refine TB.no ?_
            refine TB.no ?_
            refine TB.fin ?_
            refine TX.step [2] (by kernel_rfl) (by decide) ⟨⟨_, rfl, ?_⟩, trivial⟩
            refine TL.call rfl Tb.gofn_23 (fun a w hs => check_ok w _ _ _ _ (hr1.new hs.new) pd cd ds.length ds rfl (hx.new hs.new) (by omega)) rfl (by decide) (fun _ _ => ?_)
            refine TL.nil ?_
            refine TX.next (.inl (by repeat (first | exact List.Sublist.slnil | exact List.nil_sublist _ | exact List.Sublist.refl _ | refine List.Sublist.cons_cons _ ?_ | refine List.Sublist.cons _ ?_ | refine List.Sublist.trans ?_ (List.sublist_append_right _ _)))) ?_
            refine TX.step [5] (by kernel_rfl) (by decide) ⟨⟨_, rfl, ?_⟩, trivial⟩
            refine TL.call rfl Tb.gofn_23 (fun a w hs => check_ok w _ _ _ _ (hr2.new hs.new) pd cd ds.length ds rfl (hx.new hs.new) (by omega)) rfl (by decide) (fun _ _ => ?_)
            refine TL.nil ?_
            refine TX.next (.inl (by repeat (first | exact List.Sublist.slnil | exact List.nil_sublist _ | exact List.Sublist.refl _ | refine List.Sublist.cons_cons _ ?_ | refine List.Sublist.cons _ ?_ | refine List.Sublist.trans ?_ (List.sublist_append_right _ _)))) ?_
            refine TX.step [8] (by kernel_rfl) (by decide) ⟨⟨_, rfl, ?_⟩, trivial⟩
            refine TL.call rfl Tb.gofn_23 (fun a w hs => checkS w xa.1 xa.2.1 _ xa.2.2 rfl hxa.ok (BdsAt.s hs.new (fun yy hyy => by repeat (first | exact List.mem_append_left _ hyy | refine List.mem_append_right _ ?_ | refine List.Mem.tail _ ?_)) hxa.ok) pd cd ds.length ds rfl (hx.new hs.new) (by omega)) rfl (by decide) (fun _ _ => ?_)
            refine TL.nil ?_
            refine TX.next (.inl (by repeat (first | exact List.Sublist.slnil | exact List.nil_sublist _ | exact List.Sublist.refl _ | refine List.Sublist.cons_cons _ ?_ | refine List.Sublist.cons _ ?_ | refine List.Sublist.trans ?_ (List.sublist_append_right _ _)))) ?_
            refine TX.step [9] (by kernel_rfl) (by decide) ⟨⟨_, rfl, ?_⟩, trivial⟩
            refine TL.pure (PV.assign rfl) rfl (by decide) ?_
            refine TL.nil ?_
            refine TX.next (.inl (by repeat (first | exact List.Sublist.slnil | exact List.nil_sublist _ | exact List.Sublist.refl _ | refine List.Sublist.cons_cons _ ?_ | refine List.Sublist.cons _ ?_ | refine List.Sublist.trans ?_ (List.sublist_append_right _ _)))) ?_
            refine TX.step [10] (by kernel_rfl) (by decide) ⟨⟨_, rfl, ?_⟩, trivial⟩
            refine TL.pure (PV.assign rfl) rfl (by decide) ?_
            refine TL.nil ?_
            refine TX.next (.inl (by repeat (first | exact List.Sublist.slnil | exact List.nil_sublist _ | exact List.Sublist.refl _ | refine List.Sublist.cons_cons _ ?_ | refine List.Sublist.cons _ ?_ | refine List.Sublist.trans ?_ (List.sublist_append_right _ _)))) ?_
            refine TX.step [11] (by kernel_rfl) (by decide) ⟨⟨_, rfl, ?_⟩, trivial⟩
            refine TL.pure (PV.assign rfl) rfl (by decide) ?_
            refine TL.nil ?_
            refine TX.next (.inr (by kernel_rfl)) ?_
            refine TX.done (by kernel_rfl) ?_
            refine TQ.thenC ?_
            refine TC.seq ?_
            refine TC.region ?_
            refine TL.pure (PV.move rfl) rfl (by decide) ?_
            refine TL.pure (PV.neq rfl rfl) rfl (by decide) ?_
            refine TL.pure (PV.move rfl) rfl (by decide) ?_
            first | refine TL.splitD 58 rfl (fun k1 => ?_) (fun k1 => ?_) | refine TL.split 58 rfl (fun k1 => ?_) (fun k1 => ?_)
            · skip
              refine TL.skip rfl (fun k hk => by cases hk; decide) ?_
              refine TL.skip rfl (fun k hk => by cases hk; decide) ?_
              refine TL.skip rfl (fun k hk => by cases hk; decide) ?_
              refine TL.skipU rfl (fun k hk => by cases hk; decide) ?_
              refine TL.skipU rfl (fun k hk => by cases hk; decide) ?_
              refine TL.skip rfl (fun k hk => by cases hk; decide) ?_
              refine TL.pure (PV.pickT rfl rfl) rfl (by decide) ?_
              refine TL.pure (PV.move rfl) rfl (by decide) ?_
              refine TL.skip rfl (fun k hk => by cases hk; decide) ?_
              refine TL.skip rfl (fun k hk => by cases hk; decide) ?_
              refine TL.skip rfl (fun k hk => by cases hk; decide) ?_
              refine TL.skip rfl (fun k hk => by cases hk; decide) ?_
              refine TL.skip rfl (fun k hk => by cases hk; decide) ?_
              refine TL.skipU rfl (fun k hk => by cases hk; decide) ?_
              refine TL.skipU rfl (fun k hk => by cases hk; decide) ?_
              refine TL.skip rfl (fun k hk => by cases hk; decide) ?_
              refine TL.skip rfl (fun k hk => by cases hk; decide) ?_
              refine TL.pure (PV.pickT rfl rfl) rfl (by decide) ?_
              refine TL.pure (PV.move rfl) rfl (by decide) ?_
              try have hz : bothI n1 r1 n2 r2 = 0 := by omega
              try have hx7 : checkI n1 r1 ds = 0 ∨ checkI n1 r1 ds = 7 := by omega
              try have q1 : xa.1 = n1 := by rw [hxa.num, if_pos hz]
              try have q2 : xa.2.2 = r1 ++ r2 := by rw [hxa.eq, if_pos hz]
              try have hcb : (checkI xa.1 xa.2.2 ds = 0) ↔ (checkI n1 r1 ds = 0 ∧ checkI n2 r2 ds = 0) := by (obtain ⟨v1, v2, hn, hl⟩ := bothI_is hz; rw [q1, q2, ← hn]; exact check_both v1 (hn ▸ v2) hl hx7)
              refine TL.call rfl Tb.gofn_18 (fun a w hs => hkn w) rfl (by decide) (fun _ _ => ?_)
              refine TL.pure (PV.pickT rfl rfl) rfl (by decide) ?_
              refine TL.pure (PV.assign rfl) rfl (by decide) ?_
              refine TL.nil ?_
              refine TQ.thenC ?_
              refine TC.ret ?_
              refine TQ.retE1 rfl rfl ?_
              first | exact ⟨(), rfl, trivial, List.nil_sublist _⟩ | (exfalso; omega) | (exfalso; simp_all; done)
            · skip
              refine TL.pure (PV.move rfl) rfl (by decide) ?_
              refine TL.pure (PV.neq rfl rfl) rfl (by decide) ?_
              refine TL.pure (PV.move rfl) rfl (by decide) ?_
              first | refine TL.splitD 61 rfl (fun k2 => ?_) (fun k2 => ?_) | refine TL.split 61 rfl (fun k2 => ?_) (fun k2 => ?_)
              · skip
                refine TL.pure (PV.move rfl) rfl (by decide) ?_
                refine TL.pure (PV.neq rfl rfl) rfl (by decide) ?_
                refine TL.pure (PV.pickT rfl rfl) rfl (by decide) ?_
                refine TL.pure (PV.pickF rfl rfl) rfl (by decide) ?_
                refine TL.pure (PV.move rfl) rfl (by decide) ?_
                first | refine TL.splitD 66 rfl (fun k3 => ?_) (fun k3 => ?_) | refine TL.split 66 rfl (fun k3 => ?_) (fun k3 => ?_)
                · skip
                  refine TL.skip rfl (fun k hk => by cases hk; decide) ?_
                  refine TL.skip rfl (fun k hk => by cases hk; decide) ?_
                  refine TL.skip rfl (fun k hk => by cases hk; decide) ?_
                  refine TL.skip rfl (fun k hk => by cases hk; decide) ?_
                  refine TL.skip rfl (fun k hk => by cases hk; decide) ?_
                  refine TL.skipU rfl (fun k hk => by cases hk; decide) ?_
                  refine TL.skipU rfl (fun k hk => by cases hk; decide) ?_
                  refine TL.skip rfl (fun k hk => by cases hk; decide) ?_
                  refine TL.skip rfl (fun k hk => by cases hk; decide) ?_
                  refine TL.pure (PV.pickT rfl rfl) rfl (by decide) ?_
                  refine TL.pure (PV.move rfl) rfl (by decide) ?_
                  try have hz : bothI n1 r1 n2 r2 = 0 := by omega
                  try have hx7 : checkI n1 r1 ds = 0 ∨ checkI n1 r1 ds = 7 := by omega
                  try have q1 : xa.1 = n1 := by rw [hxa.num, if_pos hz]
                  try have q2 : xa.2.2 = r1 ++ r2 := by rw [hxa.eq, if_pos hz]
                  try have hcb : (checkI xa.1 xa.2.2 ds = 0) ↔ (checkI n1 r1 ds = 0 ∧ checkI n2 r2 ds = 0) := by (obtain ⟨v1, v2, hn, hl⟩ := bothI_is hz; rw [q1, q2, ← hn]; exact check_both v1 (hn ▸ v2) hl hx7)
                  refine TL.call rfl Tb.gofn_18 (fun a w hs => hkn w) rfl (by decide) (fun _ _ => ?_)
                  refine TL.pure (PV.pickT rfl rfl) rfl (by decide) ?_
                  refine TL.pure (PV.assign rfl) rfl (by decide) ?_
                  refine TL.nil ?_
                  refine TQ.thenC ?_
                  refine TC.ret ?_
                  refine TQ.retE1 rfl rfl ?_
                  first | exact ⟨(), rfl, trivial, List.nil_sublist _⟩ | (exfalso; omega) | (exfalso; simp_all; done)
                · skip
                  refine TL.pure (PV.move rfl) rfl (by decide) ?_
                  refine TL.pure (PV.eql rfl rfl) rfl (by decide) ?_
                  refine TL.pure (PV.move rfl) rfl (by decide) ?_
                  refine TL.pure (PV.eql rfl rfl) rfl (by decide) ?_
                  refine TL.pure (PV.move rfl) rfl (by decide) ?_
                  first | refine TL.splitD 71 rfl (fun k4 => ?_) (fun k4 => ?_) | refine TL.split 71 rfl (fun k4 => ?_) (fun k4 => ?_)
                  · skip
                    refine TL.pure (PV.move rfl) rfl (by decide) ?_
                    refine TL.pure (PV.eql rfl rfl) rfl (by decide) ?_
                    refine TL.pure (PV.pickT rfl rfl) rfl (by decide) ?_
                    refine TL.pure (PV.eqlB rfl rfl Tb.bool_4) rfl (by decide) ?_
                    refine TL.pure (PV.pickF rfl rfl) rfl (by decide) ?_
                    refine TL.pure (PV.move rfl) rfl (by decide) ?_
                    try have hz : bothI n1 r1 n2 r2 = 0 := by omega
                    try have hx7 : checkI n1 r1 ds = 0 ∨ checkI n1 r1 ds = 7 := by omega
                    try have q1 : xa.1 = n1 := by rw [hxa.num, if_pos hz]
                    try have q2 : xa.2.2 = r1 ++ r2 := by rw [hxa.eq, if_pos hz]
                    try have hcb : (checkI xa.1 xa.2.2 ds = 0) ↔ (checkI n1 r1 ds = 0 ∧ checkI n2 r2 ds = 0) := by (obtain ⟨v1, v2, hn, hl⟩ := bothI_is hz; rw [q1, q2, ← hn]; exact check_both v1 (hn ▸ v2) hl hx7)
                    first | refine TL.splitD 77 rfl (fun k5 => ?_) (fun k5 => ?_) | refine TL.split 77 rfl (fun k5 => ?_) (fun k5 => ?_)
                    · skip
                      try have hz : bothI n1 r1 n2 r2 = 0 := by omega
                      try have hx7 : checkI n1 r1 ds = 0 ∨ checkI n1 r1 ds = 7 := by omega
                      try have q1 : xa.1 = n1 := by rw [hxa.num, if_pos hz]
                      try have q2 : xa.2.2 = r1 ++ r2 := by rw [hxa.eq, if_pos hz]
                      try have hcb : (checkI xa.1 xa.2.2 ds = 0) ↔ (checkI n1 r1 ds = 0 ∧ checkI n2 r2 ds = 0) := by (obtain ⟨v1, v2, hn, hl⟩ := bothI_is hz; rw [q1, q2, ← hn]; exact check_both v1 (hn ▸ v2) hl hx7)
                      refine TL.call rfl Tb.gofn_18 (fun a w hs => hkn w) rfl (by decide) (fun _ _ => ?_)
                      refine TL.pure (PV.pickT rfl rfl) rfl (by decide) ?_
                      refine TL.pure (PV.assign rfl) rfl (by decide) ?_
                      refine TL.nil ?_
                      refine TQ.thenC ?_
                      refine TC.ret ?_
                      refine TQ.retE1 rfl rfl ?_
                      first | exact ⟨(), rfl, trivial, List.nil_sublist _⟩ | (exfalso; omega) | (exfalso; simp_all; done)
                    · skip
                      try have hz : bothI n1 r1 n2 r2 = 0 := by omega
                      try have hx7 : checkI n1 r1 ds = 0 ∨ checkI n1 r1 ds = 7 := by omega
                      try have q1 : xa.1 = n1 := by rw [hxa.num, if_pos hz]
                      try have q2 : xa.2.2 = r1 ++ r2 := by rw [hxa.eq, if_pos hz]
                      try have hcb : (checkI xa.1 xa.2.2 ds = 0) ↔ (checkI n1 r1 ds = 0 ∧ checkI n2 r2 ds = 0) := by (obtain ⟨v1, v2, hn, hl⟩ := bothI_is hz; rw [q1, q2, ← hn]; exact check_both v1 (hn ▸ v2) hl hx7)
                      refine TL.skip rfl (fun k hk => by cases hk; decide) ?_
                      refine TL.pure (PV.pickF rfl rfl) rfl (by decide) ?_
                      refine TL.pure (PV.assign rfl) rfl (by decide) ?_
                      refine TL.nil ?_
                      refine TQ.thenC ?_
                      refine TC.ret ?_
                      refine TQ.retE1 rfl rfl ?_
                      first | exact ⟨(), rfl, trivial, List.nil_sublist _⟩ | (exfalso; omega) | (exfalso; simp_all; done)
                  · skip
                    refine TL.skip rfl (fun k hk => by cases hk; decide) ?_
                    refine TL.skip rfl (fun k hk => by cases hk; decide) ?_
                    refine TL.pure (PV.pickF rfl rfl) rfl (by decide) ?_
                    refine TL.pure (PV.eqlB rfl rfl Tb.bool_4) rfl (by decide) ?_
                    refine TL.pure (PV.pickF rfl rfl) rfl (by decide) ?_
                    refine TL.pure (PV.move rfl) rfl (by decide) ?_
                    try have hz : bothI n1 r1 n2 r2 = 0 := by omega
                    try have hx7 : checkI n1 r1 ds = 0 ∨ checkI n1 r1 ds = 7 := by omega
                    try have q1 : xa.1 = n1 := by rw [hxa.num, if_pos hz]
                    try have q2 : xa.2.2 = r1 ++ r2 := by rw [hxa.eq, if_pos hz]
                    try have hcb : (checkI xa.1 xa.2.2 ds = 0) ↔ (checkI n1 r1 ds = 0 ∧ checkI n2 r2 ds = 0) := by (obtain ⟨v1, v2, hn, hl⟩ := bothI_is hz; rw [q1, q2, ← hn]; exact check_both v1 (hn ▸ v2) hl hx7)
                    first | refine TL.splitD 77 rfl (fun k5 => ?_) (fun k5 => ?_) | refine TL.split 77 rfl (fun k5 => ?_) (fun k5 => ?_)
                    · skip
                      try have hz : bothI n1 r1 n2 r2 = 0 := by omega
                      try have hx7 : checkI n1 r1 ds = 0 ∨ checkI n1 r1 ds = 7 := by omega
                      try have q1 : xa.1 = n1 := by rw [hxa.num, if_pos hz]
                      try have q2 : xa.2.2 = r1 ++ r2 := by rw [hxa.eq, if_pos hz]
                      try have hcb : (checkI xa.1 xa.2.2 ds = 0) ↔ (checkI n1 r1 ds = 0 ∧ checkI n2 r2 ds = 0) := by (obtain ⟨v1, v2, hn, hl⟩ := bothI_is hz; rw [q1, q2, ← hn]; exact check_both v1 (hn ▸ v2) hl hx7)
                      refine TL.call rfl Tb.gofn_18 (fun a w hs => hkn w) rfl (by decide) (fun _ _ => ?_)
                      refine TL.pure (PV.pickT rfl rfl) rfl (by decide) ?_
                      refine TL.pure (PV.assign rfl) rfl (by decide) ?_
                      refine TL.nil ?_
                      refine TQ.thenC ?_
                      refine TC.ret ?_
                      refine TQ.retE1 rfl rfl ?_
                      first | exact ⟨(), rfl, trivial, List.nil_sublist _⟩ | (exfalso; omega) | (exfalso; simp_all; done)
                    · skip
                      try have hz : bothI n1 r1 n2 r2 = 0 := by omega
                      try have hx7 : checkI n1 r1 ds = 0 ∨ checkI n1 r1 ds = 7 := by omega
                      try have q1 : xa.1 = n1 := by rw [hxa.num, if_pos hz]
                      try have q2 : xa.2.2 = r1 ++ r2 := by rw [hxa.eq, if_pos hz]
                      try have hcb : (checkI xa.1 xa.2.2 ds = 0) ↔ (checkI n1 r1 ds = 0 ∧ checkI n2 r2 ds = 0) := by (obtain ⟨v1, v2, hn, hl⟩ := bothI_is hz; rw [q1, q2, ← hn]; exact check_both v1 (hn ▸ v2) hl hx7)
                      refine TL.skip rfl (fun k hk => by cases hk; decide) ?_
                      refine TL.pure (PV.pickF rfl rfl) rfl (by decide) ?_
                      refine TL.pure (PV.assign rfl) rfl (by decide) ?_
                      refine TL.nil ?_
                      refine TQ.thenC ?_
                      refine TC.ret ?_
                      refine TQ.retE1 rfl rfl ?_
                      first | exact ⟨(), rfl, trivial, List.nil_sublist _⟩ | (exfalso; omega) | (exfalso; simp_all; done)
              · skip
                refine TL.skip rfl (fun k hk => by cases hk; decide) ?_
                refine TL.skip rfl (fun k hk => by cases hk; decide) ?_
                refine TL.pure (PV.pickF rfl rfl) rfl (by decide) ?_
                refine TL.pure (PV.pickF rfl rfl) rfl (by decide) ?_
                refine TL.pure (PV.move rfl) rfl (by decide) ?_
                refine TL.pure (PV.move rfl) rfl (by decide) ?_
                refine TL.pure (PV.eql rfl rfl) rfl (by decide) ?_
                refine TL.pure (PV.move rfl) rfl (by decide) ?_
                refine TL.pure (PV.eql rfl rfl) rfl (by decide) ?_
                refine TL.pure (PV.move rfl) rfl (by decide) ?_
                first | refine TL.splitD 71 rfl (fun k4 => ?_) (fun k4 => ?_) | refine TL.split 71 rfl (fun k4 => ?_) (fun k4 => ?_)
                · skip
                  refine TL.pure (PV.move rfl) rfl (by decide) ?_
                  refine TL.pure (PV.eql rfl rfl) rfl (by decide) ?_
                  refine TL.pure (PV.pickT rfl rfl) rfl (by decide) ?_
                  refine TL.pure (PV.eqlB rfl rfl Tb.bool_4) rfl (by decide) ?_
                  refine TL.pure (PV.pickF rfl rfl) rfl (by decide) ?_
                  refine TL.pure (PV.move rfl) rfl (by decide) ?_
                  try have hz : bothI n1 r1 n2 r2 = 0 := by omega
                  try have hx7 : checkI n1 r1 ds = 0 ∨ checkI n1 r1 ds = 7 := by omega
                  try have q1 : xa.1 = n1 := by rw [hxa.num, if_pos hz]
                  try have q2 : xa.2.2 = r1 ++ r2 := by rw [hxa.eq, if_pos hz]
                  try have hcb : (checkI xa.1 xa.2.2 ds = 0) ↔ (checkI n1 r1 ds = 0 ∧ checkI n2 r2 ds = 0) := by (obtain ⟨v1, v2, hn, hl⟩ := bothI_is hz; rw [q1, q2, ← hn]; exact check_both v1 (hn ▸ v2) hl hx7)
                  first | refine TL.splitD 77 rfl (fun k5 => ?_) (fun k5 => ?_) | refine TL.split 77 rfl (fun k5 => ?_) (fun k5 => ?_)
                  · skip
                    try have hz : bothI n1 r1 n2 r2 = 0 := by omega
                    try have hx7 : checkI n1 r1 ds = 0 ∨ checkI n1 r1 ds = 7 := by omega
                    try have q1 : xa.1 = n1 := by rw [hxa.num, if_pos hz]
                    try have q2 : xa.2.2 = r1 ++ r2 := by rw [hxa.eq, if_pos hz]
                    try have hcb : (checkI xa.1 xa.2.2 ds = 0) ↔ (checkI n1 r1 ds = 0 ∧ checkI n2 r2 ds = 0) := by (obtain ⟨v1, v2, hn, hl⟩ := bothI_is hz; rw [q1, q2, ← hn]; exact check_both v1 (hn ▸ v2) hl hx7)
                    refine TL.call rfl Tb.gofn_18 (fun a w hs => hkn w) rfl (by decide) (fun _ _ => ?_)
                    refine TL.pure (PV.pickT rfl rfl) rfl (by decide) ?_
                    refine TL.pure (PV.assign rfl) rfl (by decide) ?_
                    refine TL.nil ?_
                    refine TQ.thenC ?_
                    refine TC.ret ?_
                    refine TQ.retE1 rfl rfl ?_
                    first | exact ⟨(), rfl, trivial, List.nil_sublist _⟩ | (exfalso; omega) | (exfalso; simp_all; done)
                  · skip
                    try have hz : bothI n1 r1 n2 r2 = 0 := by omega
                    try have hx7 : checkI n1 r1 ds = 0 ∨ checkI n1 r1 ds = 7 := by omega
                    try have q1 : xa.1 = n1 := by rw [hxa.num, if_pos hz]
                    try have q2 : xa.2.2 = r1 ++ r2 := by rw [hxa.eq, if_pos hz]
                    try have hcb : (checkI xa.1 xa.2.2 ds = 0) ↔ (checkI n1 r1 ds = 0 ∧ checkI n2 r2 ds = 0) := by (obtain ⟨v1, v2, hn, hl⟩ := bothI_is hz; rw [q1, q2, ← hn]; exact check_both v1 (hn ▸ v2) hl hx7)
                    refine TL.skip rfl (fun k hk => by cases hk; decide) ?_
                    refine TL.pure (PV.pickF rfl rfl) rfl (by decide) ?_
                    refine TL.pure (PV.assign rfl) rfl (by decide) ?_
                    refine TL.nil ?_
                    refine TQ.thenC ?_
                    refine TC.ret ?_
                    refine TQ.retE1 rfl rfl ?_
                    first | exact ⟨(), rfl, trivial, List.nil_sublist _⟩ | (exfalso; omega) | (exfalso; simp_all; done)
                · skip
                  refine TL.skip rfl (fun k hk => by cases hk; decide) ?_
                  refine TL.skip rfl (fun k hk => by cases hk; decide) ?_
                  refine TL.pure (PV.pickF rfl rfl) rfl (by decide) ?_
                  refine TL.pure (PV.eqlB rfl rfl Tb.bool_4) rfl (by decide) ?_
                  refine TL.pure (PV.pickF rfl rfl) rfl (by decide) ?_
                  refine TL.pure (PV.move rfl) rfl (by decide) ?_
                  try have hz : bothI n1 r1 n2 r2 = 0 := by omega
                  try have hx7 : checkI n1 r1 ds = 0 ∨ checkI n1 r1 ds = 7 := by omega
                  try have q1 : xa.1 = n1 := by rw [hxa.num, if_pos hz]
                  try have q2 : xa.2.2 = r1 ++ r2 := by rw [hxa.eq, if_pos hz]
                  try have hcb : (checkI xa.1 xa.2.2 ds = 0) ↔ (checkI n1 r1 ds = 0 ∧ checkI n2 r2 ds = 0) := by (obtain ⟨v1, v2, hn, hl⟩ := bothI_is hz; rw [q1, q2, ← hn]; exact check_both v1 (hn ▸ v2) hl hx7)
                  first | refine TL.splitD 77 rfl (fun k5 => ?_) (fun k5 => ?_) | refine TL.split 77 rfl (fun k5 => ?_) (fun k5 => ?_)
                  · skip
                    try have hz : bothI n1 r1 n2 r2 = 0 := by omega
                    try have hx7 : checkI n1 r1 ds = 0 ∨ checkI n1 r1 ds = 7 := by omega
                    try have q1 : xa.1 = n1 := by rw [hxa.num, if_pos hz]
                    try have q2 : xa.2.2 = r1 ++ r2 := by rw [hxa.eq, if_pos hz]
                    try have hcb : (checkI xa.1 xa.2.2 ds = 0) ↔ (checkI n1 r1 ds = 0 ∧ checkI n2 r2 ds = 0) := by (obtain ⟨v1, v2, hn, hl⟩ := bothI_is hz; rw [q1, q2, ← hn]; exact check_both v1 (hn ▸ v2) hl hx7)
                    refine TL.call rfl Tb.gofn_18 (fun a w hs => hkn w) rfl (by decide) (fun _ _ => ?_)
                    refine TL.pure (PV.pickT rfl rfl) rfl (by decide) ?_
                    refine TL.pure (PV.assign rfl) rfl (by decide) ?_
                    refine TL.nil ?_
                    refine TQ.thenC ?_
                    refine TC.ret ?_
                    refine TQ.retE1 rfl rfl ?_
                    first | exact ⟨(), rfl, trivial, List.nil_sublist _⟩ | (exfalso; omega) | (exfalso; simp_all; done)
                  · skip
                    try have hz : bothI n1 r1 n2 r2 = 0 := by omega
                    try have hx7 : checkI n1 r1 ds = 0 ∨ checkI n1 r1 ds = 7 := by omega
                    try have q1 : xa.1 = n1 := by rw [hxa.num, if_pos hz]
                    try have q2 : xa.2.2 = r1 ++ r2 := by rw [hxa.eq, if_pos hz]
                    try have hcb : (checkI xa.1 xa.2.2 ds = 0) ↔ (checkI n1 r1 ds = 0 ∧ checkI n2 r2 ds = 0) := by (obtain ⟨v1, v2, hn, hl⟩ := bothI_is hz; rw [q1, q2, ← hn]; exact check_both v1 (hn ▸ v2) hl hx7)
                    refine TL.skip rfl (fun k hk => by cases hk; decide) ?_
                    refine TL.pure (PV.pickF rfl rfl) rfl (by decide) ?_
                    refine TL.pure (PV.assign rfl) rfl (by decide) ?_
                    refine TL.nil ?_
                    refine TQ.thenC ?_
                    refine TC.ret ?_
                    refine TQ.retE1 rfl rfl ?_
                    first | exact ⟨(), rfl, trivial, List.nil_sublist _⟩ | (exfalso; omega) | (exfalso; simp_all; done)

end Go.Proofs.Ytenalmddoljhoaa
