/- The width of a cut, the example of the laws, and what they know of it: contracts. -/
import Derived.Test.YtnlbngbbddhgeaaQFn
set_option linter.unusedVariables false
set_option linter.unusedSimpArgs false
namespace Go.Proofs.Ytnlbngbbddhgeaa
open Go.Sx Go.RowKit

theorem cutW_snoc (S : Nat → Bool) (e : Fl.E) : ∀ l : List Fl.E, Fl.cutW S (l ++ [e]) = Fl.cutW S l + (if S e.f = true ∧ S e.t = false then e.w else 0)
  | [] => by simp only [List.nil_append, Fl.cutW]; omega
  | x :: l => by simp only [List.cons_append, Fl.cutW, cutW_snoc S e l]; omega
def inS (xs : List Int) (v : Nat) : Bool := decide ((v : Int) ∈ xs)
abbrev dr0 (rs : List Bd) : List Fl.E := mkL rs fun _ => 0
theorem cutW_pos {S : Nat → Bool} : ∀ {L : List Fl.E}, (∀ e ∈ L, 0 ≤ e.w ∧ e.w ≤ 20) → 0 ≤ Fl.cutW S L
  | [], _ => by simp [Fl.cutW]
  | e :: l, h => by
    have h1 := h e List.mem_cons_self
    have h2 := cutW_pos (S := S) (L := l) fun x hx => h x (List.mem_cons_of_mem _ hx)
    simp only [Fl.cutW]
    split <;> omega
theorem cut_bd {n s t : Int} {rs : List Bd} (hv : Vd n s t rs) (S : Nat → Bool) (k : Nat) : 0 ≤ Fl.cutW S ((dr0 rs).take k) ∧ Fl.cutW S ((dr0 rs).take k) ≤ 320 := by
  have hb : ∀ e ∈ (dr0 rs).take k, 0 ≤ e.w ∧ e.w ≤ 20 := fun e he => by
    obtain ⟨j, hj, rfl⟩ := mkL_mem (List.mem_of_mem_take he)
    have := hv.at hj
    exact ⟨this.2.2.2.1, this.2.2.2.2⟩
  have h1 := cutW_320 (S := S) hb
  have h2 : ((dr0 rs).take k).length ≤ 16 := by have := hv.len; rw [List.length_take, mkL_len]; omega
  have h3 := cutW_pos (S := S) hb
  omega
theorem cut_next {n s t : Int} {rs : List Bd} (hv : Vd n s t rs) {xs : List Int} {k : Nat} (hk : k < rs.length) :
    Fl.cutW (inS xs) ((dr0 rs).take (k + 1)) = Fl.cutW (inS xs) ((dr0 rs).take k) + (if (rs.getD k default).a ∈ xs ∧ (rs.getD k default).b ∉ xs then (rs.getD k default).m else 0) := by
  have h := hv.at hk
  have ha : (((rs.getD k default).a.toNat : Nat) : Int) = (rs.getD k default).a := by omega
  have hb : (((rs.getD k default).b.toNat : Nat) : Int) = (rs.getD k default).b := by omega
  rw [take_mkL hk, cutW_snoc]
  simp only [mkE, inS, ha, hb, decide_eq_true_eq, decide_eq_false_iff_not]


set_option maxRecDepth 100000 in
set_option maxHeartbeats 1000000 in
theorem Across_v (w0 : World) (n s t : Nat) (p : Option Addr) (cap : Nat) (rs : List Bd) (hr : BdsAt w0 p rs) (hv : Vd n s t rs) (hd0 : dI n s t rs = 0) (pf : Option Addr) (cf : Nat) (xs : List Int) (hf : IntsAt w0 pf xs) (hl : xs.length ≤ 1000000) :
    Calls Try.prog 25 #[dnV n s t p rs.length cap, .slice pf xs.length cf] w0 (Post (X := Unit) (fun _ => .tuple #[.int .i64 (if cutB n s t xs = true then Fl.cutW (inS xs) (dr0 rs) else 0), .int .i64 (if cutB n s t xs = true then 0 else 1)]) (fun _ => True) (fun _ => []) w0) := by
  have hlen := hv.len
  refine calls Try.func25 rfl (n := 43) rfl (by simp) ?_
  refine TC.seq ?_
  refine TC.region ?_
  refine TL.box rfl rfl (by decide) (fun b0 hb0 => ?_)
  refine TL.pure (PV.assign rfl) rfl (by decide) ?_
  refine TL.pure (PV.assign rfl) rfl (by decide) ?_
  refine TL.nil ?_
  refine TQ.thenC ?_
  refine TC.seq ?_
  refine TC.seq ?_
  refine TC.region ?_
  refine TL.pure (PV.loadBox rfl Tb.agg_24 (by repeat (first | exact List.Mem.head _ | refine List.Mem.tail _ ?_ | refine List.mem_append_right _ ?_)) rfl) rfl (by decide) ?_
  refine TL.call rfl Tb.gofn_20 (fun a w hs => validate_ok w n s t p cap rs (hr.new hs.new)) rfl (by decide) (fun _ _ => ?_)
  refine TL.pure (PV.assign rfl) rfl (by decide) ?_
  refine TL.nil ?_
  refine TQ.thenC ?_
  refine TC.seq ?_
  refine TC.region ?_
  refine TL.pure (PV.move rfl) rfl (by decide) ?_
  refine TL.pure (PV.neq rfl rfl) rfl (by decide) ?_
  refine TL.nil ?_
  refine TQ.thenC ?_
  first | refine TC.condD rfl (fun hv9 => ?_) (fun hv9 => ?_) | refine TC.cond rfl (fun hv9 => ?_) (fun hv9 => ?_)
  · skip
    refine TC.seq ?_
    refine TC.region ?_
    refine TL.pure (PV.move rfl) rfl (by decide) ?_
    refine TL.pure (PV.assign rfl) rfl (by decide) ?_
    refine TL.pure (PV.assign rfl) rfl (by decide) ?_
    refine TL.nil ?_
    refine TQ.thenC ?_
    refine TC.ret ?_
    refine TQ.thenR ?_
    refine TQ.retE2 rfl rfl rfl ?_
    first | exact absurd hd0 hv9 | exact ⟨(), by rw [if_neg (by simpa using hcut), if_neg (by simpa using hcut)], trivial, List.nil_sublist _⟩ | exact ⟨(), by rw [if_pos (by simpa using hcut), if_pos (by simpa using hcut), hke, List.take_of_length_le (by rw [mkL_len]; exact Nat.le_refl _)], trivial, List.nil_sublist _⟩
  · skip
    refine TC.skip ?_
    refine TQ.thenC ?_
    refine TC.seq ?_
    refine TC.seq ?_
    refine TC.region ?_
    refine TL.pure (PV.loadBox rfl Tb.agg_24 (by repeat (first | exact List.Mem.head _ | refine List.Mem.tail _ ?_ | refine List.mem_append_right _ ?_)) rfl) rfl (by decide) ?_
    refine TL.pure (PV.move rfl) rfl (by decide) ?_
    refine TL.call rfl Tb.gofn_68 (fun a w hs => isCut_ok w n s t _ pf cf xs (hf.new hs.new) hl) rfl (by decide) (fun _ _ => ?_)
    refine TL.pure ((by first | exact PV.notD rfl | exact PV.not rfl)) rfl (by decide) ?_
    refine TL.nil ?_
    refine TQ.thenC ?_
    first | refine TC.condD rfl (fun hcut => ?_) (fun hcut => ?_) | refine TC.cond rfl (fun hcut => ?_) (fun hcut => ?_)
    · skip
      refine TC.seq ?_
      refine TC.region ?_
      refine TL.pure (PV.assign rfl) rfl (by decide) ?_
      refine TL.pure (PV.assign rfl) rfl (by decide) ?_
      refine TL.nil ?_
      refine TQ.thenC ?_
      refine TC.ret ?_
      refine TQ.thenR ?_
      refine TQ.retE2 rfl rfl rfl ?_
      first | exact absurd hd0 hv9 | exact ⟨(), by rw [if_neg (by simpa using hcut), if_neg (by simpa using hcut)], trivial, List.nil_sublist _⟩ | exact ⟨(), by rw [if_pos (by simpa using hcut), if_pos (by simpa using hcut), hke, List.take_of_length_le (by rw [mkL_len]; exact Nat.le_refl _)], trivial, List.nil_sublist _⟩
    · skip
      refine TC.skip ?_
      refine TQ.thenC ?_
      refine TC.seq ?_
      refine TC.region ?_
      refine TL.pure (PV.assign rfl) rfl (by decide) ?_
      refine TL.nil ?_
      refine TQ.thenC ?_
      refine TC.seq ?_
      refine TC.seq ?_
      refine TC.region ?_
      refine TL.pure (PV.fieldAddr rfl Tb.fo_24_3) rfl (by decide) ?_
      refine TL.pure (PV.load rfl Tb.one_22 (by repeat (first | exact List.Mem.head _ | refine List.Mem.tail _ ?_ | refine List.mem_append_right _ ?_)) rfl) rfl (by decide) ?_
      refine TL.pure (PV.len rfl Tb.sl_22) rfl (by decide) ?_
      refine TL.pure (PV.move rfl) rfl (by decide) ?_
      refine TL.nil ?_
      refine TQ.thenC ?_
      refine TC.block ?_
      refine TC.loopK [1, 4, 5, 20, 21] (X := Nat) (fun k => k ≤ rs.length) (fun k => [(7, .int .i64 (Fl.cutW (inS xs) ((dr0 rs).take k))), (22, .int .i64 k)]) (fun k => [(b0, Obj.cells #[.int .i64 (n : Nat), .int .i64 (s : Nat), .int .i64 (t : Nat), .slice p rs.length cap] 24 (0, 0))]) (fun k => rs.length - k) 0 (Nat.zero_le _) (by refine And.intro ?_ (And.intro rfl True.intro); rfl) (List.Sublist.refl _) ?_
      intro k hk
      refine TC.seq ?_
      refine TC.region ?_
      refine TL.pure (PV.lss rfl rfl) rfl (by decide) ?_
      refine TL.nil ?_
      refine TQ.thenC ?_
      refine TC.seq ?_
      first | refine TC.condD rfl (fun hlt => ?_) (fun hlt => ?_) | refine TC.cond rfl (fun hlt => ?_) (fun hlt => ?_)
      · skip
        refine TC.skip ?_
        refine TQ.thenC ?_
        refine TC.seq ?_
        refine TC.block ?_
        refine TC.seq ?_
        obtain ⟨q, hqp, hq⟩ := hr k (by omega)
        have hcb := cut_bd hv (inS xs) k
        have hnx := cut_next (xs := xs) hv (show k < rs.length by omega)
        have hma := hv.at (show k < rs.length by omega)
        refine TC.region ?_
        refine TL.pure (PV.indexA rfl hqp rfl Tb.elm_22 rfl (by omega)) rfl (by decide) ?_
        refine TL.pure (PV.loadAggA rfl Tb.agg_40 rfl hq) rfl (by decide) ?_
        refine TL.alloc Tb.zero_40 rfl (by decide) (fun b1 hb1 => ?_)
        refine TL.storeAgg rfl rfl Tb.cells_40 (by repeat (first | exact Upd.head _ | apply Upd.tail | apply Upd.appR)) rfl rfl rfl rfl rfl ?_
        refine TL.nil ?_
        refine TQ.thenC ?_
        refine TC.seq ?_
        refine TC.region ?_
        refine TL.pure (PV.move rfl) rfl (by decide) ?_
        refine TL.pure (PV.fieldAddr rfl Tb.fo_40_0) rfl (by decide) ?_
        refine TL.pure (PV.load rfl Tb.one_3 (by repeat (first | exact List.Mem.head _ | refine List.Mem.tail _ ?_ | refine List.mem_append_right _ ?_)) rfl) rfl (by decide) ?_
        refine TL.call rfl Tb.gofn_69 (fun a w hs => contains_ok w pf cf xs _ (hf.new hs.new) hl) rfl (by decide) (fun _ _ => ?_)
        refine TL.pure (PV.move rfl) rfl (by decide) ?_
        first | refine TL.splitD 30 rfl (fun e1 => ?_) (fun e1 => ?_) | refine TL.split 30 rfl (fun e1 => ?_) (fun e1 => ?_)
        · skip
          refine TL.pure (PV.move rfl) rfl (by decide) ?_
          refine TL.pure (PV.fieldAddr rfl Tb.fo_40_1) rfl (by decide) ?_
          refine TL.pure (PV.load rfl Tb.one_3 (by repeat (first | exact List.Mem.head _ | refine List.Mem.tail _ ?_ | refine List.mem_append_right _ ?_)) rfl) rfl (by decide) ?_
          refine TL.call rfl Tb.gofn_69 (fun a w hs => contains_ok w pf cf xs _ (hf.new hs.new) hl) rfl (by decide) (fun _ _ => ?_)
          refine TL.pure ((by first | exact PV.notD rfl | exact PV.not rfl)) rfl (by decide) ?_
          refine TL.pure (PV.pickT rfl rfl) rfl (by decide) ?_
          refine TL.nil ?_
          refine TQ.thenC ?_
          first | refine TC.condD rfl (fun e2 => ?_) (fun e2 => ?_) | refine TC.cond rfl (fun e2 => ?_) (fun e2 => ?_)
          · skip
            rw [if_pos ⟨by simpa using e1, by simpa using e2⟩] at hnx
            refine TC.region ?_
            refine TL.pure (PV.move rfl) rfl (by decide) ?_
            refine TL.pure (PV.fieldAddr rfl Tb.fo_40_2) rfl (by decide) ?_
            refine TL.pure (PV.load rfl Tb.one_3 (by repeat (first | exact List.Mem.head _ | refine List.Mem.tail _ ?_ | refine List.mem_append_right _ ?_)) rfl) rfl (by decide) ?_
            refine TL.pure (PV.add rfl rfl (by omega)) rfl (by decide) ?_
            refine TL.pure (PV.assign rfl) rfl (by decide) ?_
            refine TL.nil ?_
            refine TQ.blkN ?_
            refine TQ.thenC ?_
            refine TC.region ?_
            refine TL.pure (PV.add rfl rfl (by omega)) rfl (by decide) ?_
            refine TL.pure (PV.move rfl) rfl (by decide) ?_
            refine TL.nil ?_
            refine TQ.thenN ?_
            refine TQ.backK (k + 1) (by refine And.intro ?_ (And.intro rfl True.intro); show some _ = some _; rw [hnx]) (by repeat (first | exact True.intro | refine And.intro rfl ?_)) (by repeat (first | exact List.Sublist.slnil | exact List.nil_sublist _ | exact List.Sublist.refl _ | refine List.Sublist.cons_cons _ ?_ | refine List.Sublist.cons _ ?_ | refine List.Sublist.trans ?_ (List.sublist_append_right _ _))) (by omega) (by omega)
          · skip
            rw [if_neg (fun h9 => absurd h9.2 (by simpa using e2)), Int.add_zero] at hnx
            refine TC.skip ?_
            refine TQ.blkN ?_
            refine TQ.thenC ?_
            refine TC.region ?_
            refine TL.pure (PV.add rfl rfl (by omega)) rfl (by decide) ?_
            refine TL.pure (PV.move rfl) rfl (by decide) ?_
            refine TL.nil ?_
            refine TQ.thenN ?_
            refine TQ.backK (k + 1) (by refine And.intro ?_ (And.intro rfl True.intro); show some _ = some _; rw [hnx]) (by repeat (first | exact True.intro | refine And.intro rfl ?_)) (by repeat (first | exact List.Sublist.slnil | exact List.nil_sublist _ | exact List.Sublist.refl _ | refine List.Sublist.cons_cons _ ?_ | refine List.Sublist.cons _ ?_ | refine List.Sublist.trans ?_ (List.sublist_append_right _ _))) (by omega) (by omega)
        · skip
          refine TL.skip rfl (fun k hk => by cases hk; decide) ?_
          refine TL.skip rfl (fun k hk => by cases hk; decide) ?_
          refine TL.skip rfl (fun k hk => by cases hk; decide) ?_
          refine TL.skip rfl (fun k hk => by cases hk; decide) ?_
          refine TL.skip rfl (fun k hk => by cases hk; decide) ?_
          refine TL.pure (PV.pickF rfl rfl) rfl (by decide) ?_
          refine TL.nil ?_
          refine TQ.thenC ?_
          refine TC.condF rfl ?_
          rw [if_neg (fun h9 => absurd h9.1 (by simpa using e1)), Int.add_zero] at hnx
          refine TC.skip ?_
          refine TQ.blkN ?_
          refine TQ.thenC ?_
          refine TC.region ?_
          refine TL.pure (PV.add rfl rfl (by omega)) rfl (by decide) ?_
          refine TL.pure (PV.move rfl) rfl (by decide) ?_
          refine TL.nil ?_
          refine TQ.thenN ?_
          refine TQ.backK (k + 1) (by refine And.intro ?_ (And.intro rfl True.intro); show some _ = some _; rw [hnx]) (by repeat (first | exact True.intro | refine And.intro rfl ?_)) (by repeat (first | exact List.Sublist.slnil | exact List.nil_sublist _ | exact List.Sublist.refl _ | refine List.Sublist.cons_cons _ ?_ | refine List.Sublist.cons _ ?_ | refine List.Sublist.trans ?_ (List.sublist_append_right _ _))) (by omega) (by omega)
      · skip
        refine TC.exit ?_
        refine TQ.thenE ?_
        refine TQ.thenE ?_
        refine TQ.blkS ?_
        refine TQ.thenC ?_
        refine TC.seq ?_
        have hke : k = rs.length := by omega
        refine TC.region ?_
        refine TL.pure (PV.move rfl) rfl (by decide) ?_
        refine TL.pure (PV.assign rfl) rfl (by decide) ?_
        refine TL.pure (PV.assign rfl) rfl (by decide) ?_
        refine TL.nil ?_
        refine TQ.thenC ?_
        refine TC.ret ?_
        refine TQ.retE2 rfl rfl rfl ?_
        first | exact absurd hd0 hv9 | exact ⟨(), by rw [if_neg (by simpa using hcut), if_neg (by simpa using hcut)], trivial, List.nil_sublist _⟩ | exact ⟨(), by rw [if_pos (by simpa using hcut), if_pos (by simpa using hcut), hke, List.take_of_length_le (by rw [mkL_len]; exact Nat.le_refl _)], trivial, List.nil_sublist _⟩

end Go.Proofs.Ytnlbngbbddhgeaa
