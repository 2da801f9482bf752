/- Walks, both ways: contracts. -/
import Derived.Test.YtmmgcajegokkoaaQ1
import Derived.Test.YtmmgcajegokkoaaRg
set_option linter.unusedVariables false
set_option linter.unusedSimpArgs false
namespace Go.Proofs.Ytmmgcajegokkoaa
open Go.Sx Go.RowKit

def turnR (r : Rd) : Rd := ⟨r.to, r.fr, -r.rise, r.wt⟩
def legR (rs : List Rd) (s : Int) : Rd := if 0 < s then rs.getD (s - 1).toNat default else turnR (rs.getD (-s - 1).toNat default)
theorem legR_pos {rs : List Rd} {s : Int} (h : 0 < s) : legR rs s = rs.getD (s - 1).toNat default := if_pos h
theorem legR_neg {rs : List Rd} {s : Int} (h : ¬ 0 < s) : legR rs s = turnR (rs.getD (-s - 1).toNat default) := if_neg h
def stpB (rs : List Rd) (s : Int) : Bool := decide (s ≠ 0 ∧ -(rs.length : Int) ≤ s ∧ s ≤ rs.length)
def atW (rs : List Rd) (f : Int) (ws : List Int) : Nat → Int
  | 0 => f
  | k + 1 => (legR rs (ws.getD k 0)).to
def riW (rs : List Rd) (ws : List Int) : Nat → Int
  | 0 => 0
  | k + 1 => riW rs ws k + (legR rs (ws.getD k 0)).rise
def chW (rs : List Rd) (f : Int) (ws : List Int) (k : Nat) : Bool := decide ((legR rs (ws.getD k 0)).fr = atW rs f ws k)
def wkI (n : Int) (rs : List Rd) (f : Int) (ws : List Int) : Int :=
  if validateI n rs ≠ 0 then validateI n rs else if isPointB n f = false then 4 else if 20 < ws.length then 3 else if ws.all (stpB rs) = false then 4 else if (List.range ws.length).all (chW rs f ws) = false then 9 else 0
def wkA (n : Int) (rs : List Rd) (f : Int) (ws : List Int) : Int := if wkI n rs f ws = 0 then atW rs f ws ws.length else 0
def wkR (n : Int) (rs : List Rd) (f : Int) (ws : List Int) : Int := if wkI n rs f ws = 0 then riW rs ws ws.length else 0
abbrev wkV (n : Int) (rs : List Rd) (f : Int) (ws : List Int) : Value := .tuple #[.int .i64 (wkA n rs f ws), .int .i64 (wkR n rs f ws), .int .i64 (wkI n rs f ws)]
theorem wk_no {n : Int} {rs : List Rd} {f : Int} {ws : List Int} {e : Int} (h : wkI n rs f ws = e) (he : e ≠ 0) : Value.tuple #[.int .i64 0, .int .i64 0, .int .i64 e] = wkV n rs f ws := by
  unfold wkV wkA wkR
  rw [h, if_neg he, if_neg he]
theorem wk_ok {n : Int} {rs : List Rd} {f : Int} {ws : List Int} (h : wkI n rs f ws = 0) : Value.tuple #[.int .i64 (atW rs f ws ws.length), .int .i64 (riW rs ws ws.length), .int .i64 0] = wkV n rs f ws := by
  unfold wkV wkA wkR
  rw [h, if_pos rfl, if_pos rfl]
section
variable {n : Int} {rs : List Rd} {f : Int} {ws : List Int}
theorem wk_1 (h : validateI n rs ≠ 0) : wkI n rs f ws = validateI n rs := if_pos h
theorem wk_2 (h : ¬ validateI n rs ≠ 0) (h2 : isPointB n f = false) : wkI n rs f ws = 4 := by unfold wkI; rw [if_neg h, if_pos h2]
theorem wk_3 (h : ¬ validateI n rs ≠ 0) (h2 : isPointB n f = true) (h3 : 20 < ws.length) : wkI n rs f ws = 3 := by unfold wkI; rw [if_neg h, if_neg (by rw [h2]; decide), if_pos h3]
theorem all_no' {α : Type} {l : List α} {g : α → Bool} {d : α} {k : Nat} (hk : k < l.length) (h : g (l.getD k d) = false) : l.all g = false := by
  cases he : l.all g
  · rfl
  · have := List.all_eq_true.1 he (l.getD k d) (by simp [List.getD, hk])
    rw [h] at this; cases this
theorem all_yes' {α : Type} {l : List α} {g : α → Bool} {d : α} (h : ∀ k, k < l.length → g (l.getD k d) = true) : l.all g = true := by
  rw [List.all_eq_true]
  intro x hx
  obtain ⟨j, hj, rfl⟩ := List.getElem_of_mem hx
  have := h j hj
  simpa [List.getD, hj] using this
theorem wk_4 (h : ¬ validateI n rs ≠ 0) (h2 : isPointB n f = true) (h3 : ¬ 20 < ws.length) {k : Nat} (hk : k < ws.length) (h4 : stpB rs (ws.getD k 0) = false) : wkI n rs f ws = 4 := by
  unfold wkI; rw [if_neg h, if_neg (by rw [h2]; decide), if_neg h3, if_pos (all_no' (d := 0) hk h4)]
theorem wk_9 (h : ¬ validateI n rs ≠ 0) (h2 : isPointB n f = true) (h3 : ¬ 20 < ws.length) (h4 : ∀ k, k < ws.length → stpB rs (ws.getD k 0) = true) {k : Nat} (hk : k < ws.length) (h5 : chW rs f ws k = false) : wkI n rs f ws = 9 := by
  unfold wkI; rw [if_neg h, if_neg (by rw [h2]; decide), if_neg h3, if_neg (by rw [all_yes' (d := 0) h4]; decide), if_pos (all_no' (d := 0) (k := k) (by simpa using hk) (by simpa [List.getD, hk] using h5))]
theorem wk_0 (h : ¬ validateI n rs ≠ 0) (h2 : isPointB n f = true) (h3 : ¬ 20 < ws.length) (h4 : ∀ k, k < ws.length → stpB rs (ws.getD k 0) = true) (h5 : ∀ k, k < ws.length → chW rs f ws k = true) : wkI n rs f ws = 0 := by
  have h6 : (List.range ws.length).all (chW rs f ws) = true := all_yes' (d := 0) fun k hk => by
    have hk' : k < ws.length := by simpa using hk
    simpa [List.getD, hk'] using h5 k hk'
  unfold wkI; rw [if_neg h, if_neg (by rw [h2]; decide), if_neg h3, if_neg (by rw [all_yes' (d := 0) h4]; decide), if_neg (by rw [h6]; decide)]
theorem wk_is (h : wkI n rs f ws = 0) : ¬ validateI n rs ≠ 0 ∧ (∀ k, k < ws.length → stpB rs (ws.getD k 0) = true) ∧ ∀ k, k < ws.length → chW rs f ws k = true := by
  unfold wkI at h
  by_cases h1 : validateI n rs ≠ 0
  · rw [if_pos h1] at h; exact absurd h h1
  · rw [if_neg h1] at h
    split at h
    · cases h
    · split at h
      · cases h
      · split at h
        · cases h
        · rename_i h4
          split at h
          · cases h
          · rename_i h5
            refine ⟨h1, fun k hk => ?_, fun k hk => ?_⟩
            · cases he : stpB rs (ws.getD k 0)
              · exact absurd (all_no' (d := 0) hk he) h4
              · rfl
            · cases he : chW rs f ws k
              · exact absurd (all_no' (l := List.range ws.length) (d := 0) (k := k) (by simpa using hk) (by simpa [List.getD, hk] using he)) h5
              · rfl
theorem stp_is {s : Int} (h : stpB rs s = true) : s ≠ 0 ∧ -(rs.length : Int) ≤ s ∧ s ≤ rs.length := of_decide_eq_true h
theorem leg_at (hv : Valid n rs) {s : Int} (h : stpB rs s = true) : (0 ≤ (legR rs s).fr ∧ (legR rs s).fr < n) ∧ (0 ≤ (legR rs s).to ∧ (legR rs s).to < n) ∧ (-1000 ≤ (legR rs s).rise ∧ (legR rs s).rise ≤ 1000) := by
  have hs := stp_is h
  by_cases h0 : 0 < s
  · rw [legR_pos h0]
    have := hv.at (k := (s - 1).toNat) (by omega)
    exact ⟨this.1, this.2.1, this.2.2.2.1⟩
  · rw [legR_neg h0]
    have := hv.at (k := (-s - 1).toNat) (by omega)
    refine ⟨this.2.1, this.1, ?_⟩
    have h3 := this.2.2.2.1
    show -1000 ≤ -_ ∧ -_ ≤ 1000
    omega
theorem riW_bd (hv : Valid n rs) (hs : ∀ k, k < ws.length → stpB rs (ws.getD k 0) = true) : ∀ k, k ≤ ws.length → -1000 * (k : Int) ≤ riW rs ws k ∧ riW rs ws k ≤ 1000 * (k : Int)
  | 0, _ => by simp [riW]
  | k + 1, h => by
    have h1 := riW_bd hv hs k (by omega)
    have h2 := (leg_at hv (hs k (by omega))).2.2
    show -1000 * ((k + 1 : Nat) : Int) ≤ riW rs ws k + _ ∧ riW rs ws k + _ ≤ _
    omega
/-- A walk that comes back in a true survey rises by nothing. -/
theorem tele {xs : List Int} (hz : zeroB (residL rs 1 xs) = true) (h4 : ∀ k, k < ws.length → stpB rs (ws.getD k 0) = true) (h5 : ∀ k, k < ws.length → chW rs f ws k = true) : ∀ k, k ≤ ws.length → riW rs ws k = xs.getD (atW rs f ws k).toNat 0 - xs.getD f.toNat 0
  | 0, _ => by show (0 : Int) = _ - _; simp [atW]
  | k + 1, hk => by
    have ih := tele hz h4 h5 k (by omega)
    have hc : (legR rs (ws.getD k 0)).fr = atW rs f ws k := of_decide_eq_true (h5 k (by omega))
    have hs := stp_is (h4 k (by omega))
    have hr : ∀ j, j < rs.length → (rs.getD j default).rise = xs.getD (rs.getD j default).to.toNat 0 - xs.getD (rs.getD j default).fr.toNat 0 := fun j hj => by
      have h7 := List.all_eq_true.1 hz (resR rs 1 xs j) (List.mem_map.2 ⟨j, List.mem_range.2 hj, rfl⟩)
      have h8 := of_decide_eq_true h7
      unfold resR at h8
      omega
    show riW rs ws k + (legR rs (ws.getD k 0)).rise = xs.getD (legR rs (ws.getD k 0)).to.toNat 0 - _
    rw [ih, ← hc]
    generalize ws.getD k 0 = s at hs hc ⊢
    by_cases h0 : 0 < s
    · rw [legR_pos h0]
      have := hr (s - 1).toNat (by omega)
      omega
    · rw [legR_neg h0]
      have := hr (-s - 1).toNat (by omega)
      show _ - _ + -_ = _ - _
      simp only [turnR]
      omega
end
theorem take_leg {rs : List Rd} {ws : List Int} {k : Nat} (h : k < ws.length) : (ws.map (legR rs)).take (k + 1) = (ws.map (legR rs)).take k ++ [legR rs (ws.getD k 0)] := by
  rw [List.take_add_one]
  simp [List.getD, h]


set_option maxRecDepth 100000 in
theorem turned_ok (w0 : World) (r : Rd) (hb : -1000 ≤ r.rise ∧ r.rise ≤ 1000) :
    Calls Try.prog 92 #[r.val] w0 (Post (X := Unit) (fun _ => (turnR r).val) (fun _ => True) (fun _ => []) w0) := by
  refine calls Try.func92 rfl (n := 13) rfl (by simp) ?_
  refine TC.seq ?_
  refine TC.region ?_
  refine TL.box rfl rfl (by decide) (fun b0 hb0 => ?_)
  refine TL.alloc Tb.zero_61 rfl (by decide) (fun b1 hb1 => ?_)
  refine TL.nil ?_
  refine TQ.thenC ?_
  refine TC.seq ?_
  refine TC.region ?_
  refine TL.pure (PV.fieldAddr rfl Tb.fo_61_1) rfl (by decide) ?_
  refine TL.pure (PV.load rfl Tb.one_3 (by repeat (first | exact List.Mem.head _ | refine List.Mem.tail _ ?_ | refine List.mem_append_right _ ?_)) rfl) rfl (by decide) ?_
  refine TL.pure (PV.fieldAddr rfl Tb.fo_61_0) rfl (by decide) ?_
  refine TL.pure (PV.load rfl Tb.one_3 (by repeat (first | exact List.Mem.head _ | refine List.Mem.tail _ ?_ | refine List.mem_append_right _ ?_)) rfl) rfl (by decide) ?_
  refine TL.pure (PV.fieldAddr rfl Tb.fo_61_2) rfl (by decide) ?_
  refine TL.pure (PV.load rfl Tb.one_3 (by repeat (first | exact List.Mem.head _ | refine List.Mem.tail _ ?_ | refine List.mem_append_right _ ?_)) rfl) rfl (by decide) ?_
  refine TL.pure (PV.neg rfl (by omega)) rfl (by decide) ?_
  refine TL.pure (PV.fieldAddr rfl Tb.fo_61_3) rfl (by decide) ?_
  refine TL.pure (PV.load rfl Tb.one_3 (by repeat (first | exact List.Mem.head _ | refine List.Mem.tail _ ?_ | refine List.mem_append_right _ ?_)) rfl) rfl (by decide) ?_
  refine TL.pure (PV.build (cs := (turnR r).cells.toArray) rfl Tb.zero_61 Tb.pl_61 rfl) rfl (by decide) ?_
  refine TL.storeAgg rfl rfl Tb.cells_61 (by repeat (first | exact Upd.head _ | apply Upd.tail | apply Upd.appR)) rfl rfl rfl rfl rfl ?_
  refine TL.nil ?_
  refine TQ.thenC ?_
  refine TC.ret ?_
  refine TQ.retR rfl (Res.agg rfl Tb.agg_61 (by repeat (first | exact List.Mem.head _ | refine List.Mem.tail _ ?_ | refine List.mem_append_right _ ?_)) rfl Res.nil) ?_
  simp only [tup]
  first | exact ⟨(), rfl, trivial, List.nil_sublist _⟩ | exact ⟨(), trivial, trivial, List.nil_sublist _⟩

set_option maxRecDepth 100000 in
theorem leg_ok (w0 : World) (n : Int) (p : Option Addr) (cap : Nat) (rs : List Rd) (hr : RdsAt w0 p rs) (hv : Valid n rs) (s : Int) (hsp : stpB rs s = true) :
    Calls Try.prog 97 #[sv n p rs.length cap, .int .i64 s] w0 (Post (X := Unit) (fun _ => (legR rs s).val) (fun _ => True) (fun _ => []) w0) := by
  have hs1 := stp_is hsp
  have hl9 := hv.len
  refine calls Try.func97 rfl (n := 21) rfl (by simp) ?_
  refine TC.seq ?_
  refine TC.region ?_
  refine TL.box rfl rfl (by decide) (fun b0 hb0 => ?_)
  refine TL.alloc Tb.zero_61 rfl (by decide) (fun b1 hb1 => ?_)
  refine TL.nil ?_
  refine TQ.thenC ?_
  refine TC.seq ?_
  refine TC.seq ?_
  refine TC.region ?_
  refine TL.pure (PV.move rfl) rfl (by decide) ?_
  refine TL.pure (PV.gtr rfl rfl) rfl (by decide) ?_
  refine TL.nil ?_
  refine TQ.thenC ?_
  first | refine TC.condD rfl (fun hpos => ?_) (fun hpos => ?_) | refine TC.cond rfl (fun hpos => ?_) (fun hpos => ?_)
  · skip
    refine TC.seq ?_
    obtain ⟨q, hqp, hq⟩ := hr (s - 1).toNat (by omega)
    have hlr := legR_pos (rs := rs) (s := s) (by omega)
    refine TC.region ?_
    refine TL.pure (PV.fieldAddr rfl Tb.fo_24_1) rfl (by decide) ?_
    refine TL.pure (PV.load rfl Tb.one_22 (by repeat (first | exact List.Mem.head _ | refine List.Mem.tail _ ?_ | refine List.mem_append_right _ ?_)) rfl) rfl (by decide) ?_
    refine TL.pure (PV.move rfl) rfl (by decide) ?_
    refine TL.pure (PV.sub rfl rfl (by omega)) rfl (by decide) ?_
    refine TL.pure (PV.indexA (j := (s - 1).toNat) rfl hqp rfl Tb.elm_22 (by omega) (by omega)) rfl (by decide) ?_
    refine TL.pure (PV.loadAggA rfl Tb.agg_61 rfl hq) rfl (by decide) ?_
    refine TL.storeAgg rfl rfl Tb.cells_61 (by repeat (first | exact Upd.head _ | apply Upd.tail | apply Upd.appR)) rfl rfl rfl rfl rfl ?_
    refine TL.nil ?_
    refine TQ.thenC ?_
    refine TC.ret ?_
    refine TQ.thenR ?_
    refine TQ.retR rfl (Res.agg rfl Tb.agg_61 (by repeat (first | exact List.Mem.head _ | refine List.Mem.tail _ ?_ | refine List.mem_append_right _ ?_)) rfl Res.nil) ?_
    simp only [tup]
    rw [hlr]
    first | exact ⟨(), rfl, trivial, List.nil_sublist _⟩ | exact ⟨(), trivial, trivial, List.nil_sublist _⟩
  · skip
    refine TC.skip ?_
    refine TQ.thenC ?_
    refine TC.seq ?_
    obtain ⟨q, hqp, hq⟩ := hr (-s - 1).toNat (by omega)
    have hlr := legR_neg (rs := rs) (s := s) (by omega)
    have hra := (hv.at (k := (-s - 1).toNat) (by omega)).2.2.2.1
    refine TC.region ?_
    refine TL.pure (PV.fieldAddr rfl Tb.fo_24_1) rfl (by decide) ?_
    refine TL.pure (PV.load rfl Tb.one_22 (by repeat (first | exact List.Mem.head _ | refine List.Mem.tail _ ?_ | refine List.mem_append_right _ ?_)) rfl) rfl (by decide) ?_
    refine TL.pure (PV.move rfl) rfl (by decide) ?_
    refine TL.pure (PV.neg rfl (by omega)) rfl (by decide) ?_
    refine TL.pure (PV.sub rfl rfl (by omega)) rfl (by decide) ?_
    refine TL.pure (PV.indexA (j := (-s - 1).toNat) rfl hqp rfl Tb.elm_22 (by omega) (by omega)) rfl (by decide) ?_
    refine TL.pure (PV.loadAggA rfl Tb.agg_61 rfl hq) rfl (by decide) ?_
    refine TL.call rfl Tb.gofn_92 (fun a w hs => turned_ok w (rs.getD (-s - 1).toNat default) hra) rfl (by decide) (fun _ _ => ?_)
    refine TL.storeAgg rfl rfl Tb.cells_61 (by repeat (first | exact Upd.head _ | apply Upd.tail | apply Upd.appR)) rfl rfl rfl rfl rfl ?_
    refine TL.nil ?_
    refine TQ.thenC ?_
    refine TC.ret ?_
    refine TQ.retR rfl (Res.agg rfl Tb.agg_61 (by repeat (first | exact List.Mem.head _ | refine List.Mem.tail _ ?_ | refine List.mem_append_right _ ?_)) rfl Res.nil) ?_
    simp only [tup]
    rw [hlr]
    first | exact ⟨(), rfl, trivial, List.nil_sublist _⟩ | exact ⟨(), trivial, trivial, List.nil_sublist _⟩

set_option maxRecDepth 100000 in
theorem isStep_ok (w0 : World) (n : Int) (p : Option Addr) (cap : Nat) (rs : List Rd) (hr : RdsAt w0 p rs) (hl : rs.length ≤ 1000) (s : Int) :
    Calls Try.prog 72 #[sv n p rs.length cap, .int .i64 s] w0 (Post (X := Unit) (fun _ => .bool (stpB rs s)) (fun _ => True) (fun _ => []) w0) := by
  refine calls Try.func72 rfl (n := 14) rfl (by simp) ?_
  refine TC.seq ?_
  refine TC.region ?_
  refine TL.box rfl rfl (by decide) (fun b0 hb0 => ?_)
  refine TL.pure (PV.assign rfl) rfl (by decide) ?_
  refine TL.nil ?_
  refine TQ.thenC ?_
  refine TC.seq ?_
  refine TC.region ?_
  refine TL.pure (PV.move rfl) rfl (by decide) ?_
  refine TL.pure (PV.neq rfl rfl) rfl (by decide) ?_
  refine TL.pure (PV.move rfl) rfl (by decide) ?_
  first | refine TL.splitD 7 rfl (fun h0 => ?_) (fun h0 => ?_) | refine TL.split 7 rfl (fun h0 => ?_) (fun h0 => ?_)
  · skip
    refine TL.pure (PV.move rfl) rfl (by decide) ?_
    refine TL.pure (PV.fieldAddr rfl Tb.fo_24_1) rfl (by decide) ?_
    refine TL.pure (PV.load rfl Tb.one_22 (by repeat (first | exact List.Mem.head _ | refine List.Mem.tail _ ?_ | refine List.mem_append_right _ ?_)) rfl) rfl (by decide) ?_
    refine TL.pure (PV.len rfl Tb.sl_22) rfl (by decide) ?_
    refine TL.call rfl Tb.gofn_93 (fun a w hs => isWithin_ok w s rs.length (by omega) (by omega)) rfl (by decide) (fun _ _ => ?_)
    refine TL.pure (PV.pickT rfl rfl) rfl (by decide) ?_
    refine TL.pure (PV.assign rfl) rfl (by decide) ?_
    refine TL.nil ?_
    refine TQ.thenC ?_
    refine TC.ret ?_
    refine TQ.retE1 rfl rfl ?_
    first | exact ⟨(), by unfold stpB; rw [decide_eq_false (by omega)], trivial, List.nil_sublist _⟩ | exact ⟨(), by unfold stpB isWithinB; congr 1; rw [decide_eq_decide]; omega, trivial, List.nil_sublist _⟩
  · skip
    refine TL.skip rfl (fun k hk => by cases hk; decide) ?_
    refine TL.skip rfl (fun k hk => by cases hk; decide) ?_
    refine TL.skip rfl (fun k hk => by cases hk; decide) ?_
    refine TL.skip rfl (fun k hk => by cases hk; decide) ?_
    refine TL.skip rfl (fun k hk => by cases hk; decide) ?_
    refine TL.pure (PV.pickF rfl rfl) rfl (by decide) ?_
    refine TL.pure (PV.assign rfl) rfl (by decide) ?_
    refine TL.nil ?_
    refine TQ.thenC ?_
    refine TC.ret ?_
    refine TQ.retE1 rfl rfl ?_
    first | exact ⟨(), by unfold stpB; rw [decide_eq_false (by omega)], trivial, List.nil_sublist _⟩ | exact ⟨(), by unfold stpB isWithinB; congr 1; rw [decide_eq_decide]; omega, trivial, List.nil_sublist _⟩

set_option maxRecDepth 100000 in
theorem legs_ok (w0 : World) (n : Int) (p : Option Addr) (cap : Nat) (rs : List Rd) (hr : RdsAt w0 p rs) (pw : Option Addr) (cw : Nat) (ws : List Int) (hx : IntsAt w0 pw ws) :
    Calls Try.prog 73 #[sv n p rs.length cap, .slice pw ws.length cw] w0 (Post (X := Nat × Nat) (fun y => .func (.func 96) #[] #[.pointer (some ⟨y.1, 0, none⟩), .pointer (some ⟨y.2, 0, none⟩)]) (fun _ => True) (fun y => [(y.1, Obj.cells #[.slice pw ws.length cw] 31 (0, 0)), (y.2, Obj.cells (sv n p rs.length cap).cells 24 (0, 0))]) w0) := by
  refine calls Try.func73 rfl (n := 6) rfl (by simp) ?_
  refine TC.seq ?_
  refine TC.region ?_
  refine TL.box rfl rfl (by decide) (fun b0 hb0 => ?_)
  refine TL.box rfl rfl (by decide) (fun b1 hb1 => ?_)
  refine TL.pure (PV.assign rfl) rfl (by decide) ?_
  refine TL.nil ?_
  refine TQ.thenC ?_
  refine TC.seq ?_
  refine TC.region ?_
  refine TL.pure (PV.makeFunc rfl) rfl (by decide) ?_
  refine TL.pure (PV.assign rfl) rfl (by decide) ?_
  refine TL.nil ?_
  refine TQ.thenC ?_
  refine TC.ret ?_
  refine TQ.retE1 rfl rfl ?_
  exact ⟨(b1, b0), rfl, trivial, List.Sublist.refl _⟩

set_option maxRecDepth 100000 in
set_option maxHeartbeats 1000000 in
theorem legs_it (w0 : World) (n : Int) (p : Option Addr) (cap : Nat) (rs : List Rd) (hr : RdsAt w0 p rs) (hv : Valid n rs) (pw : Option Addr) (cw : Nat) (ws : List Int) (hx : IntsAt w0 pw ws) (hl : ws.length ≤ 1000) (hsp : ∀ k, k < ws.length → stpB rs (ws.getD k 0) = true) (b1 b0 : Nat) :
    Iter Try.prog 96 [.pointer (some ⟨b1, 0, none⟩), .pointer (some ⟨b0, 0, none⟩)] (fun r : Rd => [r.val]) w0 [(b1, Obj.cells #[.slice pw ws.length cw] 31 (0, 0)), (b0, Obj.cells (sv n p rs.length cap).cells 24 (0, 0))] (fun l => l = ws.map (legR rs)) (fun l => l <+: ws.map (legR rs)) := by
  intro X Y w lY F H Fx Hx s0 hk hY h0 hN
  refine callsIG Try.func96 rfl (n := 19) rfl (by simp) hN ?_
  refine TG.seq ?_
  refine TG.region (by repeat (first | with_reducible exact RB.lo | with_reducible exact QN.lo | with_reducible exact bodyM_lo | with_reducible exact bodyP_lo | with_reducible apply lo_then | with_reducible apply lo_blk)) (by kernel_rfl) ?_
  refine TL.pure (PV.load rfl Tb.one_31 (hk _ _ (List.Mem.head _)) rfl) rfl (by decide) ?_
  refine TL.pure (PV.len rfl Tb.sl_31) rfl (by decide) ?_
  refine TL.pure (PV.move rfl) rfl (by decide) ?_
  refine TL.nil ?_
  refine TQ.thenG ?_
  refine TG.block ?_
  refine TG.loopK [0, 2, 6, 7] (X := Nat × X) (fun y => y.1 ≤ ws.length ∧ F ((ws.map (legR rs)).take y.1) y.2) (fun y => [(8, .int .i64 y.1)]) (fun y => H y.2) (fun y => ws.length - y.1) (0, s0) ⟨Nat.zero_le _, h0⟩ (by repeat (first | exact True.intro | refine And.intro rfl ?_)) (List.Sublist.refl _) ?_
  intro y hy
  refine TG.seq ?_
  refine TG.region (by repeat (first | with_reducible exact RB.lo | with_reducible exact QN.lo | with_reducible exact bodyM_lo | with_reducible exact bodyP_lo | with_reducible apply lo_then | with_reducible apply lo_blk)) (by kernel_rfl) ?_
  refine TL.pure (PV.lss rfl rfl) rfl (by decide) ?_
  refine TL.nil ?_
  refine TQ.thenG ?_
  refine TG.seq ?_
  first | refine TG.condD rfl (fun h0 => ?_) (fun h0 => ?_) | refine TG.cond rfl (fun h0 => ?_) (fun h0 => ?_)
  · skip
    refine TG.skip ?_
    refine TQ.thenG ?_
    refine TG.seq ?_
    refine TG.block ?_
    refine TG.seq ?_
    obtain ⟨q2, hq2p, hq2⟩ := hx y.1 (by omega)
    refine TG.region (by repeat (first | with_reducible exact RB.lo | with_reducible exact QN.lo | with_reducible exact bodyM_lo | with_reducible exact bodyP_lo | with_reducible apply lo_then | with_reducible apply lo_blk)) (by kernel_rfl) ?_
    refine TL.pure (PV.indexA rfl hq2p rfl Tb.elm_31 rfl (by omega)) rfl (by decide) ?_
    refine TL.pure (PV.loadOld rfl Tb.one_3 hq2) rfl (by decide) ?_
    refine TL.pure (PV.assign rfl) rfl (by decide) ?_
    refine TL.nil ?_
    refine TQ.thenG ?_
    refine TG.seq ?_
    have hst := hsp y.1 (by omega)
    refine TG.regionL ?_
    refine TGL.pre 4 (by repeat (first | with_reducible exact RB.lo | with_reducible exact QN.lo | with_reducible exact bodyM_lo | with_reducible exact bodyP_lo | with_reducible apply lo_then | with_reducible apply lo_blk)) (by kernel_rfl) ?_
    simp only [List.take_succ_cons, List.take_zero, List.drop_succ_cons, List.drop_zero]
    refine TL.pure (PV.move rfl) rfl (by decide) ?_
    refine TL.pure (PV.loadBox rfl Tb.agg_24 (hk _ _ (.tail _ (.head _))) rfl) rfl (by decide) ?_
    refine TL.pure (PV.move rfl) rfl (by decide) ?_
    refine TL.call rfl Tb.gofn_97 (fun a w hs => leg_ok w _ _ _ _ (hr.new hs.new) hv _ hst) rfl (by decide) (fun _ _ => ?_)
    refine TL.nil ?_
    refine TQ.thenL ?_
    refine TGL.yield (F (ws.map (legR rs) |>.take (y.1 + 1))) H (fun z => Fx (ws.map (legR rs) |>.take (y.1 + 1)) z) Hx rfl rfl (fun w' hw' => ?_) rfl (by decide) (fun s1 hs1 => ?_) (fun z hz => ?_)
    · skip
      have hpre := take_leg (rs := rs) (ws := ws) (k := y.1) (by omega)
      have h7 := hY ((ws.map (legR rs)).take y.1) (legR rs (ws.getD y.1 0)) y.2 w' [] (by rw [← hpre]; exact List.take_prefix _ _) hy.2 (by rw [List.append_nil]; exact hw')
      rw [← hpre] at h7
      simpa using h7
    · skip
      refine TGL.opsAll (by repeat (first | with_reducible exact RB.lo | with_reducible exact QN.lo | with_reducible exact bodyM_lo | with_reducible exact bodyP_lo | with_reducible apply lo_then | with_reducible apply lo_blk)) (by kernel_rfl) ?_
      refine TL.pure (PV.not rfl) rfl (by decide) ?_
      refine TL.nil ?_
      refine TQ.thenG ?_
      refine TG.condF rfl ?_
      refine TG.skip ?_
      refine TQ.gblkN ?_
      refine TQ.thenG ?_
      refine TG.region (by repeat (first | with_reducible exact RB.lo | with_reducible exact QN.lo | with_reducible exact bodyM_lo | with_reducible exact bodyP_lo | with_reducible apply lo_then | with_reducible apply lo_blk)) (by kernel_rfl) ?_
      refine TL.pure (PV.add rfl rfl (by omega)) rfl (by decide) ?_
      refine TL.pure (PV.move rfl) rfl (by decide) ?_
      refine TL.nil ?_
      refine TQ.backG (y.1 + 1, s1) (by repeat (first | exact True.intro | refine And.intro rfl ?_)) (by repeat (first | exact True.intro | refine And.intro rfl ?_)) (List.Sublist.refl _) ⟨by simp only; omega, hs1⟩ (by simp only; omega)
    · skip
      refine TGL.opsAll (by repeat (first | with_reducible exact RB.lo | with_reducible exact QN.lo | with_reducible exact bodyM_lo | with_reducible exact bodyP_lo | with_reducible apply lo_then | with_reducible apply lo_blk)) (by kernel_rfl) ?_
      refine TL.pure (PV.not rfl) rfl (by decide) ?_
      refine TL.nil ?_
      refine TQ.thenG ?_
      refine TG.condT rfl ?_
      refine TG.ret ?_
      refine TQ.gblkR ?_
      refine TQ.gthenR ?_
      refine TQ.gthenR ?_
      refine TQ.gblkR ?_
      refine TQ.retI rfl (fun w9 v9 hw9 => ⟨⟨_, rfl⟩, .inr ⟨_, z, List.take_prefix _ _, hz, hw9⟩⟩)
  · skip
    refine TG.exit ?_
    refine TQ.gthenE ?_
    refine TQ.gthenE ?_
    refine TQ.gblkS ?_
    refine TQ.retIN rfl (fun w9 v9 hw9 => ⟨⟨_, rfl⟩, .inl ⟨_, y.2, by rw [List.take_of_length_le (by rw [List.length_map]; omega)], hy.2, hw9⟩⟩)

end Go.Proofs.Ytmmgcajegokkoaa
