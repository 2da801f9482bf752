/- Texts joined. -/
import Derived.Test.YtbnjmkidbfmomaaGreatDoorQPy
import Derived.Test.YtbnjmkidbfmomaaGreatDoorQMB
import Derived.Test.YtbnjmkidbfmomaaGreatDoorQMC
import Derived.Test.YtbnjmkidbfmomaaGreatDoorQQe
import Derived.Test.YtbnjmkidbfmomaaGreatDoorQRf
import Derived.Recover
import Derived.Test.YtbnjmkidbfmomaaGreatDoorQTa
import Derived.Conc.MuLone
set_option linter.unusedSimpArgs false
set_option linter.unusedVariables false
/- What a company has, and what orders make of it. Mathematics. -/
namespace Go.Proofs.YtbnjmkidbfmomaaGreatDoor
open Go.Sx Go.RowKit Go.Bt Go.Lib Go.Sand

/-- What no order changes: the bog's columns, the links, the ground, the need. -/
structure St where
  W : List (List Int)
  K : List (List Int)
  g : List Int
  need : Int
abbrev St.md (s : St) : Mo.Md := ⟨C.dep s.W, s.W.length, s.need.toNat⟩
structure SV (s : St) : Prop where
  vw : C.validI s.W = 0
  vh : H.validI s.K s.g = 0
  len : s.g.length = s.W.length
  mo : Mo.Ok s.md
  nd : s.need = (s.need.toNat : Int)
/-- What there is. -/
structure Co where
  day : Int
  wet : Nat
  money : Int
  cut : Int
  load : Int
  grd : Int
  shut : Bool
  hol : List Int
  tur : List Int
  ords : List (List UInt8)
def sL (xs : List Int) : Int := sm xs.length fun j => xs.getD j 0
theorem sm_set {xs : List Int} {c : Nat} {v : Int} (hc : c < xs.length) : ∀ n, sm n (fun j => (xs.set c v).getD j 0) = sm n (fun j => xs.getD j 0) + if c < n then v - xs.getD c 0 else 0
  | 0 => by simp [Sand.sm]
  | n + 1 => by
    have ih := sm_set (v := v) hc n
    show sm n _ + (xs.set c v).getD n 0 = sm n _ + xs.getD n 0 + _
    rw [ih, set_at hc]
    by_cases e : c = n
    · subst e; rw [if_pos rfl, if_neg (Nat.lt_irrefl _), if_pos (by omega)]; omega
    · rw [if_neg e]
      by_cases h : c < n
      · rw [if_pos h, if_pos (by omega)]; omega
      · rw [if_neg h, if_neg (by omega)]; omega
theorem sL_set {xs : List Int} {c : Nat} {v : Int} (hc : c < xs.length) : sL (xs.set c v) = sL xs + (v - xs.getD c 0) := by
  unfold sL
  rw [List.length_set, sm_set hc, if_pos hc]
theorem sL_zero (n : Nat) : sL (List.replicate n 0) = 0 := by
  unfold sL
  rw [sm_congr (h := fun _ => 0) fun i hi => by simp [List.getD, List.getElem?_replicate]; split <;> rfl, sm_zero]
theorem sL_bd {xs : List Int} {b : Int} (hb : 0 ≤ b) (h : ∀ k, 0 ≤ xs.getD k 0 ∧ xs.getD k 0 ≤ b) : ∀ n : Nat, 0 ≤ sm n (fun j => xs.getD j 0) ∧ sm n (fun j => xs.getD j 0) ≤ b * n
  | 0 => by simp [Sand.sm]
  | n + 1 => by
    have ih := sL_bd hb h n
    have := h n
    have e : sm (n + 1) (fun j => xs.getD j 0) = sm n (fun j => xs.getD j 0) + xs.getD n 0 := rfl
    have e2 : b * ((n + 1 : Nat) : Int) = b * n + b := by rw [Int.natCast_succ, Int.mul_add, Int.mul_one]
    omega
/-- The squares whose blocks are cut. -/
def bare (s : St) (hol : List Int) : Nat := Mo.msk s.md.N fun i => decide (((i / s.W.length : Nat) : Int) < hol.getD (i % s.W.length) 0)
/-- Where a turf more settles. -/
noncomputable def drT (K : List (List Int)) (g xs : List Int) (i : Int) : List Int := Classical.epsilon fun c => ∃ n, H.DroP K g xs i c n
theorem drT_eq {K : List (List Int)} {g xs : List Int} {i : Int} {c : List Int} {n : Int} (h : H.DroP K g xs i c n) : drT K g xs i = c := by
  obtain ⟨k, hk⟩ := Classical.epsilon_spec (p := fun c => ∃ n, H.DroP K g xs i c n) ⟨c, n, h⟩
  exact (H.DroP.unique hk h).1
/-- The square of an order, or of the row above a block. -/
abbrev St.sq (s : St) (r c : Int) : Nat := (r * s.W.length + c).toNat
/-- Why an order is refused; 0 if it is not. -/
def actI (s : St) (c : Co) (o : Od) : Int :=
  if o.k = 0 then 0
  else if o.k = 1 then
    if (s.W.length : Int) ≤ o.ns.getD 0 0 then 4 else if c.shut = true then 8
    else if C.opB s.W (C.pad6 c.hol) (o.ns.getD 0 0).toNat = false ∨ (0 < c.hol.getD (o.ns.getD 0 0).toNat 0 ∧ c.wet.testBit (s.sq (c.hol.getD (o.ns.getD 0 0).toNat 0 - 1) (o.ns.getD 0 0)) = true) then 6 else 0
  else if o.k = 2 then
    if (s.W.length : Int) ≤ o.ns.getD 0 0 then 4 else if o.ns.getD 1 0 = 0 then 1 else if c.tur.getD (o.ns.getD 0 0).toNat 0 < o.ns.getD 1 0 then 11 else 0
  else if o.k = 3 then
    if (C.dep s.W : Int) ≤ o.ns.getD 0 0 ∨ (s.W.length : Int) ≤ o.ns.getD 1 0 then 4 else if c.hol.getD (o.ns.getD 1 0).toNat 0 ≤ o.ns.getD 0 0 then 8
    else if c.wet.testBit (s.sq (o.ns.getD 0 0) (o.ns.getD 1 0)) = true then 5 else 0
  else if c.shut = true then 5 else 0
/-- What an order does that is not refused. -/
noncomputable def actC (s : St) (c : Co) (o : Od) : Co :=
  if o.k = 0 then { c with wet := Mo.stp s.md c.wet &&& bare s c.hol, day := c.day + 1 }
  else if o.k = 1 then
    { c with
      tur := drT s.K s.g c.tur (o.ns.getD 0 0)
      grd := c.grd + (sL c.tur + 1 - sL (drT s.K s.g c.tur (o.ns.getD 0 0)))
      hol := c.hol.set (o.ns.getD 0 0).toNat (c.hol.getD (o.ns.getD 0 0).toNat 0 + 1)
      money := c.money + (s.W.getD (o.ns.getD 0 0).toNat []).getD (c.hol.getD (o.ns.getD 0 0).toNat 0).toNat 0
      cut := c.cut + 1 }
  else if o.k = 2 then
    { c with
      tur := c.tur.set (o.ns.getD 0 0).toNat (c.tur.getD (o.ns.getD 0 0).toNat 0 - o.ns.getD 1 0)
      load := c.load + o.ns.getD 1 0
      money := c.money + o.ns.getD 1 0 }
  else if o.k = 3 then { c with wet := c.wet ||| 2 ^ s.sq (o.ns.getD 0 0) (o.ns.getD 1 0) }
  else { c with shut := true }
noncomputable def chgC (s : St) (c : Co) (o : Od) : Co := if actI s c o = 0 then actC s c o else c
def doI (s : St) (c : Co) (t : List UInt8) : Int :=
  match prsO t with
  | none => 2
  | some o => if 100 ≤ c.ords.length then 3 else actI s c o
noncomputable def doC (s : St) (c : Co) (t : List UInt8) : Co :=
  match prsO t with
  | none => c
  | some o => if 100 ≤ c.ords.length then c else if actI s c o = 0 then { actC s c o with ords := c.ords ++ [t] } else c
def co0 (s : St) : Co := ⟨0, 0, 0, 0, 0, 0, false, List.replicate s.W.length 0, List.replicate s.W.length 0, []⟩
theorem doC_no {s : St} {c : Co} {t : List UInt8} (h : doI s c t ≠ 0) : doC s c t = c := by
  unfold doI at h
  unfold doC
  cases hp : prsO t with
  | none => rfl
  | some o =>
    rw [hp] at h
    simp only at h ⊢
    split
    · rfl
    · rename_i h9
      rw [if_neg h9] at h
      rw [if_neg h]
theorem doC_yes {s : St} {c : Co} {t : List UInt8} (h : doI s c t = 0) : ∃ o, prsO t = some o ∧ c.ords.length < 100 ∧ actI s c o = 0 ∧ doC s c t = { actC s c o with ords := c.ords ++ [t] } := by
  unfold doI at h
  unfold doC
  cases hp : prsO t with
  | none => rw [hp] at h; cases h
  | some o =>
    rw [hp] at h
    simp only at h ⊢
    split at h
    · cases h
    · rename_i h9
      exact ⟨o, rfl, by omega, h, by rw [if_neg h9, if_pos h]⟩
/-- What always holds. -/
structure Inv (s : St) (c : Co) : Prop where
  ho : C.HO s.W c.hol
  tl : c.tur.length = s.g.length
  tn : ∀ k, 0 ≤ c.tur.getD k 0
  tc : ∀ k, k < s.g.length → c.tur.getD k 0 < H.limI s.K s.g k
  wb : ∀ i, c.wet.testBit i = true → (bare s c.hol).testBit i = true
  ct : c.cut = sL c.hol
  bal : c.cut = c.load + c.grd + sL c.tur
  mon : c.money = C.worH s.W c.hol + c.load
  l0 : 0 ≤ c.load
  dy : 0 ≤ c.day ∧ c.day ≤ c.ords.length
  gr : -151 * (c.ords.length : Int) ≤ c.grd ∧ c.grd ≤ 151 * (c.ords.length : Int)
  ol : c.ords.length ≤ 100
  rt : c.ords.all rightS = true
theorem bare_t (s : St) (hol : List Int) (i : Nat) : (bare s hol).testBit i = (decide (i < s.md.N) && decide (((i / s.W.length : Nat) : Int) < hol.getD (i % s.W.length) 0)) := Mo.msk_t _ _ _
theorem bare_lt (s : St) (hol : List Int) : bare s hol < 2 ^ s.md.N := Mo.msk_lt _ _
theorem Inv.wl {s : St} {c : Co} (h : Inv s c) : c.wet < 2 ^ s.md.N := Mo.lt_of_sub (bare_lt s c.hol) h.wb
end Go.Proofs.YtbnjmkidbfmomaaGreatDoor

/- Settling ends; what always holds goes on holding. Mathematics. -/
namespace Go.Proofs.YtbnjmkidbfmomaaGreatDoor
open Go.Sx Go.RowKit Go.Bt Go.Lib Go.Sand

theorem dro_ex {K : List (List Int)} {g xs : List Int} {i : Int} (h : ¬ H.vhI K g xs i ≠ 0) : ∃ c n, H.DroP K g xs i c n := by
  obtain ⟨h1, h2, h3⟩ := H.vh_of h
  have hB := (H.giv_hb h1).1
  have hn := H.giv_ne h1
  have ht : ∀ j, j < g.length → 0 ≤ (fun k => (H.drL xs i.toNat).getD k 0) j := fun j _ => (H.drL_bd hn.2 j).1
  obtain ⟨c, m, hs⟩ := stb_ex hB.G (fun j hj => (hB.mu j j hj hj).2 rfl) ht
  refine ⟨mk g.length c, sm g.length (H.gd (mk g.length m)), fun h0 => absurd h0 h, fun _ => ⟨mk g.length m, ⟨mk_len _ _, mk_len _ _, ?_⟩, rfl⟩⟩
  exact hs.congr (fun j _ => rfl) (fun j hj => mk_at c hj) (fun j hj => mk_at m hj)
theorem SV.hb {s : St} (h : SV s) : H.HB s.K s.g := H.hb_of (by rw [h.vh]; decide)
theorem SV.vb {s : St} (h : SV s) : C.VB s.W := C.vb_of (by rw [h.vw]; decide)
theorem Inv.tb {s : St} {c : Co} (hv : SV s) (h : Inv s c) (k : Nat) : 0 ≤ c.tur.getD k 0 ∧ c.tur.getD k 0 ≤ 11 := by
  refine ⟨h.tn k, ?_⟩
  by_cases hk : k < s.g.length
  · have := h.tc k hk
    have := (hv.hb.lim hk).2
    omega
  · have e : c.tur.getD k 0 = 0 := by rw [List.getD_eq_getElem?_getD, List.getElem?_eq_none (by have := h.tl; omega)]; rfl
    omega
theorem Inv.giv {s : St} {c : Co} (hv : SV s) (h : Inv s c) : ¬ H.givI s.K s.g [c.tur] ≠ 0 := by
  rw [H.giv_0 (by rw [hv.vh]; decide) fun k hk => ?_]
  · decide
  · have : k = 0 := by simp at hk; omega
    subst this
    have h9 : [c.tur].getD 0 [] = c.tur := rfl
    rw [h9]
    unfold H.numB
    rw [h.tl, decide_eq_true rfl, Bool.true_and]
    refine List.all_eq_true.2 fun x hx => ?_
    obtain ⟨j, hj, rfl⟩ := List.getElem_of_mem hx
    have := h.tb hv j
    have e : c.tur.getD j 0 = c.tur[j] := by simp [List.getD, hj]
    rw [e] at this
    exact decide_eq_true (by omega)
theorem Inv.vh {s : St} {c : Co} (hv : SV s) (h : Inv s c) {i : Nat} (hi : i < s.W.length) : ¬ H.vhI s.K s.g c.tur (i : Int) ≠ 0 := by
  rw [H.vh_0 (h.giv hv) (by have := hv.len; omega)]; decide
structure DrF (s : St) (c : Co) (i : Nat) (xs : List Int) : Prop where
  len : xs.length = s.g.length
  n0 : ∀ k, 0 ≤ xs.getD k 0
  calm : ∀ k, k < s.g.length → xs.getD k 0 < H.limI s.K s.g k
theorem dr_facts {s : St} {c : Co} (hv : SV s) (h : Inv s c) {i : Nat} (hi : i < s.W.length) : DrF s c i (drT s.K s.g c.tur i) := by
  obtain ⟨d, n, hd⟩ := dro_ex (h.vh hv hi)
  rw [drT_eq hd]
  obtain ⟨m, ⟨h1, h2, h3⟩, _⟩ := hd.ok (h.vh hv hi)
  refine ⟨h1, fun k => ?_, fun k hk => h3.calm k hk⟩
  by_cases hk : k < s.g.length
  · exact h3.c0 k hk
  · have e : d.getD k 0 = 0 := by rw [List.getD_eq_getElem?_getD, List.getElem?_eq_none (by omega)]; rfl
    omega
theorem DrF.bd {s : St} {c : Co} {i : Nat} {xs : List Int} (hv : SV s) (h : DrF s c i xs) (k : Nat) : 0 ≤ xs.getD k 0 ∧ xs.getD k 0 ≤ 11 := by
  refine ⟨h.n0 k, ?_⟩
  by_cases hk : k < s.g.length
  · have := h.calm k hk
    have := (hv.hb.lim hk).2
    omega
  · have e : xs.getD k 0 = 0 := by rw [List.getD_eq_getElem?_getD, List.getElem?_eq_none (by have := h.len; omega)]; rfl
    omega
theorem sL_5 {xs : List Int} {n : Nat} (hl : xs.length = n) (hn : n ≤ 5) (h : ∀ k, 0 ≤ xs.getD k 0 ∧ xs.getD k 0 ≤ 11) : 0 ≤ sL xs ∧ sL xs ≤ 55 := by
  have h1 := sL_bd (by decide) h xs.length
  unfold sL
  rw [hl] at h1 ⊢
  omega
theorem sq_at {s : St} {r c : Nat} (hc : c < s.W.length) : s.sq r c = r * s.W.length + c ∧ s.sq r c / s.W.length = r ∧ s.sq r c % s.W.length = c := by
  have e : s.sq r c = r * s.W.length + c := by
    show ((r : Int) * (s.W.length : Int) + (c : Int)).toNat = _
    rw [show (r : Int) * (s.W.length : Int) + (c : Int) = ((r * s.W.length + c : Nat) : Int) by push_cast; rfl, Int.toNat_natCast]
  refine ⟨e, ?_, ?_⟩
  · rw [e, Nat.mul_comm, Nat.mul_add_div (by omega), Nat.div_eq_of_lt hc, Nat.add_zero]
  · rw [e, Nat.mul_comm, Nat.mul_add_mod, Nat.mod_eq_of_lt hc]
theorem sq_lt {s : St} {r c : Nat} (hc : c < s.W.length) (hr : r < C.dep s.W) : s.sq r c < s.md.N := by
  rw [(sq_at hc).1]
  show _ < C.dep s.W * s.W.length
  have : (r + 1) * s.W.length ≤ C.dep s.W * s.W.length := Nat.mul_le_mul_right _ hr
  rw [Nat.add_mul] at this; omega
theorem bare_sq {s : St} {hol : List Int} {r c : Nat} (hc : c < s.W.length) (hr : r < C.dep s.W) (h : (r : Int) < hol.getD c 0) : (bare s hol).testBit (s.sq r c) = true := by
  rw [bare_t, (sq_at hc).2.1, (sq_at hc).2.2, decide_eq_true (sq_lt hc hr), decide_eq_true h]; rfl
theorem set_ge {xs : List Int} {i : Nat} {v : Int} (h : xs.getD i 0 ≤ v) (k : Nat) : xs.getD k 0 ≤ (xs.set i v).getD k 0 := by
  by_cases hi : i < xs.length
  · rw [set_at hi]
    split
    · rename_i e; subst e; exact h
    · exact Int.le_refl _
  · rw [List.set_eq_of_length_le (by omega)]; exact Int.le_refl _
/-- What always holds goes on holding. -/
theorem Inv.step {s : St} {c : Co} {t : List UInt8} (hv : SV s) (h : Inv s c) (he : doI s c t = 0) : Inv s (doC s c t) := by
  obtain ⟨o, hp, hl, ha, e⟩ := doC_yes he
  rw [e]
  have hns := prs_ns hp
  have hrt := prs_right hp
  have hvb := hv.vb
  have hn5 := hv.hb.n
  have hlen := hv.len
  have hor : (c.ords ++ [t]).length = c.ords.length + 1 := by simp
  have hrl : (c.ords ++ [t]).all rightS = true := by simp [h.rt, hrt]
  have hgr := h.gr
  have hdy := h.dy
  have hNB := h.ho.toNB
  by_cases k0 : o.k = 0
  · unfold actC
    rw [if_pos k0]
    exact ⟨h.ho, h.tl, h.tn, h.tc, fun i hi => by
        simp only [Nat.testBit_and, Bool.and_eq_true] at hi
        exact hi.2, h.ct, h.bal, h.mon, h.l0, by simp only [hor]; omega, by simp only [hor]; omega, by simp only [hor]; omega, hrl⟩
  by_cases k1 : o.k = 1
  · unfold actI at ha
    unfold actC
    rw [if_neg k0, if_pos k1] at ha ⊢
    obtain ⟨u, hu⟩ := Int.eq_ofNat_of_zero_le (hns.2 0).1
    rw [hu] at ha ⊢
    simp only [Int.toNat_natCast] at ha ⊢
    split at ha
    · cases ha
    split at ha
    · cases ha
    split at ha
    · cases ha
    rename_i h1 h2 h3
    have huW : u < s.W.length := by omega
    have hop : C.opB s.W (C.pad6 c.hol) u = true := by
      cases h9 : C.opB s.W (C.pad6 c.hol) u with
      | true => rfl
      | false => exact absurd (Or.inl h9) h3
    have hD := dr_facts hv h huW
    have hbd := hD.bd hv
    have s1 := sL_5 h.tl hn5.2 (h.tb hv)
    have s2 := sL_5 hD.len hn5.2 hbd
    have hho : C.HO s.W (c.hol.set u (c.hol.getD u 0 + 1)) := C.HO.up h.ho huW hop
    have huh : u < c.hol.length := by rw [hNB.len]; exact huW
    have hsum := sL_set (v := c.hol.getD u 0 + 1) huh
    have hw : C.worH s.W (c.hol.set u (c.hol.getD u 0 + 1)) = C.worH s.W c.hol + (s.W.getD u []).getD (c.hol.getD u 0).toNat 0 := by
      unfold C.worH
      rw [List.length_set, C.worK_set huh (hNB.at_ u).1, if_pos huh]
    refine ⟨hho, hD.len, hD.n0, hD.calm, fun i hi => ?_, ?_, ?_, ?_, h.l0, ?_, ?_, by simp only [hor]; omega, hrl⟩
    · have := h.wb i hi
      rw [bare_t, Bool.and_eq_true] at this ⊢
      refine ⟨this.1, decide_eq_true ?_⟩
      have h8 := of_decide_eq_true this.2
      have h9 := set_ge (xs := c.hol) (i := u) (v := c.hol.getD u 0 + 1) (by omega) (i % s.W.length)
      simp only
      omega
    · simp only; have := h.ct; omega
    · simp only; have := h.bal; omega
    · simp only; rw [hw]; have := h.mon; omega
    · simp only [hor]; omega
    · simp only [hor]; omega
  by_cases k2 : o.k = 2
  · unfold actI at ha
    unfold actC
    rw [if_neg k0, if_neg k1, if_pos k2] at ha ⊢
    obtain ⟨u, hu⟩ := Int.eq_ofNat_of_zero_le (hns.2 0).1
    rw [hu] at ha ⊢
    simp only [Int.toNat_natCast] at ha ⊢
    split at ha
    · cases ha
    split at ha
    · cases ha
    split at ha
    · cases ha
    rename_i h1 h2 h3
    have hN := hns.2 1
    have huW : u < s.W.length := by omega
    have hut : u < c.tur.length := by have := h.tl; omega
    have hsum := sL_set (v := c.tur.getD u 0 - o.ns.getD 1 0) hut
    refine ⟨h.ho, by simp only [List.length_set]; exact h.tl, fun k => ?_, fun k hk => ?_, h.wb, h.ct, ?_, ?_, ?_, ?_, ?_, by simp only [hor]; omega, hrl⟩
    · simp only
      rw [set_at hut]
      have := h.tn k
      split <;> omega
    · simp only
      rw [set_at hut]
      have := h.tc k hk
      split
      · rename_i e9; subst e9; omega
      · omega
    · simp only; have := h.bal; omega
    · simp only; have := h.mon; omega
    · simp only; have := h.l0; omega
    · simp only [hor]; omega
    · simp only [hor]; omega
  by_cases k3 : o.k = 3
  · unfold actI at ha
    unfold actC
    rw [if_neg k0, if_neg k1, if_neg k2, if_pos k3] at ha ⊢
    obtain ⟨r, hr⟩ := Int.eq_ofNat_of_zero_le (hns.2 0).1
    obtain ⟨u, hu⟩ := Int.eq_ofNat_of_zero_le (hns.2 1).1
    rw [hu, hr] at ha ⊢
    simp only [Int.toNat_natCast] at ha ⊢
    split at ha
    · cases ha
    split at ha
    · cases ha
    split at ha
    · cases ha
    rename_i h1 h2 h3
    refine ⟨h.ho, h.tl, h.tn, h.tc, fun i hi => ?_, h.ct, h.bal, h.mon, h.l0, by simp only [hor]; omega, by simp only [hor]; omega, by simp only [hor]; omega, hrl⟩
    simp only [Nat.testBit_or, Nat.testBit_two_pow, Bool.or_eq_true, decide_eq_true_eq] at hi
    rcases hi with hi | hi
    · exact h.wb i hi
    · rw [← hi]
      show (bare s c.hol).testBit _ = true
      exact bare_sq (by omega) (by omega) (by omega)
  · unfold actI at ha
    unfold actC
    rw [if_neg k0, if_neg k1, if_neg k2, if_neg k3] at ha ⊢
    exact ⟨h.ho, h.tl, h.tn, h.tc, h.wb, h.ct, h.bal, h.mon, h.l0, by simp only [hor]; omega, by simp only [hor]; omega, by simp only [hor]; omega, hrl⟩
theorem Inv.any {s : St} {c : Co} (t : List UInt8) (hv : SV s) (h : Inv s c) : Inv s (doC s c t) := by
  by_cases he : doI s c t = 0
  · exact h.step hv he
  · rw [doC_no he]; exact h
theorem worK_zero (ls : List (List Int)) (m : Nat) : ∀ n : Nat, C.worK ls (List.replicate m 0) n = 0
  | 0 => rfl
  | n + 1 => by
    show C.worK ls (List.replicate m 0) n + C.sumN (ls.getD n []) ((List.replicate m (0 : Int)).getD n 0).toNat = 0
    rw [worK_zero ls m n, C.rep_at]; rfl
theorem Inv.zero {s : St} (hv : SV s) : Inv s (co0 s) := by
  refine ⟨C.ho_zero hv.vb, by show (List.replicate s.W.length (0 : Int)).length = _; rw [List.length_replicate, hv.len], fun k => ?_, fun k hk => ?_, fun i hi => ?_, ?_, ?_, ?_, Int.le_refl _, ⟨Int.le_refl _, by simp [co0]⟩, by simp [co0], by simp [co0], rfl⟩
  · show 0 ≤ (List.replicate s.W.length (0 : Int)).getD k 0
    rw [C.rep_at]; decide
  · show (List.replicate s.W.length (0 : Int)).getD k 0 < _
    rw [C.rep_at]
    have := (hv.hb.lim hk).1
    omega
  · exfalso
    have : (0 : Nat).testBit i = true := hi
    simp at this
  · show (0 : Int) = sL (List.replicate s.W.length 0)
    rw [sL_zero]
  · show (0 : Int) = 0 + 0 + sL (List.replicate s.W.length 0)
    rw [sL_zero]; rfl
  · show (0 : Int) = C.worH s.W (List.replicate s.W.length 0) + 0
    unfold C.worH
    rw [worK_zero]; rfl
end Go.Proofs.YtbnjmkidbfmomaaGreatDoor

/- Deferred calls of a function's own, panics, and what recovers them: the rules of the walk. -/
namespace Go.Sx
open Go.RowKit

section
variable {P : Program} {ds : List Deferred} {n : Nat} {w0 : World} {E : Env} {G : Heap} {ops : Array Oper} {Q : Exit → Act → World → Prop} {c : Code} {K : Act → World → Prop}
variable {ty : TypeId} {pos : String} {aft : Array Edge} {g : Option (Nat × Bool)}

/-- A body with deferred calls. -/
theorem callsDf {f : FuncId} {fn : Func} {vs : List Value} {R : Ending → World → Prop} (hf : P.funcs[f]? = some fn) (hb : fn.body = some c) (hn : fn.ntmps = n) (hl : vs.length ≤ n)
    (h : TG none [] P n w0 c (bodyPostD P fn R) (args 0 vs) []) : Calls P f vs.toArray w0 R :=
  calls_of_wp_defers hf hb ((wpIn_wide (n := 9)).1 (h { tmps := vs.toArray ++ Array.replicate (fn.ntmps - vs.toArray.size) undef, defers := [] } w0 ⟨by simp; omega, rfl, fun k v hk => by
    have := (look_args vs 0 k v hk).2
    simp only [Nat.sub_zero] at this
    rw [Array.getElem?_append_left (by have := (List.getElem?_eq_some_iff.1 this).1; simpa using this)]
    simpa using this, New.refl _⟩))
/-- The same, what the call's own memory already holds being told. -/
theorem callsDfM {f : FuncId} {fn : Func} {vs : List Value} {w : World} {R : Ending → World → Prop} (hN : New w0 w G) (hf : P.funcs[f]? = some fn) (hb : fn.body = some c) (hn : fn.ntmps = n) (hl : vs.length ≤ n)
    (h : TG none [] P n w0 c (bodyPostD P fn R) (args 0 vs) G) : Calls P f vs.toArray w R :=
  calls_of_wp_defers hf hb ((wpIn_wide (n := 9)).1 (h { tmps := vs.toArray ++ Array.replicate (fn.ntmps - vs.toArray.size) undef, defers := [] } w ⟨by simp; omega, rfl, fun k v hk => by
    have := (look_args vs 0 k v hk).2
    simp only [Nat.sub_zero] at this
    rw [Array.getElem?_append_left (by have := (List.getElem?_eq_some_iff.1 this).1; simpa using this)]
    simpa using this, hN⟩))
/-- defer f(xs..): it is put by. -/
theorem TGL.defer {cl : Call} {d : Deferred} {l : List Oper} (hr : ∀ a w, S n w0 E G a w → (resolve a.eval cl ty).run P w = .ok d w) (h : TGL none (d :: ds) P n w0 ops Q l E G) :
    TGL none ds P n w0 ops Q (⟨none, .defer cl, ty, pos, aft, none⟩ :: l) E G := fun a w hs => by
  have hev : (dfs a ds).eval = a.eval := rfl
  have hw : Region.wanted (⟨none, .defer cl, ty, pos, aft, none⟩ : Oper) (yielded ops (dfs a ds).tmps) = true := rfl
  unfold wpListIn
  rw [if_pos hw]
  refine ⟨fun _ _ => trivial, ?_⟩
  have hx : (execOp (dfs a ds).eval ⟨none, .defer cl, ty, pos, aft, none⟩).run P w = .ok (.defer d) w := by
    rw [hev]
    simp only [execOp]
    simp [hr a w hs]
  show Oper.uponIn _ _ _ _ _ _ _ ((Oper.semAt none _ _).run P w)
  rw [Oper.semAt_none, hx, Oper.uponIn_defer]
  have h2 := h a w hs
  have e : ({ dfs a ds with defers := d :: (dfs a ds).defers } : Act).put none undef = dfs a (d :: ds) := by
    show ({ dfs a ds with defers := d :: (a.defers ++ ds) } : Act) = { a with defers := a.defers ++ (d :: ds) }
    rw [hs.defers]; rfl
  rw [e]
  exact h2
theorem resolve_fn {cl : Call} {a : Act} {w : World} {f : FuncId} {xs : List Operand} {vs : List Value} {ats : Array TypeId} (hc : cl = { callee := .value (.func f), args := xs.toArray, argTypes := ats }) (hs : S n w0 E G a w) (hx : evs E xs = some vs) :
    (resolve a.eval cl ty).run P w = .ok { target := .fn (.func f) #[], args := vs.toArray } w := by
  subst hc
  have hm := hs.evs hx
  have hk : a.eval (.func f) = .func (.func f) #[] #[] := rfl
  simp only [resolve, List.map_toArray, hm, hk]
  simp [Deferred.ofValue]
theorem invoke_fn {f : FuncId} {caps vs : List Value} {w : World} (h : goFn P f = true) : (invoke (.fn (.func f) caps.toArray) vs.toArray).run P w = .ok (.enter f (vs ++ caps).toArray) w := by
  show (callFunc f _).run P w = _
  rw [run_goFn h]
  simp

/-- The end with one deferred call. -/
theorem TQ.retD {fn : Func} {R : Ending → World → Prop} {f : FuncId} {caps vs : List Value} {G' : Heap} (hg : goFn P f = true)
    (hc : ∀ w, New w0 w G → CallsD P f (vs ++ caps).toArray .returning w (fun e u' w' => u' = .returning ∧ (∃ v, e = .returned v) ∧ New w0 w' G')) (h : TQ n w0 (bodyPost P fn R .ret) E G') :
    TQ n w0 (QD [{ target := .fn (.func f) caps.toArray, args := vs.toArray }] (bodyPostD P fn R) .ret) E G := fun a w hs => by
  show Leaves P fn a.tmps R (a.defers ++ [_]) .returning w
  rw [hs.defers]
  refine leaves_cons (by simp) (invoke_fn hg) ((hc w hs.new).mono ?_)
  rintro e u' w' ⟨rfl, ⟨v, rfl⟩, hN⟩
  exact (h a w' (hs.world hN)).2
theorem bodyD_lo {P : Program} {fn : Func} {X : Type} {val : X → Value} {F : X → Prop} {D : X → Heap} {w0 : World} : ¬ LetsOut (bodyPostD P fn (Post val F D w0)) := fun ⟨_, _, x, h, _⟩ => by cases h

/-- What a call that comes back or panics ends in. -/
def PostP {X Y : Type} (val : X → Value) (F : X → Prop) (D : X → Heap) (pv : Y → Value) (Fp : Y → Prop) (Dp : Y → Heap) (w : World) (e : Ending) (w' : World) : Prop :=
  (∃ x, e = .returned (val x) ∧ F x ∧ New w w' (D x)) ∨ (∃ y, e = .panicked [{ v := pv y, recovered := false }] ∧ Fp y ∧ New w w' (Dp y))
end
end Go.Sx

/- A company in memory: rules. -/
namespace Go.Proofs.YtbnjmkidbfmomaaGreatDoor
open Go.Sx Go.RowKit Go.Bt Go.Lib Go.Sand

section
variable {P : Program} {n : Nat} {w0 : World} {E : Env} {G : Heap} {ty : TypeId} {pos : String} {aft : Array Edge} {g : Option (Nat × Bool)} {ops : Array Oper} {Q : Exit → Act → World → Prop} {l : List Oper}
/-- A store of an aggregate into the midst of a block. -/
theorem TL.storeMid {dd : Option Nat} {x y : Operand} {b k off : Nat} {t : Nat} {cs cs' vs : List Value} {e : TypeId} {G' : Heap} (hx : evo E x = some (.pointer (some ⟨b, off, none⟩))) (hy : evo E y = some (.agg vs.toArray))
    (hsz : cellsN P t = some k) (hu : Upd b (.cells cs.toArray e (0, 0)) (.cells cs'.toArray e (0, 0)) G G') (he : cs.take off ++ vs ++ cs.drop (off + k) = cs') (hk : vs.length = k) (hle : off + k ≤ cs.length) (hone' : vs.all Value.oneCell' = true)
    (hg : wants ops E g = some true) (hdd : dd = none) (h : TL P n w0 ops Q l E G') : TL P n w0 ops Q (⟨dd, .store t x y, ty, pos, aft, g⟩ :: l) E G := by
  refine TL.step hg fun a w hs => ?_
  subst hdd
  have hb : w.heap[b]? = some (.cells cs.toArray e (0, 0)) := hs.new.here _ hu.mem
  have hst := run_storeCells_at (P := P) b off e vs 0 cs.toArray w hb (by simp; omega) (fun v hv => List.all_eq_true.1 hone' v hv)
  unfold cellsN at hsz
  have hr : (execOp a.eval ⟨none, .store t x y, ty, pos, aft, g⟩).run P w = .ok .skip (w.setRow b cs'.toArray) := by
    cases hi : P.info? t with
    | none => simp [hi] at hsz
    | some i =>
      simp [hi] at hsz
      simp only [execOp, hs.ev hx, hs.ev hy]
      simp only [Nat.add_zero] at hst
      rw [hk] at hst
      try rw [show cs.toArray.toList = cs from rfl] at hst
      rw [he] at hst
      have e8 : vs.toArray.size = i.size := by rw [List.size_toArray, hk, hsz]
      simp [Instr.storeAt, Instr.sureAddr, storeVar, sizeOf, typeInfo, hi, hsz, Value.cells, hst, hk]
  unfold Oper.wp
  rw [hr]
  refine h _ _ (hs.world ?_)
  refine hs.new.turn hu ?_ ?_ rfl rfl rfl ?_ rfl
  · simp only [World.setRow, Array.getElem?_modify, if_true, hb, Option.map_some]
  · intro k hk
    simp only [World.setRow, Array.getElem?_modify]
    rw [if_neg (by omega)]
  · simp [World.setRow]
theorem PV.loadMid {d : Option Nat} {x : Operand} {b off k : Nat} {t : Nat} {cs vs : List Value} {e : TypeId} {fr : Nat × Nat} (hx : evo E x = some (.pointer (some ⟨b, off, none⟩))) (ht : aggSize P t = some k)
    (hm : (b, Obj.cells cs.toArray e fr) ∈ G) (he : (cs.drop off).take k = vs) (hk : vs.length = k) :
    PV P n w0 E G ⟨d, .load t x, ty, pos, aft, g⟩ (.agg vs.toArray) :=
  PV.loadAgg hx ht hm hk (fun j v h => by
    have hj : j < vs.length := (List.getElem?_eq_some_iff.1 h).1
    rw [← he, List.getElem?_take_of_lt (by omega), List.getElem?_drop] at h
    simpa using h)
end

/-- Where the lists lie of what no order changes. -/
structure SU where
  pw : Option Addr
  cw : Nat
  rw : List (Option Addr × Nat)
  pk : Option Addr
  ck : Nat
  pg : Option Addr
  cg : Nat
/-- Where the lists lie of what there is. -/
structure TV where
  ph : Option Addr
  ch : Nat
  pt : Option Addr
  ct : Nat
abbrev siL (s : St) (u : SU) : List Value := [.slice u.pw s.W.length u.cw, .slice u.pk s.K.length u.ck, .slice u.pg s.g.length u.cg, .int .i64 (C.dep s.W : Nat), .int .i64 (s.W.length : Nat), .int .i64 s.need]
abbrev tyL (c : Co) (v : TV) : List Value := [.int .i64 c.day, .int .i64 (c.wet : Nat), .int .i64 c.money, .int .i64 c.cut, .int .i64 c.load, .int .i64 c.grd, .bool c.shut, .slice v.ph c.hol.length v.ch, .slice v.pt c.tur.length v.ct]
abbrev coL (s : St) (u : SU) (lk : Int) (c : Co) (v : TV) (o : Value) : List Value :=
  [.slice u.pw s.W.length u.cw, .slice u.pk s.K.length u.ck, .slice u.pg s.g.length u.cg, .int .i64 (C.dep s.W : Nat), .int .i64 (s.W.length : Nat), .int .i64 s.need, .int .i32 lk, .int .u32 0,
    .int .i64 c.day, .int .i64 (c.wet : Nat), .int .i64 c.money, .int .i64 c.cut, .int .i64 c.load, .int .i64 c.grd, .bool c.shut, .slice v.ph c.hol.length v.ch, .slice v.pt c.tur.length v.ct, o]
structure SiteAt (w : World) (s : St) (u : SU) : Prop where
  aw : ∀ j, j < s.W.length → ∃ q, u.pw = some q ∧ w.cell? (q.add (j * 1)) = some (.slice (u.rw.getD j (none, 0)).1 (s.W.getD j []).length (u.rw.getD j (none, 0)).2) ∧ IntsAt w (u.rw.getD j (none, 0)).1 (s.W.getD j []) ∧ (s.W.getD j []).length ≤ (u.rw.getD j (none, 0)).2
  ak : LsAt w u.pk s.K
  ag : IntsAt w u.pg s.g
structure TurAt (w : World) (c : Co) (v : TV) : Prop where
  ah : IntsAt w v.ph c.hol
  at_ : IntsAt w v.pt c.tur
theorem SiteAt.ls {w : World} {s : St} {u : SU} (h : SiteAt w s u) : LsAt w u.pw s.W := fun j hj =>
  let ⟨q, h1, h2, h3, _⟩ := h.aw j hj
  ⟨q, h1, _, _, h2, h3⟩
theorem SiteAt.caps {w : World} {s : St} {u : SU} (h : SiteAt w s u) : C.CapsAt w u.pw s.W := fun j hj q pj cj l hq hc => by
  obtain ⟨q', h1, h2, _, h4⟩ := h.aw j hj
  rw [hq] at h1
  injection h1 with h1
  subst h1
  rw [h2] at hc
  injection hc with hc
  injection hc with e1 e2 e3
  omega
section
variable {w0 w : World} {Z : Heap}
theorem ints_now {p : Option Addr} {xs : List Int} (hT : ∀ w', New w0 w' Z → IntsAt w' p xs) (hN : New w0 w Z) {k : Nat} (hk : k < xs.length) : ∃ q, p = some q ∧ ∀ w', New w0 w' Z → w'.cell? (q.add (k * 1)) = some (.int .i64 (xs.getD k 0)) := by
  obtain ⟨q, h1, _⟩ := hT w hN k hk
  refine ⟨q, h1, fun w' hn => ?_⟩
  obtain ⟨q', h2, h3⟩ := hT w' hn k hk
  rw [h1] at h2
  injection h2 with h2
  subst h2
  exact h3
theorem rows_now {s : St} {u : SU} (hS : ∀ w', New w0 w' Z → SiteAt w' s u) (hN : New w0 w Z) {k : Nat} (hk : k < s.W.length) : ∃ q, u.pw = some q ∧ ∀ w', New w0 w' Z → w'.cell? (q.add (k * 1)) = some (.slice (u.rw.getD k (none, 0)).1 (s.W.getD k []).length (u.rw.getD k (none, 0)).2) := by
  obtain ⟨q, h1, _⟩ := (hS w hN).aw k hk
  refine ⟨q, h1, fun w' hn => ?_⟩
  obtain ⟨q', h2, h3, _⟩ := (hS w' hn).aw k hk
  rw [h1] at h2
  injection h2 with h2
  subst h2
  exact h3
theorem row_now {s : St} {u : SU} (hS : ∀ w', New w0 w' Z → SiteAt w' s u) {k : Nat} (hk : k < s.W.length) : ∀ w', New w0 w' Z → IntsAt w' (u.rw.getD k (none, 0)).1 (s.W.getD k []) := fun w' hn =>
  let ⟨_, _, _, h, _⟩ := (hS w' hn).aw k hk
  h
end
section
variable {P : Program} {n : Nat} {w0 : World} {E : Env} {G : Heap} {d : Option Nat} {ty : TypeId} {pos : String} {aft : Array Edge} {g : Option (Nat × Bool)} {Q : Exit → Act → World → Prop}
theorem TC.sub {c : Code} {G' : Heap} (hp : List.Sublist G' G) (h : TC P n w0 c Q E G') : TC P n w0 c Q E G := fun a w hs => h a w (hs.world (hs.new.sub hp))
theorem TL.sub {ops : Array Oper} {l : List Oper} {G' : Heap} (hp : List.Sublist G' G) (h : TL P n w0 ops Q l E G') : TL P n w0 ops Q l E G := fun a w hs => h a w (hs.world (hs.new.sub hp))
theorem TQ.sub {K : Act → World → Prop} {G' : Heap} (hp : List.Sublist G' G) (h : TQ n w0 K E G') : TQ n w0 K E G := fun a w hs => h a w (hs.world (hs.new.sub hp))
theorem PV.nilCheck {x : Operand} {a : Addr} (hx : evo E x = some (.pointer (some a))) : PV P n w0 E G ⟨d, .nilCheck x, ty, pos, aft, g⟩ (.pointer (some a)) :=
  fun A w hs => by simp only [execOp, hs.ev hx]; simp
theorem PV.loadN {x : Operand} {p : Addr} {t : Nat} {v : Value} {Z : Heap} (hx : evo E x = some (.pointer (some p))) (ht : oneB P t = true) (hZ : List.Sublist Z G)
    (hv : ∀ w, New w0 w Z → w.cell? p = some v) : PV P n w0 E G ⟨d, .load t x, ty, pos, aft, g⟩ v := M.PV.loadW hx ht fun w hn => hv w (hn.sub hZ)
end
theorem SV.kl {s : St} (h : SV s) (k : Nat) : (s.K.getD k []).length ≤ 1000000 := by
  by_cases hk : k < s.K.length
  · have h1 := H.num_len (h.hb.row k hk)
    have := h.hb.n
    omega
  · have e : s.K.getD k [] = [] := by rw [List.getD_eq_getElem?_getD, List.getElem?_eq_none (by omega)]; rfl
    rw [e]; exact Nat.zero_le _
theorem Inv.hl {s : St} {c : Co} (h : Inv s c) : c.hol.length = s.W.length := h.ho.len
theorem Inv.tl' {s : St} {c : Co} (hv : SV s) (h : Inv s c) : c.tur.length = s.W.length := by have := h.tl; have := hv.len; omega
theorem SV.n5 {s : St} (h : SV s) : 1 ≤ s.W.length ∧ s.W.length ≤ 5 := by have := h.hb.n; have := h.len; omega
theorem SV.d4 {s : St} (h : SV s) : 1 ≤ C.dep s.W ∧ C.dep s.W ≤ 4 := h.vb.d
theorem SV.N36 {s : St} (h : SV s) : s.md.N ≤ 36 := h.mo.N36
theorem wet63 {s : St} (h : SV s) {x : Nat} (hx : x < 2 ^ s.md.N) : x < 9223372036854775808 := M.set63 h.mo hx
/-! The lock. -/
abbrev mu : Go.Conc.Locks.MuLink := { lock := 62, unlock := 63, ilock := 100, iunlock := 101, lockSlow := 143, unlockSlow := 146, disable := 139, enable := 141, acquire := 142, relMerge := 144, cas32 := 140, add32 := 145, tMutex := 97, tIMutex := 95, tPMutex := 141, tPIMutex := 181, tPI32 := 183, tUP := 149, tNoCopy := 92, tU32 := 93 }
theorem muL : Go.Conc.Locks.MuLib Tryz.prog mu := ⟨Tryz.func62, Tryz.func63, Tryz.func100, Tryz.func101, Tryz.func139, Tryz.func141, Tryz.func142, Tryz.func144, Tryz.func140, Tryz.func145, Tryz.underlying95, Tryz.runUnderlying95, Tryz.sizeOf95, Tryz.isAgg95, Tryz.zeroValue95, Tryz.underlying97, Tryz.runUnderlying97, Tryz.sizeOf97, Tryz.isAgg97, Tryz.zeroValue97, Tryz.underlying141, Tryz.runUnderlying141, Tryz.sizeOf141, Tryz.isAgg141, Tryz.zeroValue141, Tryz.underlying181, Tryz.runUnderlying181, Tryz.sizeOf181, Tryz.isAgg181, Tryz.zeroValue181, Tryz.underlying183, Tryz.runUnderlying183, Tryz.sizeOf183, Tryz.isAgg183, Tryz.zeroValue183, Tryz.underlying149, Tryz.runUnderlying149, Tryz.sizeOf149, Tryz.isAgg149, Tryz.zeroValue149, Tryz.underlying92, Tryz.runUnderlying92, Tryz.sizeOf92, Tryz.isAgg92, Tryz.zeroValue92, Tryz.underlying21, Tryz.runUnderlying21, Tryz.sizeOf21, Tryz.isAgg21, Tryz.zeroValue21, (by kernel_rfl)⟩
theorem lock_new {w0 w : World} {b : Nat} {cs : Array Value} {e : TypeId} {G G' : Heap} (hN : New w0 w G) (hu : Upd b (.cells cs e (0, 0)) (.cells (cs.setIfInBounds 6 (.int .i32 1)) e (0, 0)) G G') (hc : cs[6]? = some (.int .i32 0)) :
    Calls Tryz.prog 62 #[.pointer (some ⟨b, 6, none⟩)] w fun e w' => ∃ x : Unit, e = .returned (.tuple #[]) ∧ True ∧ New w0 w' G' :=
  (Go.MuLone.lock_free muL ⟨b, 6, none⟩ w (hN.cell hu.mem hc) (hN.frozen hu.mem)).mono fun _ _ ⟨h1, h2⟩ => ⟨(), h1, trivial, by rw [h2]; exact hN.setCell hu⟩
theorem unlock_new {w0 : World} {b : Nat} {cs : Array Value} {e : TypeId} {G G' : Heap} (hu : Upd b (.cells cs e (0, 0)) (.cells (cs.setIfInBounds 6 (.int .i32 0)) e (0, 0)) G G') (hc : cs[6]? = some (.int .i32 1)) :
    ∀ w, New w0 w G → CallsD Tryz.prog 63 ([Value.pointer (some ⟨b, 6, none⟩)] ++ []).toArray .returning w (fun e u' w' => u' = .returning ∧ (∃ v, e = .returned v) ∧ New w0 w' G') := fun w hN =>
  (Go.MuLone.unlock_deferred muL ⟨b, 6, none⟩ .returning w (hN.cell hu.mem hc) (hN.frozen hu.mem)).mono fun _ _ _ ⟨h0, h1, h2⟩ => ⟨h0, ⟨_, h1⟩, by rw [h2]; exact hN.setCell hu⟩
end Go.Proofs.YtbnjmkidbfmomaaGreatDoor

