import PyProof.Rows.All
import Wide.All
import OpenK.AllK
import Wide.FinOn
import HandS.ForMost
import HandS.ForExc
import HandS.IsInst
import HandS.WideBits
import HandS.Walk
import HandS.EndBits
import HandS.Style
import HandS.TupAny
import HandS.Deep
import HandS.Text
import HandS.Codes
import PyProof.Rows.SeqMore
import PySem.Challenge.RW_mobileair_k29_parts_refused
set_option Elab.async false
set_option linter.all false
set_option maxRecDepth 100000
set_option maxHeartbeats 4000000
namespace Dn
open PySem PySem.Spec PyProof.Rows L2
/-! ## what a slot or a field holds -/
inductive T where
  | d (x : PyData)
  | l (ts : List T)
  | o (C : Addr) (N : List Str) (ts : List T)
  | k (ks : List Key) (ts : List T)
  | m (ks : List (List Key)) (ts : List T)
  | z
inductive Stp where
  | f (j : Nat) | i (n : Nat) | k (k : Key) | m (k : List Key)
abbrev Env := List (Option T)
mutual
def Rp (K : PySem.W.Frag) (R H : Hp) : T → V → List Addr → Prop
  | .d x, v, F => F = [] ∧ Dp K R v x
  | .l ts, v, F => ∃ p vs G, v = .ref p ∧ F.Perm (p :: G) ∧ H p = some (.lst vs) ∧ RpL K R H ts vs G
  | .o C N ts, v, F => ∃ p dx vs G, v = .ref p ∧ F.Perm (p :: dx :: G) ∧ H p = some (.ins C dx (N.zip vs)) ∧ H dx = some (.own p) ∧ ts.length ≤ N.length ∧ RpL K R H ts vs G
  | .k ks ts, v, F => ∃ p vs G, v = .ref p ∧ F.Perm (p :: G) ∧ H p = some (.dK (ks.zip vs)) ∧ ts.length = ks.length ∧ RpL K R H ts vs G
  | .m ks ts, v, F => ∃ p vs G, v = .ref p ∧ F.Perm (p :: G) ∧ H p = some (.dT (ks.zip vs)) ∧ ts.length = ks.length ∧ RpL K R H ts vs G
  | .z, _, F => F = []
def RpL (K : PySem.W.Frag) (R H : Hp) : List T → List V → List Addr → Prop
  | [], vs, F => vs = [] ∧ F = []
  | t :: ts, vs, F => ∃ v r F1 F2, vs = v :: r ∧ F.Perm (F1 ++ F2) ∧ Rp K R H t v F1 ∧ RpL K R H ts r F2
end
/-! ## data stands while the heap grows -/
mutual
theorem dp_up {K : PySem.W.Frag} {R R' : Hp} (s : Same R R') : ∀ (x : PyData) (v : V), Dp K R v x → Dp K R' v x
  | .none, _, h => by cases h; exact .non
  | .bool b, _, h => by cases h; exact .bl b
  | .int i, _, h => by cases h; exact .int i
  | .str x, _, h => by cases h; exact .str x
  | .list ds, _, h => by
    cases h with
    | lst hs ha => exact .lst (s.seq hs) (dpa_up s ds _ ha)
  | .tuple ds, _, h => by
    cases h with
    | tup hs ha =>
      refine .tup ?_ (dpa_up s ds _ ha)
      rcases hs with (h | ⟨o, h⟩) | h
      · exact .inl (.inl (s _ _ h))
      · exact .inl (.inr ⟨o, s _ _ h⟩)
      · exact .inr h
  | .dict _, _, h => by cases h
theorem dpa_up {K : PySem.W.Frag} {R R' : Hp} (s : Same R R') : ∀ (ds : List PyData) (vs : List V), DpAll K R vs ds → DpAll K R' vs ds
  | [], _, h => by cases h; exact .nil
  | d :: ds, _, h => by
    cases h with
    | cons h1 h2 => exact .cons (dp_up s d _ h1) (dpa_up s ds _ h2)
end
theorem dpa_len {K : PySem.W.Frag} {R : Hp} : ∀ {ds : List PyData} {vs : List V}, DpAll K R vs ds → vs.length = ds.length
  | [], _, h => by cases h; rfl
  | d :: ds, _, h => by
    cases h with
    | cons h1 h2 => simp [dpa_len h2]
theorem dpa_get {K : PySem.W.Frag} {R : Hp} : ∀ {ds : List PyData} {vs : List V} {i : Nat} {x : PyData}, DpAll K R vs ds → ds[i]? = some x → ∃ v, vs[i]? = some v ∧ Dp K R v x
  | [], _, _, _, _, e => by simp at e
  | d :: ds, _, 0, x, h, e => by
    cases h with
    | cons h1 h2 => simp at e; subst e; exact ⟨_, rfl, h1⟩
  | d :: ds, _, i + 1, x, h, e => by
    cases h with
    | cons h1 h2 =>
      obtain ⟨v, e1, e2⟩ := dpa_get (i := i) h2 (by simpa using e)
      exact ⟨v, by simpa using e1, e2⟩
theorem dpa_get' {K : PySem.W.Frag} {R : Hp} : ∀ {ds : List PyData} {vs : List V} {i : Nat} {v : V}, DpAll K R vs ds → vs[i]? = some v → ∃ x, ds[i]? = some x ∧ Dp K R v x
  | [], _, _, _, h, e => by cases h; simp at e
  | d :: ds, _, 0, x, h, e => by
    cases h with
    | cons h1 h2 => simp at e; subst e; exact ⟨_, rfl, h1⟩
  | d :: ds, _, i + 1, x, h, e => by
    cases h with
    | cons h1 h2 =>
      obtain ⟨v, e1, e2⟩ := dpa_get' (i := i) h2 (by simpa using e)
      exact ⟨v, by simpa using e1, e2⟩
theorem dpa_app {K : PySem.W.Frag} {R : Hp} : ∀ {ds es : List PyData} {vs us : List V}, DpAll K R vs ds → DpAll K R us es → DpAll K R (vs ++ us) (ds ++ es)
  | [], _, _, _, h, h' => by cases h; exact h'
  | d :: ds, _, _, _, h, h' => by
    cases h with
    | cons h1 h2 => exact .cons h1 (dpa_app h2 h')
theorem dpa_take {K : PySem.W.Frag} {R : Hp} : ∀ {ds : List PyData} {vs : List V} (n : Nat), DpAll K R vs ds → DpAll K R (vs.take n) (ds.take n)
  | _, _, 0, _ => by simpa using DpAll.nil
  | [], _, n + 1, h => by cases h; exact .nil
  | d :: ds, _, n + 1, h => by
    cases h with
    | cons h1 h2 => exact .cons h1 (dpa_take n h2)
theorem dpa_drop {K : PySem.W.Frag} {R : Hp} : ∀ {ds : List PyData} {vs : List V} (n : Nat), DpAll K R vs ds → DpAll K R (vs.drop n) (ds.drop n)
  | _, _, 0, h => h
  | [], _, n + 1, h => by cases h; exact .nil
  | d :: ds, _, n + 1, h => by
    cases h with
    | cons h1 h2 => exact dpa_drop n h2
theorem dpa_rev {K : PySem.W.Frag} {R : Hp} : ∀ {ds : List PyData} {vs : List V}, DpAll K R vs ds → DpAll K R vs.reverse ds.reverse
  | [], _, h => by cases h; exact .nil
  | d :: ds, _, h => by
    cases h with
    | cons h1 h2 =>
      rw [List.reverse_cons, List.reverse_cons]
      exact dpa_app (dpa_rev h2) (.cons h1 .nil)
mutual
theorem rp_up {K : PySem.W.Frag} {R H R' H' : Hp} (s : Same R R') : ∀ (t : T) (v : V) (F : List Addr), (∀ a ∈ F, ∀ o, H a = some o → H' a = some o) → Rp K R H t v F → Rp K R' H' t v F
  | .d x, v, F, _, h => ⟨h.1, dp_up s _ _ h.2⟩
  | .l ts, v, F, e, h => by
    obtain ⟨p, vs, G, e1, e2, e3, e4⟩ := h
    exact ⟨p, vs, G, e1, e2, e p (e2.mem_iff.mpr (by simp)) _ e3, rpl_up s ts vs G (fun a ha => e a (e2.mem_iff.mpr (by simp [ha]))) e4⟩
  | .o C N ts, v, F, e, h => by
    obtain ⟨p, dx, vs, G, e1, e2, e3, e3', e5, e4⟩ := h
    exact ⟨p, dx, vs, G, e1, e2, e p (e2.mem_iff.mpr (by simp)) _ e3, e dx (e2.mem_iff.mpr (by simp)) _ e3', e5, rpl_up s ts vs G (fun a ha => e a (e2.mem_iff.mpr (by simp [ha]))) e4⟩
  | .k ks ts, v, F, e, h => by
    obtain ⟨p, vs, G, e1, e2, e3, e5, e4⟩ := h
    exact ⟨p, vs, G, e1, e2, e p (e2.mem_iff.mpr (by simp)) _ e3, e5, rpl_up s ts vs G (fun a ha => e a (e2.mem_iff.mpr (by simp [ha]))) e4⟩
  | .m ks ts, v, F, e, h => by
    obtain ⟨p, vs, G, e1, e2, e3, e5, e4⟩ := h
    exact ⟨p, vs, G, e1, e2, e p (e2.mem_iff.mpr (by simp)) _ e3, e5, rpl_up s ts vs G (fun a ha => e a (e2.mem_iff.mpr (by simp [ha]))) e4⟩
  | .z, _, _, _, h => h
theorem rpl_up {K : PySem.W.Frag} {R H R' H' : Hp} (s : Same R R') : ∀ (ts : List T) (vs : List V) (F : List Addr), (∀ a ∈ F, ∀ o, H a = some o → H' a = some o) → RpL K R H ts vs F → RpL K R' H' ts vs F
  | [], _, _, _, h => h
  | t :: ts, vs, F, e, h => by
    obtain ⟨v, r, F1, F2, e1, e2, e3, e4⟩ := h
    exact ⟨v, r, F1, F2, e1, e2, rp_up s t v F1 (fun a ha => e a (e2.mem_iff.mpr (by simp [ha]))) e3, rpl_up s ts r F2 (fun a ha => e a (e2.mem_iff.mpr (by simp [ha]))) e4⟩
end
theorem rp_perm {K : PySem.W.Frag} {R H : Hp} {t : T} {v : V} {F F' : List Addr} (p : F.Perm F') (h : Rp K R H t v F) : Rp K R H t v F' := by
  cases t with
  | d x => exact ⟨by have := p; rw [h.1] at this; exact List.nil_perm.mp this, h.2⟩
  | l ts => obtain ⟨q, vs, G, e1, e2, r⟩ := h; exact ⟨q, vs, G, e1, p.symm.trans e2, r⟩
  | o C N ts => obtain ⟨q, dx, vs, G, e1, e2, r⟩ := h; exact ⟨q, dx, vs, G, e1, p.symm.trans e2, r⟩
  | k ks ts => obtain ⟨q, vs, G, e1, e2, r⟩ := h; exact ⟨q, vs, G, e1, p.symm.trans e2, r⟩
  | m ks ts => obtain ⟨q, vs, G, e1, e2, r⟩ := h; exact ⟨q, vs, G, e1, p.symm.trans e2, r⟩
  | z => have h' : F = [] := h; rw [h'] at p; exact List.nil_perm.mp p
theorem rpl_perm {K : PySem.W.Frag} {R H : Hp} {ts : List T} {vs : List V} {F F' : List Addr} (p : F.Perm F') (h : RpL K R H ts vs F) : RpL K R H ts vs F' := by
  cases ts with
  | nil => obtain ⟨h1, h2⟩ := h; refine ⟨h1, ?_⟩; rw [h2] at p; exact List.nil_perm.mp p
  | cons t ts => obtain ⟨v, r, F1, F2, e1, e2, e3⟩ := h; exact ⟨v, r, F1, F2, e1, p.symm.trans e2, e3⟩
theorem rpl_len {K : PySem.W.Frag} {R H : Hp} : ∀ {ts : List T} {vs : List V} {F : List Addr}, RpL K R H ts vs F → vs.length = ts.length
  | [], _, _, h => by rw [h.1]; rfl
  | t :: ts, vs, F, h => by
    obtain ⟨v, r, F1, F2, e1, e2, e3, e4⟩ := h
    rw [e1, List.length_cons, List.length_cons, rpl_len e4]
mutual
theorem rp_dom {K : PySem.W.Frag} {R H : Hp} : ∀ (t : T) (v : V) (F : List Addr), Rp K R H t v F → ∀ a ∈ F, H a ≠ none
  | .d x, v, F, h => by rw [h.1]; intro a ha; cases ha
  | .l ts, v, F, h => by
    obtain ⟨p, vs, G, e1, e2, e3, e4⟩ := h
    intro a ha
    rcases List.mem_cons.mp (e2.mem_iff.mp ha) with rfl | ha
    · rw [e3]; exact fun z => by cases z
    · exact rpl_dom ts vs G e4 a ha
  | .o C N ts, v, F, h => by
    obtain ⟨p, dx, vs, G, e1, e2, e3, e3', e5, e4⟩ := h
    intro a ha
    rcases List.mem_cons.mp (e2.mem_iff.mp ha) with rfl | ha
    · rw [e3]; exact fun z => by cases z
    · rcases List.mem_cons.mp ha with rfl | ha
      · rw [e3']; exact fun z => by cases z
      · exact rpl_dom ts vs G e4 a ha
  | .k ks ts, v, F, h => by
    obtain ⟨p, vs, G, e1, e2, e3, e5, e4⟩ := h
    intro a ha
    rcases List.mem_cons.mp (e2.mem_iff.mp ha) with rfl | ha
    · rw [e3]; exact fun z => by cases z
    · exact rpl_dom ts vs G e4 a ha
  | .m ks ts, v, F, h => by
    obtain ⟨p, vs, G, e1, e2, e3, e5, e4⟩ := h
    intro a ha
    rcases List.mem_cons.mp (e2.mem_iff.mp ha) with rfl | ha
    · rw [e3]; exact fun z => by cases z
    · exact rpl_dom ts vs G e4 a ha
  | .z, _, F, h => by have h' : F = [] := h; rw [h']; intro a ha; cases ha
theorem rpl_dom {K : PySem.W.Frag} {R H : Hp} : ∀ (ts : List T) (vs : List V) (F : List Addr), RpL K R H ts vs F → ∀ a ∈ F, H a ≠ none
  | [], _, _, h => by rw [h.2]; intro a ha; cases ha
  | t :: ts, vs, F, h => by
    obtain ⟨v, r, F1, F2, e1, e2, e3, e4⟩ := h
    intro a ha
    rcases List.mem_append.mp (e2.mem_iff.mp ha) with ha | ha
    · exact rp_dom t v F1 e3 a ha
    · exact rpl_dom ts r F2 e4 a ha
end
/-! ## a tree as data -/
mutual
def T.data : T → Option PyData
  | .d x => some x
  | .l ts => (dataL ts).map PyData.list
  | _ => none
def dataL : List T → Option (List PyData)
  | [] => some []
  | t :: ts => match t.data, dataL ts with
    | some x, some xs => some (x :: xs)
    | _, _ => none
end
theorem dataL_d : ∀ ds : List PyData, dataL (ds.map T.d) = some ds
  | [] => rfl
  | d :: ds => by
    show (match T.data (.d d), dataL (ds.map T.d) with | some x, some xs => some (x :: xs) | _, _ => none) = _
    rw [dataL_d ds]; rfl
mutual
/-- a tree is let go: its cells are data from now on -/
theorem rp_frz {K : PySem.W.Frag} {R H R' : Hp} (s : Same R R') : ∀ (t : T) (v : V) (F : List Addr) (x : PyData), (∀ a ∈ F, ∀ o, H a = some o → R' a = some o) → Rp K R H t v F → t.data = some x → Dp K R' v x
  | .d x, v, F, y, _, h, e => by
    have e' : some x = some y := e
    cases e'
    exact dp_up s _ _ h.2
  | .l ts, v, F, y, q, h, e => by
    obtain ⟨p, vs, G, rfl, e2, e3, e4⟩ := h
    have e' : (dataL ts).map PyData.list = some y := e
    cases e5 : dataL ts with
    | none => rw [e5] at e'; cases e'
    | some xs =>
      rw [e5] at e'
      cases e'
      exact .lst (.of (q p (e2.mem_iff.mpr (by simp)) _ e3)) (rpl_frz s ts vs G xs (fun a ha => q a (e2.mem_iff.mpr (by simp [ha]))) e4 e5)
  | .o C N ts, v, F, y, _, _, e => by cases (show none = some y from e)
  | .k ks ts, v, F, y, _, _, e => by cases (show none = some y from e)
  | .m ks ts, v, F, y, _, _, e => by cases (show none = some y from e)
  | .z, _, _, y, _, _, e => by cases (show none = some y from e)
theorem rpl_frz {K : PySem.W.Frag} {R H R' : Hp} (s : Same R R') : ∀ (ts : List T) (vs : List V) (F : List Addr) (xs : List PyData), (∀ a ∈ F, ∀ o, H a = some o → R' a = some o) → RpL K R H ts vs F → dataL ts = some xs → DpAll K R' vs xs
  | [], vs, F, xs, _, h, e => by
    have e' : some [] = some xs := e
    cases e'
    rw [h.1]
    exact .nil
  | t :: ts, vs, F, xs, q, h, e => by
    obtain ⟨v, r, F1, F2, rfl, e2, e3, e4⟩ := h
    have e' : (match T.data t, dataL ts with | some x, some xs => some (x :: xs) | _, _ => none) = some xs := e
    cases e5 : T.data t with
    | none => rw [e5] at e'; cases e'
    | some y =>
      cases e6 : dataL ts with
      | none => rw [e5, e6] at e'; cases e'
      | some ys =>
        rw [e5, e6] at e'
        cases e'
        exact .cons (rp_frz s t v F1 y (fun a ha => q a (e2.mem_iff.mpr (by simp [ha]))) e3 e5) (rpl_frz s ts r F2 ys (fun a ha => q a (e2.mem_iff.mpr (by simp [ha]))) e4 e6)
end
theorem rpl_d {K : PySem.W.Frag} {R H : Hp} : ∀ {ds : List PyData} {vs : List V}, DpAll K R vs ds → RpL K R H (ds.map T.d) vs []
  | [], _, h => by cases h; exact ⟨rfl, rfl⟩
  | d :: ds, _, h => by
    cases h with
    | cons h1 h2 => exact ⟨_, _, [], [], rfl, .refl _, ⟨rfl, h1⟩, rpl_d h2⟩
/-- a list of data only -/
def allD : List T → Option (List PyData)
  | [] => some []
  | .d x :: ts => (allD ts).map (x :: ·)
  | _ :: _ => none
theorem allD_d : ∀ ds : List PyData, allD (ds.map T.d) = some ds
  | [] => rfl
  | d :: ds => by
    show (allD (ds.map T.d)).map (d :: ·) = _
    rw [allD_d ds]; rfl
theorem allD_of : ∀ {ts : List T} {xs : List PyData}, allD ts = some xs → ts = xs.map T.d
  | [], xs, e => by cases (show some [] = some xs from e); rfl
  | .d x :: ts, xs, e => by
    have e' : (allD ts).map (x :: ·) = some xs := e
    cases h : allD ts with
    | none => rw [h] at e'; cases e'
    | some ys => rw [h] at e'; cases e'; rw [allD_of h]; rfl
  | .l _ :: _, _, e => by cases e
  | .o _ _ _ :: _, _, e => by cases e
  | .k _ _ :: _, _, e => by cases e
  | .m _ _ :: _, _, e => by cases e
  | .z :: _, _, e => by cases e
theorem rpl_d' {K : PySem.W.Frag} {R H : Hp} : ∀ {ds : List PyData} {vs : List V} {F : List Addr}, RpL K R H (ds.map T.d) vs F → DpAll K R vs ds ∧ F = []
  | [], vs, F, h => by rw [h.1, h.2]; exact ⟨.nil, rfl⟩
  | d :: ds, vs, F, h => by
    obtain ⟨v, r, F1, F2, rfl, e2, e3, e4⟩ := h
    obtain ⟨h1, h2⟩ := rpl_d' e4
    obtain ⟨h3, h4⟩ := e3
    rw [h2, h3] at e2
    exact ⟨.cons h4 h1, List.nil_perm.mp e2.symm⟩
/-! ## the slots -/
def RpS (K : PySem.W.Frag) (R H : Hp) : Env → L2.St → List Addr → Prop
  | [], σ, F => σ = [] ∧ F = []
  | none :: e, σ, F => ∃ o r, σ = o :: r ∧ RpS K R H e r F
  | some t :: e, σ, F => ∃ v r F1 F2, σ = some v :: r ∧ F.Perm (F1 ++ F2) ∧ Rp K R H t v F1 ∧ RpS K R H e r F2
theorem rps_up {K : PySem.W.Frag} {R H R' H' : Hp} (s : Same R R') : ∀ (e : Env) (σ : L2.St) (F : List Addr), (∀ a ∈ F, ∀ o, H a = some o → H' a = some o) → RpS K R H e σ F → RpS K R' H' e σ F
  | [], _, _, _, h => h
  | none :: e, σ, F, q, h => by
    obtain ⟨o, r, e1, e2⟩ := h
    exact ⟨o, r, e1, rps_up s e r F q e2⟩
  | some t :: e, σ, F, q, h => by
    obtain ⟨v, r, F1, F2, e1, e2, e3, e4⟩ := h
    exact ⟨v, r, F1, F2, e1, e2, rp_up s t v F1 (fun a ha => q a (e2.mem_iff.mpr (by simp [ha]))) e3, rps_up s e r F2 (fun a ha => q a (e2.mem_iff.mpr (by simp [ha]))) e4⟩
theorem rps_perm {K : PySem.W.Frag} {R H : Hp} : ∀ {e : Env} {σ : L2.St} {F F' : List Addr}, F.Perm F' → RpS K R H e σ F → RpS K R H e σ F'
  | [], _, _, _, p, h => ⟨h.1, by rw [h.2] at p; exact List.nil_perm.mp p⟩
  | none :: e, _, _, _, p, h => by
    obtain ⟨o, r, e1, e2⟩ := h
    exact ⟨o, r, e1, rps_perm p e2⟩
  | some t :: e, _, _, _, p, h => by
    obtain ⟨v, r, F1, F2, e1, e2, e3⟩ := h
    exact ⟨v, r, F1, F2, e1, p.symm.trans e2, e3⟩
theorem rps_dom {K : PySem.W.Frag} {R H : Hp} : ∀ (e : Env) (σ : L2.St) (F : List Addr), RpS K R H e σ F → ∀ a ∈ F, H a ≠ none
  | [], _, _, h => by rw [h.2]; intro a ha; cases ha
  | none :: e, σ, F, h => by
    obtain ⟨o, r, e1, e2⟩ := h
    exact rps_dom e r F e2
  | some t :: e, σ, F, h => by
    obtain ⟨v, r, F1, F2, e1, e2, e3, e4⟩ := h
    intro a ha
    rcases List.mem_append.mp (e2.mem_iff.mp ha) with ha | ha
    · exact rp_dom t v F1 e3 a ha
    · exact rps_dom e r F2 e4 a ha
theorem rps_len {K : PySem.W.Frag} {R H : Hp} : ∀ {e : Env} {σ : L2.St} {F : List Addr}, RpS K R H e σ F → σ.length = e.length
  | [], _, _, h => by rw [h.1]; rfl
  | none :: e, σ, F, h => by
    obtain ⟨o, r, e1, e2⟩ := h
    rw [e1, List.length_cons, List.length_cons, rps_len e2]
  | some t :: e, σ, F, h => by
    obtain ⟨v, r, F1, F2, e1, e2, e3, e4⟩ := h
    rw [e1, List.length_cons, List.length_cons, rps_len e4]
/-- a slot's tree is taken out -/
theorem rps_take {K : PySem.W.Frag} {R H : Hp} : ∀ {e : Env} {σ : L2.St} {F : List Addr} {i : Nat} {t : T}, RpS K R H e σ F → e[i]? = some (some t) →
    ∃ v F1 F2, σ[i]? = some (some v) ∧ F.Perm (F1 ++ F2) ∧ Rp K R H t v F1 ∧ RpS K R H (e.set i (some .z)) σ F2
  | [], _, _, _, _, _, e => by simp at e
  | none :: e, _, _, 0, _, _, h => by simp at h
  | none :: e, σ, F, i + 1, t, h, q => by
    obtain ⟨o, r, rfl, e2⟩ := h
    obtain ⟨v, F1, F2, h1, h2, h3, h4⟩ := rps_take (i := i) e2 (by simpa using q)
    exact ⟨v, F1, F2, by simpa using h1, h2, h3, o, r, rfl, h4⟩
  | some t :: e, σ, F, 0, t', h, q => by
    obtain ⟨v, r, F1, F2, rfl, e2, e3, e4⟩ := h
    simp at q
    subst q
    exact ⟨v, F1, F2, by simp, e2, e3, v, r, [], F2, rfl, .refl _, rfl, e4⟩
  | some t :: e, σ, F, i + 1, t', h, q => by
    obtain ⟨v, r, F1, F2, rfl, e2, e3, e4⟩ := h
    obtain ⟨v', G1, G2, h1, h2, h3, h4⟩ := rps_take (i := i) e4 (by simpa using q)
    refine ⟨v', G1, F1 ++ G2, by simpa using h1, ?_, h3, v, r, F1, G2, rfl, .refl _, e3, h4⟩
    refine e2.trans ((List.Perm.append_left F1 h2).trans ?_)
    rw [← List.append_assoc, ← List.append_assoc]
    exact List.Perm.append_right G2 List.perm_append_comm
/-- a slot gets a value -/
theorem rps_put {K : PySem.W.Frag} {R H : Hp} : ∀ {e : Env} {σ : L2.St} {F : List Addr} {i : Nat} {t : T} {v : V} {G : List Addr}, RpS K R H e σ F → i < e.length → (∀ t', e[i]? = some (some t') → t' = .z) → Rp K R H t v G →
    RpS K R H (e.set i (some t)) (σ.set i (some v)) (G ++ F)
  | [], _, _, _, _, _, _, _, h, _, _ => by simp at h
  | none :: e, σ, F, 0, t, v, G, h, _, _, hr => by
    obtain ⟨o, r, rfl, e2⟩ := h
    exact ⟨v, r, G, F, rfl, .refl _, hr, e2⟩
  | none :: e, σ, F, i + 1, t, v, G, h, hi, hz, hr => by
    obtain ⟨o, r, rfl, e2⟩ := h
    exact ⟨o, _, rfl, rps_put (i := i) e2 (by simpa using hi) (fun t' q => hz t' (by simpa using q)) hr⟩
  | some t0 :: e, σ, F, 0, t, v, G, h, _, hz, hr => by
    obtain ⟨v0, r, F1, F2, rfl, e2, e3, e4⟩ := h
    have z := hz t0 (by simp)
    subst z
    have e3' : F1 = [] := e3
    subst e3'
    refine ⟨v, r, G, F2, rfl, ?_, hr, e4⟩
    exact List.Perm.append_left G (by simpa using e2)
  | some t0 :: e, σ, F, i + 1, t, v, G, h, hi, hz, hr => by
    obtain ⟨v0, r, F1, F2, rfl, e2, e3, e4⟩ := h
    refine ⟨v0, _, F1, G ++ F2, rfl, ?_, e3, rps_put (i := i) e4 (by simpa using hi) (fun t' q => hz t' (by simpa using q)) hr⟩
    refine (List.Perm.append_left G e2).trans ?_
    rw [← List.append_assoc, ← List.append_assoc]
    exact List.Perm.append_right F2 List.perm_append_comm
end Dn
namespace Dn
open PySem PySem.Spec PyProof.Rows L2
/-! ## places -/
def getT : T → List Stp → Option T
  | t, [] => some t
  | .l ts, .i n :: q => match ts[n]? with
    | some t => getT t q
    | none => none
  | .o _ _ ts, .f j :: q => match ts[j]? with
    | some t => getT t q
    | none => none
  | _, _ => none
def getE (e : Env) (i : Nat) (q : List Stp) : Option T := match e[i]? with
  | some (some t) => getT t q
  | _ => none
/-- one step in the heap -/
def StepH (H : Hp) (u : V) (s : Stp) (m : V) : Prop := match s with
  | .i n => ∃ p vs, u = .ref p ∧ H p = some (.lst vs) ∧ vs[n]? = some m
  | .f j => ∃ p C dx N vs, u = .ref p ∧ H p = some (.ins C dx (List.zip N vs)) ∧ vs.length ≤ N.length ∧ vs[j]? = some m
  | _ => False
def wk (H : Hp) : V → List Stp → V → Prop
  | u, [], v => u = v
  | u, s :: q, v => ∃ m, StepH H u s m ∧ wk H m q v
/-! ## the state -/
structure Ctx where
  K : PySem.W.Frag
  cl : Str → Addr
  pn : List (Option V)
  fx : Hp → Prop
  fxm : ∀ R R', Same R R' → fx R → fx R'
  ε : L2.St → XK
def Pin (pn : List (Option V)) (σ : L2.St) : Prop := ∀ (i : Nat) (v : V), pn[i]? = some (some v) → σ[i]? = some (some v)
structure Sr (c : Ctx) (R H : Hp) (e : Env) (σ : L2.St) (F : List Addr) : Prop where
  sl : RpS c.K R H e σ F
  nd : F.Nodup
  rh : Same R H
  rf : ∀ a ∈ F, R a = none
  pn : Pin c.pn σ
  fx : c.fx R
structure Ex (R H : Hp) (F : List Addr) (R' H' : Hp) (F' : List Addr) : Prop where
  rr : Same R R'
  hh : ∀ a o, H a = some o → a ∉ F → H' a = some o
  rn : ∀ a, R' a ≠ none → R a ≠ none ∨ a ∈ F ∨ H a = none
  fn : ∀ a ∈ F', a ∈ F ∨ H a = none
theorem Ex.refl {R H : Hp} {F : List Addr} : Ex R H F R H F := ⟨Same.refl _, fun _ _ h _ => h, fun _ h => .inl h, fun _ h => .inl h⟩
theorem Ex.back {R H R1 H1 : Hp} {F F1 : List Addr} (x : Ex R H F R1 H1 F1) {a : Addr} (h : H1 a = none) : a ∈ F ∨ H a = none := by
  by_cases q : a ∈ F
  · exact .inl q
  · refine .inr ?_
    cases e : H a with
    | none => rfl
    | some o => rw [x.hh a o e q] at h; cases h
theorem Ex.trans {R H R1 H1 R2 H2 : Hp} {F F1 F2 : List Addr} (x : Ex R H F R1 H1 F1) (y : Ex R1 H1 F1 R2 H2 F2) : Ex R H F R2 H2 F2 where
  rr := x.rr.trans y.rr
  hh := fun a o h q => y.hh a o (x.hh a o h q) fun z => by
    rcases x.fn a z with z | z
    · exact q z
    · rw [h] at z; cases z
  rn := fun a h => by
    rcases y.rn a h with z | z | z
    · exact x.rn a z
    · exact .inr (x.fn a z)
    · exact .inr (x.back z)
  fn := fun a h => by
    rcases y.fn a h with z | z
    · exact x.fn a z
    · exact x.back z
theorem Ex.mono {R H R1 H1 : Hp} {F F1 F2 : List Addr} (x : Ex R H F R1 H1 F1) (h : ∀ a ∈ F2, a ∈ F1) : Ex R H F R1 H1 F2 := ⟨x.rr, x.hh, x.rn, fun a z => x.fn a (h a z)⟩
/-- the heap has grown -/
theorem Ex.grow {R H R1 H1 : Hp} {F : List Addr} (s : Same H H1) (r : Same R R1) (n : ∀ a, R1 a ≠ none → R a ≠ none ∨ H a = none) : Ex R H F R1 H1 F :=
  ⟨r, fun a o h _ => s a o h, fun a h => (n a h).elim .inl fun z => .inr (.inr z), fun _ h => .inl h⟩
theorem Sr.grow {c : Ctx} {R H R1 H1 : Hp} {e : Env} {σ : L2.St} {F : List Addr} (x : Sr c R H e σ F) (s : Same H H1) (r : Same R R1) (rh : Same R1 H1) (n : ∀ a, R1 a ≠ none → R a ≠ none ∨ H a = none) : Sr c R1 H1 e σ F where
  sl := rps_up r _ _ _ (fun a _ o h => s a o h) x.sl
  nd := x.nd
  rh := rh
  rf := fun a h => by
    cases q : R1 a with
    | none => rfl
    | some o =>
      exfalso
      rcases n a (by rw [q]; exact fun z => by cases z) with z | z
      · exact z (x.rf a h)
      · exact rps_dom _ _ _ x.sl a h z
  pn := x.pn
  fx := c.fxm _ _ r x.fx
/-! ## the heap grows -/
structure Gr (R H R' H' : Hp) : Prop where
  hh : Same H H'
  rr : Same R R'
  rh : Same R' H'
  rn : ∀ a, R' a ≠ none → R a ≠ none ∨ H a = none
theorem Gr.refl {R H : Hp} (rh : Same R H) : Gr R H R H := ⟨Same.refl _, Same.refl _, rh, fun _ h => .inl h⟩
theorem Gr.trans {R H R1 H1 R2 H2 : Hp} (x : Gr R H R1 H1) (y : Gr R1 H1 R2 H2) : Gr R H R2 H2 := ⟨x.hh.trans y.hh, x.rr.trans y.rr, y.rh, fun a h => by
  rcases y.rn a h with z | z
  · exact x.rn a z
  · exact .inr (x.hh.free z)⟩
/-! ## results -/
inductive W where
  | v (x : PyData)
  | t (t : T)
  | p (i : Nat) (q : List Stp)
  | b (ds : List PyData)
abbrev Xd := Option (List (Str × PyData))
inductive Res where
  | ok (r : W) (e : Env) (w : Bool)
  | er (C : Str) (fs : Xd) (e : Env)
  | no
inductive RV where
  | ok (x : PyData) (b : Bool) (e : Env) (w : Bool)
  | er (C : Str) (fs : Xd) (e : Env)
  | no
inductive Out where
  | nx (e : Env)
  | rt (r : W) (e : Env)
  | bk (e : Env)
  | ct (e : Env)
  | er (C : Str) (fs : Xd) (e : Env)
  | no
def Rw (K : PySem.W.Frag) (R H : Hp) (σ : L2.St) : W → V → List Addr → Prop
  | .v x, v, G => G = [] ∧ Dp K R v x
  | .t t, v, G => Rp K R H t v G
  | .p i q, v, G => G = [] ∧ ∃ u, σ[i]? = some (some u) ∧ wk H u q v
  | .b ds, v, G => G = [] ∧ ∃ p vs, v = .ref p ∧ H p = some (.lst vs) ∧ DpAll K R vs ds
def Sd (K : PySem.W.Frag) (R H : Hp) (v : V) (x : PyData) : Bool → Prop
  | false => Dp K R v x
  | true => ∃ p vs ds, v = .ref p ∧ x = .list ds ∧ H p = some (.lst vs) ∧ DpAll K R vs ds
def RX (K : PySem.W.Frag) (R : Hp) : Xd → Option Addr → Prop
  | none, d => d = none
  | some fs, d => ∃ dd vs, d = some dd ∧ R dd = some (.xd (List.zip (fs.map (·.1)) vs)) ∧ DpAll K R vs (fs.map (·.2))
def PostE (c : Ctx) (σ : L2.St) (R H : Hp) (F : List Addr) (Q : VK) : Res → Prop
  | .ok r e w => ∀ R' H' F' G v, Sr c R' H' e σ F' → Rw c.K R' H' σ r v G → (F' ++ G).Nodup → (∀ a ∈ G, R' a = none) → Ex R H F R' H' (F' ++ G) → (w = false → Gr R H R' H' ∧ ∀ a ∈ G, H a = none) → Q v H'
  | .er C fs e => ∀ R' H' F' d, Sr c R' H' e σ F' → RX c.K R' fs d → Ex R H F R' H' F' → c.ε σ (.ref (c.cl C)) d H'
  | .no => False
def PostV (c : Ctx) (σ : L2.St) (R H : Hp) (F : List Addr) (Q : VK) : RV → Prop
  | .ok x b e w => ∀ R' H' F' v, Sr c R' H' e σ F' → Sd c.K R' H' v x b → Ex R H F R' H' F' → (w = false → Gr R H R' H') → Q v H'
  | .er C fs e => ∀ R' H' F' d, Sr c R' H' e σ F' → RX c.K R' fs d → Ex R H F R' H' F' → c.ε σ (.ref (c.cl C)) d H'
  | .no => False
def PostS (c : Ctx) (R H : Hp) (F : List Addr) (D : Ends) : Out → Prop
  | .nx e => ∀ σ' R' H' F', Sr c R' H' e σ' F' → Ex R H F R' H' F' → D.nx σ' H'
  | .rt r e => ∀ σ' R' H' F' G v, Sr c R' H' e σ' F' → Rw c.K R' H' σ' r v G → (F' ++ G).Nodup → (∀ a ∈ G, R' a = none) → Ex R H F R' H' (F' ++ G) → D.rt v H'
  | .bk e => ∀ σ' R' H' F', Sr c R' H' e σ' F' → Ex R H F R' H' F' → D.bk σ' H'
  | .ct e => ∀ σ' R' H' F', Sr c R' H' e σ' F' → Ex R H F R' H' F' → D.ct σ' H'
  | .er C fs e => ∀ σ' R' H' F' d, Sr c R' H' e σ' F' → RX c.K R' fs d → Ex R H F R' H' F' → c.ε σ' (.ref (c.cl C)) d H'
  | .no => False
def tD (c : Ctx) (d : Env → Res) : TE := fun σ H Q => ∃ e R F, Sr c R H e σ F ∧ PostE c σ R H F Q (d e)
def tV (c : Ctx) (d : Env → RV) : TE := fun σ H Q => ∃ e R F, Sr c R H e σ F ∧ PostV c σ R H F Q (d e)
def tS (c : Ctx) (d : Env → Out) : TS := fun D σ H => ∃ e R F, Sr c R H e σ F ∧ PostS c R H F D (d e)
/-! ## weaker readings -/
theorem PE.imp {X : Cx} {e : Expr} {t t' : TE} (h : PE X e t) (q : ∀ σ H Q, t' σ H Q → t σ H Q) : PE X e t' := ⟨fun pins s σ H Q I x => h.run pins s σ H Q I (q _ _ _ x)⟩
theorem PT.imp {X : Cx} {e : Expr} {t t' : TT} (h : PT X e t) (q : ∀ σ H Q, t' σ H Q → t σ H Q) : PT X e t' := ⟨fun pins s σ H Q I x => h.run pins s σ H Q I (q _ _ _ x)⟩
theorem PW.imp {X : Cx} {e : Expr} {t t' : TT} (h : PW X e t) (q : ∀ σ H Q, t' σ H Q → t σ H Q) : PW X e t' := ⟨fun wh pins s σ H Q I x => h.run wh pins s σ H Q I (q _ _ _ x)⟩
theorem PS.imp {X : Cx} {st : Stmt} {t t' : TS} (h : PS X st t) (q : ∀ D σ H, t' D σ H → t D σ H) : PS X st t' := ⟨fun pins s σ H D I x => h.run pins s σ H D I (q _ _ _ x)⟩
theorem PSs.imp {X : Cx} {st : List Stmt} {t t' : TS} (h : PSs X st t) (q : ∀ D σ H, t' D σ H → t D σ H) : PSs X st t' := ⟨fun pins s σ H D I x => h.run pins s σ H D I (q _ _ _ x)⟩
/-- posts follow one another -/
theorem PostV.mono {c : Ctx} {σ : L2.St} {R H : Hp} {F : List Addr} {Q : VK} {R0 H0 : Hp} {F0 : List Addr} {r : RV} (x : Ex R0 H0 F0 R H F) (sm : ∀ R' H', Gr R H R' H' → Gr R0 H0 R' H') (h : PostV c σ R0 H0 F0 Q r) : PostV c σ R H F Q r := by
  cases r with
  | ok y b e w => exact fun R' H' F' v s d ex hw => h R' H' F' v s d (x.trans ex) (fun z => sm _ _ (hw z))
  | er C fs e => exact fun R' H' F' d s rx ex => h R' H' F' d s rx (x.trans ex)
  | no => exact h
theorem PostS.mono {c : Ctx} {R H : Hp} {F : List Addr} {D : Ends} {R0 H0 : Hp} {F0 : List Addr} {r : Out} (x : Ex R0 H0 F0 R H F) (h : PostS c R0 H0 F0 D r) : PostS c R H F D r := by
  cases r with
  | nx e => exact fun σ' R' H' F' s ex => h σ' R' H' F' s (x.trans ex)
  | rt r e => exact fun σ' R' H' F' G v s d nd rf ex => h σ' R' H' F' G v s d nd rf (x.trans ex)
  | bk e => exact fun σ' R' H' F' s ex => h σ' R' H' F' s (x.trans ex)
  | ct e => exact fun σ' R' H' F' s ex => h σ' R' H' F' s (x.trans ex)
  | er C fs e => exact fun σ' R' H' F' d s rx ex => h σ' R' H' F' d s rx (x.trans ex)
  | no => exact h
/-! ## from trees to data and back -/
def rdT : T → Option (PyData × Bool)
  | .d x => some (x, false)
  | .l ts => (allD ts).map fun ds => (.list ds, true)
  | _ => none
def toV : Res → RV
  | .ok (.v x) e w => .ok x false e w
  | .ok (.t t) e w => match t.data with
    | some x => .ok x false e w
    | none => .no
  | .ok (.p i q) e w => match getE e i q with
    | some t => match rdT t with
      | some (x, b) => .ok x b e w
      | none => .no
    | none => .no
  | .ok (.b ds) e w => .ok (.list ds) true e w
  | .er C fs e => .er C fs e
  | .no => .no
def ofV : RV → Res
  | .ok x false e w => .ok (.v x) e w
  | .ok (.list ds) true e w => .ok (.b ds) e w
  | .ok _ true _ _ => .no
  | .er C fs e => .er C fs e
  | .no => .no
/-- the fragment of the heap that R and the cells at G are -/
def join (R H : Hp) (G : List Addr) : Hp := fun a => if a ∈ G then H a else R a
theorem join_in {R H : Hp} {G : List Addr} {a : Addr} (h : a ∈ G) : join R H G a = H a := if_pos h
theorem join_out {R H : Hp} {G : List Addr} {a : Addr} (h : a ∉ G) : join R H G a = R a := if_neg h
theorem join_same {R H : Hp} {G : List Addr} (rf : ∀ a ∈ G, R a = none) : Same R (join R H G) := fun a o h => by
  rw [join_out fun z => by rw [rf a z] at h; cases h]; exact h
theorem join_sub {R H : Hp} {G : List Addr} (rh : Same R H) : Same (join R H G) H := fun a o h => by
  by_cases z : a ∈ G
  · rw [join_in z] at h; exact h
  · rw [join_out z] at h; exact rh a o h
/-- cells at G are let go -/
theorem Sr.join {c : Ctx} {R H : Hp} {e : Env} {σ : L2.St} {F G : List Addr} (s : Sr c R H e σ F) (nd : (F ++ G).Nodup) (rf : ∀ a ∈ G, R a = none) : Sr c (join R H G) H e σ F where
  sl := rps_up (join_same rf) _ _ _ (fun _ _ _ h => h) s.sl
  nd := s.nd
  rh := join_sub s.rh
  rf := fun a h => by
    rw [join_out fun z => (List.nodup_append.mp nd).2.2 a h a z rfl]
    exact s.rf a h
  pn := s.pn
  fx := c.fxm _ _ (join_same rf) s.fx
theorem Ex.join {R H R1 H1 : Hp} {F F1 G : List Addr} (x : Ex R H F R1 H1 (F1 ++ G)) (rf : ∀ a ∈ G, R1 a = none) : Ex R H F (join R1 H1 G) H1 F1 where
  rr := x.rr.trans (join_same rf)
  hh := x.hh
  rn := fun a h => by
    by_cases z : a ∈ G
    · exact .inr (x.fn a (List.mem_append_right _ z))
    · rw [join_out z] at h; exact x.rn a h
  fn := fun a h => x.fn a (List.mem_append_left _ h)
theorem Gr.join {R H R' H' : Hp} {G : List Addr} (g : Gr R H R' H') (rf : ∀ a ∈ G, R' a = none) (fr : ∀ a ∈ G, H a = none) : Gr R H (Dn.join R' H' G) H' := ⟨g.hh, g.rr.trans (join_same rf), join_sub g.rh, fun a h => by
  by_cases z : a ∈ G
  · exact .inr (fr a z)
  · rw [join_out z] at h; exact g.rn a h⟩
theorem wk_get {K : PySem.W.Frag} {R H : Hp} : ∀ (q : List Stp) {t s : T} {u v : V} {F : List Addr}, Rp K R H t u F → getT t q = some s → wk H u q v → ∃ G, Rp K R H s v G ∧ ∀ a ∈ G, a ∈ F
  | [], t, s, u, v, F, h, e, w => by
    have e' : some t = some s := by cases t <;> exact e
    cases e'
    cases (show u = v from w)
    exact ⟨F, h, fun _ z => z⟩
  | st :: q, t, s, u, v, F, h, e, w => by
    obtain ⟨m, st', w⟩ := w
    cases t with
    | l ts =>
      cases st with
      | i n =>
        obtain ⟨p, vs, G, rfl, e2, e3, e4⟩ := h
        obtain ⟨p', vs', e5, e6, e7⟩ := st'
        cases e5
        rw [e3] at e6
        cases e6
        have e' : (match ts[n]? with | some t => getT t q | none => none) = some s := e
        cases e8 : ts[n]? with
        | none => rw [e8] at e'; cases e'
        | some t' =>
          rw [e8] at e'
          have key : ∀ (ts : List T) (vs : List V) (F : List Addr) (n : Nat), RpL K R H ts vs F → ts[n]? = some t' → vs[n]? = some m → ∃ G, Rp K R H t' m G ∧ ∀ a ∈ G, a ∈ F := by
            intro ts
            induction ts with
            | nil => intro vs F n _ h; simp at h
            | cons t0 ts ih =>
              intro vs F n h h1 h2
              obtain ⟨v0, r, F1, F2, rfl, p1, p2, p3⟩ := h
              cases n with
              | zero =>
                simp at h1 h2
                subst h1 h2
                exact ⟨F1, p2, fun a z => p1.mem_iff.mpr (List.mem_append_left _ z)⟩
              | succ n =>
                obtain ⟨G, g1, g2⟩ := ih r F2 n p3 (by simpa using h1) (by simpa using h2)
                exact ⟨G, g1, fun a z => p1.mem_iff.mpr (List.mem_append_right _ (g2 a z))⟩
          obtain ⟨G1, g1, g2⟩ := key ts vs G n e4 e8 e7
          obtain ⟨G2, g3, g4⟩ := wk_get q g1 e' w
          exact ⟨G2, g3, fun a z => e2.mem_iff.mpr (List.mem_cons_of_mem _ (g2 a (g4 a z)))⟩
      | f j => cases e
      | k j => cases e
      | m j => cases e
    | o C N ts =>
      cases st with
      | f j =>
        obtain ⟨p, dx, vs, G, rfl, e2, e3, e3', e0, e4⟩ := h
        obtain ⟨p', C', dx', N', vs', e5, e6, el, e7⟩ := st'
        cases e5
        rw [e3] at e6
        have l1 := rpl_len e4
        injection e6 with e6
        injection e6 with e61 e62 e63
        have ev : vs[j]? = some m := by
          have h1 : (List.zip N' vs')[j]?.map (·.2) = vs'[j]? := by
            rw [← List.getElem?_map, List.map_snd_zip (by omega)]
          have h2 : (List.zip N vs)[j]?.map (·.2) = vs[j]? := by
            rw [← List.getElem?_map, List.map_snd_zip (by omega)]
          rw [← h2, e63, h1, e7]
        have e' : (match ts[j]? with | some t => getT t q | none => none) = some s := e
        cases e8 : ts[j]? with
        | none => rw [e8] at e'; cases e'
        | some t' =>
          rw [e8] at e'
          have key : ∀ (ts : List T) (vs : List V) (F : List Addr) (n : Nat), RpL K R H ts vs F → ts[n]? = some t' → vs[n]? = some m → ∃ G, Rp K R H t' m G ∧ ∀ a ∈ G, a ∈ F := by
            intro ts
            induction ts with
            | nil => intro vs F n _ h; simp at h
            | cons t0 ts ih =>
              intro vs F n h h1 h2
              obtain ⟨v0, r, F1, F2, rfl, p1, p2, p3⟩ := h
              cases n with
              | zero =>
                simp at h1 h2
                subst h1 h2
                exact ⟨F1, p2, fun a z => p1.mem_iff.mpr (List.mem_append_left _ z)⟩
              | succ n =>
                obtain ⟨G, g1, g2⟩ := ih r F2 n p3 (by simpa using h1) (by simpa using h2)
                exact ⟨G, g1, fun a z => p1.mem_iff.mpr (List.mem_append_right _ (g2 a z))⟩
          obtain ⟨G1, g1, g2⟩ := key ts vs G j e4 e8 ev
          obtain ⟨G2, g3, g4⟩ := wk_get q g1 e' w
          exact ⟨G2, g3, fun a z => e2.mem_iff.mpr (List.mem_cons_of_mem _ (List.mem_cons_of_mem _ (g2 a (g4 a z))))⟩
      | i j => cases e
      | k j => cases e
      | m j => cases e
    | d x => cases st <;> cases e
    | k ks ts => cases st <;> cases e
    | m ks ts => cases st <;> cases e
    | z => cases st <;> cases e
theorem rps_wk {c : Ctx} {R H : Hp} {e : Env} {σ : L2.St} {F : List Addr} (h : Sr c R H e σ F) {i : Nat} {q : List Stp} {s : T} {u v : V} (g : getE e i q = some s) (hu : σ[i]? = some (some u)) (w : wk H u q v) :
    ∃ G, Rp c.K R H s v G ∧ ∀ a ∈ G, a ∈ F := by
  unfold getE at g
  cases e1 : e[i]? with
  | none => rw [e1] at g; cases g
  | some o =>
    cases o with
    | none => rw [e1] at g; cases g
    | some t =>
      rw [e1] at g
      obtain ⟨v0, F1, F2, h1, h2, h3, h4⟩ := rps_take h.sl e1
      rw [hu] at h1
      cases h1
      obtain ⟨G, g1, g2⟩ := wk_get q h3 g w
      exact ⟨G, g1, fun a z => h2.mem_iff.mpr (List.mem_append_left _ (g2 a z))⟩
/-- a tree as it is read -/
theorem rdT_ok {K : PySem.W.Frag} {R H : Hp} {t : T} {v : V} {G : List Addr} {x : PyData} {b : Bool} (h : Rp K R H t v G) (e : rdT t = some (x, b)) : Sd K R H v x b := by
  cases t with
  | d y => cases (show some (y, false) = some (x, b) from e); exact h.2
  | l ts =>
    have e' : (allD ts).map (fun ds => (PyData.list ds, true)) = some (x, b) := e
    cases e1 : allD ts with
    | none => rw [e1] at e'; cases e'
    | some ds =>
      rw [e1] at e'
      cases e'
      have := allD_of e1
      subst this
      obtain ⟨p, vs, F, h1, h2, h3, h4⟩ := h
      exact ⟨p, vs, ds, h1, rfl, h3, (rpl_d' h4).1⟩
  | o C N ts => cases e
  | k ks ts => cases e
  | m ks ts => cases e
  | z => cases e
def vD (d : Env → Res) : Env → RV := fun e => toV (d e)
def dV (d : Env → RV) : Env → Res := fun e => ofV (d e)
theorem toV_ok {c : Ctx} {d : Env → Res} {σ : L2.St} {H : Hp} {Q : VK} (hh : tV c (vD d) σ H Q) : tD c d σ H Q := by
  obtain ⟨e, R, F, s, p⟩ := hh
  refine ⟨e, R, F, s, ?_⟩
  replace p : PostV c σ R H F Q (toV (d e)) := p
  cases hd : d e with
  | no => rw [hd] at p; exact p
  | er C fs e1 => rw [hd] at p; exact p
  | ok r e1 w =>
    rw [hd] at p
    cases r with
    | v x =>
      intro R' H' F' G v s' rv nd rf ex hw
      obtain ⟨rfl, rv⟩ := rv
      exact p R' H' F' v s' rv (by simpa using ex) (fun z => (hw z).1)
    | b ds =>
      intro R' H' F' G v s' rv nd rf ex hw
      obtain ⟨rfl, q, vs, h1, h2, h3⟩ := rv
      exact p R' H' F' v s' ⟨q, vs, ds, h1, rfl, h2, h3⟩ (by simpa using ex) (fun z => (hw z).1)
    | t t =>
      intro R' H' F' G v s' rv nd rf ex hw
      have p' : PostV c σ R H F Q (match t.data with | some x => .ok x false e1 w | none => .no) := p
      cases e2 : t.data with
      | none => rw [e2] at p'; exact p'.elim
      | some x =>
        rw [e2] at p'
        exact p' (join R' H' G) H' F' v (s'.join nd rf) (rp_frz (join_same rf) t v G x (fun a ha o h => by rw [join_in ha]; exact h) rv e2) (ex.join rf) (fun z => (hw z).1.join rf (hw z).2)
    | p i q =>
      intro R' H' F' G v s' rv nd rf ex hw
      obtain ⟨rfl, u, hu, hv⟩ := rv
      have p' : PostV c σ R H F Q (match getE e1 i q with | some t => (match rdT t with | some (x, b) => .ok x b e1 w | none => .no) | none => .no) := p
      cases e2 : getE e1 i q with
      | none => rw [e2] at p'; exact p'.elim
      | some t =>
        obtain ⟨G, g1, g2⟩ := rps_wk s' e2 hu hv
        cases e3 : rdT t with
        | none => simp only [e2, e3] at p'; exact p'.elim
        | some xb =>
          obtain ⟨x, b⟩ := xb
          simp only [e2, e3] at p'
          exact p' R' H' F' v s' (rdT_ok g1 e3) (by simpa using ex) (fun z => (hw z).1)
theorem pe_toV {X : Cx} {c : Ctx} {ex : Expr} {d : Env → Res} (h : PE X ex (tD c d)) : PE X ex (tV c (vD d)) := PE.imp h fun σ H Q h => toV_ok h
theorem pe_ofV {X : Cx} {c : Ctx} {ex : Expr} {d : Env → RV} (h : PE X ex (tV c d)) : PE X ex (tD c (dV d)) := by
  refine PE.imp h fun σ H Q ⟨e, R, F, s, p⟩ => ⟨e, R, F, s, ?_⟩
  replace p : PostE c σ R H F Q (ofV (d e)) := p
  cases hd : d e with
  | no => rw [hd] at p; exact p
  | er C fs e1 => rw [hd] at p; exact p
  | ok x b e1 w =>
    rw [hd] at p
    intro R' H' F' v s' sd ex hw
    cases b with
    | false => exact p R' H' F' [] v s' ⟨rfl, sd⟩ (by simpa using s'.nd) (by simp) (by simpa using ex) (fun z => ⟨hw z, by simp⟩)
    | true =>
      obtain ⟨q, vs, ds, h1, rfl, h2, h3⟩ := sd
      exact p R' H' F' [] v s' ⟨rfl, q, vs, h1, h2, h3⟩ (by simpa using s'.nd) (by simp) (by simpa using ex) (fun z => ⟨hw z, by simp⟩)
end Dn
namespace Dn
open PySem PySem.Spec PyProof.Rows L2
/-! ## data operands by their values -/
section
variable {K : PySem.W.Frag} {R H R' H' : Hp} {v : V} {x : PyData} {b : Bool}
theorem Sd.up (h : Sd K R H v x b) (r : Same R R') (s : b = true → Same H H') : Sd K R' H' v x b := by
  cases b with
  | false => exact dp_up r _ _ h
  | true =>
    obtain ⟨p, vs, ds, h1, h2, h3, h4⟩ := h
    exact ⟨p, vs, ds, h1, h2, s rfl _ _ h3, dpa_up r _ _ h4⟩
/-- as it is read in the whole heap -/
theorem Sd.dp (h : Sd K R H v x b) (rh : Same R H) : Dp K H v x := by
  cases b with
  | false => exact dp_up rh _ _ h
  | true =>
    obtain ⟨p, vs, ds, rfl, rfl, h3, h4⟩ := h
    exact .lst (.of h3) (dpa_up rh _ _ h4)
theorem sd_int {i : Int} (h : Sd K R H v (.int i) b) : v = .int i := by
  cases b with
  | false => cases h; rfl
  | true => obtain ⟨_, _, _, _, h, _⟩ := h; cases h
theorem sd_str {i : Str} (h : Sd K R H v (.str i) b) : v = .str i := by
  cases b with
  | false => cases h; rfl
  | true => obtain ⟨_, _, _, _, h, _⟩ := h; cases h
theorem sd_bool {i : Bool} (h : Sd K R H v (.bool i) b) : v = .bl i := by
  cases b with
  | false => cases h; rfl
  | true => obtain ⟨_, _, _, _, h, _⟩ := h; cases h
theorem sd_none (h : Sd K R H v .none b) : v = .non := by
  cases b with
  | false => cases h; rfl
  | true => obtain ⟨_, _, _, _, h, _⟩ := h; cases h
theorem sd_list {ds : List PyData} (h : Sd K R H v (.list ds) b) (rh : Same R H) : ∃ p vs, v = .ref p ∧ SqL K H p vs ∧ DpAll K R vs ds := by
  cases b with
  | false => cases h with
    | lst hs ha => exact ⟨_, _, rfl, rh.seq hs, ha⟩
  | true =>
    obtain ⟨p, vs, ds', h1, h2, h3, h4⟩ := h
    cases h2
    exact ⟨p, vs, h1, .of h3, h4⟩
theorem sqt_up {a : Addr} {xs : List V} (e : Same R H) (h : SqT K R a xs) : SqT K H a xs := by
  rcases h with (h | ⟨o, h⟩) | h
  · exact .inl (.inl (e _ _ h))
  · exact .inl (.inr ⟨o, e _ _ h⟩)
  · exact .inr h
theorem sd_tup {ds : List PyData} (h : Sd K R H v (.tuple ds) b) (rh : Same R H) : ∃ p vs, v = .ref p ∧ SqT K H p vs ∧ SqT K R p vs ∧ DpAll K R vs ds := by
  cases b with
  | false => cases h with
    | tup hs ha => exact ⟨_, _, rfl, sqt_up rh hs, hs, ha⟩
  | true => obtain ⟨_, _, _, _, h, _⟩ := h; cases h
theorem sd_dict {kvs} (h : Sd K R H v (.dict kvs) b) : False := by
  cases b with
  | false => cases h
  | true => obtain ⟨_, _, _, _, h, _⟩ := h; cases h
/-- None or not -/
def isNone : PyData → Bool
  | .none => true
  | _ => false
theorem sd_isNone (h : Sd K R H v x b) : decide (v = .non) = isNone x := by
  cases b with
  | false => cases h <;> rfl
  | true => obtain ⟨p, _, ds, rfl, rfl, _⟩ := h; rfl
end
theorem same_new {H : Hp} {p : Addr} {o : HO} (h : H p = none) : Same H (upd H p o) := fun b x e => by
  rw [upd_ne (ne_of_none e h)]; exact e
/-- a new object that is data from now on -/
theorem Gr.new {R H : Hp} {p : Addr} {o : HO} (rh : Same R H) (h : H p = none) : Gr R H (upd R p o) (upd H p o) where
  hh := same_new h
  rr := same_new (rh.free h)
  rh := fun a x e => by
    by_cases z : a = p
    · subst z; rw [upd_same] at e ⊢; exact e
    · rw [upd_ne z] at e ⊢; exact rh a x e
  rn := fun a q => by
    by_cases z : a = p
    · subst z; exact .inr h
    · rw [upd_ne z] at q; exact .inl q
theorem Gr.ex {R H R' H' : Hp} {F : List Addr} (g : Gr R H R' H') : Ex R H F R' H' F := Ex.grow g.hh g.rr g.rn
theorem Gr.sr {c : Ctx} {R H R' H' : Hp} {e : Env} {σ : L2.St} {F : List Addr} (g : Gr R H R' H') (s : Sr c R H e σ F) : Sr c R' H' e σ F := s.grow g.hh g.rr g.rh g.rn
/-! ## operations on data -/
def Sc1 (K : PySem.W.Frag) (r : V → Hp → VK → Prop) (f : PyData → Option PyData) : Prop := ∀ R H v x b z (Q : VK), Same R H → Sd K R H v x b → f x = some z →
  (∀ R' H' u, Gr R H R' H' → Dp K R' u z → Q u H') → r v H Q
def Sc2 (K : PySem.W.Frag) (r : R2) (f : PyData → PyData → Option PyData) : Prop := ∀ R H v1 v2 x y b b' z (Q : VK), Same R H → Sd K R H v1 x b → Sd K R H v2 y b' → f x y = some z →
  (∀ R' H' u, Gr R H R' H' → Dp K R' u z → Q u H') → r v1 v2 H Q
/-- .. that make a new list, which nothing else holds -/
def Sl1 (K : PySem.W.Frag) (r : V → Hp → VK → Prop) (f : PyData → Option (List PyData)) : Prop := ∀ R H v x b z (Q : VK), Same R H → Sd K R H v x b → f x = some z →
  (∀ p vs, H p = none → DpAll K R vs z → Q (.ref p) (upd H p (.lst vs))) → r v H Q
def Sl2 (K : PySem.W.Frag) (r : R2) (f : PyData → PyData → Option (List PyData)) : Prop := ∀ R H v1 v2 x y b b' z (Q : VK), Same R H → Sd K R H v1 x b → Sd K R H v2 y b' → f x y = some z →
  (∀ p vs, H p = none → DpAll K R vs z → Q (.ref p) (upd H p (.lst vs))) → r v1 v2 H Q
def v1 (f : PyData → Option PyData) (d : Env → RV) : Env → RV := fun e => match d e with
  | .ok x _ e1 w => match f x with
    | some z => .ok z false e1 w
    | none => .no
  | .er C fs e1 => .er C fs e1
  | .no => .no
def v2 (f : PyData → PyData → Option PyData) (d1 d2 : Env → RV) : Env → RV := fun e => match d1 e with
  | .ok x b e1 w1 => match d2 e1 with
    | .ok y _ e2 w2 => if b && w2 then .no else match f x y with
      | some z => .ok z false e2 (w1 || w2)
      | none => .no
    | .er C fs e2 => .er C fs e2
    | .no => .no
  | .er C fs e1 => .er C fs e1
  | .no => .no
def d1L (f : PyData → Option (List PyData)) (d : Env → RV) : Env → Res := fun e => match d e with
  | .ok x _ e1 w => match f x with
    | some z => .ok (.t (.l (z.map T.d))) e1 w
    | none => .no
  | .er C fs e1 => .er C fs e1
  | .no => .no
def d2L (f : PyData → PyData → Option (List PyData)) (d1 d2 : Env → RV) : Env → Res := fun e => match d1 e with
  | .ok x b e1 w1 => match d2 e1 with
    | .ok y _ e2 w2 => if b && w2 then .no else match f x y with
      | some z => .ok (.t (.l (z.map T.d))) e2 (w1 || w2)
      | none => .no
    | .er C fs e2 => .er C fs e2
    | .no => .no
  | .er C fs e1 => .er C fs e1
  | .no => .no
theorem or_ff {a b : Bool} (h : (a || b) = false) : a = false ∧ b = false := by cases a <;> cases b <;> simp at h <;> exact ⟨rfl, rfl⟩
section
variable {c : Ctx} {d d1 d2 : Env → RV} {σ : L2.St} {H : Hp} {Q : VK}
theorem v1_ok {r : V → Hp → VK → Prop} {f : PyData → Option PyData} (hs : Sc1 c.K r f) (h : tV c (v1 f d) σ H Q) : tV c d σ H fun x H1 => r x H1 Q := by
  obtain ⟨e, R, F, s, p⟩ := h
  refine ⟨e, R, F, s, ?_⟩
  unfold v1 at p
  cases h1 : d e with
  | no => simp only [h1] at p; exact p
  | er C fs e1 => simp only [h1] at p; exact p
  | ok x b e1 w =>
    simp only [h1] at p
    intro R1 H1 F1 u s1 sd ex hw
    cases h2 : f x with
    | none => simp only [h2] at p; exact p.elim
    | some z =>
      simp only [h2] at p
      exact hs R1 H1 u x b z Q s1.rh sd h2 fun R2 H2 u2 g dp => p R2 H2 F1 u2 (g.sr s1) dp (ex.trans g.ex) (fun q => (hw q).trans g)
theorem v2_ok {r : R2} {f : PyData → PyData → Option PyData} (hs : Sc2 c.K r f) (h : tV c (v2 f d1 d2) σ H Q) : tV c d1 σ H fun x H1 => tV c d2 σ H1 fun y H2 => r x y H2 Q := by
  obtain ⟨e, R, F, s, p⟩ := h
  refine ⟨e, R, F, s, ?_⟩
  unfold v2 at p
  cases h1 : d1 e with
  | no => simp only [h1] at p; exact p
  | er C fs e1 => simp only [h1] at p; exact p
  | ok x b e1 w1 =>
    intro R1 H1 F1 u s1 sd ex hw
    refine ⟨e1, R1, F1, s1, ?_⟩
    cases h2 : d2 e1 with
    | no => simp only [h1, h2] at p; exact p.elim
    | er C fs e2 =>
      simp only [h1, h2] at p
      exact fun R2 H2 F2 dd s2 rx ex2 => p R2 H2 F2 dd s2 rx (ex.trans ex2)
    | ok y b' e2 w2 =>
      simp only [h1, h2] at p
      intro R2 H2 F2 u2 s2 sd2 ex2 hw2
      by_cases hb : (b && w2) = true
      · rw [if_pos hb] at p; exact p.elim
      · rw [if_neg hb] at p
        have bw : b = true → w2 = false := fun z => by
          cases w2 with
          | false => rfl
          | true => rw [z] at hb; exact absurd rfl hb
        cases h3 : f x y with
        | none => simp only [h3] at p; exact p.elim
        | some z =>
          simp only [h3] at p
          refine hs R2 H2 u u2 x y b b' z Q s2.rh (sd.up ex2.rr fun q => (hw2 (bw q)).hh) sd2 h3 fun R3 H3 u3 g dp => ?_
          exact p R3 H3 F2 u3 (g.sr s2) dp ((ex.trans ex2).trans g.ex) (fun q => ((hw (or_ff q).1).trans (hw2 (or_ff q).2)).trans g)
theorem new_own {R H : Hp} {e : Env} {σ : L2.St} {F : List Addr} {p : Addr} {o : HO} (s : Sr c R H e σ F) (hp : H p = none) : Sr c R (upd H p o) e σ F ∧ (F ++ [p]).Nodup ∧ (∀ a ∈ [p], R a = none) ∧ Ex R H F R (upd H p o) (F ++ [p]) ∧ Gr R H R (upd H p o) := by
  have np : p ∉ F := fun z => rps_dom _ _ _ s.sl p z hp
  refine ⟨s.grow (same_new hp) (Same.refl _) (s.rh.trans (same_new hp)) (fun _ h => .inl h), ?_, ?_, ⟨Same.refl _, fun a x h _ => same_new hp a x h, fun _ h => .inl h, ?_⟩, same_new hp, Same.refl _, s.rh.trans (same_new hp), fun _ h => .inl h⟩
  · exact List.nodup_append.mpr ⟨s.nd, by simp, fun a ha b hb z => by simp at hb; subst hb; subst z; exact np ha⟩
  · intro a ha
    simp at ha
    subst ha
    exact s.rh.free hp
  · intro a ha
    rcases List.mem_append.mp ha with ha | ha
    · exact .inl ha
    · simp at ha; subst ha; exact .inr hp
theorem d1L_ok {r : V → Hp → VK → Prop} {f : PyData → Option (List PyData)} (hs : Sl1 c.K r f) (h : tD c (d1L f d) σ H Q) : tV c d σ H fun x H1 => r x H1 Q := by
  obtain ⟨e, R, F, s, p⟩ := h
  refine ⟨e, R, F, s, ?_⟩
  unfold d1L at p
  cases h1 : d e with
  | no => simp only [h1] at p; exact p
  | er C fs e1 => simp only [h1] at p; exact p
  | ok x b e1 w =>
    simp only [h1] at p
    intro R1 H1 F1 u s1 sd ex hw
    cases h2 : f x with
    | none => simp only [h2] at p; exact p.elim
    | some z =>
      simp only [h2] at p
      refine hs R1 H1 u x b z Q s1.rh sd h2 fun q vs hq dp => ?_
      obtain ⟨n1, n2, n3, n4, n5⟩ := new_own (o := .lst vs) s1 hq
      exact p R1 _ F1 [q] _ n1 ⟨q, vs, [], rfl, .refl _, upd_same, rpl_d dp⟩ n2 n3 (ex.trans n4) (fun z => ⟨(hw z).trans n5, fun a ha => by simp at ha; subst ha; exact (hw z).hh.free hq⟩)
theorem d2L_ok {r : R2} {f : PyData → PyData → Option (List PyData)} (hs : Sl2 c.K r f) (h : tD c (d2L f d1 d2) σ H Q) : tV c d1 σ H fun x H1 => tV c d2 σ H1 fun y H2 => r x y H2 Q := by
  obtain ⟨e, R, F, s, p⟩ := h
  refine ⟨e, R, F, s, ?_⟩
  unfold d2L at p
  cases h1 : d1 e with
  | no => simp only [h1] at p; exact p
  | er C fs e1 => simp only [h1] at p; exact p
  | ok x b e1 w1 =>
    intro R1 H1 F1 u s1 sd ex hw
    refine ⟨e1, R1, F1, s1, ?_⟩
    cases h2 : d2 e1 with
    | no => simp only [h1, h2] at p; exact p.elim
    | er C fs e2 =>
      simp only [h1, h2] at p
      exact fun R2 H2 F2 dd s2 rx ex2 => p R2 H2 F2 dd s2 rx (ex.trans ex2)
    | ok y b' e2 w2 =>
      simp only [h1, h2] at p
      intro R2 H2 F2 u2 s2 sd2 ex2 hw2
      by_cases hb : (b && w2) = true
      · rw [if_pos hb] at p; exact p.elim
      · rw [if_neg hb] at p
        have bw : b = true → w2 = false := fun z => by
          cases w2 with
          | false => rfl
          | true => rw [z] at hb; exact absurd rfl hb
        cases h3 : f x y with
        | none => simp only [h3] at p; exact p.elim
        | some z =>
          simp only [h3] at p
          refine hs R2 H2 u u2 x y b b' z Q s2.rh (sd.up ex2.rr fun q => (hw2 (bw q)).hh) sd2 h3 fun q vs hq dp => ?_
          obtain ⟨n1, n2, n3, n4, n5⟩ := new_own (o := .lst vs) s2 hq
          exact p R2 _ F2 [q] _ n1 ⟨q, vs, [], rfl, .refl _, upd_same, rpl_d dp⟩ n2 n3 ((ex.trans ex2).trans n4) (fun z => ⟨((hw (or_ff z).1).trans (hw2 (or_ff z).2)).trans n5, fun a ha => by simp at ha; subst ha; exact ((hw (or_ff z).1).trans (hw2 (or_ff z).2)).hh.free hq⟩)
end
end Dn
namespace Dn
open PySem PySem.Spec PyProof.Rows L2
/-! ## constants, names -/
def vC (x : PyData) : Env → RV := fun e => .ok x false e false
def vVar (i : Nat) : Env → RV := fun e => match e[i]? with
  | some (some t) => match rdT t with
    | some (x, b) => .ok x b e false
    | none => .no
  | _ => .no
def dVar (i : Nat) : Env → Res := fun e => match e[i]? with
  | some (some _) => .ok (.p i []) e false
  | _ => .no
section
variable {X : Cx} {c : Ctx} {d d1 d2 d3 : Env → RV} {a b e1 e2 ex : Expr} {pos p1 p2 : Pos} {k j : Nat}
theorem tC_ok {x : PyData} {v : V} (h : ∀ R : Hp, Dp c.K R v x) : ∀ σ H Q, tV c (vC x) σ H Q → tC v σ H Q := fun σ H Q ⟨e, R, F, s, p⟩ => p R H F v s (h R) .refl (fun _ => .refl s.rh)
theorem ve_int {i : Int} : PE X (.Constant (.int i) k pos) (tV c (vC (.int i))) := PE.imp pe_int (tC_ok fun _ => .int i)
theorem ve_bl {i : Bool} : PE X (.Constant (.bool i) k pos) (tV c (vC (.bool i))) := PE.imp pe_bl (tC_ok fun _ => .bl i)
theorem ve_non : PE X (.Constant .none k pos) (tV c (vC .none)) := PE.imp pe_non (tC_ok fun _ => .non)
theorem ve_str {i : Str} : PE X (.Constant (.str i) k pos) (tV c (vC (.str i))) := PE.imp pe_str (tC_ok fun _ => .str i)
theorem ve_globI {x : Str} {n : Int} (hg : Gl X x) (hm : ∃ t, X.mg x = some (.int n t)) (hd : (x == ("__debug__" : Str)) = false := by decide) : PE X (.Name x pos) (tV c (vC (.int n))) := by
  obtain ⟨t, h⟩ := hm
  exact PE.imp (pe_glob (v := .int n) hg h ⟨t, rfl⟩ hd) (tC_ok fun _ => .int n)
theorem ve_globS {x : Str} {n : Str} (hg : Gl X x) (hm : ∃ t, X.mg x = some (.str n t)) (hd : (x == ("__debug__" : Str)) = false := by decide) : PE X (.Name x pos) (tV c (vC (.str n))) := by
  obtain ⟨t, h⟩ := hm
  exact PE.imp (pe_glob (v := .str n) hg h ⟨t, rfl⟩ hd) (tC_ok fun _ => .str n)
theorem ve_globT {x : Str} {A : Addr} {vs : List V} {ds : List PyData} (hg : Gl X x) (h : X.mg x = some (.ref A)) (hs : ∀ H : Hp, SqT c.K H A vs) (hv : ∀ H : Hp, DpAll c.K H vs ds) (hd : (x == ("__debug__" : Str)) = false := by decide) : PE X (.Name x pos) (tV c (vC (.tuple ds))) :=
  PE.imp (pe_glob (v := .ref A) hg h rfl hd) (tC_ok fun R => .tup (hs R) (hv R))
theorem de_var (i : Nat) {x : Str} (hN : X.N[i]? = some x := by rfl) (hv : Vis X.env.scope x := by first | exact Or.inl rfl | exact Or.inr (Or.inl rfl) | exact Or.inr (Or.inr rfl)) (hd : (x == ("__debug__" : Str)) = false := by decide)
    (hcd : (x == ("__classdict__" : Str)) = false := by decide) : PE X (.Name x pos) (tD c (dVar i)) := by
  refine PE.imp (pe_var hN hv hd hcd) fun σ H Q ⟨e, R, F, s, p⟩ => ?_
  replace p : PostE c σ R H F Q (match e[i]? with | some (some _) => .ok (.p i []) e false | _ => .no) := p
  cases h : e[i]? with
  | none => simp only [h] at p; exact p.elim
  | some o =>
    cases o with
    | none => simp only [h] at p; exact p.elim
    | some t =>
      simp only [h] at p
      obtain ⟨v, F1, F2, h1, _⟩ := rps_take s.sl h
      exact ⟨v, h1, p R H F [] v s ⟨rfl, v, h1, rfl⟩ (by simpa using s.nd) (by simp) (by simpa using Ex.refl) (fun _ => ⟨.refl s.rh, by simp⟩)⟩
theorem vVar_eq (i : Nat) : vD (dVar i) = vVar i := by
  funext e
  unfold vD dVar vVar
  cases h : e[i]? with
  | none => rfl
  | some o =>
    cases o with
    | none => rfl
    | some t =>
      show toV (.ok (.p i []) e false) = _
      simp only [toV, getE, h]
      have : getT t [] = some t := by cases t <;> rfl
      rw [this]
      try rfl
theorem ve_var (i : Nat) {x : Str} (hN : X.N[i]? = some x := by rfl) (hv : Vis X.env.scope x := by first | exact Or.inl rfl | exact Or.inr (Or.inl rfl) | exact Or.inr (Or.inr rfl)) (hd : (x == ("__debug__" : Str)) = false := by decide)
    (hcd : (x == ("__classdict__" : Str)) = false := by decide) : PE X (.Name x pos) (tV c (vVar i)) := by
  rw [← vVar_eq]
  exact pe_toV (de_var i hN hv hd hcd)
/-! ## operators in general -/
theorem ve_bin {op : Operator} {r : R2} {f : PyData → PyData → Option PyData} (ho : OpR X (binaryOp op) r) (hs : Sc2 c.K r f) (ha : PE X a (tV c d1)) (hb : PE X b (tV c d2)) : PE X (.BinOp a op b pos) (tV c (v2 f d1 d2)) := PE.imp (pe_op ho ha hb) fun _ _ _ h => v2_ok hs h
theorem de_bin {op : Operator} {r : R2} {f : PyData → PyData → Option (List PyData)} (ho : OpR X (binaryOp op) r) (hs : Sl2 c.K r f) (ha : PE X a (tV c d1)) (hb : PE X b (tV c d2)) : PE X (.BinOp a op b pos) (tD c (d2L f d1 d2)) := PE.imp (pe_op ho ha hb) fun _ _ _ h => d2L_ok hs h
theorem ve_cmp {op : CmpOp} {r : R2} {f : PyData → PyData → Option PyData} (ho : OpR X (compareOp op) r) (hs : Sc2 c.K r f) (ha : PE X a (tV c d1)) (hb : PE X b (tV c d2)) (hm : behindInMarks op b = false) : PE X (.Compare a [op] [b] pos) (tV c (v2 f d1 d2)) := PE.imp (pe_cmpR ho ha hb hm) fun _ _ _ h => v2_ok hs h
theorem te_cmp {op : CmpOp} {r : R2} {f : PyData → PyData → Option PyData} (ho : OpR X (compareOp op) r) (hs : Sc2 c.K r f) (ha : PE X a (tV c d1)) (hb : PE X b (tV c d2)) (hm : behindInMarks op b = false) : PT X (.Compare a [op] [b] pos) (tTest (tV c (v2 f d1 d2))) := PT.imp (pt_cmpR ho ha hb hm) fun _ _ _ h => v2_ok hs h
theorem ve_ix {r : R2} {f : PyData → PyData → Option PyData} (ho : IxR X r) (hs : Sc2 c.K r f) (ha : PE X a (tV c d1)) (hb : PE X b (tV c d2)) (hp : PlainIx b) : PE X (.Subscript a b pos) (tV c (v2 f d1 d2)) := PE.imp (pe_ix ho ha hb hp) fun _ _ _ h => v2_ok hs h
theorem ve_un {op : UnaryOp} {r : V → Hp → VK → Prop} {f : PyData → Option PyData} (ho : UnR X (unaryOp op) r) (hs : Sc1 c.K r f) (ha : PE X a (tV c d)) : PE X (.UnaryOp op a pos) (tV c (v1 f d)) := PE.imp (pe_un ho ha) fun _ _ _ h => v1_ok hs h
section
variable {x : Str} {p : Pos} {id T : String} {r : List V → Hp → VK → Prop}
theorem ve_b1 {f : PyData → Option PyData} (hc : CallR X (.builtin id) r) (hs : Sc1 c.K (fun v => r [v]) f) (hg : Gl X x) (hm : X.mg x = none) (hv : bootBuiltins x = some (.builtin id)) (ha : PA X [a] (tCons (tV c d) tNil)) (hn : x ≠ "__name__" := by decide) (hdb : (x == ("__debug__" : Str)) = false := by decide)
    (he : starEach [a] X.env = (false, eval a X.env) :: starEach [] X.env := by rfl) (hpl : (backTo pos (starEach [] X.env)).any (·.1) = false := by rfl) : PE X (.Call (.Name x p) [a] [] pos) (tV c (v1 f d)) :=
  PE.imp (pe_callB hc hg hm hv ha hn hdb he hpl) fun _ _ _ h => v1_ok hs h
theorem ve_t1 {f : PyData → Option PyData} (hc : CallR X (.type T) r) (hs : Sc1 c.K (fun v => r [v]) f) (hg : Gl X x) (hm : X.mg x = none) (hv : bootBuiltins x = some (.type T)) (ha : PA X [a] (tCons (tV c d) tNil)) (hn : x ≠ "__name__" := by decide) (hdb : (x == ("__debug__" : Str)) = false := by decide)
    (he : starEach [a] X.env = (false, eval a X.env) :: starEach [] X.env := by rfl) (hpl : (backTo pos (starEach [] X.env)).any (·.1) = false := by rfl) : PE X (.Call (.Name x p) [a] [] pos) (tV c (v1 f d)) :=
  PE.imp (pe_callTy hc hg hm hv ha hn hdb he hpl) fun _ _ _ h => v1_ok hs h
theorem de_t1 {f : PyData → Option (List PyData)} (hc : CallR X (.type T) r) (hs : Sl1 c.K (fun v => r [v]) f) (hg : Gl X x) (hm : X.mg x = none) (hv : bootBuiltins x = some (.type T)) (ha : PA X [a] (tCons (tV c d) tNil)) (hn : x ≠ "__name__" := by decide) (hdb : (x == ("__debug__" : Str)) = false := by decide)
    (he : starEach [a] X.env = (false, eval a X.env) :: starEach [] X.env := by rfl) (hpl : (backTo pos (starEach [] X.env)).any (·.1) = false := by rfl) : PE X (.Call (.Name x p) [a] [] pos) (tD c (d1L f d)) :=
  PE.imp (pe_callTy hc hg hm hv ha hn hdb he hpl) fun _ _ _ h => d1L_ok hs h
theorem de_b1 {f : PyData → Option (List PyData)} (hc : CallR X (.builtin id) r) (hs : Sl1 c.K (fun v => r [v]) f) (hg : Gl X x) (hm : X.mg x = none) (hv : bootBuiltins x = some (.builtin id)) (ha : PA X [a] (tCons (tV c d) tNil)) (hn : x ≠ "__name__" := by decide) (hdb : (x == ("__debug__" : Str)) = false := by decide)
    (he : starEach [a] X.env = (false, eval a X.env) :: starEach [] X.env := by rfl) (hpl : (backTo pos (starEach [] X.env)).any (·.1) = false := by rfl) : PE X (.Call (.Name x p) [a] [] pos) (tD c (d1L f d)) :=
  PE.imp (pe_callB hc hg hm hv ha hn hdb he hpl) fun _ _ _ h => d1L_ok hs h
theorem ve_b2 {f : PyData → PyData → Option PyData} (hc : CallR X (.builtin id) r) (hs : Sc2 c.K (fun v u => r [v, u]) f) (hg : Gl X x) (hm : X.mg x = none) (hv : bootBuiltins x = some (.builtin id)) (ha : PA X [a, b] (tCons (tV c d1) (tCons (tV c d2) tNil))) (hn : x ≠ "__name__" := by decide) (hdb : (x == ("__debug__" : Str)) = false := by decide)
    (he : starEach [a, b] X.env = (false, eval a X.env) :: starEach [b] X.env := by rfl) (hpl : (backTo pos (starEach [b] X.env)).any (·.1) = false := by rfl) : PE X (.Call (.Name x p) [a, b] [] pos) (tV c (v2 f d1 d2)) :=
  PE.imp (pe_callB hc hg hm hv ha hn hdb he hpl) fun _ _ _ h => v2_ok hs h
end
end
/-! ## the operators -/
theorem opr_or {X : Cx} {f : Value → Value → Sem Value} {r r' : R2} (h : OpR X f r) (h' : OpR X f r') : OpR X f (fun x y H Q => r x y H Q ∨ r' x y H Q) := fun pins s σ H x y v u Q I rx ry q => by
  rcases q with q | q
  · exact h pins s σ H x y v u Q I rx ry q
  · exact h' pins s σ H x y v u Q I rx ry q
theorem callr_or {X : Cx} {f : Value} {r r' : List V → Hp → VK → Prop} (h : CallR X f r) (h' : CallR X f r') : CallR X f (fun xs H Q => r xs H Q ∨ r' xs H Q) := fun pins s σ H xs us Q I rx q => by
  rcases q with q | q
  · exact h pins s σ H xs us Q I rx q
  · exact h' pins s σ H xs us Q I rx q
def SZ : Nat := 16777216
theorem sz_eq : SZ = sizeLine := by rw [sizeLine_eq]; rfl
/-- scalars: the heap stays -/
theorem sc_here {K : PySem.W.Frag} {R H : Hp} {Q : VK} {z : PyData} {u : V} (rh : Same R H) (k : ∀ R' H' u, Gr R H R' H' → Dp K R' u z → Q u H') (d : Dp K R u z) : Q u H := k R H u (.refl rh) d
def fAddI : PyData → PyData → Option PyData
  | .int i, .int j => some (.int (i + j))
  | .str a, .str b => if a.length + b.length ≤ SZ then some (.str (a ++ b)) else none
  | .tuple xs, .tuple ys => if xs.length + ys.length ≤ SZ then some (.tuple (xs ++ ys)) else none
  | _, _ => none
def rAddI (K : PySem.W.Frag) : R2 := fun x y H Q => rI0 (fun i j => .int (i + j)) x y H Q ∨ ((∃ i j, x = .str i ∧ y = .str j ∧ i.length + j.length ≤ sizeLine ∧ Q (.str (i ++ j)) H) ∨ rCatA K x y H Q)
theorem op_addI {X : Cx} : OpR X (binaryOp .Add) (rAddI X.K) := opr_or op_add (opr_or op_add_str op_catA)
theorem sc_add {K : PySem.W.Frag} : Sc2 K (rAddI K) fAddI := by
  intro R H v1 v2 x y b b' z Q rh s1 s2 e k
  unfold fAddI at e
  split at e
  · cases e
    exact .inl ⟨_, _, sd_int s1, sd_int s2, sc_here rh k (.int _)⟩
  · split at e
    · rename_i hl
      cases e
      exact .inr (.inl ⟨_, _, sd_str s1, sd_str s2, by rw [← sz_eq]; exact hl, sc_here rh k (.str _)⟩)
    · cases e
  · split at e
    · rename_i xs ys hl
      cases e
      obtain ⟨p, vs, rfl, q1, q1', a1⟩ := sd_tup s1 rh
      obtain ⟨q, us, rfl, q2, q2', a2⟩ := sd_tup s2 rh
      have l1 := dpa_len a1
      have l2 := dpa_len a2
      refine .inr (.inr ⟨p, q, vs, us, rfl, rfl, q1, q2, by rw [← sz_eq, l1, l2]; exact hl, fun h0 => ?_, fun h0 h1 => ?_, fun h0 h1 t ht => ?_⟩)
      · subst h0
        cases a1
        exact sc_here rh k (.tup q2' (by simpa using a2))
      · subst h1
        cases a2
        exact sc_here rh k (.tup q1' (by simpa using a1))
      · exact k _ _ _ (Gr.new rh ht) (.tup (.of upd_same) (dpa_up (same_new (rh.free ht)) _ _ (dpa_app a1 a2)))
    · cases e
  · cases e
/-- list + list -/
def fCat : PyData → PyData → Option (List PyData)
  | .list xs, .list ys => if xs.length + ys.length ≤ SZ then some (xs ++ ys) else none
  | _, _ => none
def rCatL (K : PySem.W.Frag) : R2 := fun x y H Q => ∃ a b xs ys, x = .ref a ∧ y = .ref b ∧ SqL K H a xs ∧ SqL K H b ys ∧ xs.length + ys.length ≤ sizeLine ∧ ∀ p, H p = none → Q (.ref p) (upd H p (.lst (xs ++ ys)))
theorem op_catL {X : Cx} : OpR X (binaryOp .Add) (rCatL X.K) := by
  intro pins s σ H x y v u Q I rx ry h
  obtain ⟨a, b, xs, ys, rfl, rfl, ha, hb, hz, q⟩ := h
  cases rx
  cases ry
  obtain ⟨its, r1, ⟨o1, n1, ho1, hc1, hd1, hda1⟩, _⟩ := I.list ha
  obtain ⟨its2, r2, ⟨o2, n2, ho2, hc2, hd2, hda2⟩, _⟩ := I.list hb
  obtain ⟨cls, dd, data, sl⟩ := o1
  obtain ⟨cls2, dd2, data2, sl2⟩ := o2
  simp only at hc1 hda1 hc2 hda2
  subst hc1 hda1 hc2 hda2
  have hz' : its.toArray.size + its2.toArray.size ≤ sizeLine := by rw [List.size_toArray, List.size_toArray, ← r1.length, ← r2.length]; exact hz
  have e : its.toArray ++ its2.toArray = (its ++ its2).toArray := by simp
  refine concat_meets ⟨_, ho1, rfl⟩ ⟨_, ho2, rfl⟩ noFill_list_add seq_list_add PySem.F.slot_list_add PySem.F.entry_list_add (PySem.F.args_list_add_2 _ _) (list_addW a b its.toArray its2.toArray n1 n2 dd dd2 sl sl2 hz') ⟨ho1, ho2, ?_⟩
  rw [e]
  refine ⟨.ref s.heap.objs.size, _, I.laid (t' := s.toks) (o := .lst (xs ++ ys)) (fun b ob q => Heap.get?_push_of_some _ q) (Nat.le_refl _) ?_, rfl, q _ (I.hok.fresh (Nat.le_refl _))⟩
  exact ⟨by rw [List.length_append]; exact hz, _, 0, r1.append r2, Heap.get?_push_size _ rfl⟩
theorem sl_cat {K : PySem.W.Frag} : Sl2 K (rCatL K) fCat := by
  intro R H v1 v2 x y b b' z Q rh s1 s2 e k
  unfold fCat at e
  split at e
  · split at e
    · rename_i hl
      cases e
      obtain ⟨p, vs, rfl, q1, a1⟩ := sd_list s1 rh
      obtain ⟨q, us, rfl, q2, a2⟩ := sd_list s2 rh
      exact ⟨p, q, vs, us, rfl, rfl, q1, q2, by rw [← sz_eq, dpa_len a1, dpa_len a2]; exact hl, fun t ht => k t _ ht (dpa_app a1 a2)⟩
    · cases e
  · cases e
def fI2 (C : Int → Int → Bool) (g : Int → Int → Int) : PyData → PyData → Option PyData
  | .int i, .int j => if C i j then some (.int (g i j)) else none
  | _, _ => none
theorem sc_I2 {K : PySem.W.Frag} {C : Int → Int → Prop} {C' : Int → Int → Bool} {g : Int → Int → Int} (h : ∀ i j, C' i j = true → C i j) : Sc2 K (rI C fun i j => .int (g i j)) (fI2 C' g) := by
  intro R H v1 v2 x y b b' z Q rh s1 s2 e k
  unfold fI2 at e
  split at e
  · split at e
    · rename_i hc
      cases e
      exact ⟨_, _, sd_int s1, sd_int s2, h _ _ hc, sc_here rh k (.int _)⟩
    · cases e
  · cases e
theorem sc_I20 {K : PySem.W.Frag} {g : Int → Int → Int} : Sc2 K (rI0 fun i j => .int (g i j)) (fI2 (fun _ _ => true) g) := by
  intro R H v1 v2 x y b b' z Q rh s1 s2 e k
  unfold fI2 at e
  split at e
  · cases e
    exact ⟨_, _, sd_int s1, sd_int s2, sc_here rh k (.int _)⟩
  · cases e
abbrev fSub := fI2 (fun _ _ => true) fun i j => i - j
abbrev fAnd := fI2 (fun _ _ => true) fun i j => Builtin.bitAnd i j
abbrev fXor := fI2 (fun _ _ => true) fun i j => Builtin.bitXor i j
abbrev fOr := fI2 (fun _ _ => true) fun i j => Builtin.bitOr i j
abbrev fMul := fI2 (fun i j => (decide (-18446744073709551616 < i) && decide (i < 18446744073709551616)) || (decide (-18446744073709551616 < j) && decide (j < 18446744073709551616))) fun i j => i * j
abbrev fDiv := fI2 (fun _ j => decide (0 < j) && decide (j < 1073741824)) fun i j => i / j
abbrev fMod := fI2 (fun _ j => decide (0 < j)) fun i j => i % j
abbrev fPow := fI2 (fun i j => decide (0 ≤ j) && decide (j ≤ 1000000) && decide (i.natAbs < 18446744073709551616)) fun i j => i ^ j.toNat
abbrev fShr := fI2 (fun _ j => decide (0 ≤ j)) fun i j => i / 2 ^ j.toNat
theorem c_mul {i j : Int} (h : ((decide (-18446744073709551616 < i) && decide (i < 18446744073709551616)) || (decide (-18446744073709551616 < j) && decide (j < 18446744073709551616))) = true) : CMul i j := by
  simp only [Bool.or_eq_true, Bool.and_eq_true, decide_eq_true_eq] at h
  unfold CMul
  simpa using h
theorem c_div {i j : Int} (h : (decide (0 < j) && decide (j < 1073741824)) = true) : CDiv i j := by
  simp only [Bool.and_eq_true, decide_eq_true_eq] at h
  exact h
theorem c_pow {i j : Int} (h : (decide (0 ≤ j) && decide (j ≤ 1000000) && decide (i.natAbs < 18446744073709551616)) = true) : CPow i j := by
  simp only [Bool.and_eq_true, decide_eq_true_eq] at h
  exact ⟨h.1.1, h.1.2, by simpa using h.2⟩
def fB2 (g : Int → Int → Bool) : PyData → PyData → Option PyData
  | .int i, .int j => some (.bool (g i j))
  | _, _ => none
theorem sc_B2 {K : PySem.W.Frag} {g : Int → Int → Bool} : Sc2 K (rI0 fun i j => .bl (g i j)) (fB2 g) := by
  intro R H v1 v2 x y b b' z Q rh s1 s2 e k
  unfold fB2 at e
  split at e
  · cases e
    exact ⟨_, _, sd_int s1, sd_int s2, sc_here rh k (.bl _)⟩
  · cases e
abbrev fLt := fB2 fun i j => decide (i < j)
abbrev fLe := fB2 fun i j => decide (i ≤ j)
abbrev fGt := fB2 fun i j => decide (j < i)
abbrev fGe := fB2 fun i j => decide (j ≤ i)
def fEq : PyData → PyData → Option PyData := fun x y => if SeqAt.shaped x && SeqAt.shaped y then some (.bool (PyData.eqv x y)) else none
def fNe : PyData → PyData → Option PyData := fun x y => if SeqAt.shaped x && SeqAt.shaped y then some (.bool (!PyData.eqv x y)) else none
theorem sc_eq {K : PySem.W.Frag} : Sc2 K (rEqD K) fEq := by
  intro R H v1 v2 x y b b' z Q rh s1 s2 e k
  unfold fEq at e
  split at e
  · rename_i h
    cases e
    rw [Bool.and_eq_true] at h
    exact ⟨x, y, s1.dp rh, s2.dp rh, h.1, h.2, sc_here rh k (.bl _)⟩
  · cases e
theorem sc_ne {K : PySem.W.Frag} : Sc2 K (rNeD K) fNe := by
  intro R H v1 v2 x y b b' z Q rh s1 s2 e k
  unfold fNe at e
  split at e
  · rename_i h
    cases e
    rw [Bool.and_eq_true] at h
    exact ⟨x, y, s1.dp rh, s2.dp rh, h.1, h.2, sc_here rh k (.bl _)⟩
  · cases e
def fIsN : PyData → PyData → Option PyData
  | x, .none => some (.bool (isNone x))
  | _, _ => none
def fNotN : PyData → PyData → Option PyData
  | x, .none => some (.bool (!isNone x))
  | _, _ => none
theorem sc_isN {K : PySem.W.Frag} : Sc2 K (fun x y H Q => y = .non ∧ Q (.bl (decide (x = .non))) H) fIsN := by
  intro R H v1 v2 x y b b' z Q rh s1 s2 e k
  unfold fIsN at e
  split at e
  · cases e
    refine ⟨sd_none s2, ?_⟩
    rw [sd_isNone s1]
    exact sc_here rh k (.bl _)
  · cases e
theorem sc_notN {K : PySem.W.Frag} : Sc2 K (fun x y H Q => y = .non ∧ Q (.bl (!decide (x = .non))) H) fNotN := by
  intro R H v1 v2 x y b b' z Q rh s1 s2 e k
  unfold fNotN at e
  split at e
  · cases e
    refine ⟨sd_none s2, ?_⟩
    rw [sd_isNone s1]
    exact sc_here rh k (.bl _)
  · cases e
/-! ### in -/
def flatD : PyData → Bool
  | .none => true | .bool _ => true | .int _ => true | .str _ => true
  | _ => false
theorem flat_dp {K : PySem.W.Frag} {R : Hp} {v : V} {x : PyData} (h : Dp K R v x) (f : flatD x = true) : flatV v = true := by
  cases h with
  | non => rfl
  | bl => rfl
  | int => rfl
  | str => rfl
  | lst => cases f
  | tup => cases f
def sv : PyData → V
  | .none => .non | .bool b => .bl b | .int i => .int i | .str s => .str s
  | _ => .non
theorem sv_dp {K : PySem.W.Frag} {R : Hp} {v : V} {x : PyData} (h : Dp K R v x) (f : flatD x = true) : v = sv x := by
  cases h with
  | non => rfl
  | bl => rfl
  | int => rfl
  | str => rfl
  | lst => cases f
  | tup => cases f
theorem sv_dpa {K : PySem.W.Frag} {R : Hp} : ∀ {vs : List V} {ds : List PyData}, DpAll K R vs ds → ds.all flatD = true → vs = ds.map sv ∧ vs.all flatV = true
  | _, [], h, _ => by cases h; exact ⟨rfl, rfl⟩
  | _, d :: ds, h, f => by
    cases h with
    | cons h1 h2 =>
      rw [List.all_cons, Bool.and_eq_true] at f
      obtain ⟨e1, e2⟩ := sv_dpa h2 f.2
      rw [e1, sv_dp h1 f.1]
      refine ⟨rfl, ?_⟩
      rw [List.all_cons, ← e1, e2, Bool.and_true, ← sv_dp h1 f.1]
      exact flat_dp h1 f.1
def inD (x : PyData) (ds : List PyData) : Bool := ds.any fun y => eqV (sv y) (sv x)
theorem inV_map (x : PyData) (ds : List PyData) : inV (sv x) (ds.map sv) = inD x ds := by
  unfold inV inD
  rw [List.any_map]
  rfl
def fIn (neg : Bool) : PyData → PyData → Option PyData
  | x, .list ds => if flatD x && ds.all flatD then some (.bool (neg ^^ inD x ds)) else none
  | x, .tuple ds => if flatD x && ds.all flatD then some (.bool (neg ^^ inD x ds)) else none
  | .str x, .str z => match x.cps.toList with
    | [n] => some (.bool (neg ^^ decide (n ∈ z.cps.toList)))
    | _ => none
  | _, _ => none
def rInA (K : PySem.W.Frag) (neg : Bool) : R2 := fun x y H Q => rIn K neg x y H Q ∨ (∃ (n : Nat) (z : Str), x = .str ⟨#[n]⟩ ∧ y = .str z ∧ Q (.bl (neg ^^ decide (n ∈ z.cps.toList))) H)
theorem op_inA {X : Cx} : OpR X (compareOp .In) (rInA X.K false) := fun pins s σ H x y v u Q I rx ry q => by
  rcases q with q | ⟨n, z, h1, h2, q⟩
  · exact op_in_seq pins s σ H x y v u Q I rx ry q
  · exact op_in_sign pins s σ H x y v u Q I rx ry ⟨n, z, h1, h2, by simpa using q⟩
theorem op_notInA {X : Cx} : OpR X (compareOp .NotIn) (rInA X.K true) := fun pins s σ H x y v u Q I rx ry q => by
  rcases q with q | ⟨n, z, h1, h2, q⟩
  · exact op_notIn_seq pins s σ H x y v u Q I rx ry q
  · exact op_notIn_sign pins s σ H x y v u Q I rx ry ⟨n, z, h1, h2, by simpa using q⟩
theorem sd_flat {K : PySem.W.Frag} {R H : Hp} {v : V} {x : PyData} {b : Bool} (h : Sd K R H v x b) (rh : Same R H) (f : flatD x = true) : v = sv x := sv_dp (h.dp rh) f
theorem sc_in {K : PySem.W.Frag} {neg : Bool} : Sc2 K (rInA K neg) (fIn neg) := by
  intro R H v1 v2 x y b b' z Q rh s1 s2 e k
  have fin : ∀ (p : Addr) (vs : List V) (ds : List PyData), v2 = .ref p → (SqL K H p vs ∨ SqT K H p vs) → DpAll K R vs ds → (flatD x && ds.all flatD) = true → z = .bool (neg ^^ inD x ds) → rInA K neg v1 v2 H Q := by
    intro p vs ds hv hq da hf hz
    rw [Bool.and_eq_true] at hf
    obtain ⟨e1, e2⟩ := sv_dpa da hf.2
    have e3 := sd_flat s1 rh hf.1
    refine .inl ⟨p, vs, hv, hq, by rw [e3]; exact flat_dp (sd_flat s1 rh hf.1 ▸ s1.dp rh) hf.1, e2, ?_⟩
    have e4 : (if neg = true then !inV v1 vs else inV v1 vs) = (neg ^^ inD x ds) := by
      rw [e3, e1, inV_map]
      cases neg <;> simp
    rw [e4]
    subst hz
    exact sc_here rh k (.bl _)
  unfold fIn at e
  split at e
  · split at e
    · rename_i hf
      cases e
      obtain ⟨p, vs, h1, h2, h3⟩ := sd_list s2 rh
      exact fin p vs _ h1 (.inl h2) h3 hf rfl
    · cases e
  · split at e
    · rename_i hf
      cases e
      obtain ⟨p, vs, h1, h2, _, h3⟩ := sd_tup s2 rh
      exact fin p vs _ h1 (.inr h2) h3 hf rfl
    · cases e
  · split at e
    · rename_i sx sz sl n hn
      cases e
      have hx : sx = ⟨#[n]⟩ := by
        cases sx with
        | mk cps => exact congrArg Str.mk (Array.ext' hn)
      refine .inr ⟨n, _, by rw [sd_str s1, hx], sd_str s2, sc_here rh k (.bl _)⟩
    · cases e
  · cases e
/-! ### len, items -/
def fLen : PyData → Option PyData
  | .list ds => some (.int ds.length)
  | .tuple ds => some (.int ds.length)
  | .str z => if z.length ≤ SZ then some (.int z.length) else none
  | _ => none
def rLenD (K : PySem.W.Frag) : List V → Hp → VK → Prop := fun xs H Q => (∃ p ys, xs = [.ref p] ∧ (SqL K H p ys ∨ SqT K H p ys) ∧ Q (.int ys.length) H) ∨ (∃ z, xs = [.str z] ∧ z.length ≤ sizeLine ∧ Q (.int z.length) H)
theorem call_lenA {X : Cx} : CallR X (.builtin "len") (rLenD X.K) := callr_or call_len_seq call_len_str
theorem sc_len {K : PySem.W.Frag} : Sc1 K (fun v => rLenD K [v]) fLen := by
  intro R H v x b z Q rh s e k
  unfold fLen at e
  split at e
  · cases e
    obtain ⟨p, vs, rfl, h2, h3⟩ := sd_list s rh
    refine .inl ⟨p, vs, rfl, .inl h2, ?_⟩
    rw [dpa_len h3]
    exact sc_here rh k (.int _)
  · cases e
    obtain ⟨p, vs, rfl, h2, _, h3⟩ := sd_tup s rh
    refine .inl ⟨p, vs, rfl, .inr h2, ?_⟩
    rw [dpa_len h3]
    exact sc_here rh k (.int _)
  · split at e
    · rename_i h
      cases e
      refine .inr ⟨_, by rw [sd_str s], by rw [← sz_eq]; exact h, sc_here rh k (.int _)⟩
    · cases e
  · cases e
def fIx : PyData → PyData → Option PyData
  | .list ds, .int i => atI ds i
  | .tuple ds, .int i => atI ds i
  | .str z, .int i => if z.length ≤ SZ then (atI z.cps.toList i).map fun n => .str ⟨#[n]⟩ else none
  | _, _ => none
def rIxD (K : PySem.W.Frag) : R2 := rIx K
theorem dpa_atI {K : PySem.W.Frag} {R : Hp} {vs : List V} {ds : List PyData} {i : Int} {x : PyData} (h : DpAll K R vs ds) (e : atI ds i = some x) : ∃ v, atI vs i = some v ∧ Dp K R v x := by
  unfold atI at e ⊢
  rw [dpa_len h]
  cases hi : ixN ds.length i with
  | none => rw [hi] at e; cases e
  | some j =>
    rw [hi] at e
    exact dpa_get h e
theorem sc_ix {K : PySem.W.Frag} : Sc2 K (rIx K) fIx := by
  intro R H v1 v2 x y b b' z Q rh s1 s2 e k
  unfold fIx at e
  split at e
  · obtain ⟨p, vs, rfl, h2, h3⟩ := sd_list s1 rh
    obtain ⟨u, e1, e2⟩ := dpa_atI h3 e
    exact .inl ⟨p, vs, _, u, rfl, sd_int s2, h2, e1, sc_here rh k e2⟩
  · obtain ⟨p, vs, rfl, h2, _, h3⟩ := sd_tup s1 rh
    obtain ⟨u, e1, e2⟩ := dpa_atI h3 e
    exact .inr (.inl ⟨p, vs, _, u, rfl, sd_int s2, h2, e1, sc_here rh k e2⟩)
  · split at e
    · rename_i zz i h
      cases e1 : atI zz.cps.toList i with
      | none => rw [e1] at e; cases e
      | some n =>
        rw [e1] at e
        cases e
        exact .inr (.inr ⟨_, _, n, sd_str s1, sd_int s2, by rw [← sz_eq]; exact h, e1, sc_here rh k (.str _)⟩)
    · cases e
  · cases e
end Dn
namespace Dn
open PySem PySem.Spec PyProof.Rows L2
/-! ## and, or, not, if: by a bool -/
def orw (w : Bool) : RV → RV
  | .ok x b e w2 => .ok x b e (w || w2)
  | .er C fs e => .er C fs e
  | .no => .no
def vBool (d : Env → RV) (k : Bool → Env → RV) : Env → RV := fun e => match d e with
  | .ok (.bool b) _ e1 w => orw w (k b e1)
  | .ok _ _ _ _ => .no
  | .er C fs e1 => .er C fs e1
  | .no => .no
def vAnd (d1 d2 : Env → RV) : Env → RV := vBool d1 fun b => match b with
  | true => d2
  | false => vC (.bool false)
def vOr (d1 d2 : Env → RV) : Env → RV := vBool d1 fun b => match b with
  | true => vC (.bool true)
  | false => d2
def vNot (d : Env → RV) : Env → RV := vBool d fun b => vC (.bool (!b))
def vIf (t d1 d2 : Env → RV) : Env → RV := vBool t fun b => match b with
  | true => d1
  | false => d2
/-- a bool, for sure -/
def vIsB (d : Env → RV) : Env → RV := vBool d fun b => vC (.bool b)
section
variable {c : Ctx} {d d1 d2 d3 : Env → RV} {σ : L2.St} {H : Hp} {Q : VK}
theorem postV_orw {R0 H0 R H : Hp} {F0 F : List Addr} {r : RV} {w : Bool} (x : Ex R0 H0 F0 R H F) (sm : w = false → Gr R0 H0 R H) (h : PostV c σ R0 H0 F0 Q (orw w r)) : PostV c σ R H F Q r := by
  cases r with
  | ok y b e w2 => exact fun R' H' F' v s sd ex hw => h R' H' F' v s sd (x.trans ex) (fun z => (sm (or_ff z).1).trans (hw (or_ff z).2))
  | er C fs e => exact fun R' H' F' dd s rx ex => h R' H' F' dd s rx (x.trans ex)
  | no => exact h
theorem vBool_ok {k : Bool → Env → RV} (h : tV c (vBool d k) σ H Q) : tV c d σ H fun v H1 => ∃ b, v = .bl b ∧ tV c (k b) σ H1 Q := by
  obtain ⟨e, R, F, s, p⟩ := h
  refine ⟨e, R, F, s, ?_⟩
  unfold vBool at p
  cases h1 : d e with
  | no => simp only [h1] at p; exact p
  | er C fs e1 => simp only [h1] at p; exact p
  | ok x b e1 w =>
    intro R1 H1 F1 u s1 sd ex hw
    cases x with
    | bool y =>
      simp only [h1] at p
      exact ⟨y, sd_bool sd, e1, R1, F1, s1, postV_orw ex hw p⟩
    | _ => simp only [h1] at p; exact p.elim
theorem vC_ok {x : PyData} {v : V} (h : ∀ R : Hp, Dp c.K R v x) (q : tV c (vC x) σ H Q) : Q v H := tC_ok h σ H Q q
end
section
variable {X : Cx} {c : Ctx} {d d1 d2 d3 : Env → RV} {a b a1 a2 a3 ex : Expr} {es : List Expr} {pos p1 p2 : Pos} {k j : Nat} {op : BoolOp}
abbrev tT (c : Ctx) (d : Env → RV) : TT := tTest (tV c d)
theorem te_val (h : PE X a (tV c d)) (he : ∀ whole, isTrue a X.env whole = (do let v ← whole; standAt a.pos; holding [v] (truthy v)) := by intro _; rfl) : PT X a (tT c d) := pt_val h he
theorem tw_and1 (h : PT X a (tT c d)) : PW X (.BoolOp .And [a] pos) (tT c d) := pw_and1 h
theorem tw_or1 (h : PT X a (tT c d)) : PW X (.BoolOp .Or [a] pos) (tT c d) := pw_or1 h
theorem tw_and (ha : PT X a (tT c d1)) (hb : PW X (.BoolOp .And (b :: es) pos) (tT c d2)) : PW X (.BoolOp .And (a :: b :: es) pos) (tT c (vAnd d1 d2)) := by
  refine PW.imp (pw_and ha hb) fun σ H Q h => ?_
  have q := vBool_ok h
  obtain ⟨e, R, F, s, p⟩ := q
  refine ⟨e, R, F, s, ?_⟩
  cases h1 : d1 e with
  | no => rw [h1] at p; exact p
  | er C fs e1 => rw [h1] at p; exact p
  | ok x b e1 w =>
    rw [h1] at p
    intro R1 H1 F1 u s1 sd ex hw
    obtain ⟨y, rfl, q⟩ := p R1 H1 F1 u s1 sd ex hw
    refine ⟨y, rfl, ?_⟩
    cases y with
    | true => exact q
    | false =>
      obtain ⟨k, e1, e2⟩ := vC_ok (v := .bl false) (fun _ => .bl _) q
      cases e1
      exact e2
theorem tw_or (ha : PT X a (tT c d1)) (hb : PW X (.BoolOp .Or (b :: es) pos) (tT c d2)) : PW X (.BoolOp .Or (a :: b :: es) pos) (tT c (vOr d1 d2)) := by
  refine PW.imp (pw_or ha hb) fun σ H Q h => ?_
  have q := vBool_ok h
  obtain ⟨e, R, F, s, p⟩ := q
  refine ⟨e, R, F, s, ?_⟩
  cases h1 : d1 e with
  | no => rw [h1] at p; exact p
  | er C fs e1 => rw [h1] at p; exact p
  | ok x b e1 w =>
    rw [h1] at p
    intro R1 H1 F1 u s1 sd ex hw
    obtain ⟨y, rfl, q⟩ := p R1 H1 F1 u s1 sd ex hw
    refine ⟨y, rfl, ?_⟩
    cases y with
    | false => exact q
    | true =>
      obtain ⟨k, e1, e2⟩ := vC_ok (v := .bl true) (fun _ => .bl _) q
      cases e1
      exact e2
/-- what stands behind a bool -/
theorem tV_mono {σ : L2.St} {H : Hp} {Q Q' : VK} (h : tV c d σ H Q) (q : ∀ v H, Q v H → Q' v H) : tV c d σ H Q' := by
  obtain ⟨e, R, F, s, p⟩ := h
  refine ⟨e, R, F, s, ?_⟩
  cases h1 : d e with
  | no => rw [h1] at p; exact p
  | er C fs e1 => rw [h1] at p; exact p
  | ok x b e1 w =>
    rw [h1] at p
    exact fun R1 H1 F1 u s1 sd ex hw => q _ _ (p R1 H1 F1 u s1 sd ex hw)
theorem te_not (h : PT X a (tT c d)) : PT X (.UnaryOp .Not a pos) (tT c (vNot d)) := by
  refine PT.imp (pt_not h) fun σ H Q h => ?_
  refine tV_mono (vBool_ok h) fun v H1 ⟨y, e, q⟩ => ⟨y, e, ?_⟩
  obtain ⟨k, e1, e2⟩ := vC_ok (v := .bl (!y)) (fun _ => .bl _) q
  cases e1
  exact e2
theorem ve_not (h : PE X a (tV c d)) : PE X (.UnaryOp .Not a pos) (tV c (vNot d)) := by
  refine PE.imp (pe_not h) fun σ H Q h => ?_
  exact tV_mono (vBool_ok h) fun v H1 ⟨y, e, q⟩ => ⟨y, e, vC_ok (v := .bl (!y)) (fun _ => .bl _) q⟩
theorem ve_one (h : PE X a (tV c d)) : PE X (.BoolOp op [a] pos) (tV c d) := pe_one h
theorem ve_and (ha : PE X a (tV c d1)) (hb : PE X (.BoolOp .And (b :: es) pos) (tV c d2)) : PE X (.BoolOp .And (a :: b :: es) pos) (tV c (vAnd d1 d2)) := by
  refine PE.imp (pe_and ha hb) fun σ H Q h => ?_
  refine tV_mono (vBool_ok h) fun v H1 ⟨y, e, q⟩ => ⟨y, e, ?_⟩
  cases y with
  | true => exact q
  | false => exact vC_ok (v := .bl false) (fun _ => .bl _) q
theorem ve_or (ha : PE X a (tV c d1)) (hb : PE X (.BoolOp .Or (b :: es) pos) (tV c d2)) : PE X (.BoolOp .Or (a :: b :: es) pos) (tV c (vOr d1 d2)) := by
  refine PE.imp (pe_or ha hb) fun σ H Q h => ?_
  refine tV_mono (vBool_ok h) fun v H1 ⟨y, e, q⟩ => ⟨y, e, ?_⟩
  cases y with
  | false => exact q
  | true => exact vC_ok (v := .bl true) (fun _ => .bl _) q
theorem ve_if (ht : PT X a (tT c d)) (h1 : PE X a1 (tV c d1)) (h2 : PE X a2 (tV c d2)) : PE X (.IfExp a a1 a2 pos) (tV c (vIf d d1 d2)) := by
  refine PE.imp (pe_ifExp ht h1 h2) fun σ H Q h => ?_
  refine tV_mono (vBool_ok h) fun v H1 ⟨y, e, q⟩ => ⟨y, e, ?_⟩
  cases y with
  | true => exact q
  | false => exact q
/-! ## a < b < c -/
end
def vCh (f f' : PyData → PyData → Option PyData) (d1 d2 d3 : Env → RV) : Env → RV := fun e => match d1 e with
  | .ok x b e1 w1 => match d2 e1 with
    | .ok y b' e2 w2 => if b && w2 then .no else match f x y with
      | some (.bool true) => match d3 e2 with
        | .ok z _ e3 w3 => if b' && w3 then .no else match f' y z with
          | some r => .ok r false e3 ((w1 || w2) || w3)
          | none => .no
        | .er C fs e3 => .er C fs e3
        | .no => .no
      | some (.bool false) => .ok (.bool false) false e2 (w1 || w2)
      | _ => .no
    | .er C fs e2 => .er C fs e2
    | .no => .no
  | .er C fs e1 => .er C fs e1
  | .no => .no
section
variable {X : Cx} {c : Ctx} {d d1 d2 d3 : Env → RV} {a b a1 a2 a3 ex : Expr} {es : List Expr} {pos p1 p2 : Pos} {k j : Nat}
theorem vCh_ok {r r' : R2} {f f' : PyData → PyData → Option PyData} (hs : Sc2 c.K r f) (hs' : Sc2 c.K r' f') {σ : L2.St} {H : Hp} {Q : VK} (h : tV c (vCh f f' d1 d2 d3) σ H Q) : tChain r r' (tV c d1) (tV c d2) (tV c d3) σ H Q := by
  obtain ⟨e, R, F, s, p⟩ := h
  refine ⟨e, R, F, s, ?_⟩
  unfold vCh at p
  cases h1 : d1 e with
  | no => simp only [h1] at p; exact p
  | er C fs e1 => simp only [h1] at p; exact p
  | ok x b e1 w1 =>
    intro R1 H1 F1 u s1 sd ex hw
    refine ⟨e1, R1, F1, s1, ?_⟩
    cases h2 : d2 e1 with
    | no => simp only [h1, h2] at p; exact p.elim
    | er C fs e2 =>
      simp only [h1, h2] at p
      exact fun R2 H2 F2 dd s2 rx ex2 => p R2 H2 F2 dd s2 rx (ex.trans ex2)
    | ok y b' e2 w2 =>
      simp only [h1, h2] at p
      intro R2 H2 F2 u2 s2 sd2 ex2 hw2
      by_cases hb : (b && w2) = true
      · rw [if_pos hb] at p; exact p.elim
      · rw [if_neg hb] at p
        have bw : b = true → w2 = false := fun z => by
          cases w2 with
          | false => rfl
          | true => rw [z] at hb; exact absurd rfl hb
        have sm : (w1 || w2) = false → Gr R H R2 H2 := fun q => (hw (or_ff q).1).trans (hw2 (or_ff q).2)
        cases h3 : f x y with
        | none => simp only [h3] at p; exact p.elim
        | some z =>
          refine hs R2 H2 u u2 x y b b' z _ s2.rh (sd.up ex2.rr fun q => (hw2 (bw q)).hh) sd2 h3 fun R3 H3 u3 g dp => ?_
          cases z with
          | bool q =>
            cases dp
            refine ⟨q, rfl, ?_⟩
            cases q with
            | false =>
              simp only [h3] at p
              exact iteF (p R3 H3 F2 _ (g.sr s2) (.bl false) ((ex.trans ex2).trans g.ex) (fun q => (sm q).trans g))
            | true =>
              simp only [h3] at p
              refine iteT ⟨e2, R3, F2, g.sr s2, ?_⟩
              cases h4 : d3 e2 with
              | no => simp only [h4] at p; exact p.elim
              | er C fs e3 =>
                simp only [h4] at p
                exact fun R4 H4 F4 dd s4 rx ex4 => p R4 H4 F4 dd s4 rx (((ex.trans ex2).trans g.ex).trans ex4)
              | ok zz b3 e3 w3 =>
                simp only [h4] at p
                intro R4 H4 F4 u4 s4 sd4 ex4 hw4
                by_cases hb' : (b' && w3) = true
                · rw [if_pos hb'] at p; exact p.elim
                · rw [if_neg hb'] at p
                  have bw' : b' = true → w3 = false := fun z => by
                    cases w3 with
                    | false => rfl
                    | true => rw [z] at hb'; exact absurd rfl hb'
                  cases h5 : f' y zz with
                  | none => simp only [h5] at p; exact p.elim
                  | some r5 =>
                    simp only [h5] at p
                    refine hs' R4 H4 u2 u4 y zz b' b3 r5 Q s4.rh (sd2.up (g.rr.trans ex4.rr) fun q => g.hh.trans (hw4 (bw' q)).hh) sd4 h5 fun R5 H5 u5 g5 dp5 => ?_
                    exact p R5 H5 F4 u5 (g5.sr s4) dp5 ((((ex.trans ex2).trans g.ex).trans ex4).trans g5.ex) (fun q => ((((sm (or_ff q).1).trans g).trans (hw4 (or_ff q).2)).trans g5))
          | _ => simp only [h3] at p; exact p.elim
theorem ve_chain {op op' : CmpOp} {r r' : R2} {f f' : PyData → PyData → Option PyData} (ho : OpR X (compareOp op) r) (ho' : OpR X (compareOp op') r') (hs : Sc2 c.K r f) (hs' : Sc2 c.K r' f') (ha : PE X a1 (tV c d1)) (hb : PE X a2 (tV c d2)) (hc : PE X a3 (tV c d3))
    (hm : lastMarks [op, op'] [a2, a3] = false := by with_unfolding_all rfl) : PE X (.Compare a1 [op, op'] [a2, a3] pos) (tV c (vCh f f' d1 d2 d3)) := PE.imp (pe_chain ho ho' ha hb hc hm) fun _ _ _ h => vCh_ok hs hs' h
theorem te_chain {op op' : CmpOp} {r r' : R2} {f f' : PyData → PyData → Option PyData} (ho : OpR X (compareOp op) r) (ho' : OpR X (compareOp op') r') (hs : Sc2 c.K r f) (hs' : Sc2 c.K r' f') (ha : PE X a1 (tV c d1)) (hb : PE X a2 (tV c d2)) (hc : PE X a3 (tV c d3))
    (hm : lastMarks [op, op'] [a2, a3] = false := by with_unfolding_all rfl) : PT X (.Compare a1 [op, op'] [a2, a3] pos) (tT c (vCh f f' d1 d2 d3)) := PT.imp (pt_chain ho ho' ha hb hc hm) fun _ _ _ h => vCh_ok hs hs' h
end
/-! ## argument lists, displays -/
inductive RA where
  | ok (xs : List PyData) (e : Env) (w : Bool)
  | er (C : Str) (fs : Xd) (e : Env)
  | no
def vArgs : List (Env → RV) → Env → RA
  | [], e => .ok [] e false
  | d :: ds, e => match d e with
    | .ok x false e1 w1 => match vArgs ds e1 with
      | .ok xs e2 w2 => .ok (x :: xs) e2 (w1 || w2)
      | .er C fs e2 => .er C fs e2
      | .no => .no
    | .ok _ true _ _ => .no
    | .er C fs e1 => .er C fs e1
    | .no => .no
def PostA (c : Ctx) (σ : L2.St) (R H : Hp) (F : List Addr) (Q : List V → Hp → Prop) : RA → Prop
  | .ok xs e w => ∀ R' H' F' vs, Sr c R' H' e σ F' → DpAll c.K R' vs xs → Ex R H F R' H' F' → (w = false → Gr R H R' H') → Q vs H'
  | .er C fs e => ∀ R' H' F' d, Sr c R' H' e σ F' → RX c.K R' fs d → Ex R H F R' H' F' → c.ε σ (.ref (c.cl C)) d H'
  | .no => False
def tA (c : Ctx) (ds : List (Env → RV)) : TA := fun σ H Q => ∃ e R F, Sr c R H e σ F ∧ PostA c σ R H F Q (vArgs ds e)
theorem PA.imp {X : Cx} {es : List Expr} {t t' : TA} (h : PA X es t) (q : ∀ σ H Q, t' σ H Q → t σ H Q) : PA X es t' := ⟨fun pos pins s σ H Q I x => h.run pos pins s σ H Q I (q _ _ _ x)⟩
section
variable {X : Cx} {c : Ctx} {d d1 d2 d3 : Env → RV} {ds : List (Env → RV)} {a b a1 a2 a3 ex : Expr} {es : List Expr} {pos p1 p2 : Pos} {k j : Nat}
theorem ae_nil : PA X [] (tA c []) := PA.imp pa_nil fun σ H Q ⟨e, R, F, s, p⟩ => p R H F [] s .nil .refl (fun _ => .refl s.rh)
theorem ae_cons (ha : PE X a (tV c d)) (hr : PA X es (tA c ds)) (hs : starEach (a :: es) X.env = (false, eval a X.env) :: starEach es X.env := by rfl) : PA X (a :: es) (tA c (d :: ds)) := by
  refine PA.imp (pa_cons ha hr hs) fun σ H Q ⟨e, R, F, s, p⟩ => ⟨e, R, F, s, ?_⟩
  unfold vArgs at p
  cases h1 : d e with
  | no => simp only [h1] at p; exact p
  | er C fs e1 => simp only [h1] at p; exact p
  | ok x b e1 w1 =>
    cases b with
    | true => simp only [h1] at p; exact p.elim
    | false =>
      intro R1 H1 F1 u s1 sd ex hw
      refine ⟨e1, R1, F1, s1, ?_⟩
      cases h2 : vArgs ds e1 with
      | no => simp only [h1, h2] at p; exact p.elim
      | er C fs e2 =>
        simp only [h1, h2] at p
        exact fun R2 H2 F2 dd s2 rx ex2 => p R2 H2 F2 dd s2 rx (ex.trans ex2)
      | ok xs e2 w2 =>
        simp only [h1, h2] at p
        exact fun R2 H2 F2 vs s2 dp ex2 hw2 => p R2 H2 F2 (u :: vs) s2 (.cons (dp_up ex2.rr _ _ sd) dp) (ex.trans ex2) (fun q => (hw (or_ff q).1).trans (hw2 (or_ff q).2))
end
def vTup (ds : List (Env → RV)) : Env → RV := fun e => match vArgs ds e with
  | .ok xs e1 w => if xs.length ≤ SZ then .ok (.tuple xs) false e1 w else .no
  | .er C fs e1 => .er C fs e1
  | .no => .no
def dLst (ds : List (Env → RV)) : Env → Res := fun e => match vArgs ds e with
  | .ok xs e1 w => if xs.length ≤ SZ then .ok (.t (.l (xs.map T.d))) e1 w else .no
  | .er C fs e1 => .er C fs e1
  | .no => .no
section
variable {X : Cx} {c : Ctx} {ds : List (Env → RV)} {es : List Expr} {pos : Pos} {k : Nat}
theorem ve_tup (h : PA X es (tA c ds)) : PE X (.Tuple es k pos) (tV c (vTup ds)) := by
  refine PE.imp (pe_tup h) fun σ H Q ⟨e, R, F, s, p⟩ => ⟨e, R, F, s, ?_⟩
  unfold vTup at p
  cases h1 : vArgs ds e with
  | no => simp only [h1] at p; exact p
  | er C fs e1 => simp only [h1] at p; exact p
  | ok xs e1 w =>
    simp only [h1] at p
    intro R1 H1 F1 vs s1 dp ex hw
    by_cases hl : xs.length ≤ SZ
    · rw [if_pos hl] at p
      refine ⟨by rw [dpa_len dp, ← sz_eq]; exact hl, fun q hq => ?_⟩
      have g := Gr.new (o := .tup vs) s1.rh hq
      exact p _ _ F1 _ (g.sr s1) (.tup (.of upd_same) (dpa_up g.rr _ _ dp)) (ex.trans g.ex) (fun z => (hw z).trans g)
    · rw [if_neg hl] at p; exact p.elim
theorem de_lst (h : PA X es (tA c ds)) : PE X (.List es pos) (tD c (dLst ds)) := by
  refine PE.imp (pe_lst h) fun σ H Q ⟨e, R, F, s, p⟩ => ⟨e, R, F, s, ?_⟩
  unfold dLst at p
  cases h1 : vArgs ds e with
  | no => simp only [h1] at p; exact p
  | er C fs e1 => simp only [h1] at p; exact p
  | ok xs e1 w =>
    simp only [h1] at p
    intro R1 H1 F1 vs s1 dp ex hw
    by_cases hl : xs.length ≤ SZ
    · rw [if_pos hl] at p
      refine ⟨by rw [dpa_len dp, ← sz_eq]; exact hl, fun q hq => ?_⟩
      obtain ⟨n1, n2, n3, n4, n5⟩ := new_own (o := .lst vs) s1 hq
      exact p R1 _ F1 [q] _ n1 ⟨q, vs, [], rfl, .refl _, upd_same, rpl_d dp⟩ n2 n3 (ex.trans n4) (fun z => ⟨(hw z).trans n5, fun a ha => by simp at ha; subst ha; exact (hw z).hh.free hq⟩)
    · rw [if_neg hl] at p; exact p.elim
end
/-! ## slices -/
def vOpt (o : Option (Env → RV)) (e : Env) : Option (Option Int × Env) := match o with
  | none => some (none, e)
  | some d => match d e with
    | .ok (.int i) _ e1 false => some (some i, e1)
    | _ => none
def tO (c : Ctx) : Option (Env → RV) → TO
  | none => tNoPart
  | some d => tPart (tV c d)
def cutD (xs : List PyData) (lo hi : Option Int) : List PyData := (xs.drop (HT.sIx xs.length 0 lo)).take (HT.sIx xs.length xs.length hi - HT.sIx xs.length 0 lo)
theorem dpa_cut {K : PySem.W.Frag} {R : Hp} {vs : List V} {ds : List PyData} {lo hi : Option Int} (h : DpAll K R vs ds) : DpAll K R (cutV vs lo hi) (cutD ds lo hi) := by
  unfold cutV cutD
  rw [dpa_len h]
  exact dpa_take _ (dpa_drop _ h)
def fSl : PyData → Option Int → Option Int → Option PyData
  | .tuple ds, lo, hi => some (.tuple (cutD ds lo hi))
  | .str z, lo, hi => if z.length ≤ SZ then some (.str (cutS z lo hi)) else none
  | _, _, _ => none
def fSlL : PyData → Option Int → Option Int → Option (List PyData)
  | .list ds, lo, hi => some (cutD ds lo hi)
  | _, _, _ => none
def vSl (d : Env → RV) (lo hi : Option (Env → RV)) : Env → RV := fun e => match d e with
  | .ok x _ e1 w => match vOpt lo e1 with
    | some (l, e2) => match vOpt hi e2 with
      | some (h, e3) => match fSl x l h with
        | some z => .ok z false e3 w
        | none => .no
      | none => .no
    | none => .no
  | .er C fs e1 => .er C fs e1
  | .no => .no
def dSl (d : Env → RV) (lo hi : Option (Env → RV)) : Env → Res := fun e => match d e with
  | .ok x _ e1 w => match vOpt lo e1 with
    | some (l, e2) => match vOpt hi e2 with
      | some (h, e3) => match fSlL x l h with
        | some z => .ok (.t (.l (z.map T.d))) e3 w
        | none => .no
      | none => .no
    | none => .no
  | .er C fs e1 => .er C fs e1
  | .no => .no
section
variable {X : Cx} {c : Ctx} {d : Env → RV} {lo hi : Option (Env → RV)} {a : Expr} {l h : Option Expr} {p2 pos : Pos}
theorem vOpt_ok {o : Option (Env → RV)} {R H : Hp} {e e1 : Env} {σ : L2.St} {F : List Addr} {x : Option Int} {Q : Option Int → Hp → Prop} (s : Sr c R H e σ F) (he : vOpt o e = some (x, e1)) (q : ∀ R' H' F', Sr c R' H' e1 σ F' → Ex R H F R' H' F' → Gr R H R' H' → Q x H') : tO c o σ H Q := by
  cases o with
  | none =>
    cases (show some (none, e) = some (x, e1) from he)
    exact q R H F s .refl (.refl s.rh)
  | some d =>
    have he' : (match d e with | .ok (.int i) _ e1 false => some (some i, e1) | _ => none) = some (x, e1) := he
    refine ⟨e, R, F, s, ?_⟩
    cases h1 : d e with
    | no => simp only [h1] at he'; cases he'
    | er C fs e1 => simp only [h1] at he'; cases he'
    | ok y b e2 w =>
      cases y with
      | int i =>
        cases w with
        | false =>
          simp only [h1] at he'
          cases he'
          exact fun R1 H1 F1 u s1 sd ex hw => ⟨i, sd_int sd, q R1 H1 F1 s1 ex (hw rfl)⟩
        | true => simp only [h1] at he'; cases he'
      | _ => simp only [h1] at he'; cases he'
theorem ve_sl (he : PE X a (tV c d)) (hl : PO X l (tO c lo)) (hh : PO X h (tO c hi)) (hK : X.K = c.K := by rfl) : PE X (.Subscript a (.Slice l h none p2) pos) (tV c (vSl d lo hi)) := by
  have or1 : SlR X (fun x lo hi H Q => rSlA X.K x lo hi H Q ∨ rSlS x lo hi H Q) := sl_tupA.or sl_str
  refine PE.imp (pe_slice or1 he hl hh) fun σ H Q ⟨e, R, F, s, p⟩ => ⟨e, R, F, s, ?_⟩
  rw [hK]
  unfold vSl at p
  cases h1 : d e with
  | no => simp only [h1] at p; exact p
  | er C fs e1 => simp only [h1] at p; exact p
  | ok x b e1 w =>
    simp only [h1] at p
    intro R1 H1 F1 u s1 sd ex hw
    cases h2 : vOpt lo e1 with
    | none => simp only [h2] at p; exact p.elim
    | some le =>
      obtain ⟨l', e2⟩ := le
      simp only [h2] at p
      refine vOpt_ok s1 h2 fun R2 H2 F2 s2 ex2 sm2 => ?_
      cases h3 : vOpt hi e2 with
      | none => simp only [h3] at p; exact p.elim
      | some he' =>
        obtain ⟨h', e3⟩ := he'
        simp only [h3] at p
        refine vOpt_ok s2 h3 fun R3 H3 F3 s3 ex3 sm3 => ?_
        cases h4 : fSl x l' h' with
        | none => simp only [h4] at p; exact p.elim
        | some z =>
          simp only [h4] at p
          have sd' := sd.up (ex2.rr.trans ex3.rr) (fun _ => sm2.hh.trans sm3.hh)
          have fin : ∀ R' H' u, Gr R3 H3 R' H' → Dp c.K R' u z → Q u H' := fun R' H' u g dp => p R' H' F3 u (g.sr s3) dp (((ex.trans ex2).trans ex3).trans g.ex) (fun q => (((hw q).trans sm2).trans sm3).trans g)
          unfold fSl at h4
          split at h4
          · cases h4
            obtain ⟨q, vs, rfl, q1, q1', a1⟩ := sd_tup sd' s3.rh
            refine .inl ⟨q, vs, rfl, q1, fun hw => ?_, fun hw t ht => ?_⟩
            · refine fin R3 H3 _ (.refl s3.rh) ?_
              have e0 : ∀ ds, DpAll c.K R3 vs ds → cutD ds l' h' = ds := by
                intro ds a1
                unfold cutD
                rw [← dpa_len a1, hw.1, hw.2, List.drop_zero, Nat.sub_zero, List.take_of_length_le (by rw [dpa_len a1]; exact Nat.le_refl _)]
              rw [e0 _ a1]
              exact .tup q1' a1
            · exact fin _ _ _ (Gr.new s3.rh ht) (.tup (.of upd_same) (dpa_up (same_new (s3.rh.free ht)) _ _ (dpa_cut a1)))
          · split at h4
            · rename_i hz
              cases h4
              exact .inr ⟨_, sd_str sd', by rw [← sz_eq]; exact hz, fin R3 H3 _ (.refl s3.rh) (.str _)⟩
            · cases h4
          · cases h4
theorem de_sl (he : PE X a (tV c d)) (hl : PO X l (tO c lo)) (hh : PO X h (tO c hi)) (hK : X.K = c.K := by rfl) : PE X (.Subscript a (.Slice l h none p2) pos) (tD c (dSl d lo hi)) := by
  refine PE.imp (pe_slice sl_list he hl hh) fun σ H Q ⟨e, R, F, s, p⟩ => ⟨e, R, F, s, ?_⟩
  rw [hK]
  unfold dSl at p
  cases h1 : d e with
  | no => simp only [h1] at p; exact p
  | er C fs e1 => simp only [h1] at p; exact p
  | ok x b e1 w =>
    simp only [h1] at p
    intro R1 H1 F1 u s1 sd ex hw
    cases h2 : vOpt lo e1 with
    | none => simp only [h2] at p; exact p.elim
    | some le =>
      obtain ⟨l', e2⟩ := le
      simp only [h2] at p
      refine vOpt_ok s1 h2 fun R2 H2 F2 s2 ex2 sm2 => ?_
      cases h3 : vOpt hi e2 with
      | none => simp only [h3] at p; exact p.elim
      | some he' =>
        obtain ⟨h', e3⟩ := he'
        simp only [h3] at p
        refine vOpt_ok s2 h3 fun R3 H3 F3 s3 ex3 sm3 => ?_
        cases h4 : fSlL x l' h' with
        | none => simp only [h4] at p; exact p.elim
        | some z =>
          simp only [h4] at p
          have sd' := sd.up (ex2.rr.trans ex3.rr) (fun _ => sm2.hh.trans sm3.hh)
          unfold fSlL at h4
          split at h4
          · cases h4
            obtain ⟨q, vs, rfl, q1, a1⟩ := sd_list sd' s3.rh
            refine ⟨q, vs, rfl, q1, fun t ht => ?_⟩
            obtain ⟨n1, n2, n3, n4, n5⟩ := new_own (o := .lst (cutV vs l' h')) s3 ht
            exact p R3 _ F3 [t] _ n1 ⟨t, _, [], rfl, .refl _, upd_same, rpl_d (dpa_cut a1)⟩ n2 n3 (((ex.trans ex2).trans ex3).trans n4) (fun q => ⟨(((hw q).trans sm2).trans sm3).trans n5, fun a ha => by simp at ha; subst ha; exact (((hw q).trans sm2).trans sm3).hh.free ht⟩)
          · cases h4
theorem oe_none : PO X none (tO c none) := po_none
theorem oe_some (h : PE X a (tV c d)) : PO X (some a) (tO c (some d)) := po_some h
end
end Dn
namespace Dn
open PySem PySem.Spec PyProof.Rows L2
/-! ## slots -/
section
variable {K : PySem.W.Frag} {R H : Hp} {c : Ctx}
theorem rps_del {o : Option V} : ∀ {e : Env} {σ : L2.St} {F : List Addr} (i : Nat), RpS K R H e σ F → ∃ F1 F2, F.Perm (F1 ++ F2) ∧ RpS K R H (e.set i none) (σ.set i o) F2
  | [], σ, F, i, h => by
    obtain ⟨h1, h2⟩ := h
    subst h1 h2
    exact ⟨[], [], .refl _, rfl, rfl⟩
  | none :: e, σ, F, 0, h => by
    obtain ⟨o', r, rfl, h⟩ := h
    exact ⟨[], F, .refl _, o, r, rfl, h⟩
  | none :: e, σ, F, i + 1, h => by
    obtain ⟨o', r, rfl, h⟩ := h
    obtain ⟨F1, F2, p, q⟩ := rps_del i h
    exact ⟨F1, F2, p, o', _, rfl, q⟩
  | some t :: e, σ, F, 0, h => by
    obtain ⟨v, r, F1, F2, rfl, p, h1, h2⟩ := h
    exact ⟨F1, F2, p, o, r, rfl, h2⟩
  | some t :: e, σ, F, i + 1, h => by
    obtain ⟨v, r, F1, F2, rfl, p, h1, h2⟩ := h
    obtain ⟨G1, G2, p', q⟩ := rps_del i h2
    refine ⟨G1, F1 ++ G2, ?_, v, _, F1, G2, rfl, .refl _, h1, q⟩
    refine p.trans ((List.Perm.append_left F1 p').trans ?_)
    rw [← List.append_assoc, ← List.append_assoc]
    exact List.Perm.append_right G2 List.perm_append_comm
theorem rps_set {e : Env} {σ : L2.St} {F : List Addr} {i : Nat} {t : T} {v : V} {G : List Addr} (h : RpS K R H e σ F) (hr : Rp K R H t v G) (hi : i < e.length) : ∃ F1 F2, F.Perm (F1 ++ F2) ∧ RpS K R H (e.set i (some t)) (σ.set i (some v)) (G ++ F2) := by
  obtain ⟨F1, F2, p, q⟩ := rps_del (o := some v) i h
  refine ⟨F1, F2, p, ?_⟩
  have q' := rps_put (i := i) (t := t) (v := v) (G := G) q (by simpa using hi) (fun t' z => by simp [hi] at z) hr
  rw [List.set_set, List.set_set] at q'
  exact q'
def NoPin (pn : List (Option V)) (i : Nat) : Prop := (pn[i]?).join = none
theorem sr_set {e : Env} {σ : L2.St} {F : List Addr} {i : Nat} {t : T} {v : V} {G : List Addr} (s : Sr c R H e σ F) (hr : Rp c.K R H t v G) (nd : (F ++ G).Nodup) (rf : ∀ a ∈ G, R a = none) (hp : NoPin c.pn i) :
    ∃ F', Sr c R H (e.set i (some t)) (σ.set i (some v)) F' ∧ ∀ a ∈ F', a ∈ F ++ G := by
  have pin : Pin c.pn (σ.set i (some v)) := fun j u hj => by
    have ne : i ≠ j := fun z => by
      subst z
      unfold NoPin at hp
      rw [hj] at hp
      cases hp
    rw [List.getElem?_set_ne ne]
    exact s.pn j u hj
  by_cases hi : i < e.length
  · obtain ⟨F1, F2, p, q⟩ := rps_set s.sl hr hi
    refine ⟨G ++ F2, ⟨q, ?_, s.rh, ?_, pin, s.fx⟩, ?_⟩
    · have h1 : (F1 ++ F2 ++ G).Nodup := (List.Perm.append_right G p).nodup_iff.mp nd
      have h2 : (F2 ++ G).Nodup := by
        rw [List.append_assoc] at h1
        exact (List.nodup_append.mp h1).2.1
      exact List.perm_append_comm.nodup_iff.mp h2
    · intro a ha
      rcases List.mem_append.mp ha with ha | ha
      · exact rf a ha
      · exact s.rf a (p.mem_iff.mpr (List.mem_append_right _ ha))
    · intro a ha
      rcases List.mem_append.mp ha with ha | ha
      · exact List.mem_append_right _ ha
      · exact List.mem_append_left _ (p.mem_iff.mpr (List.mem_append_right _ ha))
  · have hl := rps_len s.sl
    rw [List.set_eq_of_length_le (by omega), List.set_eq_of_length_le (by omega)]
    exact ⟨F, s, fun a ha => List.mem_append_left _ ha⟩
theorem sr_none {e : Env} {σ : L2.St} {F : List Addr} {i : Nat} {o : Option V} (s : Sr c R H e σ F) (hp : NoPin c.pn i) : ∃ F', Sr c R H (e.set i none) (σ.set i o) F' ∧ ∀ a ∈ F', a ∈ F := by
  have pin : Pin c.pn (σ.set i o) := fun j u hj => by
    have ne : i ≠ j := fun z => by
      subst z
      unfold NoPin at hp
      rw [hj] at hp
      cases hp
    rw [List.getElem?_set_ne ne]
    exact s.pn j u hj
  obtain ⟨F1, F2, p, q⟩ := rps_del (o := o) i s.sl
  exact ⟨F2, ⟨q, (List.nodup_append.mp (p.nodup_iff.mp s.nd)).2.1, s.rh, fun a ha => s.rf a (p.mem_iff.mpr (List.mem_append_right _ ha)), pin, s.fx⟩, fun a ha => p.mem_iff.mpr (List.mem_append_right _ ha)⟩
end
/-! ## targets -/
structure TgR (σ σ' : L2.St) (is : List Nat) : Prop where
  len : σ'.length = σ.length
  out : ∀ i, i ∉ is → σ'[i]? = σ[i]?
def TgOk (c : Ctx) (is : List Nat) (g : TG) (tg : PyData → Env → Option Env) : Prop := ∀ R H e σ F v x e' (Q : L2.St → Hp → Prop), Sr c R H e σ F → Dp c.K R v x → tg x e = some e' →
  (∀ σ' F', Sr c R H e' σ' F' → (∀ a ∈ F', a ∈ F) → TgR σ σ' is → Q σ' H) → g v σ H Q
def tgN (i : Nat) : PyData → Env → Option Env := fun x e => some (e.set i (some (.d x)))
theorem tg_name {c : Ctx} {i : Nat} (hp : NoPin c.pn i) : TgOk c [i] (gName i) (tgN i) := by
  intro R H e σ F v x e' Q s d he q
  cases he
  obtain ⟨F', s', h⟩ := sr_set (i := i) s (show Rp c.K R H (.d x) v [] from ⟨rfl, d⟩) (by simpa using s.nd) (by simp) hp
  exact q _ F' s' (fun a ha => by simpa using h a ha) ⟨by simp, fun j hj => by simp at hj; rw [List.getElem?_set_ne (fun z => hj z.symm)]⟩
def tgS : List Nat → List PyData → Env → Env
  | i :: is, x :: xs, e => tgS is xs (e.set i (some (.d x)))
  | _, _, e => e
def gNames : List Nat → TGs
  | [] => gNil
  | i :: is => gCons (gName i) (gNames is)
def tgT (is : List Nat) : PyData → Env → Option Env := fun x e => match x with
  | .tuple ds => if ds.length = is.length then some (tgS is ds e) else none
  | _ => none
theorem tg_names {c : Ctx} : ∀ (is : List Nat), (∀ i ∈ is, NoPin c.pn i) → ∀ R H e σ F vs ds (Q : L2.St → Hp → Prop), Sr c R H e σ F → DpAll c.K R vs ds → ds.length = is.length →
    (∀ σ' F', Sr c R H (tgS is ds e) σ' F' → (∀ a ∈ F', a ∈ F) → TgR σ σ' is → Q σ' H) → gNames is vs σ H Q
  | [], _, R, H, e, σ, F, vs, ds, Q, s, d, hl, q => by
    cases ds with
    | nil => cases d; exact ⟨rfl, q σ F s (fun _ h => h) ⟨rfl, fun _ _ => rfl⟩⟩
    | cons x xs => cases hl
  | i :: is, hp, R, H, e, σ, F, vs, ds, Q, s, d, hl, q => by
    cases ds with
    | nil => cases hl
    | cons x xs =>
      cases d with
      | cons d1 d2 =>
        refine ⟨_, _, rfl, ?_⟩
        refine tg_name (hp i (by simp)) R H e σ F _ x _ _ s d1 rfl fun σ1 F1 s1 f1 t1 => ?_
        refine tg_names is (fun j hj => hp j (by simp [hj])) R H _ σ1 F1 _ xs Q s1 d2 (by simpa using hl) fun σ2 F2 s2 f2 t2 => ?_
        exact q σ2 F2 s2 (fun a ha => f1 a (f2 a ha)) ⟨t2.len.trans t1.len, fun j hj => by
          rw [t2.out j (fun z => hj (by simp [z])), t1.out j (fun z => hj (by simp at z; simp [z]))]⟩
theorem tg_tup {c : Ctx} {is : List Nat} (hp : ∀ i ∈ is, NoPin c.pn i) {K : PySem.W.Frag} (hK : K = c.K) {n : Nat} (hn : n = is.length) : TgOk c is (gTup K n (gNames is)) (tgT is) := by
  subst hK hn
  intro R H e σ F v x e' Q s d he q
  unfold tgT at he
  split at he
  · split at he
    · rename_i hl
      cases he
      cases d with
      | tup hs ha =>
        exact ⟨_, _, rfl, sqt_up s.rh hs, by rw [dpa_len ha, hl], tg_names is hp R H e σ F _ _ Q s ha hl q⟩
    · cases he
  · cases he
/-! ## what is walked -/
inductive RI where
  | ok (xs : List PyData) (e : Env) (w : Bool)
  | er (C : Str) (fs : Xd) (e : Env)
  | no
def WalkD (K : PySem.W.Frag) (R : Hp) (J : It) (xs : List PyData) : Prop := ∃ (G : Hp → Prop) (Y : Nat → Hp → V → Hp → Prop), Walk J xs.length G Y ∧ (∀ R' H', Same R R' → Same R' H' → G H') ∧
  ∀ i R' H' v H2, Same R R' → Same R' H' → i < xs.length → Y i H' v H2 → ∃ R2 x, xs[i]? = some x ∧ Gr R' H' R2 H2 ∧ Dp K R2 v x
def PostI (c : Ctx) (σ : L2.St) (R H : Hp) (F : List Addr) (Q : It → Hp → Prop) : RI → Prop
  | .ok xs e w => ∀ R' H' F' J, Sr c R' H' e σ F' → WalkD c.K R' J xs → Ex R H F R' H' F' → (w = false → Gr R H R' H') → Q J H'
  | .er C fs e => ∀ R' H' F' d, Sr c R' H' e σ F' → RX c.K R' fs d → Ex R H F R' H' F' → c.ε σ (.ref (c.cl C)) d H'
  | .no => False
def tI (c : Ctx) (d : Env → RI) : TI := fun σ H Q => ∃ e R F, Sr c R H e σ F ∧ PostI c σ R H F Q (d e)
theorem PI.imp {X : Cx} {tg iter : Expr} {t t' : TI} (h : PI X tg iter t) (q : ∀ σ H Q, t' σ H Q → t σ H Q) : PI X tg iter t' := ⟨fun pins s σ H Q I x => h.run pins s σ H Q I (q _ _ _ x)⟩
theorem walkD_at {K : PySem.W.Frag} {R : Hp} {J : It} {vs : List V} {ds : List PyData} {G : Hp → Prop} (w : Walk J vs.length G (YAt vs)) (hG : ∀ R' H', Same R R' → Same R' H' → G H') (da : DpAll K R vs ds) : WalkD K R J ds := by
  refine ⟨G, YAt vs, by rw [← dpa_len da]; exact w, hG, fun i R' H' v H2 s1 s2 hi y => ?_⟩
  obtain ⟨rfl, hv⟩ := y
  obtain ⟨x, h1, h2⟩ := dpa_get' da hv
  exact ⟨R', x, h1, .refl s2, dp_up s1 _ _ h2⟩
def iSeq (K : PySem.W.Frag) (tl : TE) : TI := fun σ H R => tl σ H fun x H1 => ∃ a, x = .ref a ∧ (((∃ xs, SqL K H1 a xs) ∧ R (Itl K a) H1) ∨ ((∃ xs, SqT K H1 a xs) ∧ R (Itt K a) H1))
theorem pi_seq {X : Cx} {tg l : Expr} {tl : TE} (hl : PE X l tl) : PI X tg l (iSeq X.K tl) := by
  refine ⟨fun pins s σ H R I h => ?_⟩
  refine thn (hl.run pins s σ H _ I h) fun v s1 ⟨x, H1, I1, r1, q1⟩ => ?_
  obtain ⟨a, e, ⟨⟨xs, hq⟩, q⟩ | ⟨⟨xs, hq⟩, q⟩⟩ := q1
  · subst e
    cases r1
    obtain ⟨its, rv, p, hz⟩ := I1.list hq
    refine wpAny_pyIter_list p.isList ?_
    refine ⟨s1.heap.objs.size, [s1.heap.objs.size], _, _, H1, rfl, I1.kept (t' := s1.toks) fun b o e => Heap.get?_push_of_some _ e, turn_list a _, ⟨_, Heap.get?_push_size _ rfl, rfl, rfl⟩, fun b hb => ?_, q⟩
    have e : b = s1.heap.objs.size := by simpa using hb
    subst e
    exact I1.fpOk (Nat.le_refl _) (I1.hok.fresh (Nat.le_refl _))
  · subst e
    cases r1
    obtain ⟨its, rv, p, hz⟩ := I1.tuple hq
    refine wpAny_pyIter_tuple (show s1.heap.IsTuple a its.toArray from p) ?_
    refine ⟨s1.heap.objs.size, [s1.heap.objs.size], _, _, H1, rfl, I1.kept (t' := s1.toks) fun b o e => Heap.get?_push_of_some _ e, turn_tuple a _, ⟨_, Heap.get?_push_size _ rfl, rfl, rfl⟩, fun b hb => ?_, q⟩
    have e : b = s1.heap.objs.size := by simpa using hb
    subst e
    exact I1.fpOk (Nat.le_refl _) (I1.hok.fresh (Nat.le_refl _))
/-- list, tuple -/
def iD (d : Env → RV) : Env → RI := fun e => match d e with
  | .ok (.list xs) false e1 w => .ok xs e1 w
  | .ok (.tuple xs) false e1 w => .ok xs e1 w
  | .ok _ _ _ _ => .no
  | .er C fs e1 => .er C fs e1
  | .no => .no
theorem ie_seq {X : Cx} {c : Ctx} {tg l : Expr} {d : Env → RV} (h : PE X l (tV c d)) (hK : X.K = c.K := by rfl) : PI X tg l (tI c (iD d)) := by
  refine PI.imp (pi_seq h) fun σ H Q ⟨e, R, F, s, p⟩ => ⟨e, R, F, s, ?_⟩
  rw [hK]
  unfold iD at p
  cases h1 : d e with
  | no => simp only [h1] at p; exact p
  | er C fs e1 => simp only [h1] at p; exact p
  | ok x b e1 w =>
    intro R1 H1 F1 v s1 sd ex hw
    cases b with
    | true => cases x <;> (simp only [h1] at p; exact p.elim)
    | false =>
      cases x with
      | list ds =>
        simp only [h1] at p
        cases sd with
        | lst hs ha => exact ⟨_, rfl, .inl ⟨⟨_, s1.rh.seq hs⟩, p R1 H1 F1 _ s1 (walkD_at walk_list (fun R' H' q1 q2 => (q1.trans q2).seq hs) ha) ex hw⟩⟩
      | tuple ds =>
        simp only [h1] at p
        cases sd with
        | tup hs ha => exact ⟨_, rfl, .inr ⟨⟨_, sqt_up s1.rh hs⟩, p R1 H1 F1 _ s1 (walkD_at walk_tup (fun R' H' q1 q2 => sqt_up (q1.trans q2) hs) ha) ex hw⟩⟩
      | _ => simp only [h1] at p; exact p.elim
/-- a text -/
def iStrD (d : Env → RV) : Env → RI := fun e => match d e with
  | .ok (.str z) _ e1 w => .ok (z.cps.toList.map fun n => .str ⟨#[n]⟩) e1 w
  | .ok _ _ _ _ => .no
  | .er C fs e1 => .er C fs e1
  | .no => .no
theorem ie_str {X : Cx} {c : Ctx} {tg l : Expr} {d : Env → RV} (h : PE X l (tV c d)) : PI X tg l (tI c (iStrD d)) := by
  refine PI.imp (pi_str h) fun σ H Q ⟨e, R, F, s, p⟩ => ⟨e, R, F, s, ?_⟩
  unfold iStrD at p
  cases h1 : d e with
  | no => simp only [h1] at p; exact p
  | er C fs e1 => simp only [h1] at p; exact p
  | ok x b e1 w =>
    intro R1 H1 F1 v s1 sd ex hw
    cases x with
    | str z =>
      simp only [h1] at p
      refine ⟨z, sd_str sd, p R1 H1 F1 _ s1 ⟨_, _, by rw [List.length_map, Array.length_toList]; exact walk_str, fun _ _ _ _ => trivial, fun i R' H' v H2 q1 q2 hi y => ?_⟩ ex hw⟩
      obtain ⟨rfl, n, hn, rfl⟩ := y
      refine ⟨R', .str ⟨#[n]⟩, ?_, .refl q2, .str _⟩
      rw [List.getElem?_map, Array.getElem?_toList, hn]
      rfl
    | _ => simp only [h1] at p; exact p.elim
/-- ranges -/
def rngD (lo : Int) (n : Nat) : List PyData := (List.range n).map fun i => .int (lo + (i : Nat))
def rngC (lo st : Int) (n : Nat) : List PyData := (List.range n).map fun i => .int (lo + (i : Nat) * st)
def in62 (i : Int) : Bool := decide (-4611686018427387904 ≤ i) && decide (i < 4611686018427387904)
theorem in62_of {i : Int} (h : in62 i = true) : -(2 ^ 62) ≤ i ∧ i < 2 ^ 62 := by
  unfold in62 at h
  simp only [Bool.and_eq_true, decide_eq_true_eq] at h
  omega
def iRg1 (d : Env → RV) : Env → RI := fun e => match vArgs [d] e with
  | .ok [.int j] e1 w => if in62 j then .ok (rngD 0 j.toNat) e1 w else .no
  | .ok _ _ _ => .no
  | .er C fs e1 => .er C fs e1
  | .no => .no
def iRg2 (d1 d2 : Env → RV) : Env → RI := fun e => match vArgs [d1, d2] e with
  | .ok [.int i, .int j] e1 w => if in62 i && in62 j then .ok (rngD i (j - i).toNat) e1 w else .no
  | .ok _ _ _ => .no
  | .er C fs e1 => .er C fs e1
  | .no => .no
def iRg3 (d1 d2 d3 : Env → RV) : Env → RI := fun e => match vArgs [d1, d2, d3] e with
  | .ok [.int i, .int j, .int st] e1 w => if decide (st ≠ 0) && decide (st.natAbs < 1073741824) && Builtin.Range.small i j st && decide (0 ≤ Builtin.Range.rangeSize i j st) then .ok (rngC i st (Builtin.Range.rangeSize i j st).toNat) e1 w else .no
  | .ok _ _ _ => .no
  | .er C fs e1 => .er C fs e1
  | .no => .no
theorem walkD_fn {K : PySem.W.Frag} {R : Hp} {J : It} {n : Nat} {f : Nat → Int} (w : Walk J n (fun _ => True) (YFn fun i => .int (f i))) : WalkD K R J ((List.range n).map fun i => .int (f i)) := by
  refine ⟨_, _, by rw [List.length_map, List.length_range]; exact w, fun _ _ _ _ => trivial, fun i R' H' v H2 s1 s2 hi y => ?_⟩
  obtain ⟨rfl, rfl⟩ := y
  refine ⟨R', .int (f i), ?_, .refl s2, .int _⟩
  rw [List.length_map, List.length_range] at hi
  rw [List.getElem?_map, List.getElem?_range hi]
  rfl
section
variable {X : Cx} {c : Ctx} {tg a b a3 : Expr} {d d1 d2 d3 : Env → RV} {p pos : Pos}
theorem dpa_one {K : PySem.W.Frag} {R : Hp} {vs : List V} {i : Int} (h : DpAll K R vs [.int i]) : vs = [.int i] := by
  cases h with
  | cons h1 h2 => cases h1; cases h2; rfl
theorem dpa_ints : ∀ {K : PySem.W.Frag} {R : Hp} {vs : List V} {ns : List Int}, DpAll K R vs (ns.map PyData.int) → vs = ns.map V.int
  | _, _, _, [], h => by cases h; rfl
  | _, _, _, n :: ns, h => by
    cases h with
    | cons h1 h2 =>
      cases h1
      rw [dpa_ints h2]
      rfl
theorem ie_rg1 (hg : Gl X "range") (hm : X.mg "range" = none) (ha : PA X [a] (tA c [d])) (hs : starEach [a] X.env = [(false, eval a X.env)] := by rfl) : PI X tg (.Call (.Name "range" p) [a] [] pos) (tI c (iRg1 d)) := by
  refine PI.imp (pi_range1 hg hm ha hs) fun σ H Q ⟨e, R, F, s, p⟩ => ⟨e, R, F, s, ?_⟩
  unfold iRg1 at p
  generalize vArgs [d] e = r at p ⊢
  split at p
  · intro R1 H1 F1 vs s1 dp ex hw
    split at p
    · rename_i h
      have l := in62_of h
      exact ⟨_, dpa_ints (ns := [_]) dp, l.1, l.2, p R1 H1 F1 _ s1 (walkD_fn (f := fun i => (0 : Int) + i) walk_range) ex hw⟩
    · exact p.elim
  · exact p.elim
  · exact p
  · exact p
theorem ie_rg2 (hg : Gl X "range") (hm : X.mg "range" = none) (ha : PA X [a, b] (tA c [d1, d2])) (hs : starEach [a, b] X.env = [(false, eval a X.env), (false, eval b X.env)] := by rfl) (hs2 : starEach [b] X.env = [(false, eval b X.env)] := by rfl) :
    PI X tg (.Call (.Name "range" p) [a, b] [] pos) (tI c (iRg2 d1 d2)) := by
  refine PI.imp (pi_range2 hg hm ha hs hs2) fun σ H Q ⟨e, R, F, s, p⟩ => ⟨e, R, F, s, ?_⟩
  unfold iRg2 at p
  generalize vArgs [d1, d2] e = r at p ⊢
  split at p
  · intro R1 H1 F1 vs s1 dp ex hw
    split at p
    · rename_i i j _ _ h
      rw [Bool.and_eq_true] at h
      have l1 := in62_of h.1
      have l2 := in62_of h.2
      exact ⟨_, _, dpa_ints (ns := [_, _]) dp, ⟨l1.1, l1.2, l2.1, l2.2⟩, p R1 H1 F1 _ s1 (walkD_fn walk_range) ex hw⟩
    · exact p.elim
  · exact p.elim
  · exact p
  · exact p
theorem ie_rg3 (hg : Gl X "range") (hm : X.mg "range" = none) (ha : PA X [a, b, a3] (tA c [d1, d2, d3])) (hs : starEach [a, b, a3] X.env = (false, eval a X.env) :: starEach [b, a3] X.env := by rfl) (hpl : (backTo pos (starEach [b, a3] X.env)).any (·.1) = false := by rfl) :
    PI X tg (.Call (.Name "range" p) [a, b, a3] [] pos) (tI c (iRg3 d1 d2 d3)) := by
  refine PI.imp (pi_range3 hg hm ha hs hpl) fun σ H Q ⟨e, R, F, s, p⟩ => ⟨e, R, F, s, ?_⟩
  unfold iRg3 at p
  generalize vArgs [d1, d2, d3] e = r at p ⊢
  split at p
  · intro R1 H1 F1 vs s1 dp ex hw
    split at p
    · rename_i h
      simp only [Bool.and_eq_true, decide_eq_true_eq] at h
      exact ⟨_, _, _, _, dpa_ints (ns := [_, _, _]) dp, ⟨h.1.1.1, h.1.1.2, h.1.2, (Int.toNat_of_nonneg h.2).symm⟩, p R1 H1 F1 _ s1 (walkD_fn walk_rangeC) ex hw⟩
    · exact p.elim
  · exact p.elim
  · exact p
  · exact p
/-- enumerate, zip, reversed of lists -/
def enumD : Nat → List PyData → List PyData
  | _, [] => []
  | k, x :: r => .tuple [.int (k : Nat), x] :: enumD (k + 1) r
theorem enumD_len : ∀ (k : Nat) (xs : List PyData), (enumD k xs).length = xs.length
  | _, [] => rfl
  | k, x :: r => by rw [enumD, List.length_cons, List.length_cons, enumD_len]
theorem enumD_get : ∀ (k : Nat) (xs : List PyData) (i : Nat) (x : PyData), xs[i]? = some x → (enumD k xs)[i]? = some (.tuple [.int ((k + i : Nat) : Int), x])
  | _, [], _, _, h => by simp at h
  | k, y :: r, 0, x, h => by simp at h; subst h; rfl
  | k, y :: r, i + 1, x, h => by
    rw [enumD, List.getElem?_cons_succ, enumD_get (k + 1) r i x (by simpa using h), show k + 1 + i = k + (i + 1) by omega]
def iEn (d : Env → RV) : Env → RI := fun e => match d e with
  | .ok (.list xs) false e1 w => .ok (enumD 0 xs) e1 w
  | .ok _ _ _ _ => .no
  | .er C fs e1 => .er C fs e1
  | .no => .no
theorem ie_enum {tpos : Pos} {elts : List Expr} {kk : Nat} (hg : Gl X "enumerate") (hm : X.mg "enumerate" = none) (ha : PA X [a] (tCons (tV c d) tNil)) (hK : X.K = c.K := by rfl) (hs : starEach [a] X.env = [(false, eval a X.env)] := by rfl) :
    PI X (.Tuple elts kk tpos) (.Call (.Name "enumerate" p) [a] [] pos) (tI c (iEn d)) := by
  refine PI.imp (pi_enum hg hm ha hs) fun σ H Q ⟨e, R, F, s, p⟩ => ⟨e, R, F, s, ?_⟩
  rw [hK]
  unfold iEn at p
  cases h1 : d e with
  | no => simp only [h1] at p; exact p
  | er C fs e1 => simp only [h1] at p; exact p
  | ok x b e1 w =>
    intro R1 H1 F1 v s1 sd ex hw
    cases b with
    | true => cases x <;> (simp only [h1] at p; exact p.elim)
    | false =>
      cases x with
      | list ds =>
        simp only [h1] at p
        cases sd with
        | lst hs ha =>
          refine ⟨_, _, rfl, s1.rh.seq hs, p R1 H1 F1 _ s1 ⟨_, _, by rw [enumD_len, ← dpa_len ha]; exact walk_enum, fun R' H' q1 q2 => (q1.trans q2).seq hs, fun i R' H' v H2 q1 q2 hi y => ?_⟩ ex hw⟩
          obtain ⟨T, x, z, rfl, hT, rfl, h2, h3⟩ := y
          cases h2
          obtain ⟨dz, h4, h5⟩ := dpa_get' ha h3
          have g := Gr.new (R := R') (o := .tup [.int (i : Nat), z]) q2 hT
          refine ⟨_, _, enumD_get 0 ds i dz h4, g, .tup (.of upd_same) ?_⟩
          rw [Nat.zero_add]
          exact .cons (.int _) (.cons (dp_up (q1.trans g.rr) _ _ h5) .nil)
      | _ => simp only [h1] at p; exact p.elim
def zipD : List PyData → List PyData → List PyData
  | x :: xs, y :: ys => .tuple [x, y] :: zipD xs ys
  | _, _ => []
theorem zipD_len : ∀ (xs ys : List PyData), (zipD xs ys).length = min xs.length ys.length
  | x :: xs, y :: ys => by rw [zipD, List.length_cons, zipD_len, List.length_cons, List.length_cons]; omega
  | [], _ => by simp [zipD]
  | _ :: _, [] => by simp [zipD]
theorem zipD_get : ∀ (xs ys : List PyData) (i : Nat) (x y : PyData), xs[i]? = some x → ys[i]? = some y → (zipD xs ys)[i]? = some (.tuple [x, y])
  | [], _, _, _, _, h, _ => by simp at h
  | _ :: _, [], _, _, _, _, h => by simp at h
  | x0 :: xs, y0 :: ys, 0, x, y, h, h' => by simp at h h'; subst h h'; rfl
  | x0 :: xs, y0 :: ys, i + 1, x, y, h, h' => by
    rw [zipD, List.getElem?_cons_succ, zipD_get xs ys i x y (by simpa using h) (by simpa using h')]
def iZp (d1 d2 : Env → RV) : Env → RI := fun e => match vArgs [d1, d2] e with
  | .ok [.list xs, .list ys] e1 w => .ok (zipD xs ys) e1 w
  | .ok _ _ _ => .no
  | .er C fs e1 => .er C fs e1
  | .no => .no
theorem ie_zip {tpos : Pos} {elts : List Expr} {kk : Nat} (hg : Gl X "zip") (hm : X.mg "zip" = none) (ha : PA X [a, b] (tA c [d1, d2])) (hK : X.K = c.K := by rfl) (hs : starEach [a, b] X.env = (false, eval a X.env) :: starEach [b] X.env := by rfl) (hpl : (backTo pos (starEach [b] X.env)).any (·.1) = false := by rfl) :
    PI X (.Tuple elts kk tpos) (.Call (.Name "zip" p) [a, b] [] pos) (tI c (iZp d1 d2)) := by
  refine PI.imp (pi_zip hg hm ha hs hpl) fun σ H Q ⟨e, R, F, s, p⟩ => ⟨e, R, F, s, ?_⟩
  rw [hK]
  unfold iZp at p
  generalize vArgs [d1, d2] e = r at p ⊢
  split at p
  · intro R1 H1 F1 vs s1 dp ex hw
    cases dp with
    | cons dx dr =>
      cases dr with
      | cons dy dn =>
        cases dn
        cases dx with
        | lst hs ha =>
          cases dy with
          | lst hs' ha' =>
            refine ⟨_, _, _, _, rfl, s1.rh.seq hs, s1.rh.seq hs', p R1 H1 F1 _ s1 ⟨_, _, walk_zip (by rw [zipD_len, dpa_len ha, dpa_len ha']), fun R' H' q1 q2 => ⟨(q1.trans q2).seq hs, (q1.trans q2).seq hs'⟩, fun i R' H' v H2 q1 q2 hi y => ?_⟩ ex hw⟩
            obtain ⟨T, x, z, rfl, hT, rfl, h2, h3⟩ := y
            obtain ⟨dx', h4, h5⟩ := dpa_get' ha h2
            obtain ⟨dz', h6, h7⟩ := dpa_get' ha' h3
            have g := Gr.new (R := R') (o := .tup [x, z]) q2 hT
            exact ⟨_, _, zipD_get _ _ i dx' dz' h4 h6, g, .tup (.of upd_same) (.cons (dp_up (q1.trans g.rr) _ _ h5) (.cons (dp_up (q1.trans g.rr) _ _ h7) .nil))⟩
  · exact p.elim
  · exact p
  · exact p
def iRv (d : Env → RV) : Env → RI := fun e => match d e with
  | .ok (.list xs) false e1 w => .ok xs.reverse e1 w
  | .ok _ _ _ _ => .no
  | .er C fs e1 => .er C fs e1
  | .no => .no
theorem ie_rev (hg : Gl X "reversed") (hm : X.mg "reversed" = none) (ha : PA X [a] (tCons (tV c d) tNil)) (hK : X.K = c.K := by rfl) (hs : starEach [a] X.env = [(false, eval a X.env)] := by rfl) : PI X tg (.Call (.Name "reversed" p) [a] [] pos) (tI c (iRv d)) := by
  refine PI.imp (pi_reversed hg hm ha hs) fun σ H Q ⟨e, R, F, s, p⟩ => ⟨e, R, F, s, ?_⟩
  rw [hK]
  unfold iRv at p
  cases h1 : d e with
  | no => simp only [h1] at p; exact p
  | er C fs e1 => simp only [h1] at p; exact p
  | ok x b e1 w =>
    intro R1 H1 F1 v s1 sd ex hw
    cases b with
    | true => cases x <;> (simp only [h1] at p; exact p.elim)
    | false =>
      cases x with
      | list ds =>
        simp only [h1] at p
        cases sd with
        | lst hs ha =>
          refine ⟨_, _, rfl, s1.rh.seq hs, p R1 H1 F1 _ s1 ⟨_, _, by rw [List.length_reverse, ← dpa_len ha]; exact walk_rev, fun R' H' q1 q2 => (q1.trans q2).seq hs, fun i R' H' v H2 q1 q2 hi y => ?_⟩ ex hw⟩
          obtain ⟨rfl, hv⟩ := y
          obtain ⟨dx', h4, h5⟩ := dpa_get' ha hv
          rw [List.length_reverse] at hi
          refine ⟨R', dx', ?_, .refl q2, dp_up q1 _ _ h5⟩
          rw [List.getElem?_reverse hi, ← dpa_len ha]
          exact h4
      | _ => simp only [h1] at p; exact p.elim
end
end Dn
namespace Dn
open PySem PySem.Spec PyProof.Rows L2
/-! ## statements -/
def sNil : Env → Out := fun e => .nx e
def sSeq (d1 d2 : Env → Out) : Env → Out := fun e => match d1 e with
  | .nx e1 => d2 e1
  | o => o
/-- name = e -/
def sSet (i : Nat) (d : Env → Res) : Env → Out := fun e => match d e with
  | .ok (.v x) e1 _ => .nx (e1.set i (some (.d x)))
  | .ok (.t t) e1 _ => .nx (e1.set i (some t))
  | .ok _ _ _ => .no
  | .er C fs e1 => .er C fs e1
  | .no => .no
/-- name = e, data -/
def sSetV (i : Nat) (d : Env → RV) : Env → Out := fun e => match d e with
  | .ok x false e1 _ => .nx (e1.set i (some (.d x)))
  | .ok _ true _ _ => .no
  | .er C fs e1 => .er C fs e1
  | .no => .no
/-- target = e, data -/
def sAsg (tg : PyData → Env → Option Env) (d : Env → RV) : Env → Out := fun e => match d e with
  | .ok x false e1 _ => match tg x e1 with
    | some e2 => .nx e2
    | none => .no
  | .ok _ true _ _ => .no
  | .er C fs e1 => .er C fs e1
  | .no => .no
def sExp (d : Env → RV) : Env → Out := fun e => match d e with
  | .ok _ _ e1 _ => .nx e1
  | .er C fs e1 => .er C fs e1
  | .no => .no
def sExpD (d : Env → Res) : Env → Out := fun e => match d e with
  | .ok _ e1 _ => .nx e1
  | .er C fs e1 => .er C fs e1
  | .no => .no
def sRet (d : Env → Res) : Env → Out := fun e => match d e with
  | .ok r e1 _ => .rt r e1
  | .er C fs e1 => .er C fs e1
  | .no => .no
def sRetV (d : Env → RV) : Env → Out := fun e => match d e with
  | .ok x false e1 _ => .rt (.v x) e1
  | .ok _ true _ _ => .no
  | .er C fs e1 => .er C fs e1
  | .no => .no
def sRetN : Env → Out := fun e => .rt (.v .none) e
def sIf (t : Env → RV) (d1 d2 : Env → Out) : Env → Out := fun e => match t e with
  | .ok (.bool true) _ e1 _ => d1 e1
  | .ok (.bool false) _ e1 _ => d2 e1
  | .ok _ _ _ _ => .no
  | .er C fs e1 => .er C fs e1
  | .no => .no
def sBrk : Env → Out := fun e => .bk e
def sCnt : Env → Out := fun e => .ct e
section
variable {X : Cx} {c : Ctx} {d d1 d2 : Env → Out} {dv t : Env → RV} {dd : Env → Res} {st : Stmt} {sts : List Stmt} {a : Expr} {pos pos' : Pos}
theorem ss_nil : PSs X [] (tS c sNil) := PSs.imp pss_nil fun D σ H ⟨e, R, F, s, p⟩ => p σ R H F s .refl
theorem sSeq_ok {D : Ends} {σ : L2.St} {H : Hp} (h : tS c (sSeq d1 d2) D σ H) : tS c d1 { D with nx := tS c d2 D } σ H := by
  obtain ⟨e, R, F, s, p⟩ := h
  refine ⟨e, R, F, s, ?_⟩
  unfold sSeq at p
  cases h1 : d1 e with
  | nx e1 =>
    simp only [h1] at p
    exact fun σ' R' H' F' s' ex => ⟨e1, R', F', s', PostS.mono ex p⟩
  | rt r e1 => simp only [h1] at p; exact p
  | bk e1 => simp only [h1] at p; exact p
  | ct e1 => simp only [h1] at p; exact p
  | er C fs e1 => simp only [h1] at p; exact p
  | no => simp only [h1] at p; exact p
theorem ss_cons (h1 : PS X st (tS c d1)) (h2 : PSs X sts (tS c d2)) : PSs X (st :: sts) (tS c (sSeq d1 d2)) := PSs.imp (pss_cons h1 h2) fun D σ H h => sSeq_ok h
theorem ss_one (h1 : PS X st (tS c d1)) : PSs X [st] (tS c d1) := pss_one h1
theorem se_pass : PS X (.Pass pos) (tS c sNil) := PS.imp ps_pass fun D σ H ⟨e, R, F, s, p⟩ => p σ R H F s .refl
theorem se_break : PS X (.Break pos) (tS c sBrk) := PS.imp ps_break fun D σ H ⟨e, R, F, s, p⟩ => p σ R H F s .refl
theorem se_cont : PS X (.Continue pos) (tS c sCnt) := PS.imp ps_continue fun D σ H ⟨e, R, F, s, p⟩ => p σ R H F s .refl
theorem se_retN : PS X (.Return none pos) (tS c sRetN) := PS.imp ps_retN fun D σ H ⟨e, R, F, s, p⟩ => p σ R H F [] .non s ⟨rfl, .non⟩ (by simpa using s.nd) (by simp) (by simpa using Ex.refl)
theorem se_ret (h : PE X a (tD c dd)) : PS X (.Return (some a) pos) (tS c (sRet dd)) := by
  refine PS.imp (ps_ret h) fun D σ H ⟨e, R, F, s, p⟩ => ⟨e, R, F, s, ?_⟩
  unfold sRet at p
  cases h1 : dd e with
  | no => simp only [h1] at p; exact p
  | er C fs e1 =>
    simp only [h1] at p
    exact fun R' H' F' x s' rx ex => p σ R' H' F' x s' rx ex
  | ok r e1 w =>
    simp only [h1] at p
    exact fun R' H' F' G v s' rw nd rf ex _ => p σ R' H' F' G v s' rw nd rf ex
theorem se_retV (h : PE X a (tV c dv)) : PS X (.Return (some a) pos) (tS c (sRetV dv)) := by
  refine PS.imp (ps_ret h) fun D σ H ⟨e, R, F, s, p⟩ => ⟨e, R, F, s, ?_⟩
  unfold sRetV at p
  cases h1 : dv e with
  | no => simp only [h1] at p; exact p
  | er C fs e1 =>
    simp only [h1] at p
    exact fun R' H' F' x s' rx ex => p σ R' H' F' x s' rx ex
  | ok x b e1 w =>
    cases b with
    | true => simp only [h1] at p; exact p.elim
    | false =>
      simp only [h1] at p
      exact fun R' H' F' v s' sd ex _ => p σ R' H' F' [] v s' ⟨rfl, sd⟩ (by simpa using s'.nd) (by simp) (by simpa using ex)
theorem se_exp (h : PE X a (tV c dv)) (hs : swapsWith a none pos.line X.env = pure false := by rfl) : PS X (.Expr a pos) (tS c (sExp dv)) := by
  refine PS.imp (ps_expr h hs) fun D σ H ⟨e, R, F, s, p⟩ => ⟨e, R, F, s, ?_⟩
  unfold sExp at p
  cases h1 : dv e with
  | no => simp only [h1] at p; exact p
  | er C fs e1 =>
    simp only [h1] at p
    exact fun R' H' F' x s' rx ex => p σ R' H' F' x s' rx ex
  | ok x b e1 w =>
    simp only [h1] at p
    exact fun R' H' F' v s' sd ex _ => p σ R' H' F' s' ex
theorem se_expD (h : PE X a (tD c dd)) (hs : swapsWith a none pos.line X.env = pure false := by rfl) : PS X (.Expr a pos) (tS c (sExpD dd)) := by
  refine PS.imp (ps_expr h hs) fun D σ H ⟨e, R, F, s, p⟩ => ⟨e, R, F, s, ?_⟩
  unfold sExpD at p
  cases h1 : dd e with
  | no => simp only [h1] at p; exact p
  | er C fs e1 =>
    simp only [h1] at p
    exact fun R' H' F' x s' rx ex => p σ R' H' F' x s' rx ex
  | ok x e1 w =>
    simp only [h1] at p
    exact fun R' H' F' G v s' rw nd rf ex _ => p σ R' H' F' s' (ex.mono fun a ha => List.mem_append_left _ ha)
theorem se_if {b1 b2 : List Stmt} (ht : PT X a (tT c t)) (h1 : PSs X b1 (tS c d1)) (h2 : PSs X b2 (tS c d2)) : PS X (.If a b1 b2 pos) (tS c (sIf t d1 d2)) := by
  refine PS.imp (ps_if ht h1 h2) fun D σ H ⟨e, R, F, s, p⟩ => ⟨e, R, F, s, ?_⟩
  unfold sIf at p
  cases h1 : t e with
  | no => simp only [h1] at p; exact p
  | er C fs e1 =>
    simp only [h1] at p
    exact fun R' H' F' x s' rx ex => p σ R' H' F' x s' rx ex
  | ok x b e1 w =>
    intro R' H' F' v s' sd ex _
    cases x with
    | bool y =>
      refine ⟨y, sd_bool sd, ?_⟩
      cases y with
      | true =>
        simp only [h1] at p
        exact iteT ⟨e1, R', F', s', PostS.mono ex p⟩
      | false =>
        simp only [h1] at p
        exact iteF ⟨e1, R', F', s', PostS.mono ex p⟩
    | _ => simp only [h1] at p; exact p.elim
theorem sSet_ok {i : Nat} (hp : NoPin c.pn i) {D : Ends} {σ : L2.St} {H : Hp} (h : tS c (sSet i dd) D σ H) : tAsg (tD c dd) (gName i) D σ H := by
  obtain ⟨e, R, F, s, p⟩ := h
  refine ⟨e, R, F, s, ?_⟩
  unfold sSet at p
  cases h1 : dd e with
  | no => simp only [h1] at p; exact p
  | er C fs e1 =>
    simp only [h1] at p
    exact fun R' H' F' x s' rx ex => p σ R' H' F' x s' rx ex
  | ok r e1 w =>
    intro R' H' F' G v s' rw nd rf ex _
    cases r with
    | v x =>
      simp only [h1] at p
      obtain ⟨rfl, rw⟩ := rw
      obtain ⟨F2, s2, f2⟩ := sr_set (i := i) s' (show Rp c.K R' H' (.d x) v [] from ⟨rfl, rw⟩) nd rf hp
      exact p _ R' H' F2 s2 (ex.mono f2)
    | t t =>
      simp only [h1] at p
      obtain ⟨F2, s2, f2⟩ := sr_set (i := i) s' rw nd rf hp
      exact p _ R' H' F2 s2 (ex.mono f2)
    | p j q => simp only [h1] at p; exact p.elim
    | b ds => simp only [h1] at p; exact p.elim
theorem se_set {i : Nat} {x : Str} (hN : X.N.Nodup) (hi : X.N[i]? = some x) (hx : Loc X.env.scope x) (h : PE X a (tD c dd)) (hp : NoPin c.pn i := by rfl) (hs : swapsWith a (some (.Name x pos')) pos.line X.env = pure false := by rfl) (hf : X.fn x = true ∨ X.env.scope.names.lookup x = some .local := by first | exact .inl rfl | exact .inr rfl | assumption) :
    PS X (.Assign [.Name x pos'] a pos) (tS c (sSet i dd)) := PS.imp (ps_set hN hi hx h hs hf) fun D σ H h => sSet_ok hp h
theorem sSetV_ok {i : Nat} (hp : NoPin c.pn i) {D : Ends} {σ : L2.St} {H : Hp} (h : tS c (sSetV i dv) D σ H) : tAsg (tV c dv) (gName i) D σ H := by
  obtain ⟨e, R, F, s, p⟩ := h
  refine ⟨e, R, F, s, ?_⟩
  unfold sSetV at p
  cases h1 : dv e with
  | no => simp only [h1] at p; exact p
  | er C fs e1 =>
    simp only [h1] at p
    exact fun R' H' F' x s' rx ex => p σ R' H' F' x s' rx ex
  | ok x b e1 w =>
    cases b with
    | true => simp only [h1] at p; exact p.elim
    | false =>
      simp only [h1] at p
      intro R' H' F' v s' sd ex _
      obtain ⟨F2, s2, f2⟩ := sr_set (i := i) s' (show Rp c.K R' H' (.d x) v [] from ⟨rfl, sd⟩) (by simpa using s'.nd) (by simp) hp
      exact p _ R' H' F2 s2 (ex.mono fun a ha => by simpa using f2 a ha)
theorem se_setV {i : Nat} {x : Str} (hN : X.N.Nodup) (hi : X.N[i]? = some x) (hx : Loc X.env.scope x) (h : PE X a (tV c dv)) (hp : NoPin c.pn i := by rfl) (hs : swapsWith a (some (.Name x pos')) pos.line X.env = pure false := by rfl) (hf : X.fn x = true ∨ X.env.scope.names.lookup x = some .local := by first | exact .inl rfl | exact .inr rfl | assumption) :
    PS X (.Assign [.Name x pos'] a pos) (tS c (sSetV i dv)) := PS.imp (ps_set hN hi hx h hs hf) fun D σ H h => sSetV_ok hp h
theorem sAsg_ok {is : List Nat} {g : TG} {tg : PyData → Env → Option Env} (hg : TgOk c is g tg) {D : Ends} {σ : L2.St} {H : Hp} (h : tS c (sAsg tg dv) D σ H) : tAsg (tV c dv) g D σ H := by
  obtain ⟨e, R, F, s, p⟩ := h
  refine ⟨e, R, F, s, ?_⟩
  unfold sAsg at p
  cases h1 : dv e with
  | no => simp only [h1] at p; exact p
  | er C fs e1 =>
    simp only [h1] at p
    exact fun R' H' F' x s' rx ex => p σ R' H' F' x s' rx ex
  | ok x b e1 w =>
    cases b with
    | true => simp only [h1] at p; exact p.elim
    | false =>
      simp only [h1] at p
      intro R' H' F' v s' sd ex _
      cases h2 : tg x e1 with
      | none => simp only [h2] at p; exact p.elim
      | some e2 =>
        simp only [h2] at p
        exact hg R' H' e1 σ F' v x e2 _ s' sd h2 fun σ2 F2 s2 f2 _ => p σ2 R' H' F2 s2 (ex.mono f2)
theorem se_asg {is : List Nat} {g : TG} {tg : PyData → Env → Option Env} {tgt : Expr} (h : PE X a (tV c dv)) (hg : PG X tgt g) (ht : TgOk c is g tg) (hs : swapsWithSole [tgt] a pos.line X.env = pure false := by rfl) (hw : swappedStores [tgt] a X.env = pure none := by rfl)
    (h1 : (assignEach [tgt] X.env).map (·.2) = [assign tgt X.env] := by rfl) : PS X (.Assign [tgt] a pos) (tS c (sAsg tg dv)) := PS.imp (ps_asg h hg hs hw h1) fun D σ H h => sAsg_ok ht h
end
/-! ## for -/
def forL (bd : PyData → Env → Out) : List PyData → Env → Out
  | [], e => .nx e
  | x :: r, e => match bd x e with
    | .nx e1 => forL bd r e1
    | .ct e1 => forL bd r e1
    | .bk e1 => .nx e1
    | o => o
def bdy (tg : PyData → Env → Option Env) (b : Env → Out) : PyData → Env → Out := fun x e => match tg x e with
  | some e1 => b e1
  | none => .no
def sFor (di : Env → RI) (tg : PyData → Env → Option Env) (b : Env → Out) : Env → Out := fun e => match di e with
  | .ok xs e1 _ => forL (bdy tg b) xs e1
  | .er C fs e1 => .er C fs e1
  | .no => .no
theorem se_for {X : Cx} {c : Ctx} {iter tgt : Expr} {body : List Stmt} {pos : Pos} {is : List Nat} {g : TG} {tg : PyData → Env → Option Env} {di : Env → RI} {b : Env → Out} (hp : PassesOwn (model X.prog X.w) X.A X.env X.xe) (hc : X.calm = true) (hi : PI X tgt iter (tI c di))
    (hg : PG X tgt g) (ht : TgOk c is g tg) (hb : PSs X body (tS c b)) (hs : ∀ x, foldedSetIterable iter X.env x = pure x := by intro _; rfl) : PS X (.For tgt iter body [] pos) (tS c (sFor di tg b)) := by
  refine PS.imp (ps_for hp hc hi hg hb hs) fun D σ H ⟨e, R, F, s, p⟩ => ⟨e, R, F, s, ?_⟩
  unfold sFor at p
  cases h1 : di e with
  | no => simp only [h1] at p; exact p
  | er C fs e1 =>
    simp only [h1] at p
    exact fun R' H' F' x s' rx ex => p σ R' H' F' x s' rx ex
  | ok xs e1 w =>
    simp only [h1] at p
    intro R1 H1 F1 J s1 ⟨G, Y, wk, hG, hY⟩ ex hw
    refine for_it wk (fun i σ H => ∃ (R' : Hp) (F' : List Addr) (e' : Env), Sr c R' H e' σ F' ∧ Same R1 R' ∧ PostS c R' H F' D (forL (bdy tg b) (xs.drop i) e')) ⟨R1, F1, e1, s1, Same.refl _, by rw [List.drop_zero]; exact PostS.mono ex p⟩ (fun i σ H _ ⟨R', F', e', s', sm, _⟩ => hG R' H sm s'.rh) ?_ ?_
    · rintro i v σ2 H2 H3 hi ⟨R', F', e', s', sm, p'⟩ y
      obtain ⟨R3, x, hx, gr, dp⟩ := hY i R' H2 v H3 sm s'.rh hi y
      have hd : xs.drop i = x :: xs.drop (i + 1) := by
        obtain ⟨hl, hx'⟩ := List.getElem?_eq_some_iff.mp hx
        rw [List.drop_eq_getElem_cons hl, hx']
      rw [hd] at p'
      unfold forL bdy at p'
      cases h2 : tg x e' with
      | none => simp only [h2] at p'; exact p'.elim
      | some e2 =>
        simp only [h2] at p'
        refine ht R3 H3 e' σ2 F' v x e2 _ (gr.sr s') dp h2 fun σ3 F3 s3 f3 _ => ⟨e2, R3, F3, s3, ?_⟩
        have ex3 : Ex R' H2 F' R3 H3 F3 := gr.ex.mono f3
        have go : ∀ {e3 : Env}, PostS c R' H2 F' D (forL (bdy tg b) (xs.drop (i + 1)) e3) → ∀ σ' R4 H4 F4, Sr c R4 H4 e3 σ' F4 → Ex R3 H3 F3 R4 H4 F4 → ∃ (R' : Hp) (F' : List Addr) (e' : Env), Sr c R' H4 e' σ' F' ∧ Same R1 R' ∧ PostS c R' H4 F' D (forL (bdy tg b) (xs.drop (i + 1)) e') :=
          fun {e3} q σ' R4 H4 F4 s4 ex4 => ⟨R4, F4, e3, s4, (sm.trans gr.rr).trans ex4.rr, PostS.mono (ex3.trans ex4) q⟩
        cases h3 : b e2 with
        | nx e3 => simp only [h3] at p'; exact go p'
        | ct e3 => simp only [h3] at p'; exact go p'
        | bk e3 => simp only [h3] at p'; exact fun σ' R4 H4 F4 s4 ex4 => p' σ' R4 H4 F4 s4 (ex3.trans ex4)
        | rt r e3 => simp only [h3] at p'; exact fun σ' R4 H4 F4 G4 v4 s4 rw4 nd4 rf4 ex4 => p' σ' R4 H4 F4 G4 v4 s4 rw4 nd4 rf4 (ex3.trans ex4)
        | er C fs e3 => simp only [h3] at p'; exact fun σ' R4 H4 F4 d4 s4 rx4 ex4 => p' σ' R4 H4 F4 d4 s4 rx4 (ex3.trans ex4)
        | no => simp only [h3] at p'; exact p'
    · rintro σ2 H2 ⟨R', F', e', s', sm, p'⟩
      rw [List.drop_length] at p'
      exact p' σ2 R' H2 F' s' .refl
/-! ## while -/
def sWh : Nat → (Env → RV) → (Env → Out) → Env → Out
  | 0, _, _, _ => .no
  | n + 1, t, b, e => match t e with
    | .ok (.bool true) _ e1 _ => match b e1 with
      | .nx e2 => sWh n t b e2
      | .ct e2 => sWh n t b e2
      | .bk e2 => .nx e2
      | o => o
    | .ok (.bool false) _ e1 _ => .nx e1
    | .ok _ _ _ _ => .no
    | .er C fs e1 => .er C fs e1
    | .no => .no
/-- some number of turns -/
def sWhile (n : Env → Nat) (t : Env → RV) (b : Env → Out) : Env → Out := fun e => sWh (n e) t b e
theorem se_while {X : Cx} {c : Ctx} {a : Expr} {body : List Stmt} {pos : Pos} {t : Env → RV} {b : Env → Out} {n : Env → Nat} (hp : PassesOwn (model X.prog X.w) X.A X.env X.xe) (ht : PT X a (tT c t)) (hb : PSs X body (tS c b)) : PS X (.While a body [] pos) (tS c (sWhile n t b)) := by
  refine PS.imp (ps_while hp ht hb) fun D σ H ⟨e, R, F, s, p⟩ => ?_
  refine ⟨fun m σ H => tS c (sWh m t b) D σ H, ⟨n e, e, R, F, s, p⟩, ?_⟩
  rintro m σ H ⟨e, R, F, s, p⟩
  cases m with
  | zero => exact p.elim
  | succ m =>
    refine ⟨e, R, F, s, ?_⟩
    unfold sWh at p
    cases h1 : t e with
    | no => simp only [h1] at p; exact p
    | er C fs e1 =>
      simp only [h1] at p
      exact fun R' H' F' x s' rx ex => p σ R' H' F' x s' rx ex
    | ok x w0 e1 w =>
      intro R1 H1 F1 v s1 sd ex hw
      cases x with
      | bool y =>
        refine ⟨y, sd_bool sd, ?_⟩
        cases y with
        | false =>
          simp only [h1] at p
          exact iteF (p σ R1 H1 F1 s1 ex)
        | true =>
          simp only [h1] at p
          refine iteT ⟨fun σ H => tS c (sWh m t b) D σ H, fun σ' H' q => ⟨m, Nat.lt_succ_self _, q⟩, e1, R1, F1, s1, ?_⟩
          cases h3 : b e1 with
          | nx e3 => simp only [h3] at p; exact fun σ' R4 H4 F4 s4 ex4 => ⟨e3, R4, F4, s4, PostS.mono (ex.trans ex4) p⟩
          | ct e3 => simp only [h3] at p; exact fun σ' R4 H4 F4 s4 ex4 => ⟨e3, R4, F4, s4, PostS.mono (ex.trans ex4) p⟩
          | bk e3 => simp only [h3] at p; exact fun σ' R4 H4 F4 s4 ex4 => p σ' R4 H4 F4 s4 (ex.trans ex4)
          | rt r e3 => simp only [h3] at p; exact fun σ' R4 H4 F4 G4 v4 s4 rw4 nd4 rf4 ex4 => p σ' R4 H4 F4 G4 v4 s4 rw4 nd4 rf4 (ex.trans ex4)
          | er C fs e3 => simp only [h3] at p; exact fun σ' R4 H4 F4 d4 s4 rx4 ex4 => p σ' R4 H4 F4 d4 s4 rx4 (ex.trans ex4)
          | no => simp only [h3] at p; exact p.elim
      | _ => simp only [h1] at p; exact p.elim
/-! ## list comprehensions -/
def lcG (tg : PyData → Env → Option Env) (tt : Env → RV) (el : Env → RV) (e0 : Env) : List PyData → Option (List PyData)
  | [] => some []
  | x :: r => match tg x e0 with
    | some e1 => match tt e1 with
      | .ok (.bool true) _ e2 false => match el e2 with
        | .ok y false _ false => (lcG tg tt el e0 r).map (y :: ·)
        | _ => none
      | .ok (.bool false) _ _ false => lcG tg tt el e0 r
      | _ => none
    | none => none
def wipeE (e : Env) : List Nat → Env
  | [] => e
  | v :: vs => (wipeE e vs).set v none
def dLc (di : Env → RI) (vs : List Nat) (tg : PyData → Env → Option Env) (tt : Env → RV) (el : Env → RV) : Env → Res := fun e => match di e with
  | .ok xs e1 w => if xs.length < SZ then match lcG tg tt el (wipeE e1 vs) xs with
      | some ys => .ok (.t (.l (ys.map T.d))) e1 w
      | none => .no
    else .no
  | .er C fs e1 => .er C fs e1
  | .no => .no
theorem rps_wipe {K : PySem.W.Frag} {R H : Hp} {e : Env} {σ : L2.St} : ∀ (vs : List Nat) {F : List Addr}, RpS K R H e σ F → ∃ F1 F2, F.Perm (F1 ++ F2) ∧ RpS K R H (wipeE e vs) (wipe σ vs) F2
  | [], F, h => ⟨[], F, .refl _, h⟩
  | v :: vs, F, h => by
    obtain ⟨F1, F2, p, q⟩ := rps_wipe vs h
    obtain ⟨G1, G2, p', q'⟩ := rps_del (o := none) v q
    refine ⟨F1 ++ G1, G2, p.trans ?_, q'⟩
    rw [List.append_assoc]
    exact List.Perm.append_left F1 p'
theorem wipe_get {σ : L2.St} : ∀ (vs : List Nat) (i : Nat), (wipe σ vs)[i]? = if i ∈ vs then (σ[i]?).map (fun _ => none) else σ[i]?
  | [], i => by simp [wipe]
  | v :: vs, i => by
    unfold wipe
    rw [List.getElem?_set]
    by_cases h : v = i
    · subst h
      rw [if_pos rfl, if_pos List.mem_cons_self, wipe_length]
      by_cases hl : v < σ.length
      · rw [if_pos hl, List.getElem?_eq_getElem hl]; rfl
      · rw [if_neg hl, List.getElem?_eq_none (by omega)]; rfl
    · rw [if_neg h, wipe_get vs i]
      by_cases h2 : i ∈ vs
      · rw [if_pos h2, if_pos (List.mem_cons_of_mem _ h2)]
      · rw [if_neg h2, if_neg (fun z => (List.mem_cons.mp z).elim (fun q => h q.symm) h2)]
theorem wipe_of {σ σ' : L2.St} {vs : List Nat} (h : TgR (wipe σ vs) σ' vs) : wipe σ' vs = wipe σ vs := by
  apply List.ext_getElem?
  intro i
  rw [wipe_get, wipe_get]
  by_cases hi : i ∈ vs
  · rw [if_pos hi, if_pos hi]
    have hl := h.len
    rw [wipe_length] at hl
    by_cases h2 : i < σ.length
    · rw [List.getElem?_eq_getElem h2, List.getElem?_eq_getElem (by omega)]; rfl
    · rw [List.getElem?_eq_none (by omega), List.getElem?_eq_none (by omega)]
  · rw [if_neg hi, if_neg hi, h.out i hi, wipe_get, if_neg hi]
def c0 (c : Ctx) : Ctx := ⟨c.K, c.cl, [], fun _ => True, fun _ _ _ _ => trivial, fun _ _ _ _ => False⟩
theorem noPin0 {c : Ctx} {i : Nat} : NoPin (c0 c).pn i := rfl
theorem lcG_len {tg : PyData → Env → Option Env} {tt el : Env → RV} {e0 : Env} : ∀ {xs ys : List PyData}, lcG tg tt el e0 xs = some ys → ys.length ≤ xs.length
  | [], ys, h => by cases (show some [] = some ys from h); exact Nat.le_refl _
  | x :: r, ys, h => by
    unfold lcG at h
    split at h
    · split at h
      · split at h
        · cases h2 : lcG tg tt el e0 r with
          | none => rw [h2] at h; cases h
          | some zs => rw [h2] at h; cases h; have := lcG_len h2; simp; omega
        · cases h
      · have := lcG_len h; simp; omega
      · cases h
    · cases h
theorem dLc_ok {c : Ctx} {vs : List Nat} {di : Env → RI} {g : TG} {tg : PyData → Env → Option Env} {tt el : Env → RV} {ttt : TT} (htg : TgOk (c0 c) vs g tg) (htt : ∀ σ H Q, tT (c0 c) tt σ H Q → ttt σ H Q) {σ : L2.St} {H : Hp} {Q : VK} (hh : tD c (dLc di vs tg tt el) σ H Q) : tLc (tI c di) g ttt (tV (c0 c) el) vs σ H Q := by
  obtain ⟨e, R, F, s, p⟩ := hh
  refine ⟨e, R, F, s, ?_⟩
  unfold dLc at p
  cases h1 : di e with
  | no => simp only [h1] at p; exact p
  | er C fs e1 => simp only [h1] at p; exact p
  | ok xs e1 w =>
    simp only [h1] at p
    intro R1 H1 F1 J s1 ⟨G, Y, wk, hG, hY⟩ ex hw D hD
    by_cases hl : xs.length < SZ
    · rw [if_pos hl] at p
      cases h2 : lcG tg tt el (wipeE e1 vs) xs with
      | none => simp only [h2] at p; exact p.elim
      | some ys =>
        simp only [h2] at p
        -- the state within the block
        obtain ⟨F0, F2, pm, sl2⟩ := rps_wipe vs s1.sl
        have sub2 : ∀ a ∈ F2, a ∈ F1 := fun a ha => pm.mem_iff.mpr (List.mem_append_right _ ha)
        have nd2 : F2.Nodup := (List.nodup_append.mp (pm.nodup_iff.mp s1.nd)).2.1
        refine lc_it wk (fun i H => ∃ (R' : Hp) (acc : List V) (done : List PyData), Gr R1 H1 R' (fun a => if a = D then none else H a) ∧ H D = some (.lst acc) ∧ DpAll c.K R' acc done ∧ done.length ≤ i ∧ ∃ rest, lcG tg tt el (wipeE e1 vs) (xs.drop i) = some rest ∧ ys = done ++ rest) ?_ ?_ ?_ ?_
        · refine ⟨R1, [], [], ?_, upd_same, .nil, Nat.le_refl _, ys, by rw [List.drop_zero]; exact h2, rfl⟩
          have e0 : (fun a => if a = D then none else upd H1 D (.lst []) a) = H1 := by
            funext a
            by_cases z : a = D
            · subst z; rw [if_pos rfl, hD]
            · rw [if_neg z, upd_ne z]
          rw [e0]
          exact .refl s1.rh
        · rintro i H' _ ⟨R', acc, done, gr, _⟩
          refine hG R' H' gr.rr fun a o h => ?_
          have := gr.rh a o h
          by_cases z : a = D
          · rw [if_pos z] at this; cases this
          · rw [if_neg z] at this; exact this
        · rintro i v H' H2 hi ⟨R', acc, done, gr, hacc, dacc, hdl, rest, hrest, hys⟩ y
          have rh' : Same R' H' := fun a o h => by
            have := gr.rh a o h
            by_cases z : a = D
            · rw [if_pos z] at this; cases this
            · rw [if_neg z] at this; exact this
          have hh' : Same H1 H' := fun a o h => by
            have := gr.hh a o h
            by_cases z : a = D
            · rw [if_pos z] at this; cases this
            · rw [if_neg z] at this; exact this
          have rD : R' D = none := by
            cases q : R' D with
            | none => rfl
            | some o => have := gr.rh D o q; rw [if_pos rfl] at this; cases this
          obtain ⟨R3, x, hx, gr3, dp⟩ := hY i R' H' v H2 gr.rr rh' hi y
          have hd : xs.drop i = x :: xs.drop (i + 1) := by
            obtain ⟨hl, hx'⟩ := List.getElem?_eq_some_iff.mp hx
            rw [List.drop_eq_getElem_cons hl, hx']
          rw [hd] at hrest
          unfold lcG at hrest
          have rD3 : R3 D = none := by
            cases q : R3 D with
            | none => rfl
            | some o =>
              rcases gr3.rn D (by rw [q]; exact fun z => by cases z) with z | z
              · exact absurd rD z
              · rw [hacc] at z; cases z
          have nF : ∀ a ∈ F2, R3 a = none := fun a ha => by
            have h1n := s1.rf a (sub2 a ha)
            cases q : R3 a with
            | none => rfl
            | some o =>
              exfalso
              have hdom := rps_dom _ _ _ sl2 a ha
              rcases gr3.rn a (by rw [q]; exact fun z => by cases z) with z | z
              · rcases gr.rn a z with z | z
                · exact z h1n
                · exact hdom z
              · cases q1 : H1 a with
                | none => exact hdom q1
                | some o1 => rw [hh' a o1 q1] at z; cases z
          have sB : Sr (c0 c) R3 H2 (wipeE e1 vs) (wipe σ vs) F2 := ⟨rps_up (gr.rr.trans gr3.rr) _ _ _ (fun a _ o h => gr3.hh a o (hh' a o h)) sl2, nd2, gr3.rh, nF, fun i v z => by simp [c0] at z, trivial⟩
          cases h3 : tg x (wipeE e1 vs) with
          | none => simp only [h3] at hrest; cases hrest
          | some e2 =>
            simp only [h3] at hrest
            refine htg R3 H2 _ _ F2 v x e2 _ sB dp h3 fun σ3 F3 s3 f3 t3 => ⟨wipe_of t3, htt _ _ _ ⟨e2, R3, F3, s3, ?_⟩⟩
            -- the state of the list so far, over a heap that has grown
            have keep : ∀ {R4 H4 : Hp}, Gr R3 H2 R4 H4 → Gr R1 H1 R4 (fun a => if a = D then none else H4 a) ∧ R4 D = none := fun {R4 H4} q => by
              have n4 : R4 D = none := by
                cases z : R4 D with
                | none => rfl
                | some o =>
                  rcases q.rn D (by rw [z]; exact fun z => by cases z) with z | z
                  · exact absurd rD3 z
                  · rw [gr3.hh D _ hacc] at z; cases z
              refine ⟨⟨fun a o h => ?_, (gr.rr.trans gr3.rr).trans q.rr, fun a o h => ?_, fun a h => ?_⟩, n4⟩
              · have ne : a ≠ D := fun z => by rw [z, hD] at h; cases h
                show (if a = D then none else H4 a) = some o
                rw [if_neg ne]
                exact q.hh a o (gr3.hh a o (hh' a o h))
              · have ne : a ≠ D := fun z => by rw [z, n4] at h; cases h
                show (if a = D then none else H4 a) = some o
                rw [if_neg ne]
                exact q.rh a o h
              · rcases q.rn a h with z | z
                · rcases gr3.rn a z with z | z
                  · exact gr.rn a z
                  · exact .inr (hh'.free z)
                · exact .inr ((hh'.trans gr3.hh).free z)
            cases h4 : tt e2 with
            | no => simp only [h4] at hrest; cases hrest
            | er C fs e3 => simp only [h4] at hrest; cases hrest
            | ok tb bb e3 w3 =>
              intro R4 H4 F4 u4 s4 sd4 ex4 hw4
              cases tb with
              | bool bv =>
                refine ⟨bv, sd_bool sd4, ?_⟩
                cases w3 with
                | true => cases bv <;> (simp only [h4] at hrest; cases hrest)
                | false =>
                  have g4 := hw4 rfl
                  cases bv with
                  | false =>
                    simp only [h4] at hrest
                    refine iteF ⟨R4, acc, done, (keep g4).1, g4.hh D _ (gr3.hh D _ hacc), dpa_up (gr3.rr.trans g4.rr) _ _ dacc, by omega, rest, hrest, hys⟩
                  | true =>
                    simp only [h4] at hrest
                    refine iteT ⟨e3, R4, F4, s4, ?_⟩
                    cases h5 : el e3 with
                    | no => simp only [h5] at hrest; cases hrest
                    | er C fs e4 => simp only [h5] at hrest; cases hrest
                    | ok yv b5 e4 w5 =>
                      intro R5 H5 F5 u5 s5 sd5 ex5 hw5
                      cases b5 with
                      | true => simp only [h5] at hrest; cases hrest
                      | false =>
                        cases w5 with
                        | true => simp only [h5] at hrest; cases hrest
                        | false =>
                          simp only [h5] at hrest
                          have g5 := g4.trans (hw5 rfl)
                          have e5 : H5 D = some (.lst acc) := g5.hh D _ (gr3.hh D _ hacc)
                          have la := dpa_len dacc
                          refine ⟨acc, e5, by rw [la, ← sz_eq]; omega, R5, acc ++ [u5], done ++ [yv], ?_, upd_same, dpa_app (dpa_up (gr3.rr.trans g5.rr) _ _ dacc) (.cons sd5 .nil), by simp; omega, ?_⟩
                          · have e0 : (fun a => if a = D then none else upd H5 D (.lst (acc ++ [u5])) a) = (fun a => if a = D then none else H5 a) := by
                              funext a
                              by_cases z : a = D
                              · rw [if_pos z, if_pos z]
                              · rw [if_neg z, if_neg z, upd_ne z]
                            rw [e0]
                            exact (keep g5).1
                          · cases h6 : lcG tg tt el (wipeE e1 vs) (xs.drop (i + 1)) with
                            | none => rw [h6] at hrest; cases hrest
                            | some zs =>
                              rw [h6] at hrest
                              cases hrest
                              exact ⟨zs, rfl, by rw [hys, List.append_assoc]; rfl⟩
              | _ => simp only [h4] at hrest; cases hrest
        · rintro H' ⟨R', acc, done, gr, hacc, dacc, hdl, rest, hrest, hys⟩
          rw [List.drop_length] at hrest
          have hr : some ([] : List PyData) = some rest := hrest
          cases hr
          rw [List.append_nil] at hys
          subst hys
          have g1 : Gr R1 H1 R' H' := ⟨fun a o h => by
            have := gr.hh a o h
            by_cases z : a = D
            · rw [if_pos z] at this; cases this
            · rw [if_neg z] at this; exact this, gr.rr, fun a o h => by
            have := gr.rh a o h
            by_cases z : a = D
            · rw [if_pos z] at this; cases this
            · rw [if_neg z] at this; exact this, gr.rn⟩
          have rD : R' D = none := by
            cases q : R' D with
            | none => rfl
            | some o => have := gr.rh D o q; rw [if_pos rfl] at this; cases this
          have nD : D ∉ F1 := fun z => rps_dom _ _ _ s1.sl D z hD
          refine p R' H' F1 [D] _ (g1.sr s1) ⟨D, acc, [], rfl, .refl _, hacc, rpl_d dacc⟩ ?_ (by simpa using rD) ?_ (fun z => ⟨(hw z).trans g1, fun a ha => by simp at ha; subst ha; exact (hw z).hh.free hD⟩)
          · exact List.nodup_append.mpr ⟨s1.nd, by simp, fun a ha b hb z => by simp at hb; subst hb; subst z; exact nD ha⟩
          · refine ex.trans ⟨g1.rr, fun a o h _ => g1.hh a o h, fun a h => (g1.rn a h).elim .inl fun z => .inr (.inr z), fun a ha => ?_⟩
            rcases List.mem_append.mp ha with ha | ha
            · exact .inl ha
            · simp at ha; subst ha; exact .inr hD
    · rw [if_neg hl] at p; exact p.elim
/-- a list comprehension -/
theorem de_lc {X : Cx} {c : Ctx} {elt tgt iter : Expr} {ifs : List Expr} {scope : Scope} {own : List (Str × Nat)} {pos : Pos} {di : Env → RI} {g : TG} {tg : PyData → Env → Option Env} {tt el : Env → RV} {ttt : TT} (hc : X.calm = true) (hN : X.N.Nodup) (hi : PI X tgt iter (tI c di)) (ok : BlkOk X.N X.env.scope scope own)
    (hg : ∀ (s : Shared) (H : Hp) (C : Addr) (cl : List (Str × Addr)) (fp : List Addr), PG (X.blk s H scope (compEnvC scope cl C X.env) fp) tgt g) (htg : TgOk (c0 c) (own.map (·.2)) g tg)
    (ht : ∀ (s : Shared) (H : Hp) (C : Addr) (cl : List (Str × Addr)) (fp : List Addr), PTs (X.blk s H scope (compEnvC scope cl C X.env) fp) ifs ttt) (htt : ∀ σ H Q, tT (c0 c) tt σ H Q → ttt σ H Q)
    (he : ∀ (s : Shared) (H : Hp) (C : Addr) (cl : List (Str × Addr)) (fp : List Addr), PE (X.blk s H scope (compEnvC scope cl C X.env) fp) elt (tV (c0 c) el)) (hs : ∀ x, foldedSetIterable iter X.env x = pure x := by intro _; rfl) :
    PE X (.ListComp elt [⟨tgt, iter, ifs, 0⟩] scope pos) (tD c (dLc di (own.map (·.2)) tg tt el)) := PE.imp (pe_lc hc hN hi ok hg ht he hs) fun σ H Q h => dLc_ok htg htt h
end Dn
namespace Dn
open PySem PySem.Spec PyProof.Rows L2
/-! ## a def -/
inductive FO where
  | rt (r : T) (ts : List T)
  | er (C : Str) (fs : Xd) (ts : List T)
  | no
def FPost (K : PySem.W.Frag) (cl : Str → Addr) (R H : Hp) (F : List Addr) (vs : List V) (Q : VK) (E : XK) : FO → Prop
  | .rt r ts => ∀ R' H' F' G v, RpL K R' H' ts vs F' → Rp K R' H' r v G → (F' ++ G).Nodup → (∀ a ∈ F' ++ G, R' a = none) → Same R' H' → Ex R H F R' H' (F' ++ G) → Q v H'
  | .er C fs ts => ∀ R' H' F' d, RpL K R' H' ts vs F' → F'.Nodup → (∀ a ∈ F', R' a = none) → Same R' H' → RX K R' fs d → Ex R H F R' H' F' → E (.ref (cl C)) d H'
  | .no => False
def spD (K : PySem.W.Frag) (cl : Str → Addr) (n : Nat) (fn : List T → FO) : Sp := fun vs H Q E => vs.length = n ∧ ∃ ts R F, RpL K R H ts vs F ∧ F.Nodup ∧ Same R H ∧ (∀ a ∈ F, R a = none) ∧ FPost K cl R H F vs Q E (fn ts)
def pinsOf : List Bool → List V → List (Option V)
  | true :: o, v :: vs => some v :: pinsOf o vs
  | false :: o, _ :: vs => none :: pinsOf o vs
  | _, _ => []
theorem pinsOf_no : ∀ {o : List Bool} {vs : List V} {i : Nat}, (o[i]?).getD false = false → NoPin (pinsOf o vs) i
  | [], _, _, _ => rfl
  | true :: o, [], _, _ => rfl
  | false :: o, [], _, _ => rfl
  | true :: o, v :: vs, 0, h => by cases h
  | false :: o, v :: vs, 0, h => rfl
  | true :: o, v :: vs, i + 1, h => by
    have := pinsOf_no (o := o) (vs := vs) (i := i) (by simpa using h)
    exact this
  | false :: o, v :: vs, i + 1, h => by
    have := pinsOf_no (o := o) (vs := vs) (i := i) (by simpa using h)
    exact this
theorem pinsOf_at : ∀ {o : List Bool} {vs : List V} {i : Nat} {v : V}, (pinsOf o vs)[i]? = some (some v) → vs[i]? = some v
  | [], _, _, _, h => by simp [pinsOf] at h
  | true :: o, [], _, _, h => by simp [pinsOf] at h
  | false :: o, [], _, _, h => by simp [pinsOf] at h
  | true :: o, v :: vs, 0, u, h => by simpa [pinsOf] using h
  | false :: o, v :: vs, 0, u, h => by simp [pinsOf] at h
  | true :: o, v :: vs, i + 1, u, h => by
    have := pinsOf_at (o := o) (vs := vs) (i := i) (v := u) (by simpa [pinsOf] using h)
    simpa using this
  | false :: o, v :: vs, i + 1, u, h => by
    have := pinsOf_at (o := o) (vs := vs) (i := i) (v := u) (by simpa [pinsOf] using h)
    simpa using this
/-- the arguments' trees behind the body -/
def fin : List Bool → List T → Env → Option (List T)
  | [], [], _ => some []
  | true :: o, _ :: ts, some t :: e => (fin o ts e).map (t :: ·)
  | false :: o, .d x :: ts, _ :: e => (fin o ts e).map (.d x :: ·)
  | _, _, _ => none
theorem fin_ok {K : PySem.W.Frag} {R R' H H' : Hp} (sm : Same R R') : ∀ {o : List Bool} {ts ts' : List T} {e : Env} {vs : List V} {σ : L2.St} {F F' : List Addr}, fin o ts e = some ts' → RpL K R H ts vs F → RpS K R' H' e σ F' → Pin (pinsOf o vs) σ →
    ∃ F1 F2, F'.Perm (F1 ++ F2) ∧ RpL K R' H' ts' vs F1
  | [], [], ts', e, vs, σ, F, F', h, hr, hs, hp => by
    cases (show some [] = some ts' from h)
    exact ⟨[], F', .refl _, hr.1, rfl⟩
  | true :: o, t0 :: ts, ts', some t :: e, vs, σ, F, F', h, hr, hs, hp => by
    have h' : (fin o ts e).map (t :: ·) = some ts' := by cases t0 <;> exact h
    obtain ⟨v, r, G1, G2, rfl, pm, h1, h2⟩ := hr
    obtain ⟨u, q, K1, K2, rfl, pm', h3, h4⟩ := hs
    have eq : u = v := by
      have := hp 0 v rfl
      simpa using this
    subst eq
    cases h5 : fin o ts e with
    | none => rw [h5] at h'; cases h'
    | some ts'' =>
      rw [h5] at h'
      cases h'
      obtain ⟨F1, F2, pm2, h6⟩ := fin_ok sm h5 h2 h4 (fun i w hw => by simpa using hp (i + 1) w (by simpa [pinsOf] using hw))
      refine ⟨K1 ++ F1, F2, ?_, u, r, K1, F1, rfl, .refl _, h3, h6⟩
      rw [List.append_assoc]
      exact pm'.trans (List.Perm.append_left K1 pm2)
  | false :: o, .d x :: ts, ts', s :: e, vs, σ, F, F', h, hr, hs, hp => by
    have h' : (fin o ts e).map (.d x :: ·) = some ts' := h
    obtain ⟨v, r, G1, G2, rfl, pm, h1, h2⟩ := hr
    have key : ∃ (q : L2.St) (u : Option V) (K1 K2 : List Addr), σ = u :: q ∧ F'.Perm (K1 ++ K2) ∧ RpS K R' H' e q K2 := by
      cases s with
      | none => obtain ⟨u, q, e1, e2⟩ := hs; exact ⟨q, u, [], F', e1, .refl _, e2⟩
      | some t => obtain ⟨u, q, K1, K2, e1, pm', h3, h4⟩ := hs; exact ⟨q, some u, K1, K2, e1, pm', h4⟩
    obtain ⟨q, u, K1, K2, rfl, pm', h4⟩ := key
    cases h5 : fin o ts e with
    | none => rw [h5] at h'; cases h'
    | some ts'' =>
      rw [h5] at h'
      cases h'
      obtain ⟨F1, F2, pm2, h6⟩ := fin_ok sm h5 h2 h4 (fun i w hw => by simpa using hp (i + 1) w (by simpa [pinsOf] using hw))
      refine ⟨F1, K1 ++ F2, ?_, v, r, [], F1, rfl, .refl _, ⟨rfl, dp_up sm _ _ h1.2⟩, h6⟩
      refine pm'.trans ((List.Perm.append_left K1 pm2).trans ?_)
      rw [← List.append_assoc, ← List.append_assoc]
      exact List.Perm.append_right F2 List.perm_append_comm
  | [], t :: ts, _, e, _, _, _, _, h, _, _, _ => by simp [fin] at h
  | true :: o, [], _, e, _, _, _, _, h, _, _, _ => by simp [fin] at h
  | true :: o, t :: ts, _, [], _, _, _, _, h, _, _, _ => by simp [fin] at h
  | true :: o, t :: ts, _, none :: e, _, _, _, _, h, _, _, _ => by simp [fin] at h
  | false :: o, [], _, e, _, _, _, _, h, _, _, _ => by simp [fin] at h
  | false :: o, .d x :: ts, _, [], _, _, _, _, h, _, _, _ => by simp [fin] at h
  | false :: o, .l x :: ts, _, e, _, _, _, _, h, _, _, _ => by simp [fin] at h
  | false :: o, .o _ _ _ :: ts, _, e, _, _, _, _, h, _, _, _ => by simp [fin] at h
  | false :: o, .k _ _ :: ts, _, e, _, _, _, _, h, _, _, _ => by simp [fin] at h
  | false :: o, .m _ _ :: ts, _, e, _, _, _, _, h, _, _, _ => by simp [fin] at h
  | false :: o, .z :: ts, _, e, _, _, _, _, h, _, _, _ => by simp [fin] at h
def finW (o : List Bool) (ts : List T) : Out → FO
  | .nx e => match fin o ts e with
    | some ts' => .rt (.d .none) ts'
    | none => .no
  | .rt (.v x) e => match fin o ts e with
    | some ts' => .rt (.d x) ts'
    | none => .no
  | .rt (.t t) e => match fin o ts e with
    | some ts' => .rt t ts'
    | none => .no
  | .rt (.p i []) e => if (o[i]?).getD false = true then .no else match e[i]? with
    | some (some t) => match fin o ts (e.set i (some .z)) with
      | some ts' => .rt t ts'
      | none => .no
    | _ => .no
  | .rt _ _ => .no
  | .er C fs e => match fin o ts e with
    | some ts' => .er C fs ts'
    | none => .no
  | _ => .no
/-- a def, from its body -/
def fnD (o : List Bool) (n : Nat) (b : Env → Out) : List T → FO := fun ts => finW o ts (b (ts.map some ++ List.replicate (n - ts.length) none))
theorem rps_none {K : PySem.W.Frag} {R H : Hp} : ∀ n : Nat, RpS K R H (List.replicate n none) (List.replicate n none) []
  | 0 => ⟨rfl, rfl⟩
  | n + 1 => ⟨none, List.replicate n none, rfl, rps_none n⟩
theorem rps_start {K : PySem.W.Frag} {R H : Hp} {n : Nat} : ∀ {ts : List T} {vs : List V} {F : List Addr}, RpL K R H ts vs F → RpS K R H (ts.map some ++ List.replicate n none) (vs.map some ++ List.replicate n none) F
  | [], vs, F, h => by rw [h.1, h.2]; exact rps_none n
  | t :: ts, vs, F, h => by
    obtain ⟨v, r, F1, F2, rfl, pm, h1, h2⟩ := h
    exact ⟨v, _, F1, F2, rfl, pm, h1, rps_start h2⟩
theorem body_ok {K : PySem.W.Frag} {cl : Str → Addr} {o : List Bool} {N : List Str} {b : Env → Out} {vs : List V} {H : Hp} {Q : VK} {E : XK} {n : Nat} (h : spD K cl n (fnD o N.length b) vs H Q E) :
    tS ⟨K, cl, pinsOf o vs, fun _ => True, fun _ _ _ _ => trivial, WE fun cls d _ H => E cls d H⟩ b { nx := fun _ H' => Q .non H', rt := Q } (L2.start N vs) H := by
  obtain ⟨_, ts, R, F, hr, nd, rh, rf, p⟩ := h
  have hl := rpl_len hr
  have e0 : L2.start N vs = vs.map some ++ List.replicate (N.length - ts.length) none := by unfold L2.start; rw [hl]
  refine ⟨ts.map some ++ List.replicate (N.length - ts.length) none, R, F, ⟨?_, nd, rh, rf, ?_, trivial⟩, ?_⟩
  · rw [e0]; exact rps_start hr
  · intro i v hv
    have := pinsOf_at hv
    obtain ⟨hi, hv'⟩ := List.getElem?_eq_some_iff.mp this
    rw [e0, List.getElem?_append_left (by simpa using hi), List.getElem?_map, this]
    rfl
  · unfold fnD at p
    generalize b (ts.map some ++ List.replicate (N.length - ts.length) none) = out at p ⊢
    -- what every way of ending has
    have fo : ∀ {e : Env} {ts' : List T} {σ' : L2.St} {R' H' : Hp} {F' : List Addr}, fin o ts e = some ts' → Sr ⟨K, cl, pinsOf o vs, fun _ => True, fun _ _ _ _ => trivial, WE fun cls d _ H => E cls d H⟩ R' H' e σ' F' → Same R R' → ∃ F1 F2, F'.Perm (F1 ++ F2) ∧ RpL K R' H' ts' vs F1 :=
      fun {e ts' σ' R' H' F'} hf s sm => fin_ok sm hf hr s.sl s.pn
    have sub : ∀ {F' F1 F2 G : List Addr}, F'.Perm (F1 ++ F2) → (F' ++ G).Nodup → (F1 ++ G).Nodup := fun {F' F1 F2 G} pm nd => by
      have h1 : (F1 ++ F2 ++ G).Nodup := (List.Perm.append_right G pm).nodup_iff.mp nd
      rw [List.append_assoc] at h1
      have h2 : (F1 ++ (G ++ F2)).Nodup := (List.Perm.append_left F1 List.perm_append_comm).nodup_iff.mp h1
      rw [← List.append_assoc] at h2
      exact (List.nodup_append.mp h2).1
    cases out with
    | no => exact p
    | bk e => exact p.elim
    | ct e => exact p.elim
    | nx e =>
      intro σ' R' H' F' s ex
      have p' : FPost K cl R H F vs Q E (match fin o ts e with | some ts' => .rt (.d .none) ts' | none => .no) := p
      cases hf : fin o ts e with
      | none => rw [hf] at p'; exact p'.elim
      | some ts' =>
        rw [hf] at p'
        obtain ⟨F1, F2, pm, h1⟩ := fo hf s ex.rr
        refine p' R' H' F1 [] .non h1 ⟨rfl, .non⟩ (by simpa using (List.nodup_append.mp (pm.nodup_iff.mp s.nd)).1) (fun a ha => s.rf a (pm.mem_iff.mpr (by simp at ha; simp [ha]))) s.rh (ex.mono fun a ha => pm.mem_iff.mpr (by simp at ha; simp [ha]))
    | er C fs e =>
      intro σ' R' H' F' d s rx ex
      have p' : FPost K cl R H F vs Q E (match fin o ts e with | some ts' => .er C fs ts' | none => .no) := p
      cases hf : fin o ts e with
      | none => rw [hf] at p'; exact p'.elim
      | some ts' =>
        rw [hf] at p'
        obtain ⟨F1, F2, pm, h1⟩ := fo hf s ex.rr
        exact p' R' H' F1 d h1 (List.nodup_append.mp (pm.nodup_iff.mp s.nd)).1 (fun a ha => s.rf a (pm.mem_iff.mpr (by simp [ha]))) s.rh rx (ex.mono fun a ha => pm.mem_iff.mpr (by simp [ha]))
    | rt r e =>
      intro σ' R' H' F' G v s rw' nd' rf' ex
      cases r with
      | v x =>
        have p' : FPost K cl R H F vs Q E (match fin o ts e with | some ts' => .rt (.d x) ts' | none => .no) := p
        cases hf : fin o ts e with
        | none => rw [hf] at p'; exact p'.elim
        | some ts' =>
          rw [hf] at p'
          obtain ⟨F1, F2, pm, h1⟩ := fo hf s ex.rr
          exact p' R' H' F1 G v h1 rw' (sub pm nd') (fun a ha => (List.mem_append.mp ha).elim (fun z => s.rf a (pm.mem_iff.mpr (List.mem_append_left _ z))) (rf' a)) s.rh
            (ex.mono fun a ha => (List.mem_append.mp ha).elim (fun z => List.mem_append_left _ (pm.mem_iff.mpr (List.mem_append_left _ z))) (List.mem_append_right _))
      | t t =>
        have p' : FPost K cl R H F vs Q E (match fin o ts e with | some ts' => .rt t ts' | none => .no) := p
        cases hf : fin o ts e with
        | none => rw [hf] at p'; exact p'.elim
        | some ts' =>
          rw [hf] at p'
          obtain ⟨F1, F2, pm, h1⟩ := fo hf s ex.rr
          exact p' R' H' F1 G v h1 rw' (sub pm nd') (fun a ha => (List.mem_append.mp ha).elim (fun z => s.rf a (pm.mem_iff.mpr (List.mem_append_left _ z))) (rf' a)) s.rh
            (ex.mono fun a ha => (List.mem_append.mp ha).elim (fun z => List.mem_append_left _ (pm.mem_iff.mpr (List.mem_append_left _ z))) (List.mem_append_right _))
      | b ds => exact p.elim
      | p i q =>
        cases q with
        | cons st q => exact p.elim
        | nil =>
          have p' : FPost K cl R H F vs Q E (if (o[i]?).getD false = true then .no else match e[i]? with | some (some t) => (match fin o ts (e.set i (some .z)) with | some ts' => .rt t ts' | none => .no) | _ => .no) := p
          by_cases ho : (o[i]?).getD false = true
          · rw [if_pos ho] at p'; exact p'.elim
          · rw [if_neg ho] at p'
            cases hi : e[i]? with
            | none => simp only [hi] at p'; exact p'.elim
            | some t0 =>
              cases t0 with
              | none => simp only [hi] at p'; exact p'.elim
              | some t =>
                simp only [hi] at p'
                obtain ⟨u, G1, G2, g1, g2, g3, g4⟩ := rps_take s.sl hi
                obtain ⟨rfl, u', g5, g6⟩ := rw'
                have g7 : u' = v := g6
                subst g7
                rw [g5] at g1
                cases g1
                cases hf : fin o ts (e.set i (some .z)) with
                | none => simp only [hf] at p'; exact p'.elim
                | some ts' =>
                  simp only [hf] at p'
                  have nd2 := g2.nodup_iff.mp s.nd
                  obtain ⟨F1, F2, pm, h1⟩ := fin_ok ex.rr hf hr g4 s.pn
                  have pm2 : F'.Perm (F1 ++ F2 ++ G1) := g2.trans ((List.Perm.append_left G1 pm).trans List.perm_append_comm)
                  have nd3 : (F1 ++ G1).Nodup := by
                    have h2 : (F1 ++ F2 ++ G1).Nodup := pm2.nodup_iff.mp s.nd
                    rw [List.append_assoc] at h2
                    have h3 : (F1 ++ (G1 ++ F2)).Nodup := (List.Perm.append_left F1 List.perm_append_comm).nodup_iff.mp h2
                    rw [← List.append_assoc] at h3
                    exact (List.nodup_append.mp h3).1
                  have sb : ∀ a ∈ F1 ++ G1, a ∈ F' := fun a ha => pm2.mem_iff.mpr ((List.mem_append.mp ha).elim (fun z => List.mem_append_left _ (List.mem_append_left _ z)) (List.mem_append_right _))
                  exact p' R' H' F1 G1 _ h1 g3 nd3 (fun a ha => s.rf a (sb a ha)) s.rh (ex.mono fun a ha => by simpa using sb a ha)
section
variable {P : Program} {w : World} {K : PySem.W.Frag} {mg : Str → Option Value} {base : Heap} {cl : Str → Addr}
/-- what a body is proved in -/
abbrev cD (K : PySem.W.Frag) (cl : Str → Addr) (o : List Bool) (vs : List V) (E : XK) : Ctx := ⟨K, cl, pinsOf o vs, fun _ => True, fun _ _ _ _ => trivial, WE fun cls d _ H => E cls d H⟩
/-- THE RULE for a def -/
theorem fn_ok {x qual : Str} {st : Stmt} {f : Addr} {fd : FuncData} {N ps : List Str} {k : Nat} {o : List Bool} {b : Env → Out} (F : Fun K x qual st f fd) (S : FnScope N ps (defScope st))
    (hb : ∀ (cdv : Value) (A : Around) (outer : List PySem.Env) (s : Shared) (H : Hp) (vs : List V) (E : XK), Room k (A.deeper (envOfC qual (defScope st) s.heap.objs.size f cdv)) → PSs (cxOf (L2.CX P w) P w K mg base N qual (defScope st) f cdv A outer s H E) (defBody st) (tS (cD K cl o vs E) b)) :
    FnOk P w K mg base (L2.CX P w) (k + 1) f fd ps (spD K cl ps.length (fnD o N.length b)) :=
  F.okX S (fun vs H Q E h => h.1) fun cdv A outer s H vs Q E hr h => ⟨_, hb cdv A outer s H vs E hr, body_ok h⟩
/-- .. for the law's own, that lets no exception out -/
theorem fn_ok0 {x qual : Str} {st : Stmt} {f : Addr} {fd : FuncData} {N ps : List Str} {k : Nat} {o : List Bool} {b : Env → Out} (F : Fun K x qual st f fd) (S : FnScope N ps (defScope st))
    (hb : ∀ (cdv : Value) (A : Around) (outer : List PySem.Env) (s : Shared) (H : Hp) (vs : List V) (E : XK), Room k (A.deeper (envOfC qual (defScope st) s.heap.objs.size f cdv)) → PSs (cxOf CX0 P w K mg base N qual (defScope st) f cdv A outer s H E).nox (defBody st) (tS (cD K cl o vs E0) b)) :
    FnOk P w K mg base CX0 (k + 1) f fd ps (fun vs H Q _ => spD K cl ps.length (fnD o N.length b) vs H Q E0) :=
  F.ok S (fun vs H Q E h => h.1) fun cdv A outer s H vs Q E hr h => ⟨_, hb cdv A outer s H vs E hr, body_ok h⟩
end
/-! ## calls with data -/
def wOf : T → W
  | .d x => .v x
  | t => .t t
theorem rw_wOf {K : PySem.W.Frag} {R H : Hp} {σ : L2.St} {t : T} {v : V} {G : List Addr} (h : Rp K R H t v G) : Rw K R H σ (wOf t) v G := by
  cases t with
  | d x => exact h
  | _ => exact h
def dCall (fn : List T → FO) (ds : List (Env → RV)) : Env → Res := fun e => match vArgs ds e with
  | .ok xs e1 w => match fn (xs.map T.d) with
    | .rt r _ => .ok (wOf r) e1 w
    | .er C fs _ => .er C fs e1
    | .no => .no
  | .er C fs e1 => .er C fs e1
  | .no => .no
theorem Ex.toGr {R H R' H' : Hp} {G : List Addr} (x : Ex R H [] R' H' G) (rh : Same R' H') : Gr R H R' H' := ⟨fun a o h => x.hh a o h (by simp), x.rr, rh, fun a h => (x.rn a h).elim .inl fun z => z.elim (fun q => by cases q) .inr⟩
section
variable {X : Cx} {c : Ctx} {W : WX} {k : Nat} {f : Addr} {fd : FuncData} {ps : List Str} {fn : List T → FO} {x : Str} {p pos : Pos} {a : Expr} {es : List Expr} {ds : List (Env → RV)}
theorem dCall_ok (hε : c.ε = WE W) {n : Nat} (hn : n = ds.length) {σ : L2.St} {H : Hp} {Q : VK} (h : tD c (dCall fn ds) σ H Q) : tCallS (spD c.K c.cl n fn) (WE W) (tA c ds) σ H Q := by
  obtain ⟨e, R, F, s, p⟩ := h
  refine ⟨e, R, F, s, ?_⟩
  unfold dCall at p
  cases h1 : vArgs ds e with
  | no => simp only [h1] at p; exact p
  | er C fs e1 => simp only [h1] at p; exact p
  | ok xs e1 w =>
    simp only [h1] at p
    intro R1 H1 F1 vs s1 dp ex hw
    have hlen : ∀ (ds : List (Env → RV)) (e : Env) {xs : List PyData} {e1 : Env} {w : Bool}, vArgs ds e = .ok xs e1 w → xs.length = ds.length := by
      intro ds
      induction ds with
      | nil => intro e xs e1 w h; cases (show RA.ok [] e false = .ok xs e1 w from h); rfl
      | cons d ds ih =>
        intro e xs e1 w h
        unfold vArgs at h
        split at h
        · split at h
          · rename_i h2
            cases h
            simp [ih _ h2]
          · cases h
          · cases h
        · cases h
        · cases h
        · cases h
    refine ⟨by rw [hn, dpa_len dp, hlen ds e h1], xs.map T.d, R1, [], rpl_d dp, .nil, s1.rh, by simp, ?_⟩
    cases h2 : fn (xs.map T.d) with
    | no => simp only [h2] at p; exact p
    | er C fs ts =>
      simp only [h2] at p
      intro R' H' F' d hr nd rf rh rx ex'
      have g := (ex'.mono (F2 := []) (by simp)).toGr rh
      have := p R' H' F1 d (g.sr s1) rx (ex.trans g.ex)
      rw [hε] at this
      exact this
    | rt r ts =>
      simp only [h2] at p
      intro R' H' F' G v hr hv nd rf rh ex'
      have g := ex'.toGr rh
      have fr : ∀ a ∈ G, H1 a = none := fun a ha => (ex'.fn a (List.mem_append_right _ ha)).elim (fun q => by cases q) id
      refine p R' H' F1 G v (g.sr s1) (rw_wOf hv) ?_ (fun a ha => rf a (List.mem_append_right _ ha)) ?_ (fun z => ⟨(hw z).trans g, fun a ha => (hw z).hh.free (fr a ha)⟩)
      · refine List.nodup_append.mpr ⟨s1.nd, (List.nodup_append.mp nd).2.1, fun a ha b hb z => ?_⟩
        subst z
        exact rps_dom _ _ _ s1.sl a ha (fr a hb)
      · refine ex.trans ⟨g.rr, fun a o h _ => g.hh a o h, fun a h => (g.rn a h).elim .inl fun z => .inr (.inr z), fun a ha => (List.mem_append.mp ha).elim .inl fun z => .inr (fr a z)⟩
theorem de_call (tk : Takes X W) (F : FnOk X.prog X.w X.K X.mg X.base (L2.CX X.prog X.w) k f fd ps (spD c.K c.cl ps.length fn)) (hε : c.ε = WE W) (hn : ps.length = ds.length) (hr : Room k X.A) (hg : Gl X x) (hm : X.mg x = some (.ref f)) (hk : PySem.W.keepIn X.K (.ref f) = true) (hb : Binds X.K fd ps [])
    (ha : PA X (a :: es) (tA c ds)) (hdb : (x == ("__debug__" : Str)) = false := by decide) (he : starEach (a :: es) X.env = (false, eval a X.env) :: starEach es X.env := by rfl) (hpl : (backTo pos (starEach es X.env)).any (·.1) = false := by rfl) :
    PE X (.Call (.Name x p) (a :: es) [] pos) (tD c (dCall fn ds)) :=
  PE.imp (pe_callS F hr hg hm hk hb (fun σ => passAt tk σ) ha hdb he hpl) fun σ H Q h => dCall_ok hε hn h
theorem de_call0 (tk : Takes X W) (F : FnOk X.prog X.w X.K X.mg X.base (L2.CX X.prog X.w) k f fd [] (spD c.K c.cl 0 fn)) (hε : c.ε = WE W) (hr : Room k X.A) (hg : Gl X x) (hm : X.mg x = some (.ref f)) (hk : PySem.W.keepIn X.K (.ref f) = true) (hb : Binds X.K fd [] [])
    (hdb : (x == ("__debug__" : Str)) = false := by decide) : PE X (.Call (.Name x p) [] [] pos) (tD c (dCall fn [])) := by
  refine ⟨fun pins s σ H Q I h => ?_⟩
  refine wpAny_Call_Name_kw (ld_glob I hg hm ?_ hdb)
  have h' := dCall_ok hε (n := 0) rfl h
  obtain ⟨e, R, F', s', q⟩ := h'
  exact PySem.W.callWith_K0 I.kIn hk (run_fnS (us := []) F hr hb (fun pins H s e s' I c => passAt tk σ pins H s e s' I c) I .nil (q R H F' [] s' .nil .refl (fun _ => .refl s'.rh)))
end
/-! ## raise -/
def sRaise0 (C : Str) : Env → Out := fun e => .er C none e
def sRaise1 (C f : Str) (d : Env → RV) : Env → Out := fun e => match d e with
  | .ok x false e1 _ => .er C (some [(f, x)]) e1
  | .ok _ true _ _ => .no
  | .er C fs e1 => .er C fs e1
  | .no => .no
theorem se_raise0 {X : Cx} {c : Ctx} {W : WX} {ex : Expr} {pos : Pos} {C : Str} (hc : X.calm = true) (tk : Takes X W) (hε : c.ε = WE W) (he : PMk X ex (fun _ H Q => Q (.ref (c.cl C)) none H)) : PS X (.Raise (some ex) none pos) (tS c (sRaise0 C)) :=
  PS.imp (ps_raise hc tk he) fun D σ H ⟨e, R, F, s, p⟩ => by
    have := p σ R H F none s rfl .refl
    rw [hε] at this
    exact this
/-! ## try -/
/-- what is known of a clause's class: of the classes that may come, whether it takes them -/
def Clause (K : PySem.W.Frag) (cl : Str → Addr) (x : Str) (tb : List (Str × Bool)) : Prop := ∀ C b, tb.lookup C = some b → PySem.W.exmOne K (.ref (cl C)) (.ref (cl x)) = some b
theorem clause_nil {K : PySem.W.Frag} {cl : Str → Addr} {x : Str} : Clause K cl x [] := fun _ _ h => by cases h
theorem clause_cons {K : PySem.W.Frag} {cl : Str → Addr} {x C : Str} {b : Bool} {tb : List (Str × Bool)} (h : PySem.W.exmOne K (.ref (cl C)) (.ref (cl x)) = some b) (t : Clause K cl x tb) : Clause K cl x ((C, b) :: tb) := fun D b' q => by
  rw [List.lookup_cons] at q
  split at q
  · rename_i e
    have e' : D = C := by simpa using e
    subst e'
    cases q
    exact h
  · exact t D b' q
def noEr : Out → Out
  | .er _ _ _ => .no
  | o => o
def sTry (b : Env → Out) (tb : List (Str × Bool)) (su : Env → Out) : Env → Out := fun e => match b e with
  | .er C fs e1 => match tb.lookup C with
    | some true => noEr (su e1)
    | some false => .er C fs e1
    | none => .no
  | o => o
def cS (c : Ctx) : Ctx := ⟨c.K, c.cl, c.pn, c.fx, c.fxm, fun _ _ _ _ => False⟩
theorem se_try {X : Cx} {c : Ctx} {Wout : WX} {x : Str} {body suite : List Stmt} {b0 : Stmt} {np pos pos' : Pos} {db ds : Env → Out} {tb : List (Str × Bool)} (hε : c.ε = WE Wout) (hs : X.stack = X.env :: X.outer) (hf : X.env.frame = some X.env.locals) (hc : Names X x (.ref (c.cl x))) (tk : Takes X Wout) (hK : X.K = c.K) (ht : Clause c.K c.cl x tb)
    (hb : ∀ (W : WX) (pn : List (Addr × Obj)) (xe : Value → Shared → Prop), Takes (X.tr pn xe) W → PassesOwn (model X.prog X.w) X.A X.env xe → PSs (X.tr pn xe) body (tS { c with ε := WE W } db))
    (hsu : ∀ (a : Addr) (oe : Obj) (cls : Value) (d : Option Addr) (pn : List (Addr × Obj)), Zc cls d oe → (∃ vs, oe.data = .fields vs) → PSs (X.suite a ((a, oe) :: pn)) (b0 :: suite) (tS (cS c) ds)) :
    PS X (.Try body [.ExceptHandler (some (.Name x np)) none (b0 :: suite) pos'] [] [] pos) (tS c (sTry db tb ds)) := by
  refine PS.imp (ps_try_only hs hf hc tk hb hsu) fun D σ H ⟨e, R, F, s, p⟩ => ⟨e, R, F, ⟨s.sl, s.nd, s.rh, s.rf, s.pn, s.fx⟩, ?_⟩
  unfold sTry at p
  cases h1 : db e with
  | nx e1 => simp only [h1] at p; exact fun σ' R' H' F' s' ex => p σ' R' H' F' ⟨s'.sl, s'.nd, s'.rh, s'.rf, s'.pn, s'.fx⟩ ex
  | bk e1 => simp only [h1] at p; exact fun σ' R' H' F' s' ex => p σ' R' H' F' ⟨s'.sl, s'.nd, s'.rh, s'.rf, s'.pn, s'.fx⟩ ex
  | ct e1 => simp only [h1] at p; exact fun σ' R' H' F' s' ex => p σ' R' H' F' ⟨s'.sl, s'.nd, s'.rh, s'.rf, s'.pn, s'.fx⟩ ex
  | rt r e1 => simp only [h1] at p; exact fun σ' R' H' F' G v s' rw' nd rf ex => p σ' R' H' F' G v ⟨s'.sl, s'.nd, s'.rh, s'.rf, s'.pn, s'.fx⟩ rw' nd rf ex
  | no => simp only [h1] at p; exact p
  | er C fs e1 =>
    simp only [h1] at p
    intro σ' R' H' F' d s' rx ex
    cases h2 : tb.lookup C with
    | none => simp only [h2] at p; exact p.elim
    | some bb =>
      have q := ht C bb h2
      cases bb with
      | true =>
        simp only [h2] at p
        rw [hK]
        refine ⟨true, q, fun _ a na => ⟨e1, R', F', ⟨s'.sl, s'.nd, s'.rh, s'.rf, s'.pn, s'.fx⟩, ?_⟩, fun z => by cases z⟩
        have p2 := PostS.mono ex p
        cases h3 : ds e1 with
        | nx e2 => rw [h3] at p2; exact fun σ2 R2 H2 F2 s2 ex2 => p2 σ2 R2 H2 F2 ⟨s2.sl, s2.nd, s2.rh, s2.rf, s2.pn, s2.fx⟩ ex2
        | bk e2 => rw [h3] at p2; exact fun σ2 R2 H2 F2 s2 ex2 => p2 σ2 R2 H2 F2 ⟨s2.sl, s2.nd, s2.rh, s2.rf, s2.pn, s2.fx⟩ ex2
        | ct e2 => rw [h3] at p2; exact fun σ2 R2 H2 F2 s2 ex2 => p2 σ2 R2 H2 F2 ⟨s2.sl, s2.nd, s2.rh, s2.rf, s2.pn, s2.fx⟩ ex2
        | rt r e2 => rw [h3] at p2; exact fun σ2 R2 H2 F2 G v s2 rw2 nd rf ex2 => p2 σ2 R2 H2 F2 G v ⟨s2.sl, s2.nd, s2.rh, s2.rf, s2.pn, s2.fx⟩ rw2 nd rf ex2
        | no => rw [h3] at p2; exact p2
        | er C2 fs2 e2 => rw [h3] at p2; exact (show False from p2).elim
      | false =>
        simp only [h2] at p
        rw [hK]
        refine ⟨false, q, fun z => (by cases z), fun _ => ?_⟩
        have p2 := p σ' R' H' F' d ⟨s'.sl, s'.nd, s'.rh, s'.rf, s'.pn, s'.fx⟩ rx ex
        rw [hε] at p2
        exact p2
end Dn
namespace Dn
open PySem PySem.Spec PyProof.Rows L2
/-! ## places that change -/
def setT : T → List Stp → T → T
  | _, [], s => s
  | .l ts, .i n :: q, s => match ts[n]? with
    | some t => .l (ts.set n (setT t q s))
    | none => .l ts
  | .o C N ts, .f j :: q, s => match ts[j]? with
    | some t => .o C N (ts.set j (setT t q s))
    | none => .o C N ts
  | t, _, _ => t
def setE (e : Env) (i : Nat) (q : List Stp) (s : T) : Env := match e[i]? with
  | some (some t) => e.set i (some (setT t q s))
  | _ => e
section
variable {K : PySem.W.Frag} {R H : Hp} {c : Ctx}
theorem wk_up {H H' : Hp} (s : Same H H') : ∀ {q : List Stp} {u v : V}, wk H u q v → wk H' u q v
  | [], _, _, h => h
  | st :: q, u, v, ⟨m, h, w⟩ => by
    refine ⟨m, ?_, wk_up s w⟩
    cases st with
    | i n => obtain ⟨p, vs, e1, e2, e3⟩ := h; exact ⟨p, vs, e1, s _ _ e2, e3⟩
    | f j => obtain ⟨p, C, dx, N, vs, e1, e2, e3, e4⟩ := h; exact ⟨p, C, dx, N, vs, e1, s _ _ e2, e3, e4⟩
    | k _ => exact h.elim
    | m _ => exact h.elim
theorem rpl_focus : ∀ {ts : List T} {vs : List V} {F : List Addr} {n : Nat} {t : T}, RpL K R H ts vs F → ts[n]? = some t → ∃ v F1 F2, vs[n]? = some v ∧ F.Perm (F1 ++ F2) ∧ Rp K R H t v F1 ∧
    (∀ (R' H' : Hp) (t' : T) (v' : V) (G : List Addr), Same R R' → (∀ a ∈ F2, ∀ o, H a = some o → H' a = some o) → Rp K R' H' t' v' G → RpL K R' H' (ts.set n t') (vs.set n v') (G ++ F2))
  | [], _, _, _, _, _, h => by simp at h
  | t0 :: ts, vs, F, 0, t, h, e => by
    obtain ⟨v, r, F1, F2, rfl, pm, h1, h2⟩ := h
    simp at e
    subst e
    exact ⟨v, F1, F2, rfl, pm, h1, fun R' H' t' v' G s k g => ⟨v', r, G, F2, rfl, .refl _, g, rpl_up s _ _ _ k h2⟩⟩
  | t0 :: ts, vs, F, n + 1, t, h, e => by
    obtain ⟨v, r, F1, F2, rfl, pm, h1, h2⟩ := h
    obtain ⟨u, G1, G2, e1, pm', h3, h4⟩ := rpl_focus (n := n) h2 (by simpa using e)
    refine ⟨u, G1, F1 ++ G2, by simpa using e1, ?_, h3, fun R' H' t' v' G s k g => ⟨v, r.set n v', F1, G ++ G2, rfl, ?_, rp_up s _ _ _ (fun a ha => k a (List.mem_append_left _ ha)) h1, h4 R' H' t' v' G s (fun a ha => k a (List.mem_append_right _ ha)) g⟩⟩
    · refine pm.trans ((List.Perm.append_left F1 pm').trans ?_)
      rw [← List.append_assoc, ← List.append_assoc]
      exact List.Perm.append_right G2 List.perm_append_comm
    · rw [← List.append_assoc, ← List.append_assoc]
      exact List.Perm.append_right G2 List.perm_append_comm
theorem set_self {α : Type} {l : List α} {n : Nat} {x : α} (h : l[n]? = some x) : l.set n x = l := by
  apply List.ext_getElem?
  intro i
  by_cases e : n = i
  · subst e
    obtain ⟨hl, hx⟩ := List.getElem?_eq_some_iff.mp h
    rw [List.getElem?_set_self hl, h]
  · rw [List.getElem?_set_ne e]
theorem zip_inj {N N' : List Str} {vs vs' : List V} (h : List.zip N vs = List.zip N' vs') (l1 : vs.length ≤ N.length) (l2 : vs'.length ≤ N'.length) : vs = vs' := by
  have := congrArg (List.map (·.2)) h
  rw [List.map_snd_zip l1, List.map_snd_zip l2] at this
  exact this
theorem rp_focus : ∀ (q : List Stp) {t s : T} {u v : V} {F : List Addr}, Rp K R H t u F → getT t q = some s → wk H u q v → ∃ F1 F2, F.Perm (F1 ++ F2) ∧ Rp K R H s v F1 ∧
    (∀ (R' H' : Hp) (s' : T) (G : List Addr), Same R R' → (∀ a ∈ F2, ∀ o, H a = some o → H' a = some o) → Rp K R' H' s' v G → Rp K R' H' (setT t q s') u (G ++ F2))
  | [], t, s, u, v, F, h, e, w => by
    have e' : some t = some s := by cases t <;> exact e
    cases e'
    cases (show u = v from w)
    refine ⟨F, [], by simp, h, fun R' H' s' G _ _ g => ?_⟩
    have : setT t [] s' = s' := by cases t <;> rfl
    rw [this, List.append_nil]
    exact g
  | st :: q, t, s, u, v, F, h, e, w => by
    obtain ⟨m, st', w⟩ := w
    cases t with
    | l ts =>
      cases st with
      | i n =>
        obtain ⟨p, vs, G, rfl, e2, e3, e4⟩ := h
        obtain ⟨p', vs', e5, e6, e7⟩ := st'
        cases e5
        rw [e3] at e6
        cases e6
        have e' : (match ts[n]? with | some t => getT t q | none => none) = some s := e
        cases e8 : ts[n]? with
        | none => rw [e8] at e'; cases e'
        | some t' =>
          rw [e8] at e'
          obtain ⟨m', G1, G2, f1, f2, f3, f4⟩ := rpl_focus e4 e8
          rw [e7] at f1
          cases f1
          obtain ⟨K1, K2, g1, g2, g3⟩ := rp_focus q f3 e' w
          refine ⟨K1, p :: (K2 ++ G2), ?_, g2, fun R' H' s' Gn sm k g => ?_⟩
          · refine e2.trans ?_
            refine (List.Perm.cons p (f2.trans (List.Perm.append_right G2 g1))).trans ?_
            rw [List.append_assoc]
            exact List.perm_middle.symm
          · have r1 := g3 R' H' s' Gn sm (fun a ha => k a (by simp [ha])) g
            have r2 := f4 R' H' _ m (Gn ++ K2) sm (fun a ha => k a (by simp [ha])) r1
            have se : setT (.l ts) (.i n :: q) s' = .l (ts.set n (setT t' q s')) := by
              show (match ts[n]? with | some t => T.l (ts.set n (setT t q s')) | none => .l ts) = _
              rw [e8]
            rw [se]
            refine ⟨p, vs, Gn ++ K2 ++ G2, rfl, ?_, k p (by simp) _ e3, ?_⟩
            · rw [List.append_assoc]
              exact List.perm_middle
            · rw [set_self e7] at r2
              exact r2
      | f j => cases e
      | k j => cases e
      | m j => cases e
    | o C N ts =>
      cases st with
      | f j =>
        obtain ⟨p, dx, vs, G, rfl, e2, e3, e3', e0, e4⟩ := h
        obtain ⟨p', C', dx', N', vs', e5, e6, el, e7⟩ := st'
        cases e5
        rw [e3] at e6
        have l1 := rpl_len e4
        injection e6 with e6
        injection e6 with e61 e62 e63
        have ev : vs = vs' := zip_inj e63 (by omega) el
        subst ev
        have e' : (match ts[j]? with | some t => getT t q | none => none) = some s := e
        cases e8 : ts[j]? with
        | none => rw [e8] at e'; cases e'
        | some t' =>
          rw [e8] at e'
          obtain ⟨m', G1, G2, f1, f2, f3, f4⟩ := rpl_focus e4 e8
          rw [e7] at f1
          cases f1
          obtain ⟨K1, K2, g1, g2, g3⟩ := rp_focus q f3 e' w
          refine ⟨K1, p :: dx :: (K2 ++ G2), ?_, g2, fun R' H' s' Gn sm k g => ?_⟩
          · refine e2.trans ?_
            refine (List.Perm.cons p (List.Perm.cons dx (f2.trans (List.Perm.append_right G2 g1)))).trans ?_
            rw [List.append_assoc]
            exact ((List.perm_middle (l₁ := K1) (a := p) (l₂ := dx :: (K2 ++ G2))).trans (List.Perm.cons p (List.perm_middle (l₁ := K1) (a := dx) (l₂ := K2 ++ G2)))).symm
          · have r1 := g3 R' H' s' Gn sm (fun a ha => k a (by simp [ha])) g
            have r2 := f4 R' H' _ m (Gn ++ K2) sm (fun a ha => k a (by simp [ha])) r1
            have se : setT (.o C N ts) (.f j :: q) s' = .o C N (ts.set j (setT t' q s')) := by
              show (match ts[j]? with | some t => T.o C N (ts.set j (setT t q s')) | none => .o C N ts) = _
              rw [e8]
            rw [se]
            refine ⟨p, dx, vs, Gn ++ K2 ++ G2, rfl, ?_, k p (by simp) _ e3, k dx (by simp) _ e3', by simpa using e0, ?_⟩
            · rw [List.append_assoc]
              exact (List.perm_middle (l₁ := Gn) (a := p) (l₂ := dx :: (K2 ++ G2))).trans (List.Perm.cons p (List.perm_middle (l₁ := Gn) (a := dx) (l₂ := K2 ++ G2)))
            · rw [set_self e7] at r2
              exact r2
      | i j => cases e
      | k j => cases e
      | m j => cases e
    | d x => cases st <;> cases e
    | k ks ts => cases st <;> cases e
    | m ks ts => cases st <;> cases e
    | z => cases st <;> cases e
/-- a place of the slots -/
theorem sr_focus {e : Env} {σ : L2.St} {F : List Addr} (s : Sr c R H e σ F) {i : Nat} {q : List Stp} {t : T} {u v : V} (g : getE e i q = some t) (hu : σ[i]? = some (some u)) (w : wk H u q v) : ∃ F1 F2, F.Perm (F1 ++ F2) ∧ Rp c.K R H t v F1 ∧
    (∀ (R' H' : Hp) (t' : T) (G : List Addr), Same R R' → (∀ a ∈ F2, ∀ o, H a = some o → H' a = some o) → Rp c.K R' H' t' v G → RpS c.K R' H' (setE e i q t') σ (G ++ F2)) := by
  unfold getE at g
  cases e1 : e[i]? with
  | none => rw [e1] at g; cases g
  | some o =>
    cases o with
    | none => rw [e1] at g; cases g
    | some t0 =>
      rw [e1] at g
      obtain ⟨v0, F1, F2, h1, h2, h3, h4⟩ := rps_take s.sl e1
      rw [hu] at h1
      cases h1
      obtain ⟨K1, K2, g1, g2, g3⟩ := rp_focus q h3 g w
      refine ⟨K1, K2 ++ F2, ?_, g2, fun R' H' t' G sm k gg => ?_⟩
      · rw [← List.append_assoc]
        exact h2.trans (List.Perm.append_right F2 g1)
      · have r1 := g3 R' H' t' G sm (fun a ha => k a (by simp [ha])) gg
        have hi : i < e.length := (List.getElem?_eq_some_iff.mp e1).1
        have r2 := rps_put (i := i) (rps_up sm _ _ _ (fun a ha => k a (by simp [ha])) h4) (by simpa using hi) (fun t' z => by simp [hi] at z; exact z.symm) r1
        rw [List.set_set, set_self hu, List.append_assoc] at r2
        unfold setE
        rw [e1]
        exact r2
/-- one cell of a place changes -/
theorem sr_upd {e : Env} {σ : L2.St} {F : List Addr} (s : Sr c R H e σ F) {i : Nat} {q : List Stp} {t t' : T} {u : V} {p : Addr} {o : HO} {Gt : List Addr} (g : getE e i q = some t) (hu : σ[i]? = some (some u)) (w : wk H u q (.ref p)) (nd : (F ++ Gt).Nodup) (rf : ∀ a ∈ Gt, R a = none)
    (k : ∀ F1, Rp c.K R H t (.ref p) F1 → F1.Nodup → (∀ a ∈ Gt, a ∉ F1) → p ∈ F1 ∧ ∃ F1', Rp c.K R (upd H p o) t' (.ref p) F1' ∧ F1'.Nodup ∧ ∀ a ∈ F1', a ∈ F1 ∨ a ∈ Gt) :
    ∃ F', Sr c R (upd H p o) (setE e i q t') σ F' ∧ (∀ a ∈ F', a ∈ F ∨ a ∈ Gt) ∧ Ex R H F R (upd H p o) F := by
  obtain ⟨F1, F2, pm, h1, h2⟩ := sr_focus s g hu w
  have nd0 := pm.nodup_iff.mp s.nd
  have ndd := List.nodup_append.mp nd0
  obtain ⟨hp, F1', k1, k2, k3⟩ := k F1 h1 ndd.1 (fun a ha z => (List.nodup_append.mp nd).2.2 a (pm.mem_iff.mpr (List.mem_append_left _ z)) a ha rfl)
  have hpF : p ∈ F := pm.mem_iff.mpr (List.mem_append_left _ hp)
  have np : ∀ a ∈ F2, a ≠ p := fun a ha z => ndd.2.2 p hp a ha z.symm
  have r := h2 R (upd H p o) t' F1' (Same.refl _) (fun a ha x hx => by rw [upd_ne (np a ha)]; exact hx) k1
  have sub : ∀ a ∈ F1' ++ F2, a ∈ F ∨ a ∈ Gt := fun a ha => (List.mem_append.mp ha).elim (fun z => (k3 a z).elim (fun z => .inl (pm.mem_iff.mpr (List.mem_append_left _ z))) .inr) fun z => .inl (pm.mem_iff.mpr (List.mem_append_right _ z))
  refine ⟨F1' ++ F2, ⟨r, ?_, fun a x hx => ?_, fun a ha => (sub a ha).elim (s.rf a) (rf a), s.pn, s.fx⟩, sub, ⟨Same.refl _, fun a x hx hF => by rw [upd_ne (fun z => hF (by rw [z]; exact hpF))]; exact hx, fun a h => .inl h, fun a h => .inl h⟩⟩
  · refine List.nodup_append.mpr ⟨k2, ndd.2.1, fun a ha b hb z => ?_⟩
    subst z
    rcases k3 a ha with q1 | q1
    · exact ndd.2.2 a q1 a hb rfl
    · exact (List.nodup_append.mp nd).2.2 a (pm.mem_iff.mpr (List.mem_append_right _ hb)) a q1 rfl
  · have ne : a ≠ p := fun z => by rw [z, s.rf p hpF] at hx; cases hx
    rw [upd_ne ne]
    exact s.rh a x hx
end
/-! ## places as expressions -/
/-- e[k] of a list that is owned: the item's place -/
def dPix (d : Env → Res) (dk : Env → RV) : Env → Res := fun e => match d e with
  | .ok (.p i q) e1 false => match dk e1 with
    | .ok (.int z) _ e2 false => match getE e2 i q with
      | some (.l ts) => match ixN ts.length z with
        | some j => .ok (.p i (q ++ [.i j])) e2 false
        | none => .no
      | _ => .no
    | _ => .no
  | _ => .no
/-- e.f of an object that is owned: the field's place -/
def dPfld (d : Env → Res) (j : Nat) : Env → Res := fun e => match d e with
  | .ok (.p i q) e1 false => match getE e1 i q with
    | some (.o _ _ ts) => if j < ts.length then .ok (.p i (q ++ [.f j])) e1 false else .no
    | _ => .no
  | _ => .no
theorem wk_snoc {H : Hp} {st : Stp} {m v : V} : ∀ {q : List Stp} {u : V}, wk H u q m → StepH H m st v → wk H u (q ++ [st]) v
  | [], u, h, s => by cases (show u = m from h); exact ⟨v, s, rfl⟩
  | x :: q, u, ⟨n, h, w⟩, s => ⟨n, h, wk_snoc w s⟩
section
variable {X : Cx} {c : Ctx} {a b : Expr} {d : Env → Res} {dk : Env → RV} {pos : Pos}
theorem rPl {K : PySem.W.Frag} {R H : Hp} {σ : L2.St} {i : Nat} {q : List Stp} {u v : V} (hu : σ[i]? = some (some u)) (w : wk H u q v) : Rw K R H σ (.p i q) v [] := ⟨rfl, u, hu, w⟩
theorem de_pix (ha : PE X a (tD c d)) (hb : PE X b (tV c dk)) (hp : PlainIx b) (hK : X.K = c.K := by rfl) : PE X (.Subscript a b pos) (tD c (dPix d dk)) := by
  refine PE.imp (pe_ix ix_list ha hb hp) fun σ H Q ⟨e, R, F, s, p⟩ => ⟨e, R, F, s, ?_⟩
  rw [hK]
  unfold dPix at p
  cases h1 : d e with
  | no => simp only [h1] at p; exact p
  | er C fs e1 => simp only [h1] at p; exact p.elim
  | ok r e1 w =>
    cases r with
    | p i q =>
      cases w with
      | true => simp only [h1] at p; exact p.elim
      | false =>
        simp only [h1] at p
        intro R1 H1 F1 G v s1 rw1 nd rf ex hw
        obtain ⟨rfl, u, hu, w1⟩ := rw1
        refine ⟨e1, R1, F1, s1, ?_⟩
        cases h2 : dk e1 with
        | no => simp only [h2] at p; exact p.elim
        | er C fs e2 => simp only [h2] at p; exact p.elim
        | ok x bb e2 w2 =>
          cases x with
          | int z =>
            cases w2 with
            | true => simp only [h2] at p; exact p.elim
            | false =>
              simp only [h2] at p
              intro R2 H2 F2 y s2 sd2 ex2 hw2
              have g2 := hw2 rfl
              have g1 := (hw rfl).1
              cases h3 : getE e2 i q with
              | none => simp only [h3] at p; exact p.elim
              | some t =>
                cases t with
                | l ts =>
                  simp only [h3] at p
                  cases h4 : ixN ts.length z with
                  | none => simp only [h4] at p; exact p.elim
                  | some j =>
                    simp only [h4] at p
                    obtain ⟨K1, K2, pm, k1, _⟩ := sr_focus s2 h3 hu (wk_up g2.hh w1)
                    obtain ⟨pa, vs, G, rfl, q1, q2, q3⟩ := k1
                    have hj : j < ts.length := (ixN_seq h4).2.1
                    have hl := rpl_len q3
                    refine ⟨pa, vs, z, vs[j], rfl, sd_int sd2, .of q2, ?_, ?_⟩
                    · unfold atI
                      rw [show ixN vs.length z = some j by rw [hl]; exact h4]
                      exact List.getElem?_eq_getElem (by omega)
                    · have w2 := wk_up g2.hh w1
                      refine p R2 H2 F2 [] _ s2 (rPl hu (wk_snoc w2 ⟨pa, vs, rfl, q2, List.getElem?_eq_getElem (by omega)⟩)) (by simpa using s2.nd) (by simp) (by simpa using (ex.trans (by simpa using ex2))) (fun _ => ⟨g1.trans g2, by simp⟩)
                | _ => simp only [h3] at p; exact p.elim
          | _ => simp only [h2] at p; exact p.elim
    | _ => simp only [h1] at p; exact p.elim
end
/-! ## statements that change a list -/
def tOf : W → Option T
  | .v x => some (.d x)
  | .t t => some t
  | _ => none
theorem tOf_ok {K : PySem.W.Frag} {R H : Hp} {σ : L2.St} {r : W} {t : T} {v : V} {G : List Addr} (h : Rw K R H σ r v G) (e : tOf r = some t) : Rp K R H t v G := by
  cases r with
  | v x => cases e; exact h
  | t t => cases e; exact h
  | p i q => cases e
  | b ds => cases e
def isL : Option T → Bool
  | some (.l _) => true
  | _ => false
/-- xs.append(e) -/
def vApp (d : Env → Res) (dx : Env → Res) : Env → RV := fun e => match d e with
  | .ok (.p i q) e1 false => if isL (getE e1 i q) then match dx e1 with
    | .ok r e2 false => match tOf r with
      | some t => match getE e2 i q with
        | some (.l ts) => if ts.length < SZ then .ok .none false (setE e2 i q (.l (ts ++ [t]))) true else .no
        | _ => .no
      | none => .no
    | .ok _ _ true => .no
    | .er C fs e2 => .er C fs e2
    | .no => .no
    else .no
  | _ => .no
theorem isL_ok {c : Ctx} {R H : Hp} {e : Env} {σ : L2.St} {F : List Addr} (s : Sr c R H e σ F) {i : Nat} {q : List Stp} {u v : V} (h : isL (getE e i q) = true) (hu : σ[i]? = some (some u)) (w : wk H u q v) : tyV c.K "list" v H := by
  cases h1 : getE e i q with
  | none => rw [h1] at h; cases h
  | some t =>
    rw [h1] at h
    cases t with
    | l ts =>
      obtain ⟨K1, K2, pm, k1, _⟩ := sr_focus s h1 hu w
      obtain ⟨pa, vs, Gv, rfl, q1, q2, q3⟩ := k1
      exact .inl ⟨rfl, _, .of q2⟩
    | _ => cases h
theorem rpl_snoc {K : PySem.W.Frag} {R H : Hp} {t : T} {v : V} {G : List Addr} (h : Rp K R H t v G) : ∀ {ts : List T} {vs : List V} {F : List Addr}, RpL K R H ts vs F → RpL K R H (ts ++ [t]) (vs ++ [v]) (F ++ G)
  | [], vs, F, h' => by
    rw [h'.1, h'.2]
    exact ⟨v, [], G, [], rfl, by simp, h, rfl, rfl⟩
  | t0 :: ts, vs, F, h' => by
    obtain ⟨v0, r, F1, F2, rfl, pm, h1, h2⟩ := h'
    refine ⟨v0, r ++ [v], F1, F2 ++ G, rfl, ?_, h1, rpl_snoc h h2⟩
    rw [← List.append_assoc]
    exact List.Perm.append_right G pm
section
variable {X : Cx} {c : Ctx} {a b : Expr} {d dx : Env → Res} {dk : Env → RV} {pos apos cpos : Pos}
theorem ve_append (ha : PE X a (tD c d)) (hb : PE X b (tD c dx)) (hK : X.K = c.K := by rfl) (hbase : attributeBase a "append" X.env (eval a X.env) = eval a X.env := by rfl)
    (hfew : ((backTo cpos (starEach [b] X.env)).all (fun x => !x.1) && (backToKw cpos (keywordEach [] X.env)).all (fun x => x.1.isSome)
      && decide ([b].length + ([] : List Keyword).length + (if ([] : List Keyword).isEmpty then 0 else 1) < 30)) = true := by rfl)
    (hline : (apos.endLine == cpos.line) = true := by rfl) (hs : starEach [b] X.env = (false, eval b X.env) :: starEach [] X.env := by rfl) (hplain : (backTo cpos (starEach [] X.env)).any (·.1) = false := by rfl) :
    PE X (.Call (.Attribute a "append" apos) [b] [] cpos) (tV c (vApp d dx)) := by
  refine PE.imp (pe_bm PySem.F.plainAttrs_list PySem.F.slot_list_append PySem.F.type_list_append mt_append ha (pa_cons hb pa_nil hs) hbase hfew hline hs hplain) fun σ H Q ⟨e, R, F, s, p⟩ => ⟨e, R, F, s, ?_⟩
  unfold vApp at p
  cases h1 : d e with
  | no => simp only [h1] at p; exact p
  | er C fs e1 => simp only [h1] at p; exact p.elim
  | ok r e1 w =>
    cases r with
    | p i q =>
      cases w with
      | true => simp only [h1] at p; exact p.elim
      | false =>
        simp only [h1] at p
        intro R1 H1 F1 G v s1 rw1 nd rf ex hw
        obtain ⟨rfl, u, hu, w1⟩ := rw1
        have g1 := (hw rfl).1
        by_cases hL : isL (getE e1 i q) = true
        rotate_left
        · rw [if_neg hL] at p; exact p.elim
        rw [if_pos hL] at p
        rw [hK]
        have ty := isL_ok s1 hL hu w1
        cases h2 : dx e1 with
        | no => simp only [h2] at p; exact p.elim
        | er C fs e2 =>
          simp only [h2] at p
          refine ⟨ty, e1, R1, F1, s1, ?_⟩
          · rw [h2]
            exact fun R2 H2 F2 dd s2 rx ex2 => p R2 H2 F2 dd s2 rx ((by simpa using ex : Ex R H F R1 H1 F1).trans ex2)
        | ok r2 e2 w2 =>
          cases w2 with
          | true => simp only [h2] at p; exact p.elim
          | false =>
            simp only [h2] at p
            cases h3 : tOf r2 with
            | none => simp only [h3] at p; exact p.elim
            | some t =>
              simp only [h3] at p
              cases h4 : getE e2 i q with
              | none => simp only [h4] at p; exact p.elim
              | some t0 =>
                cases t0 with
                | l ts =>
                  simp only [h4] at p
                  by_cases hz : ts.length < SZ
                  · rw [if_pos hz] at p
                    refine ⟨ty, e1, R1, F1, s1, ?_⟩
                    · rw [h2]
                      intro R2 H2 F2 G2 y s2 rw2 nd2 rf2 ex2 hw2
                      have g2 := (hw2 rfl).1
                      have w2 := wk_up g2.hh w1
                      obtain ⟨K1, K2, pm, k1, _⟩ := sr_focus s2 h4 hu w2
                      obtain ⟨pa, vs, Gv, rfl, q1, q2, q3⟩ := k1
                      have hy := tOf_ok rw2 h3
                      have hl := rpl_len q3
                      refine ⟨pa, vs, y, rfl, rfl, q2, by rw [hl, ← sz_eq]; exact hz, ?_⟩
                      obtain ⟨F3, s3, f3, ex3⟩ := sr_upd (t' := .l (ts ++ [t])) (o := .lst (vs ++ [y])) (Gt := G2) s2 h4 hu w2 nd2 rf2 (fun F1 h1 hn hd => by
                        obtain ⟨pb, ws, Gw, e1, m1, m2, m3⟩ := h1
                        cases e1
                        rw [q2] at m2
                        cases m2
                        have hpa : pa ∈ F1 := m1.mem_iff.mpr (by simp)
                        have nd1 := m1.nodup_iff.mp hn
                        have npa : pa ∉ Gw := (List.nodup_cons.mp nd1).1
                        have npG : pa ∉ G2 := fun z => hd pa z hpa
                        refine ⟨hpa, pa :: (Gw ++ G2), ⟨pa, vs ++ [y], Gw ++ G2, rfl, .refl _, upd_same, ?_⟩, ?_, ?_⟩
                        · refine rpl_snoc (rp_up (Same.refl _) _ _ _ (fun a ha o ho => ?_) hy) (rpl_up (Same.refl _) _ _ _ (fun a ha o ho => ?_) m3)
                          · rw [upd_ne (fun z => npG (by rw [← z]; exact ha))]; exact ho
                          · rw [upd_ne (fun z => npa (by rw [← z]; exact ha))]; exact ho
                        · refine List.nodup_cons.mpr ⟨fun z => (List.mem_append.mp z).elim npa npG, List.nodup_append.mpr ⟨(List.nodup_cons.mp nd1).2, (List.nodup_append.mp nd2).2.1, fun a ha b hb z => ?_⟩⟩
                          subst z
                          exact hd a hb (m1.mem_iff.mpr (List.mem_cons_of_mem _ ha))
                        · intro a ha
                          rcases List.mem_cons.mp ha with rfl | ha
                          · exact .inl hpa
                          · rcases List.mem_append.mp ha with ha | ha
                            · exact .inl (m1.mem_iff.mpr (List.mem_cons_of_mem _ ha))
                            · exact .inr ha)
                      refine p R2 _ F3 .non s3 .non ?_ (fun z => by cases z)
                      have x1 : Ex R H F R2 H2 (F2 ++ G2) := (by simpa using ex : Ex R H F R1 H1 F1).trans ex2
                      refine ⟨x1.rr, fun a o h hF => ?_, x1.rn, fun a ha => x1.fn a ((f3 a ha).elim (List.mem_append_left _) (List.mem_append_right _))⟩
                      have n1 : a ∉ F2 := fun z => by
                        rcases x1.fn a (List.mem_append_left _ z) with z | z
                        · exact hF z
                        · rw [h] at z; cases z
                      exact ex3.hh a o (x1.hh a o h hF) n1
                  · rw [if_neg hz] at p; exact p.elim
                | _ => simp only [h4] at p; exact p.elim
    | _ => simp only [h1] at p; exact p.elim
end
end Dn
namespace Dn
open PySem PySem.Spec PyProof.Rows L2
/-! ## xs[k] = e -/
def sPut (d : Env → Res) (dk : Env → RV) (dv : Env → Res) : Env → Out := fun e => match dv e with
  | .ok r e1 _ => match tOf r with
    | some t => match d e1 with
      | .ok (.p i q) e2 false => match dk e2 with
        | .ok (.int z) _ e3 false => match getE e3 i q with
          | some (.l ts) => match ixN ts.length z with
            | some j => .nx (setE e3 i q (.l (ts.set j t)))
            | none => .no
          | _ => .no
        | _ => .no
      | _ => .no
    | none => .no
  | .er C fs e1 => .er C fs e1
  | .no => .no
section
variable {X : Cx} {c : Ctx} {o k v : Expr} {d dv : Env → Res} {dk : Env → RV} {pos pos' : Pos}
theorem se_put (hv : PE X v (tD c dv)) (ho : PE X o (tD c d)) (hk : PE X k (tV c dk)) (hs : swapsWithSole [.Subscript o k pos'] v pos.line X.env = pure false := by rfl) (hw : swappedStores [.Subscript o k pos'] v X.env = pure none := by rfl)
    (h1 : (assignEach [.Subscript o k pos'] X.env).map (·.2) = [assign (.Subscript o k pos') X.env] := by rfl)
    (ha : ∀ v, assign (.Subscript o k pos') X.env v = (do
      let ov ← holding [v] (eval o X.env)
      let iv ← holding [v, ov] (eval k X.env)
      standAt pos'
      holding [v, ov, iv] (setItem ov iv v)
      release [v, ov, iv] []) := by intro _; rfl) : PS X (.Assign [.Subscript o k pos'] v pos) (tS c (sPut d dk dv)) := by
  refine PS.imp (ps_asg hv (pg_sub ho hk set_list ha) hs hw h1) fun D σ H ⟨e, R, F, s, p⟩ => ⟨e, R, F, s, ?_⟩
  unfold sPut at p
  cases h1 : dv e with
  | no => simp only [h1] at p; exact p
  | er C fs e1 =>
    simp only [h1] at p
    exact fun R' H' F' x s' rx ex => p σ R' H' F' x s' rx ex
  | ok r e1 w =>
    simp only [h1] at p
    intro R1 H1 F1 G y s1 rw1 nd1 rf1 ex1 _
    cases h2 : tOf r with
    | none => simp only [h2] at p; exact p.elim
    | some t =>
      simp only [h2] at p
      have hy := tOf_ok rw1 h2
      refine ⟨e1, R1, F1, s1, ?_⟩
      cases h3 : d e1 with
      | no => simp only [h3] at p; exact p.elim
      | er C fs e2 => simp only [h3] at p; exact p.elim
      | ok r2 e2 w2 =>
        cases r2 with
        | p i q =>
          cases w2 with
          | true => simp only [h3] at p; exact p.elim
          | false =>
            simp only [h3] at p
            intro R2 H2 F2 G2 ov s2 rw2 nd2 rf2 ex2 hw2
            obtain ⟨rfl, u, hu, w2⟩ := rw2
            have g2 := (hw2 rfl).1
            refine ⟨e2, R2, F2, s2, ?_⟩
            cases h4 : dk e2 with
            | no => simp only [h4] at p; exact p.elim
            | er C fs e3 => simp only [h4] at p; exact p.elim
            | ok x bb e3 w3 =>
              cases x with
              | int z =>
                cases w3 with
                | true => simp only [h4] at p; exact p.elim
                | false =>
                  simp only [h4] at p
                  intro R3 H3 F3 kv s3 sd3 ex3 hw3
                  have g3 := hw3 rfl
                  have w3 := wk_up g3.hh w2
                  cases h5 : getE e3 i q with
                  | none => simp only [h5] at p; exact p.elim
                  | some t0 =>
                    cases t0 with
                    | l ts =>
                      simp only [h5] at p
                      cases h6 : ixN ts.length z with
                      | none => simp only [h6] at p; exact p.elim
                      | some j =>
                        simp only [h6] at p
                        obtain ⟨K1, K2, pm, k1, _⟩ := sr_focus s3 h5 hu w3
                        obtain ⟨pa, vs, Gv, rfl, q1, q2, q3⟩ := k1
                        have hl := rpl_len q3
                        have hy3 : Rp c.K R3 H3 t y G := rp_up (g2.rr.trans g3.rr) _ _ _ (fun a ha o ho => g3.hh a o (g2.hh a o ho)) hy
                        have fG : ∀ a ∈ G, a ∉ F1 := fun a ha z => (List.nodup_append.mp nd1).2.2 a z a ha rfl
                        have hdG : ∀ a ∈ G, H1 a ≠ none := rp_dom _ _ _ hy
                        have fG3 : ∀ a ∈ G, a ∉ F3 := fun a ha z => by
                          rcases ex3.fn a z with z | z
                          · rcases ex2.fn a (by simpa using z) with z | z
                            · exact fG a ha z
                            · exact hdG a ha z
                          · exact hdG a ha (g2.hh.free z)
                        have rf3 : ∀ a ∈ G, R3 a = none := fun a ha => by
                          cases q : R3 a with
                          | none => rfl
                          | some o =>
                            exfalso
                            rcases (g2.trans g3).rn a (by rw [q]; exact fun z => by cases z) with z | z
                            · exact z (rf1 a ha)
                            · exact hdG a ha z
                        refine ⟨pa, vs, z, j, rfl, sd_int sd3, q2, by rw [hl]; exact h6, ?_⟩
                        obtain ⟨F4, s4, f4, ex4⟩ := sr_upd (t' := .l (ts.set j t)) (o := .lst (vs.set j y)) (Gt := G) s3 h5 hu w3 (List.nodup_append.mpr ⟨s3.nd, (List.nodup_append.mp nd1).2.1, fun a ha b hb z => by subst z; exact fG3 a hb ha⟩) rf3 (fun Fx hx hn hd => by
                          obtain ⟨pb, ws, Gw, e1, m1, m2, m3⟩ := hx
                          cases e1
                          rw [q2] at m2
                          cases m2
                          have hpa : pa ∈ Fx := m1.mem_iff.mpr (by simp)
                          have nd1' := m1.nodup_iff.mp hn
                          have npa : pa ∉ Gw := (List.nodup_cons.mp nd1').1
                          have npG : pa ∉ G := fun z => hd pa z hpa
                          have hjl : j < ts.length := (ixN_seq h6).2.1
                          obtain ⟨v0, L1, L2, f1, f2, f3, f4⟩ := rpl_focus m3 (List.getElem?_eq_getElem hjl)
                          refine ⟨hpa, pa :: (G ++ L2), ⟨pa, vs.set j y, G ++ L2, rfl, .refl _, upd_same, ?_⟩, ?_, ?_⟩
                          · refine f4 _ _ _ _ _ (Same.refl _) (fun a ha o ho => ?_) (rp_up (Same.refl _) _ _ _ (fun a ha o ho => ?_) hy3)
                            · rw [upd_ne (fun z => npa (by rw [← z]; exact f2.mem_iff.mpr (List.mem_append_right _ ha)))]; exact ho
                            · rw [upd_ne (fun z => npG (by rw [← z]; exact ha))]; exact ho
                          · refine List.nodup_cons.mpr ⟨fun z => (List.mem_append.mp z).elim npG (fun z => npa (f2.mem_iff.mpr (List.mem_append_right _ z))), List.nodup_append.mpr ⟨(List.nodup_append.mp nd1).2.1, (List.nodup_append.mp (f2.nodup_iff.mp (List.nodup_cons.mp nd1').2)).2.1, fun a ha b hb z => ?_⟩⟩
                            subst z
                            exact hd a ha (m1.mem_iff.mpr (List.mem_cons_of_mem _ (f2.mem_iff.mpr (List.mem_append_right _ hb))))
                          · intro a ha
                            rcases List.mem_cons.mp ha with rfl | ha
                            · exact .inl hpa
                            · rcases List.mem_append.mp ha with ha | ha
                              · exact .inr ha
                              · exact .inl (m1.mem_iff.mpr (List.mem_cons_of_mem _ (f2.mem_iff.mpr (List.mem_append_right _ ha)))))
                        refine p σ R3 _ F4 s4 ?_
                        have x1 : Ex R H F R3 H3 (F3 ++ G) := by
                          refine ex1.trans ⟨(g2.trans g3).rr, fun a o h _ => (g2.trans g3).hh a o h, fun a h => ((g2.trans g3).rn a h).elim .inl fun z => .inr (.inr z), fun a ha => ?_⟩
                          rcases List.mem_append.mp ha with ha | ha
                          · rcases ex3.fn a ha with z | z
                            · rcases ex2.fn a (by simpa using z) with z | z
                              · exact .inl (List.mem_append_left _ z)
                              · exact .inr z
                            · exact .inr (g2.hh.free z)
                          · exact .inl (List.mem_append_right _ ha)
                        refine ⟨x1.rr, fun a o h hF => ?_, x1.rn, fun a ha => x1.fn a ((f4 a ha).elim (List.mem_append_left _) (List.mem_append_right _))⟩
                        have n1 : a ∉ F3 := fun z => by
                          rcases x1.fn a (List.mem_append_left _ z) with z | z
                          · exact hF z
                          · rw [h] at z; cases z
                        exact ex4.hh a o (x1.hh a o h hF) n1
                    | _ => simp only [h5] at p; exact p.elim
              | _ => simp only [h4] at p; exact p.elim
        | _ => simp only [h3] at p; exact p.elim
end
/-! ## built-ins -/
def fInt : PyData → Option PyData
  | .int i => some (.int i)
  | .bool b => some (.int (if b then 1 else 0))
  | .str z => if z.length ≤ 640 then (PySem.intText? z).map .int else none
  | _ => none
def rIntA : List V → Hp → VK → Prop := fun xs H Q => ((∃ i, xs = [.int i] ∧ Q (.int i) H) ∨ ∃ k, xs = [.bl k] ∧ Q (.int (if k then 1 else 0)) H) ∨ ∃ a n, xs = [.str a] ∧ PySem.intText? a = some n ∧ a.length ≤ 640 ∧ Q (.int n) H
theorem call_intA {X : Cx} : CallR X (.type "int") rIntA := callr_or call_int1 call_int_str
theorem sc_int {K : PySem.W.Frag} : Sc1 K (fun v => rIntA [v]) fInt := by
  intro R H v x b z Q rh s e k
  unfold fInt at e
  split at e
  · cases e; exact .inl (.inl ⟨_, by rw [sd_int s], sc_here rh k (.int _)⟩)
  · cases e; exact .inl (.inr ⟨_, by rw [sd_bool s], sc_here rh k (.int _)⟩)
  · split at e
    · rename_i sx hl
      cases h : PySem.intText? sx with
      | none => rw [h] at e; cases e
      | some n => rw [h] at e; cases e; exact .inr ⟨_, n, by rw [sd_str s], h, hl, sc_here rh k (.int _)⟩
    · cases e
  · cases e
def fLs : PyData → Option (List PyData)
  | .list ds => some ds
  | .tuple ds => some ds
  | _ => none
theorem sl_list {K : PySem.W.Frag} : Sl1 K (fun v H Q => ∃ p ys, [v] = [.ref p] ∧ (SqL K H p ys ∨ SqT K H p ys) ∧ ∀ l, H l = none → Q (.ref l) (upd H l (.lst ys))) fLs := by
  intro R H v x b z Q rh s e k
  unfold fLs at e
  split at e
  · cases e
    obtain ⟨p, vs, rfl, h2, h3⟩ := sd_list s rh
    exact ⟨p, vs, rfl, .inl h2, fun l hl => k l vs hl h3⟩
  · cases e
    obtain ⟨p, vs, rfl, h2, _, h3⟩ := sd_tup s rh
    exact ⟨p, vs, rfl, .inr h2, fun l hl => k l vs hl h3⟩
  · cases e
def fTp : PyData → Option PyData
  | .list ds => some (.tuple ds)
  | .tuple ds => some (.tuple ds)
  | _ => none
theorem sc_tuple {K : PySem.W.Frag} : Sc1 K (fun v H Q => ∃ p ys, [v] = [.ref p] ∧ ((SqL K H p ys ∧ ∀ l, H l = none → Q (.ref l) (upd H l (.tup ys))) ∨ (SqT K H p ys ∧ Q (.ref p) H))) fTp := by
  intro R H v x b z Q rh s e k
  unfold fTp at e
  split at e
  · cases e
    obtain ⟨p, vs, rfl, h2, h3⟩ := sd_list s rh
    exact ⟨p, vs, rfl, .inl ⟨h2, fun l hl => k _ _ _ (Gr.new rh hl) (.tup (.of upd_same) (dpa_up (same_new (rh.free hl)) _ _ h3))⟩⟩
  · cases e
    obtain ⟨p, vs, rfl, h2, h2', h3⟩ := sd_tup s rh
    exact ⟨p, vs, rfl, .inr ⟨h2, sc_here rh k (.tup h2' h3)⟩⟩
  · cases e
def dty : PyData → String
  | .none => "NoneType"
  | .bool _ => "bool"
  | .int _ => "int"
  | .str _ => "str"
  | .list _ => "list"
  | .tuple _ => "tuple"
  | .dict _ => "dict"
def fIsi (T : String) : PyData → Option PyData := fun x => (kitB (dty x) T).map .bool
theorem sd_ty {K : PySem.W.Frag} {R H : Hp} {v : V} {x : PyData} {b : Bool} (h : Sd K R H v x b) (rh : Same R H) : TyX K H v (.type (dty x)) := by
  have d := h.dp rh
  cases d with
  | non => exact .base .non
  | bl y => exact .base (.bl y)
  | int i => exact .base (.int i)
  | str y => exact .base (.str y)
  | lst hs ha =>
    rcases hs with (h | ⟨o, h⟩) | ⟨o, its, n, h1, h2, _⟩
    · exact .base (.lst h)
    · exact .base (.frz h)
    · exact .kList h1 h2
  | tup hs ha =>
    rcases hs with (h | ⟨o, h⟩) | ⟨o, its, n, h1, h2, _⟩
    · exact .base (.tup h)
    · exact .fTuple h
    · exact .kTuple h1 h2
section
variable {X : Cx} {c : Ctx} {a b : Expr} {d d1 d2 : Env → RV} {p pos : Pos} {x : Str}
theorem ve_isi {T : String} (hg : Gl X x) (hm : X.mg x = none) (hv : bootBuiltins x = some (.builtin "isinstance")) (ha : PA X [a, b] (tCons (tV c d) (tCons (tC (.ty T)) tNil))) (hK : X.K = c.K := by rfl) (hn : x ≠ "__name__" := by decide) (hdb : (x == ("__debug__" : Str)) = false := by decide)
    (he : starEach [a, b] X.env = (false, eval a X.env) :: starEach [b] X.env := by rfl) (hpl : (backTo pos (starEach [b] X.env)).any (·.1) = false := by rfl) : PE X (.Call (.Name x p) [a, b] [] pos) (tV c (v1 (fIsi T) d)) := by
  refine PE.imp (pe_callB call_isi hg hm hv ha hn hdb he hpl) fun σ H Q h => ?_
  rw [hK]
  refine v1_ok (r := fun v H Q => rIsi c.K [v, .ty T] H Q) (fun R H v x b z Q rh s e k => ?_) h
  unfold fIsi at e
  cases h : kitB (dty x) T with
  | none => rw [h] at e; cases e
  | some y =>
    rw [h] at e
    cases e
    exact ⟨v, .ty T, .type (dty x), .type T, y, rfl, .ty T, sd_ty s rh, kit_ty h, sc_here rh k (.bl _)⟩
end
def allI : List PyData → Option (List Int)
  | [] => some []
  | .int i :: r => (allI r).map (i :: ·)
  | _ => none
def allB : List PyData → Option (List Bool)
  | [] => some []
  | .bool i :: r => (allB r).map (i :: ·)
  | _ => none
theorem allI_of : ∀ {ds : List PyData} {ns : List Int}, allI ds = some ns → ds = ns.map PyData.int
  | [], ns, h => by cases (show some [] = some ns from h); rfl
  | .int i :: r, ns, h => by
    have h' : (allI r).map (i :: ·) = some ns := h
    cases q : allI r with
    | none => rw [q] at h'; cases h'
    | some ms => rw [q] at h'; cases h'; rw [allI_of q]; rfl
  | .none :: _, _, h => by cases h
  | .bool _ :: _, _, h => by cases h
  | .str _ :: _, _, h => by cases h
  | .list _ :: _, _, h => by cases h
  | .tuple _ :: _, _, h => by cases h
  | .dict _ :: _, _, h => by cases h
theorem allB_of : ∀ {ds : List PyData} {ns : List Bool}, allB ds = some ns → ds = ns.map PyData.bool
  | [], ns, h => by cases (show some [] = some ns from h); rfl
  | .bool i :: r, ns, h => by
    have h' : (allB r).map (i :: ·) = some ns := h
    cases q : allB r with
    | none => rw [q] at h'; cases h'
    | some ms => rw [q] at h'; cases h'; rw [allB_of q]; rfl
  | .none :: _, _, h => by cases h
  | .int _ :: _, _, h => by cases h
  | .str _ :: _, _, h => by cases h
  | .list _ :: _, _, h => by cases h
  | .tuple _ :: _, _, h => by cases h
  | .dict _ :: _, _, h => by cases h
theorem dpa_bools : ∀ {K : PySem.W.Frag} {R : Hp} {vs : List V} {ns : List Bool}, DpAll K R vs (ns.map PyData.bool) → vs = ns.map V.bl
  | _, _, _, [], h => by cases h; rfl
  | _, _, _, n :: ns, h => by
    cases h with
    | cons h1 h2 =>
      cases h1
      rw [dpa_bools h2]
      rfl
def fSum : PyData → Option PyData
  | .list ds => (allI ds).map fun ns => .int ns.sum
  | _ => none
theorem sc_sum {K : PySem.W.Frag} : Sc1 K (fun v => rSum K [v]) fSum := by
  intro R H v x b z Q rh s e k
  unfold fSum at e
  split at e
  · rename_i ds
    cases q : allI ds with
    | none => rw [q] at e; cases e
    | some ns =>
      rw [q] at e
      cases e
      have := allI_of q
      subst this
      obtain ⟨p, vs, rfl, h2, h3⟩ := sd_list s rh
      have := dpa_ints h3
      subst this
      exact ⟨p, ns, rfl, h2, sc_here rh k (.int _)⟩
  · cases e
def fAny : PyData → Option PyData
  | .list ds => (allB ds).map fun ns => .bool (ns.any id)
  | _ => none
def fAll : PyData → Option PyData
  | .list ds => (allB ds).map fun ns => .bool (ns.all id)
  | _ => none
theorem sc_any {K : PySem.W.Frag} : Sc1 K (fun v => rAny K [v]) fAny := by
  intro R H v x b z Q rh s e k
  unfold fAny at e
  split at e
  · rename_i ds
    cases q : allB ds with
    | none => rw [q] at e; cases e
    | some ns =>
      rw [q] at e
      cases e
      have := allB_of q
      subst this
      obtain ⟨p, vs, rfl, h2, h3⟩ := sd_list s rh
      have := dpa_bools h3
      subst this
      exact ⟨p, ns, rfl, h2, sc_here rh k (.bl _)⟩
  · cases e
theorem sc_all {K : PySem.W.Frag} : Sc1 K (fun v => rAll K [v]) fAll := by
  intro R H v x b z Q rh s e k
  unfold fAll at e
  split at e
  · rename_i ds
    cases q : allB ds with
    | none => rw [q] at e; cases e
    | some ns =>
      rw [q] at e
      cases e
      have := allB_of q
      subst this
      obtain ⟨p, vs, rfl, h2, h3⟩ := sd_list s rh
      have := dpa_bools h3
      subst this
      exact ⟨p, ns, rfl, h2, sc_here rh k (.bl _)⟩
  · cases e
abbrev fMin := fI2 (fun _ _ => true) fun i j => if j < i then j else i
abbrev fMax := fI2 (fun _ _ => true) fun i j => if j > i then j else i
theorem sc_min {K : PySem.W.Frag} : Sc2 K (fun v u H Q => ∃ i j, [v, u] = [.int i, .int j] ∧ Q (.int (if j < i then j else i)) H) fMin := by
  intro R H v1 v2 x y b b' z Q rh s1 s2 e k
  unfold fMin fI2 at e
  split at e
  · cases e
    exact ⟨_, _, by rw [sd_int s1, sd_int s2], sc_here rh k (.int _)⟩
  · cases e
theorem sc_max {K : PySem.W.Frag} : Sc2 K (fun v u H Q => ∃ i j, [v, u] = [.int i, .int j] ∧ Q (.int (if j > i then j else i)) H) fMax := by
  intro R H v1 v2 x y b b' z Q rh s1 s2 e k
  unfold fMax fI2 at e
  split at e
  · cases e
    exact ⟨_, _, by rw [sd_int s1, sd_int s2], sc_here rh k (.int _)⟩
  · cases e
def fU (g : Int → Int) : PyData → Option PyData
  | .int i => some (.int (g i))
  | _ => none
abbrev fNeg := fU fun i => -i
theorem sc_neg {K : PySem.W.Frag} : Sc1 K (rU fun i => .int (-i)) fNeg := by
  intro R H v x b z Q rh s e k
  unfold fNeg fU at e
  split at e
  · cases e
    exact ⟨_, sd_int s, sc_here rh k (.int _)⟩
  · cases e
def fOrd : PyData → Option PyData
  | .str z => if z.length = 1 then some (.int (z.cps.getD 0 0 : Nat)) else none
  | _ => none
theorem sc_ord {K : PySem.W.Frag} : Sc1 K (fun v H Q => ∃ x, [v] = [.str x] ∧ x.length = 1 ∧ Q (.int (x.cps.getD 0 0 : Nat)) H) fOrd := by
  intro R H v x b z Q rh s e k
  unfold fOrd at e
  split at e
  · split at e
    · rename_i h
      cases e
      exact ⟨_, by rw [sd_str s], h, sc_here rh k (.int _)⟩
    · cases e
  · cases e
def fStr : PyData → Option PyData
  | .int i => if i.natAbs.log2 < 1920 then some (.str (Str.ofString (toString i))) else none
  | _ => none
/-- xs * k -/
def fRep : PyData → PyData → Option (List PyData)
  | .list ds, .int k => if -9223372036854775808 ≤ k ∧ k < 9223372036854775808 ∧ ds.length * k.toNat ≤ SZ then some (List.replicate k.toNat ds).flatten else none
  | _, _ => none
end Dn
namespace Dn
open PySem PySem.Spec PyProof.Rows L2
/-! ## operators of any kind of data -/
def fAdd : PyData → PyData → Option PyData
  | .int i, .int j => some (.int (i + j))
  | .str a, .str b => if a.length + b.length ≤ SZ then some (.str (a ++ b)) else none
  | .tuple xs, .tuple ys => if xs.length + ys.length ≤ SZ then some (.tuple (xs ++ ys)) else none
  | .list xs, .list ys => if xs.length + ys.length ≤ SZ then some (.list (xs ++ ys)) else none
  | _, _ => none
def rAdd (K : PySem.W.Frag) : R2 := fun x y H Q => rAddI K x y H Q ∨ rCatL K x y H Q
theorem op_addP {X : Cx} : OpR X (binaryOp .Add) (rAdd X.K) := opr_or op_addI op_catL
theorem sc_frz2 {K : PySem.W.Frag} {r : R2} {f : PyData → PyData → Option (List PyData)} (h : Sl2 K r f) : Sc2 K r (fun x y => (f x y).map .list) := by
  intro R H v1 v2 x y b b' z Q rh s1 s2 e k
  cases q : f x y with
  | none => simp only [q] at e; cases e
  | some ds =>
    simp only [q] at e
    cases e
    exact h R H v1 v2 x y b b' ds Q rh s1 s2 q fun p vs hp dp => k _ _ _ (Gr.new rh hp) (.lst (.of upd_same) (dpa_up (same_new (rh.free hp)) _ _ dp))
theorem sc_addP {K : PySem.W.Frag} : Sc2 K (rAdd K) fAdd := by
  intro R H v1 v2 x y b b' z Q rh s1 s2 e k
  by_cases h : fAddI x y = some z
  · exact .inl (sc_add R H v1 v2 x y b b' z Q rh s1 s2 h k)
  · unfold fAdd at e
    split at e
    · exact absurd e h
    · exact absurd e h
    · exact absurd e h
    · split at e
      · rename_i xs ys hl
        cases e
        have q : fCat (.list xs) (.list ys) = some (xs ++ ys) := if_pos hl
        exact .inr (sl_cat R H v1 v2 _ _ b b' _ Q rh s1 s2 q fun p vs hp dp => k _ _ _ (Gr.new rh hp) (.lst (.of upd_same) (dpa_up (same_new (rh.free hp)) _ _ dp)))
      · cases e
    · cases e
/-- [..] * k -/
def dRep (d : Env → Res) (dk : Env → RV) : Env → Res := fun e => match d e with
  | .ok (.t (.l ts)) e1 w1 => match allD ts with
    | some ds => match dk e1 with
      | .ok (.int k) _ e2 false => if -9223372036854775808 ≤ k ∧ k < 9223372036854775808 ∧ ds.length * k.toNat ≤ SZ then .ok (.t (.l ((List.replicate k.toNat ds).flatten.map T.d))) e2 w1 else .no
      | _ => .no
    | none => .no
  | _ => .no
theorem dpa_rep {K : PySem.W.Frag} {R : Hp} {vs : List V} {ds : List PyData} (h : DpAll K R vs ds) : ∀ m : Nat, DpAll K R (List.replicate m vs).flatten (List.replicate m ds).flatten
  | 0 => .nil
  | m + 1 => by rw [List.replicate_succ, List.replicate_succ, List.flatten_cons, List.flatten_cons]; exact dpa_app h (dpa_rep h m)
theorem de_rep {X : Cx} {c : Ctx} {a b : Expr} {d : Env → Res} {dk : Env → RV} {pos : Pos} (ha : PE X a (tD c d)) (hb : PE X b (tV c dk)) : PE X (.BinOp a .Mult b pos) (tD c (dRep d dk)) := by
  refine PE.imp (pe_op op_rep ha hb) fun σ H Q ⟨e, R, F, s, p⟩ => ⟨e, R, F, s, ?_⟩
  unfold dRep at p
  cases h1 : d e with
  | no => simp only [h1] at p; exact p
  | er C fs e1 => simp only [h1] at p; exact p.elim
  | ok r e1 w1 =>
    cases r with
    | t t =>
      cases t with
      | l ts =>
        simp only [h1] at p
        cases h2 : allD ts with
        | none => simp only [h2] at p; exact p.elim
        | some ds =>
          simp only [h2] at p
          have := allD_of h2
          subst this
          intro R1 H1 F1 G v s1 rw1 nd rf ex hw
          obtain ⟨pa, vs, Gv, rfl, q1, q2, q3⟩ := rw1
          obtain ⟨da, rfl⟩ := rpl_d' q3
          refine ⟨e1, R1, F1, s1, ?_⟩
          cases h3 : dk e1 with
          | no => simp only [h3] at p; exact p.elim
          | er C fs e2 => simp only [h3] at p; exact p.elim
          | ok x bb e2 w2 =>
            cases x with
            | int k =>
              cases w2 with
              | true => simp only [h3] at p; exact p.elim
              | false =>
                simp only [h3] at p
                intro R2 H2 F2 y s2 sd2 ex2 hw2
                have g2 := hw2 rfl
                by_cases hc : -9223372036854775808 ≤ k ∧ k < 9223372036854775808 ∧ ds.length * k.toNat ≤ SZ
                · rw [if_pos hc] at p
                  refine ⟨pa, k, vs, rfl, sd_int sd2, g2.hh _ _ q2, by omega, by omega, by rw [← sz_eq, dpa_len da]; exact hc.2.2, fun t ht => ?_⟩
                  obtain ⟨n1, n2, n3, n4, n5⟩ := new_own (o := .lst (List.replicate k.toNat vs).flatten) s2 ht
                  exact p R2 _ F2 [t] _ n1 ⟨t, _, [], rfl, .refl _, upd_same, rpl_d (dpa_rep (dpa_up ex2.rr _ _ da) _)⟩ n2 n3 (((ex.mono fun a ha => List.mem_append_left _ ha).trans ex2).trans n4) (fun z => ⟨((hw z).1.trans g2).trans n5, fun a ha => by simp at ha; subst ha; exact ((hw z).1.trans g2).hh.free ht⟩)
                · rw [if_neg hc] at p; exact p.elim
            | _ => simp only [h3] at p; exact p.elim
      | _ => simp only [h1] at p; exact p.elim
    | _ => simp only [h1] at p; exact p.elim
theorem sc_mul {K : PySem.W.Frag} : Sc2 K (rI CMul fun i j => .int (i * j)) fMul := sc_I2 fun _ _ h => c_mul h
theorem sc_div {K : PySem.W.Frag} : Sc2 K (rI CDiv fun i j => .int (i / j)) fDiv := sc_I2 fun _ _ h => c_div h
theorem sc_mod {K : PySem.W.Frag} : Sc2 K (rI (fun _ j => 0 < j) fun i j => .int (i % j)) fMod := sc_I2 fun _ _ h => of_decide_eq_true h
theorem sc_pow {K : PySem.W.Frag} : Sc2 K (rI CPow fun i j => .int (i ^ j.toNat)) fPow := sc_I2 fun _ _ h => c_pow h
theorem sc_shr {K : PySem.W.Frag} : Sc2 K (rI (fun _ j => 0 ≤ j) fun i j => .int (i / 2 ^ j.toNat)) fShr := sc_I2 fun _ _ h => of_decide_eq_true h
/-! ## slices of any kind, as data -/
def fSlP : PyData → Option Int → Option Int → Option PyData
  | .list ds, lo, hi => some (.list (cutD ds lo hi))
  | .tuple ds, lo, hi => some (.tuple (cutD ds lo hi))
  | .str z, lo, hi => if z.length ≤ SZ then some (.str (cutS z lo hi)) else none
  | _, _, _ => none
def vSlP (d : Env → RV) (lo hi : Option (Env → RV)) : Env → RV := fun e => match d e with
  | .ok x _ e1 w => match vOpt lo e1 with
    | some (l, e2) => match vOpt hi e2 with
      | some (h, e3) => match fSlP x l h with
        | some z => .ok z false e3 w
        | none => .no
      | none => .no
    | none => .no
  | .er C fs e1 => .er C fs e1
  | .no => .no
section
variable {X : Cx} {c : Ctx} {d : Env → RV} {lo hi : Option (Env → RV)} {a : Expr} {l h : Option Expr} {p2 pos : Pos}
theorem ve_slP (he : PE X a (tV c d)) (hl : PO X l (tO c lo)) (hh : PO X h (tO c hi)) (hK : X.K = c.K := by rfl) : PE X (.Subscript a (.Slice l h none p2) pos) (tV c (vSlP d lo hi)) := by
  have or1 : SlR X (fun x lo hi H Q => (rSlA X.K x lo hi H Q ∨ rSlS x lo hi H Q) ∨ rSlL X.K x lo hi H Q) := (sl_tupA.or sl_str).or L2.sl_list
  refine PE.imp (pe_slice or1 he hl hh) fun σ H Q ⟨e, R, F, s, p⟩ => ⟨e, R, F, s, ?_⟩
  rw [hK]
  unfold vSlP at p
  cases h1 : d e with
  | no => simp only [h1] at p; exact p
  | er C fs e1 => simp only [h1] at p; exact p
  | ok x b e1 w =>
    simp only [h1] at p
    intro R1 H1 F1 u s1 sd ex hw
    cases h2 : vOpt lo e1 with
    | none => simp only [h2] at p; exact p.elim
    | some le =>
      obtain ⟨l', e2⟩ := le
      simp only [h2] at p
      refine vOpt_ok s1 h2 fun R2 H2 F2 s2 ex2 sm2 => ?_
      cases h3 : vOpt hi e2 with
      | none => simp only [h3] at p; exact p.elim
      | some he' =>
        obtain ⟨h', e3⟩ := he'
        simp only [h3] at p
        refine vOpt_ok s2 h3 fun R3 H3 F3 s3 ex3 sm3 => ?_
        cases h4 : fSlP x l' h' with
        | none => simp only [h4] at p; exact p.elim
        | some z =>
          simp only [h4] at p
          have sd' := sd.up (ex2.rr.trans ex3.rr) (fun _ => sm2.hh.trans sm3.hh)
          have fin : ∀ R' H' u, Gr R3 H3 R' H' → Dp c.K R' u z → Q u H' := fun R' H' u g dp => p R' H' F3 u (g.sr s3) dp (((ex.trans ex2).trans ex3).trans g.ex) (fun q => (((hw q).trans sm2).trans sm3).trans g)
          unfold fSlP at h4
          split at h4
          · cases h4
            obtain ⟨q, vs, rfl, q1, a1⟩ := sd_list sd' s3.rh
            exact .inr ⟨q, vs, rfl, q1, fun t ht => fin _ _ _ (Gr.new s3.rh ht) (.lst (.of upd_same) (dpa_up (same_new (s3.rh.free ht)) _ _ (dpa_cut a1)))⟩
          · cases h4
            obtain ⟨q, vs, rfl, q1, q1', a1⟩ := sd_tup sd' s3.rh
            refine .inl (.inl ⟨q, vs, rfl, q1, fun hw => ?_, fun hw t ht => ?_⟩)
            · refine fin R3 H3 _ (.refl s3.rh) ?_
              have e0 : ∀ ds, DpAll c.K R3 vs ds → cutD ds l' h' = ds := by
                intro ds a1
                unfold cutD
                rw [← dpa_len a1, hw.1, hw.2, List.drop_zero, Nat.sub_zero, List.take_of_length_le (by rw [dpa_len a1]; exact Nat.le_refl _)]
              rw [e0 _ a1]
              exact .tup q1' a1
            · exact fin _ _ _ (Gr.new s3.rh ht) (.tup (.of upd_same) (dpa_up (same_new (s3.rh.free ht)) _ _ (dpa_cut a1)))
          · split at h4
            · rename_i hz
              cases h4
              exact .inl (.inr ⟨_, sd_str sd', by rw [← sz_eq]; exact hz, fin R3 H3 _ (.refl s3.rh) (.str _)⟩)
            · cases h4
          · cases h4
end
/-! ## what is walked, of any kind -/
def iSeqS (K : PySem.W.Frag) (tl : TE) : TI := fun σ H R => tl σ H fun x H1 => (∃ a, x = .ref a ∧ (((∃ xs, SqL K H1 a xs) ∧ R (Itl K a) H1) ∨ ((∃ xs, SqT K H1 a xs) ∧ R (Itt K a) H1))) ∨ (∃ z, x = .str z ∧ R (Its z) H1)
theorem pi_seqS {X : Cx} {tg l : Expr} {tl : TE} (hl : PE X l tl) : PI X tg l (iSeqS X.K tl) := by
  refine ⟨fun pins s σ H R I h => ?_⟩
  refine thn (hl.run pins s σ H _ I h) fun v s1 ⟨x, H1, I1, r1, q1⟩ => ?_
  obtain ⟨a, e, ⟨⟨xs, hq⟩, q⟩ | ⟨⟨xs, hq⟩, q⟩⟩ | ⟨z, e, q⟩ := q1
  · subst e
    cases r1
    obtain ⟨its, rv, p, hz⟩ := I1.list hq
    refine wpAny_pyIter_list p.isList ?_
    refine ⟨s1.heap.objs.size, [s1.heap.objs.size], _, _, H1, rfl, I1.kept (t' := s1.toks) fun b o e => Heap.get?_push_of_some _ e, turn_list a _, ⟨_, Heap.get?_push_size _ rfl, rfl, rfl⟩, fun b hb => ?_, q⟩
    have e : b = s1.heap.objs.size := by simpa using hb
    subst e
    exact I1.fpOk (Nat.le_refl _) (I1.hok.fresh (Nat.le_refl _))
  · subst e
    cases r1
    obtain ⟨its, rv, p, hz⟩ := I1.tuple hq
    refine wpAny_pyIter_tuple (show s1.heap.IsTuple a its.toArray from p) ?_
    refine ⟨s1.heap.objs.size, [s1.heap.objs.size], _, _, H1, rfl, I1.kept (t' := s1.toks) fun b o e => Heap.get?_push_of_some _ e, turn_tuple a _, ⟨_, Heap.get?_push_size _ rfl, rfl, rfl⟩, fun b hb => ?_, q⟩
    have e : b = s1.heap.objs.size := by simpa using hb
    subst e
    exact I1.fpOk (Nat.le_refl _) (I1.hok.fresh (Nat.le_refl _))
  · subst e
    obtain ⟨t, rfl⟩ := r1
    cases ha : z.cps.all (· < 128)
    · exact wpAny_pyIter_wide ha (pi_one (tk := s1.toks) I1 _ (turn_str _ z t "str_iterator" (.inr rfl)) ⟨_, Heap.get?_push_size _ rfl, rfl, rfl⟩ q)
    · exact wpAny_pyIter_ascii ha (pi_one (tk := s1.toks) I1 _ (turn_str _ z t "str_ascii_iterator" (.inl rfl)) ⟨_, Heap.get?_push_size _ rfl, rfl, rfl⟩ q)
def signs (z : Str) : List PyData := z.cps.toList.map fun n => .str ⟨#[n]⟩
def iP (d : Env → RV) : Env → RI := fun e => match d e with
  | .ok (.list xs) false e1 w => .ok xs e1 w
  | .ok (.tuple xs) false e1 w => .ok xs e1 w
  | .ok (.str z) _ e1 w => .ok (signs z) e1 w
  | .ok _ _ _ _ => .no
  | .er C fs e1 => .er C fs e1
  | .no => .no
theorem ie_p {X : Cx} {c : Ctx} {tg l : Expr} {d : Env → RV} (h : PE X l (tV c d)) (hK : X.K = c.K := by rfl) : PI X tg l (tI c (iP d)) := by
  refine PI.imp (pi_seqS h) fun σ H Q ⟨e, R, F, s, p⟩ => ⟨e, R, F, s, ?_⟩
  rw [hK]
  unfold iP at p
  cases h1 : d e with
  | no => simp only [h1] at p; exact p
  | er C fs e1 => simp only [h1] at p; exact p
  | ok x b e1 w =>
    intro R1 H1 F1 v s1 sd ex hw
    cases x with
    | str z =>
      simp only [h1] at p
      refine .inr ⟨z, sd_str sd, p R1 H1 F1 _ s1 ⟨_, _, by unfold signs; rw [List.length_map, Array.length_toList]; exact walk_str, fun _ _ _ _ => trivial, fun i R' H' v H2 q1 q2 hi y => ?_⟩ ex hw⟩
      obtain ⟨rfl, n, hn, rfl⟩ := y
      refine ⟨R', .str ⟨#[n]⟩, ?_, .refl q2, .str _⟩
      unfold signs
      rw [List.getElem?_map, Array.getElem?_toList, hn]
      rfl
    | list ds =>
      cases b with
      | true => simp only [h1] at p; exact p.elim
      | false =>
        simp only [h1] at p
        cases sd with
        | lst hs ha => exact .inl ⟨_, rfl, .inl ⟨⟨_, s1.rh.seq hs⟩, p R1 H1 F1 _ s1 (walkD_at walk_list (fun R' H' q1 q2 => (q1.trans q2).seq hs) ha) ex hw⟩⟩
    | tuple ds =>
      cases b with
      | true => simp only [h1] at p; exact p.elim
      | false =>
        simp only [h1] at p
        cases sd with
        | tup hs ha => exact .inl ⟨_, rfl, .inr ⟨⟨_, sqt_up s1.rh hs⟩, p R1 H1 F1 _ s1 (walkD_at walk_tup (fun R' H' q1 q2 => sqt_up (q1.trans q2) hs) ha) ex hw⟩⟩
    | _ => simp only [h1] at p; exact p.elim
end Dn
namespace Dn
open PySem PySem.Spec PyProof.Rows L2
def iL (l : List Int) : List PyData := l.map .int
theorem htt_yes {c : Ctx} : ∀ (σ : L2.St) (H : Hp) (Q : Bool → Hp → Prop), tT (c0 c) (vC (.bool true)) σ H Q → tYes σ H Q := fun σ H Q h => by
  obtain ⟨k, e1, e2⟩ := vC_ok (v := .bl true) (fun _ => .bl _) h
  cases e1
  exact e2
/-! ## name = [..] -/
section
variable {X : Cx} {c : Ctx} {i : Nat} {y : Str} {py : Pos} {elt tgt iter : Expr} {ifs : List Expr} {scope : Scope} {own : List (Str × Nat)} {pos spos : Pos} {di : Env → RI} {g : TG} {tg : PyData → Env → Option Env} {tt el : Env → RV} {ttt : TT}
theorem se_setLc (hc : X.calm = true) (hN : X.N.Nodup) (hy : X.N[i]? = some y) (hyl : X.env.scope.names.lookup y = some .local) (hsw : swapsWith (.ListComp elt [⟨tgt, iter, ifs, 0⟩] scope pos) (some (.Name y py)) spos.line X.env = pure true) (hp : NoPin c.pn i) (hi : PI X tgt iter (tI c di)) (ok : BlkOk X.N X.env.scope scope own)
    (hg : ∀ (s : Shared) (H : Hp) (C : Addr) (cl : List (Str × Addr)) (fp : List Addr), PG (X.blk s H scope (compEnvC scope cl C X.env) fp) tgt g) (htg : TgOk (c0 c) (own.map (·.2)) g tg)
    (ht : ∀ (s : Shared) (H : Hp) (C : Addr) (cl : List (Str × Addr)) (fp : List Addr), PTs (X.blk s H scope (compEnvC scope cl C X.env) fp) ifs ttt) (htt : ∀ σ H Q, tT (c0 c) tt σ H Q → ttt σ H Q)
    (he : ∀ (s : Shared) (H : Hp) (C : Addr) (cl : List (Str × Addr)) (fp : List Addr), PE (X.blk s H scope (compEnvC scope cl C X.env) fp) elt (tV (c0 c) el)) (hs : ∀ x, foldedSetIterable iter X.env x = pure x := by intro _; rfl) :
    PS X (.Assign [.Name y py] (.ListComp elt [⟨tgt, iter, ifs, 0⟩] scope pos) spos) (tS c (sSet i (dLc di (own.map (·.2)) tg tt el))) :=
  PS.imp (ps_setLc hc hN hy hyl hsw hi ok hg ht he hs) fun D σ H h => dLc_ok htg htt (sSet_ok hp h)
theorem sSetV_D {d : Env → Res} {D : Ends} {σ : L2.St} {H : Hp} (hp : NoPin c.pn i) (h : tS c (sSetV i (vD d)) D σ H) : tAsg (tD c d) (gName i) D σ H := by
  have h2 := sSetV_ok hp h
  exact toV_ok h2
theorem se_setLcV (hc : X.calm = true) (hN : X.N.Nodup) (hy : X.N[i]? = some y) (hyl : X.env.scope.names.lookup y = some .local) (hsw : swapsWith (.ListComp elt [⟨tgt, iter, ifs, 0⟩] scope pos) (some (.Name y py)) spos.line X.env = pure true) (hp : NoPin c.pn i) (hi : PI X tgt iter (tI c di)) (ok : BlkOk X.N X.env.scope scope own)
    (hg : ∀ (s : Shared) (H : Hp) (C : Addr) (cl : List (Str × Addr)) (fp : List Addr), PG (X.blk s H scope (compEnvC scope cl C X.env) fp) tgt g) (htg : TgOk (c0 c) (own.map (·.2)) g tg)
    (ht : ∀ (s : Shared) (H : Hp) (C : Addr) (cl : List (Str × Addr)) (fp : List Addr), PTs (X.blk s H scope (compEnvC scope cl C X.env) fp) ifs ttt) (htt : ∀ σ H Q, tT (c0 c) tt σ H Q → ttt σ H Q)
    (he : ∀ (s : Shared) (H : Hp) (C : Addr) (cl : List (Str × Addr)) (fp : List Addr), PE (X.blk s H scope (compEnvC scope cl C X.env) fp) elt (tV (c0 c) el)) (hs : ∀ x, foldedSetIterable iter X.env x = pure x := by intro _; rfl) :
    PS X (.Assign [.Name y py] (.ListComp elt [⟨tgt, iter, ifs, 0⟩] scope pos) spos) (tS c (sSetV i (vD (dLc di (own.map (·.2)) tg tt el)))) :=
  PS.imp (ps_setLc hc hN hy hyl hsw hi ok hg ht he hs) fun D σ H h => dLc_ok htg htt (sSetV_D hp h)
end
/-! ## name op= e -/
def sAug (i : Nat) (f : Int → Int → Int) (d : Env → RV) : Env → Out := fun e => match e[i]? with
  | some (some (.d (.int x))) => match d e with
    | .ok (.int y) _ e1 _ => .nx (e1.set i (some (.d (.int (f x y)))))
    | .ok _ _ _ _ => .no
    | .er C fs e1 => .er C fs e1
    | .no => .no
  | _ => .no
theorem se_aug {X : Cx} {c : Ctx} {i : Nat} {x : Str} {e : Expr} {d : Env → RV} {op : Operator} {f : Int → Int → Int} {pos pos' : Pos} (hN : X.N.Nodup) (hi : X.N[i]? = some x) (hx : Loc X.env.scope x) (he : PE X e (tV c d)) (ho : PIp X op (ipI f)) (hp : NoPin c.pn i)
    (hf : X.fn x = true ∨ X.env.scope.names.lookup x = some .local := by first | exact .inl rfl | exact .inr rfl | assumption) : PS X (.AugAssign (.Name x pos') op e pos) (tS c (sAug i f d)) := by
  refine PS.imp (ps_aug hN hi hx he ho hf) fun D σ H ⟨ev, R, F, s, p⟩ => ?_
  unfold sAug at p
  cases h0 : ev[i]? with
  | none => simp only [h0] at p; exact p.elim
  | some o =>
    cases o with
    | none => simp only [h0] at p; exact p.elim
    | some t =>
      obtain ⟨v, F1, F2, h1, h2, h3, _⟩ := rps_take s.sl h0
      cases t with
      | d z =>
        cases z with
        | int z =>
          simp only [h0] at p
          have hv : v = .int z := by cases h3.2; rfl
          subst hv
          refine ⟨_, h1, ev, R, F, s, ?_⟩
          cases h4 : d ev with
          | no => simp only [h4] at p; exact p
          | er C fs e1 => simp only [h4] at p; exact fun R' H' F' x s' rx ex => p σ R' H' F' x s' rx ex
          | ok y b e1 w =>
            intro R' H' F' u s' sd ex hw
            cases y with
            | int y =>
              simp only [h4] at p
              refine ⟨z, y, rfl, sd_int sd, ?_⟩
              obtain ⟨F2, s2, f2⟩ := sr_set (i := i) s' (show Rp c.K R' H' (.d (.int (f z y))) (.int (f z y)) [] from ⟨rfl, .int _⟩) (by simpa using s'.nd) (by simp) hp
              exact p _ R' H' F2 s2 (ex.mono fun a ha => by simpa using f2 a ha)
            | _ => simp only [h4] at p; exact p.elim
        | _ => simp only [h0] at p; exact p.elim
      | _ => simp only [h0] at p; exact p.elim
end Dn
namespace Dn
open PySem PySem.Spec PyProof.Rows L2
/-- a def that others call -/
structure Cal (P : Program) (w : World) (K : PySem.W.Frag) (mg : Str → Option Value) (base : Heap) (CX : CXT) (k : Nat) (x : Str) (f : Addr) (fd : FuncData) (ps : List Str) (sp : Sp) : Prop where
  ok : FnOk P w K mg base CX k f fd ps sp
  b : Binds K fd ps []
  g : mg x = some (.ref f)
  kp : PySem.W.keepIn K (.ref f) = true
/-- what walk_of asks of the law -/
def spLaw (K : PySem.W.Frag) : Sp := fun vs H Q _ => ∃ (a : Addr) (ns : List Int), vs = [.ref a] ∧ SqL K H a (ns.map V.int) ∧ ns.length ≤ 63 ∧ ∀ H', Q (.bl true) H'
theorem law_imp {P : Program} {w : World} {K : PySem.W.Frag} {mg : Str → Option Value} {base : Heap} {k : Nat} {f : Addr} {fd : FuncData} {cl : Str → Addr} {fn : List T → FO} {n : Nat} (hn : n = 1) (h : FnOk P w K mg base CX0 k f fd ["script"] (fun vs H Q _ => spD K cl n fn vs H Q E0))
    (main : ∀ ns : List Int, ns.length ≤ 63 → ∃ ts, fn [.d (.list (ns.map .int))] = .rt (.d (.bool true)) ts) : FnOk P w K mg base CX0 k f fd ["script"] (spLaw K) := by
  refine h.imp fun vs H Q E ⟨a, ns, hv, hS, hl, q⟩ => ?_
  subst hv
  obtain ⟨ts, hm⟩ := main ns hl
  have da : ∀ l : List Int, DpAll K H (l.map V.int) (l.map PyData.int) := fun l => by
    induction l with
    | nil => exact .nil
    | cons x r ih => exact .cons (.int x) ih
  refine ⟨by rw [hn]; rfl, [.d (.list (ns.map .int))], H, [], ⟨.ref a, [], [], [], rfl, .refl _, ⟨rfl, .lst hS (da ns)⟩, rfl, rfl⟩, .nil, Same.refl _, by simp, ?_⟩
  rw [hm]
  intro R' H' F' G v _ hv _ _ _ _
  obtain ⟨_, hv⟩ := hv
  cases hv
  exact q H'
end Dn
namespace Dn
open PySem PySem.Spec PyProof.Rows L2
/-! ## reading: one step at a time; what is not reached yet is left closed -/
def sq : Out → (Env → Out) → Out
  | .nx e1, k => k e1
  | o, _ => o
def sif : RV → (Env → Out) → (Env → Out) → Out
  | .ok (.bool b) _ e1 _, d1, d2 => if b = true then d1 e1 else d2 e1
  | .ok _ _ _ _, _, _ => .no
  | .er C fs e1, _, _ => .er C fs e1
  | .no, _, _ => .no
def vb : RV → (Bool → Env → RV) → RV
  | .ok (.bool b) _ e1 w, k => orw w (k b e1)
  | .ok _ _ _ _, _ => .no
  | .er C fs e1, _ => .er C fs e1
  | .no, _ => .no
def andA : RV → (Env → RV) → RV
  | .ok (.bool y) _ e1 w, d => if y = true then orw w (d e1) else .ok (.bool false) false e1 w
  | .ok _ _ _ _, _ => .no
  | .er C fs e1, _ => .er C fs e1
  | .no, _ => .no
def orA : RV → (Env → RV) → RV
  | .ok (.bool y) _ e1 w, d => if y = true then .ok (.bool true) false e1 w else orw w (d e1)
  | .ok _ _ _ _, _ => .no
  | .er C fs e1, _ => .er C fs e1
  | .no, _ => .no
def notA : RV → RV
  | .ok (.bool y) _ e1 w => .ok (.bool !y) false e1 w
  | .ok _ _ _ _ => .no
  | .er C fs e1 => .er C fs e1
  | .no => .no
def ifA : RV → (Env → RV) → (Env → RV) → RV
  | .ok (.bool y) _ e1 w, d1, d2 => if y = true then orw w (d1 e1) else orw w (d2 e1)
  | .ok _ _ _ _, _, _ => .no
  | .er C fs e1, _, _ => .er C fs e1
  | .no, _, _ => .no
def v1r : Option PyData → Env → Bool → RV
  | some z, e, w => .ok z false e w
  | none, _, _ => .no
def v1a (f : PyData → Option PyData) : RV → RV
  | .ok x _ e1 w => v1r (f x) e1 w
  | .er C fs e1 => .er C fs e1
  | .no => .no
def v2b (f : PyData → PyData → Option PyData) (x : PyData) (b w1 : Bool) : RV → RV
  | .ok y _ e2 w2 => if (b && w2) = true then .no else v1r (f x y) e2 (w1 || w2)
  | .er C fs e2 => .er C fs e2
  | .no => .no
def v2a (f : PyData → PyData → Option PyData) : RV → (Env → RV) → RV
  | .ok x b e1 w1, d2 => v2b f x b w1 (d2 e1)
  | .er C fs e1, _ => .er C fs e1
  | .no, _ => .no
def dlr : Option (List PyData) → Env → Bool → Res
  | some z, e, w => .ok (.t (.l (z.map T.d))) e w
  | none, _, _ => .no
def d1a (f : PyData → Option (List PyData)) : RV → Res
  | .ok x _ e1 w => dlr (f x) e1 w
  | .er C fs e1 => .er C fs e1
  | .no => .no
def d2b (f : PyData → PyData → Option (List PyData)) (x : PyData) (b w1 : Bool) : RV → Res
  | .ok y _ e2 w2 => if (b && w2) = true then .no else dlr (f x y) e2 (w1 || w2)
  | .er C fs e2 => .er C fs e2
  | .no => .no
def d2a (f : PyData → PyData → Option (List PyData)) : RV → (Env → RV) → Res
  | .ok x b e1 w1, d2 => d2b f x b w1 (d2 e1)
  | .er C fs e1, _ => .er C fs e1
  | .no, _ => .no
def ar2 (x : PyData) (w1 : Bool) : RA → RA
  | .ok xs e2 w2 => .ok (x :: xs) e2 (w1 || w2)
  | .er C fs e2 => .er C fs e2
  | .no => .no
def ar1 : RV → List (Env → RV) → RA
  | .ok x false e1 w1, ds => ar2 x w1 (vArgs ds e1)
  | .ok _ true _ _, _ => .no
  | .er C fs e1, _ => .er C fs e1
  | .no, _ => .no
def tupA : RA → RV
  | .ok xs e1 w => if xs.length ≤ SZ then .ok (.tuple xs) false e1 w else .no
  | .er C fs e1 => .er C fs e1
  | .no => .no
def lstA : RA → Res
  | .ok xs e1 w => if xs.length ≤ SZ then .ok (.t (.l (xs.map T.d))) e1 w else .no
  | .er C fs e1 => .er C fs e1
  | .no => .no
def calB (e1 : Env) (w : Bool) : FO → Res
  | .rt r _ => .ok (wOf r) e1 w
  | .er C fs _ => .er C fs e1
  | .no => .no
def calA (fn : List T → FO) : RA → Res
  | .ok xs e1 w => calB e1 w (fn (xs.map T.d))
  | .er C fs e1 => .er C fs e1
  | .no => .no
def varR : Option (PyData × Bool) → Env → RV
  | some (x, b), e => .ok x b e false
  | none, _ => .no
def varV : Option (Option T) → Env → RV
  | some (some t), e => varR (rdT t) e
  | _, _ => .no
def varD (i : Nat) : Option (Option T) → Env → Res
  | some (some _), e => .ok (.p i []) e false
  | _, _ => .no
def setA (i : Nat) : Res → Out
  | .ok (.v x) e1 _ => .nx (e1.set i (some (.d x)))
  | .ok (.t t) e1 _ => .nx (e1.set i (some t))
  | .ok _ _ _ => .no
  | .er C fs e1 => .er C fs e1
  | .no => .no
def setVA (i : Nat) : RV → Out
  | .ok x false e1 _ => .nx (e1.set i (some (.d x)))
  | .ok _ true _ _ => .no
  | .er C fs e1 => .er C fs e1
  | .no => .no
def asgB : Option Env → Out
  | some e2 => .nx e2
  | none => .no
def asgA (tg : PyData → Env → Option Env) : RV → Out
  | .ok x false e1 _ => asgB (tg x e1)
  | .ok _ true _ _ => .no
  | .er C fs e1 => .er C fs e1
  | .no => .no
def expA : RV → Out
  | .ok _ _ e1 _ => .nx e1
  | .er C fs e1 => .er C fs e1
  | .no => .no
def retA : Res → Out
  | .ok r e1 _ => .rt r e1
  | .er C fs e1 => .er C fs e1
  | .no => .no
def retVA : RV → Out
  | .ok x false e1 _ => .rt (.v x) e1
  | .ok _ true _ _ => .no
  | .er C fs e1 => .er C fs e1
  | .no => .no
def forA (bd : PyData → Env → Out) : RI → Out
  | .ok xs e1 _ => forL bd xs e1
  | .er C fs e1 => .er C fs e1
  | .no => .no
def sl3 (e3 : Env) (w : Bool) : Option PyData → RV
  | some z => .ok z false e3 w
  | none => .no
def sl2 (x : PyData) (l : Option Int) (w : Bool) : Option (Option Int × Env) → RV
  | some (h, e3) => sl3 e3 w (fSlP x l h)
  | none => .no
def sl1 (x : PyData) (w : Bool) (hi : Option (Env → RV)) : Option (Option Int × Env) → RV
  | some (l, e2) => sl2 x l w (vOpt hi e2)
  | none => .no
def sl0 (lo hi : Option (Env → RV)) : RV → RV
  | .ok x _ e1 w => sl1 x w hi (vOpt lo e1)
  | .er C fs e1 => .er C fs e1
  | .no => .no
def optA : RV → Option (Option Int × Env)
  | .ok (.int i) _ e1 false => some (some i, e1)
  | _ => none
def bdyA (b : Env → Out) : Option Env → Out
  | some e1 => b e1
  | none => .no
def iPA : RV → RI
  | .ok (.list xs) false e1 w => .ok xs e1 w
  | .ok (.tuple xs) false e1 w => .ok xs e1 w
  | .ok (.str z) _ e1 w => .ok (signs z) e1 w
  | .ok _ _ _ _ => .no
  | .er C fs e1 => .er C fs e1
  | .no => .no
def rg1A : RA → RI
  | .ok [.int j] e1 w => if in62 j = true then .ok (rngD 0 j.toNat) e1 w else .no
  | .ok _ _ _ => .no
  | .er C fs e1 => .er C fs e1
  | .no => .no
def rg2A : RA → RI
  | .ok [.int i, .int j] e1 w => if (in62 i && in62 j) = true then .ok (rngD i (j - i).toNat) e1 w else .no
  | .ok _ _ _ => .no
  | .er C fs e1 => .er C fs e1
  | .no => .no
def rg3A : RA → RI
  | .ok [.int i, .int j, .int st] e1 w => if (decide (st ≠ 0) && decide (st.natAbs < 1073741824) && Builtin.Range.small i j st && decide (0 ≤ Builtin.Range.rangeSize i j st)) = true then .ok (rngC i st (Builtin.Range.rangeSize i j st).toNat) e1 w else .no
  | .ok _ _ _ => .no
  | .er C fs e1 => .er C fs e1
  | .no => .no
def enA : RV → RI
  | .ok (.list xs) false e1 w => .ok (enumD 0 xs) e1 w
  | .ok _ _ _ _ => .no
  | .er C fs e1 => .er C fs e1
  | .no => .no
def zpA : RA → RI
  | .ok [.list xs, .list ys] e1 w => .ok (zipD xs ys) e1 w
  | .ok _ _ _ => .no
  | .er C fs e1 => .er C fs e1
  | .no => .no
def rvA : RV → RI
  | .ok (.list xs) false e1 w => .ok xs.reverse e1 w
  | .ok _ _ _ _ => .no
  | .er C fs e1 => .er C fs e1
  | .no => .no
def chC (w : Bool) : Option PyData → Env → RV
  | some r, e3 => .ok r false e3 w
  | none, _ => .no
def chB (f' : PyData → PyData → Option PyData) (y : PyData) (b' w : Bool) : RV → RV
  | .ok z _ e3 w3 => if (b' && w3) = true then .no else chC (w || w3) (f' y z) e3
  | .er C fs e3 => .er C fs e3
  | .no => .no
def chA (f' : PyData → PyData → Option PyData) (y : PyData) (b' w : Bool) (e2 : Env) (d3 : Env → RV) : Option PyData → RV
  | some (.bool t) => if t = true then chB f' y b' w (d3 e2) else .ok (.bool false) false e2 w
  | _ => .no
def ch2 (f f' : PyData → PyData → Option PyData) (x : PyData) (b w1 : Bool) (d3 : Env → RV) : RV → RV
  | .ok y b' e2 w2 => if (b && w2) = true then .no else chA f' y b' (w1 || w2) e2 d3 (f x y)
  | .er C fs e2 => .er C fs e2
  | .no => .no
def ch1 (f f' : PyData → PyData → Option PyData) (d2 d3 : Env → RV) : RV → RV
  | .ok x b e1 w1 => ch2 f f' x b w1 d3 (d2 e1)
  | .er C fs e1 => .er C fs e1
  | .no => .no
def lcA (e1 : Env) (w : Bool) : Option (List PyData) → Res
  | some ys => .ok (.t (.l (ys.map T.d))) e1 w
  | none => .no
def lc0 (vs : List Nat) (tg : PyData → Env → Option Env) (tt el : Env → RV) : RI → Res
  | .ok xs e1 w => if xs.length < SZ then lcA e1 w (lcG tg tt el (wipeE e1 vs) xs) else .no
  | .er C fs e1 => .er C fs e1
  | .no => .no
def augB (i : Nat) (f : Int → Int → Int) (x : Int) : RV → Out
  | .ok (.int y) _ e1 _ => .nx (e1.set i (some (.d (.int (f x y)))))
  | .ok _ _ _ _ => .no
  | .er C fs e1 => .er C fs e1
  | .no => .no
def augA (i : Nat) (f : Int → Int → Int) (d : Env → RV) (e : Env) : Option (Option T) → Out
  | some (some (.d (.int x))) => augB i f x (d e)
  | _ => .no
def appC (e2 : Env) (i : Nat) (q : List Stp) (t : T) : Option T → RV
  | some (.l ts) => if ts.length < SZ then .ok .none false (setE e2 i q (.l (ts ++ [t]))) true else .no
  | _ => .no
def appB (i : Nat) (q : List Stp) : Res → RV
  | .ok r e2 w => if w = true then .no else match tOf r with
    | some t => appC e2 i q t (getE e2 i q)
    | none => .no
  | .er C fs e2 => .er C fs e2
  | .no => .no
def appA (dx : Env → Res) : Res → RV
  | .ok (.p i q) e1 w => if w = true then .no else if isL (getE e1 i q) = true then appB i q (dx e1) else .no
  | _ => .no
def putD (e3 : Env) (i : Nat) (q : List Stp) (t : T) (z : Int) : Option T → Out
  | some (.l ts) => match ixN ts.length z with
    | some j => .nx (setE e3 i q (.l (ts.set j t)))
    | none => .no
  | _ => .no
def putC (i : Nat) (q : List Stp) (t : T) : RV → Out
  | .ok (.int z) _ e3 w => if w = true then .no else putD e3 i q t z (getE e3 i q)
  | _ => .no
def putB (dk : Env → RV) (t : T) : Res → Out
  | .ok (.p i q) e2 w => if w = true then .no else putC i q t (dk e2)
  | _ => .no
def putA2 (d : Env → Res) (dk : Env → RV) (e1 : Env) : Option T → Out
  | some t => putB dk t (d e1)
  | none => .no
def putA (d : Env → Res) (dk : Env → RV) : Res → Out
  | .ok r e1 _ => putA2 d dk e1 (tOf r)
  | .er C fs e1 => .er C fs e1
  | .no => .no
def pixB (e2 : Env) (i : Nat) (q : List Stp) (z : Int) : Option T → Res
  | some (.l ts) => match ixN ts.length z with
    | some j => .ok (.p i (q ++ [.i j])) e2 false
    | none => .no
  | _ => .no
def pixA2 (i : Nat) (q : List Stp) : RV → Res
  | .ok (.int z) _ e2 w => if w = true then .no else pixB e2 i q z (getE e2 i q)
  | _ => .no
def pixA (dk : Env → RV) : Res → Res
  | .ok (.p i q) e1 w => if w = true then .no else pixA2 i q (dk e1)
  | _ => .no
def tryB (su : Env → Out) (C : Str) (fs : Xd) (e1 : Env) : Option Bool → Out
  | some true => noEr (su e1)
  | some false => .er C fs e1
  | none => .no
def tryA (tb : List (Str × Bool)) (su : Env → Out) : Out → Out
  | .er C fs e1 => tryB su C fs e1 (tb.lookup C)
  | o => o
def repB (e1 : Env) (w1 : Bool) (ds : List PyData) : RV → Res
  | .ok (.int k) _ e2 w => if w = true then .no else if -9223372036854775808 ≤ k ∧ k < 9223372036854775808 ∧ ds.length * k.toNat ≤ SZ then .ok (.t (.l ((List.replicate k.toNat ds).flatten.map T.d))) e2 w1 else .no
  | _ => .no
def repA2 (dk : Env → RV) (e1 : Env) (w1 : Bool) : Option (List PyData) → Res
  | some ds => repB e1 w1 ds (dk e1)
  | none => .no
def repA (dk : Env → RV) : Res → Res
  | .ok (.t (.l ts)) e1 w1 => repA2 dk e1 w1 (allD ts)
  | _ => .no
section
variable {d d1 d2 : Env → Out} {t a b : Env → RV} {r r1 : Env → Res} {e : Env} {i : Nat} {f f' : PyData → PyData → Option PyData} {g : PyData → Option PyData} {ds : List (Env → RV)}
/-- a proof that is not seen through -/
theorem nr {α : Sort _} {a b : α} (h : a = b) : a = b := h
theorem x_seq : sSeq d1 d2 e = sq (d1 e) d2 := by show (match d1 e with | .nx e1 => d2 e1 | o => o) = _; cases d1 e <;> rfl
theorem x_nil : sNil e = .nx e := nr rfl
theorem x_if : sIf t d1 d2 e = sif (t e) d1 d2 := by
  show (match t e with | .ok (.bool true) _ e1 _ => d1 e1 | .ok (.bool false) _ e1 _ => d2 e1 | .ok _ _ _ _ => .no | .er C fs e1 => .er C fs e1 | .no => .no) = _
  cases t e with
  | ok x b e1 w => cases x with
    | bool y => cases y <;> rfl
    | _ => rfl
  | _ => rfl
theorem x_set : sSet i r e = setA i (r e) := nr rfl
theorem x_setV : sSetV i a e = setVA i (a e) := nr rfl
theorem x_asg {tg} : sAsg tg a e = asgA tg (a e) := by
  show (match a e with | .ok x false e1 _ => (match tg x e1 with | some e2 => Out.nx e2 | none => .no) | .ok _ true _ _ => .no | .er C fs e1 => .er C fs e1 | .no => .no) = _
  cases a e with
  | ok x b e1 w => cases b with
    | true => rfl
    | false => show (match tg x e1 with | some e2 => Out.nx e2 | none => .no) = asgB (tg x e1); cases tg x e1 <;> rfl
  | _ => rfl
theorem x_exp : sExp a e = expA (a e) := nr rfl
theorem x_ret : sRet r e = retA (r e) := nr rfl
theorem x_retV : sRetV a e = retVA (a e) := nr rfl
theorem x_retN : sRetN e = .rt (.v .none) e := nr rfl
theorem x_brk : sBrk e = .bk e := nr rfl
theorem x_cnt : sCnt e = .ct e := nr rfl
theorem x_for {di tg} : sFor di tg d e = forA (bdy tg d) (di e) := nr rfl
theorem x_bdy {tg x} : bdy tg d x e = bdyA d (tg x e) := by
  show (match tg x e with | some e1 => d e1 | none => .no) = _
  cases tg x e <;> rfl
theorem x_C {x : PyData} : vC x e = .ok x false e false := nr rfl
theorem x_var : vVar i e = varV e[i]? e := by
  show (match e[i]? with | some (some t) => (match rdT t with | some (x, b) => RV.ok x b e false | none => .no) | _ => .no) = _
  cases e[i]? with
  | none => rfl
  | some o => cases o with
    | none => rfl
    | some t => show (match rdT t with | some (x, b) => RV.ok x b e false | none => .no) = varR (rdT t) e; cases rdT t <;> rfl
theorem x_dvar : dVar i e = varD i e[i]? e := by
  show (match e[i]? with | some (some _) => Res.ok (.p i []) e false | _ => .no) = _
  cases e[i]? with
  | none => rfl
  | some o => cases o <;> rfl
theorem x_v1 : v1 g a e = v1a g (a e) := by
  show (match a e with | .ok x _ e1 w => (match g x with | some z => RV.ok z false e1 w | none => .no) | .er C fs e1 => .er C fs e1 | .no => .no) = _
  cases a e with
  | ok x b e1 w => show (match g x with | some z => RV.ok z false e1 w | none => .no) = v1r (g x) e1 w; cases g x <;> rfl
  | _ => rfl
theorem x_v2 : v2 f a b e = v2a f (a e) b := by
  unfold v2
  cases a e with
  | ok x bb e1 w1 =>
    simp only [v2a]
    cases b e1 with
    | ok y b2 e2 w2 => simp only [v2b]; cases f x y <;> rfl
    | _ => rfl
  | _ => rfl
theorem x_d1L {f} : d1L f a e = d1a f (a e) := by
  unfold d1L
  cases a e with
  | ok x b e1 w => show (match f x with | some z => Res.ok (.t (.l (z.map T.d))) e1 w | none => .no) = dlr (f x) e1 w; cases f x <;> rfl
  | _ => rfl
theorem x_d2L {f} : d2L f a b e = d2a f (a e) b := by
  unfold d2L
  cases a e with
  | ok x bb e1 w1 =>
    simp only [d2a]
    cases b e1 with
    | ok y b2 e2 w2 => simp only [d2b]; cases f x y <;> rfl
    | _ => rfl
  | _ => rfl
theorem x_and : vAnd a b e = andA (a e) b := by
  unfold vAnd vBool
  cases a e with
  | ok x bb e1 w => cases x with
    | bool y => cases y <;> simp [andA, orw, vC]
    | _ => rfl
  | _ => rfl
theorem x_or : vOr a b e = orA (a e) b := by
  unfold vOr vBool
  cases a e with
  | ok x bb e1 w => cases x with
    | bool y => cases y <;> simp [orA, orw, vC]
    | _ => rfl
  | _ => rfl
theorem x_not : vNot a e = notA (a e) := by
  unfold vNot vBool
  cases a e with
  | ok x bb e1 w => cases x with
    | bool y => simp [notA, orw, vC]
    | _ => rfl
  | _ => rfl
theorem x_ifx : vIf t a b e = ifA (t e) a b := by
  unfold vIf vBool
  cases t e with
  | ok x bb e1 w => cases x with
    | bool y => cases y <;> simp [ifA]
    | _ => rfl
  | _ => rfl
theorem x_args0 : vArgs [] e = .ok [] e false := nr rfl
theorem x_args1 : vArgs (a :: ds) e = ar1 (a e) ds := by
  rw [vArgs]
  cases a e with
  | ok x b e1 w => cases b with
    | true => rfl
    | false => simp only [ar1]; cases vArgs ds e1 <;> rfl
  | _ => rfl
theorem x_tup : vTup ds e = tupA (vArgs ds e) := nr rfl
theorem x_lst : dLst ds e = lstA (vArgs ds e) := nr rfl
theorem x_call {fn} : dCall fn ds e = calA fn (vArgs ds e) := by
  unfold dCall
  cases vArgs ds e with
  | ok xs e1 w => simp only [calA]; cases fn (xs.map T.d) <;> rfl
  | _ => rfl
theorem x_vD : vD r e = toV (r e) := nr rfl
theorem x_dV : dV a e = ofV (a e) := nr rfl
theorem x_slP {lo hi} : vSlP a lo hi e = sl0 lo hi (a e) := by
  unfold vSlP
  cases a e with
  | ok x b e1 w =>
    simp only [sl0]
    cases vOpt lo e1 with
    | none => rfl
    | some le =>
      obtain ⟨l, e2⟩ := le
      simp only [sl1]
      cases vOpt hi e2 with
      | none => rfl
      | some he =>
        obtain ⟨h', e3⟩ := he
        simp only [sl2]
        cases fSlP x l h' <;> rfl
  | _ => rfl
theorem x_opt0 : vOpt none e = some (none, e) := nr rfl
theorem x_opt1 : vOpt (some a) e = optA (a e) := by
  show (match a e with | .ok (.int i) _ e1 false => some (some i, e1) | _ => none) = _
  cases a e with
  | ok x b e1 w => cases x <;> cases w <;> rfl
  | _ => rfl
theorem x_iP : iP a e = iPA (a e) := nr rfl
theorem x_rg1 : iRg1 a e = rg1A (vArgs [a] e) := nr rfl
theorem x_rg2 : iRg2 a b e = rg2A (vArgs [a, b] e) := nr rfl
theorem x_rg3 : iRg3 a b t e = rg3A (vArgs [a, b, t] e) := nr rfl
theorem x_en : iEn a e = enA (a e) := nr rfl
theorem x_zp : iZp a b e = zpA (vArgs [a, b] e) := nr rfl
theorem x_rv : iRv a e = rvA (a e) := nr rfl
theorem x_ch : vCh f f' a b t e = ch1 f f' b t (a e) := by
  unfold vCh
  cases a e with
  | ok x bb e1 w1 =>
    simp only [ch1]
    cases b e1 with
    | ok y b2 e2 w2 =>
      simp only [ch2]
      by_cases hc : (bb && w2) = true
      · rw [if_pos hc, if_pos hc]
      · rw [if_neg hc, if_neg hc]
        cases f x y with
        | none => rfl
        | some z =>
          cases z with
          | bool q =>
            cases q with
            | false => rfl
            | true =>
              simp only [chA, if_true]
              cases t e2 with
              | ok z b3 e3 w3 => simp only [chB]; cases f' y z <;> rfl
              | er C fs e3 => rfl
              | no => rfl
          | _ => rfl
    | er C fs e2 => rfl
    | no => rfl
  | _ => rfl
theorem x_lc {di vs tg tt el} : dLc di vs tg tt el e = lc0 vs tg tt el (di e) := by
  unfold dLc
  cases di e with
  | ok xs e1 w =>
    simp only [lc0]
    cases lcG tg tt el (wipeE e1 vs) xs <;> rfl
  | _ => rfl
theorem x_aug {h} : sAug i h a e = augA i h a e e[i]? := by
  show (match e[i]? with | some (some (.d (.int x))) => (match a e with | .ok (.int y) _ e1 _ => Out.nx (e1.set i (some (.d (.int (h x y))))) | .ok _ _ _ _ => .no | .er C fs e1 => .er C fs e1 | .no => .no) | _ => .no) = _
  cases e[i]? with
  | none => rfl
  | some o => cases o with
    | none => rfl
    | some t => cases t with
      | d x => cases x with
        | int x => simp only [augA]; cases a e with
          | ok y b e1 w => cases y <;> rfl
          | _ => rfl
        | _ => rfl
      | _ => rfl
theorem x_app : vApp r r1 e = appA r1 (r e) := by
  unfold vApp
  cases r e with
  | ok x e1 w => cases x with
    | p i q => cases w with
      | true => rfl
      | false =>
        simp only [appA, Bool.false_eq_true, if_false]
        by_cases hc : isL (getE e1 i q) = true
        · rw [if_pos hc, if_pos hc]
          cases r1 e1 with
          | ok r2 e2 w2 => cases w2 with
            | true => rfl
            | false =>
              simp only [appB, Bool.false_eq_true, if_false]
              cases tOf r2 with
              | none => rfl
              | some t => simp only []; cases getE e2 i q with
                | none => rfl
                | some t0 => cases t0 <;> rfl
          | _ => rfl
        · rw [if_neg hc, if_neg hc]
    | _ => cases w <;> rfl
  | _ => rfl
theorem x_put : sPut r a r1 e = putA r a (r1 e) := by
  unfold sPut
  cases r1 e with
  | er C fs e1 => rfl
  | no => rfl
  | ok x e1 w =>
    simp only [putA]
    cases tOf x with
    | none => rfl
    | some t =>
      simp only [putA2]
      cases r e1 with
      | er C fs e1 => rfl
      | no => rfl
      | ok x2 e2 w2 =>
        cases x2 with
        | p i q =>
          cases w2 with
          | true => rfl
          | false =>
            simp only [putB]
            cases a e2 with
            | er C fs e1 => rfl
            | no => rfl
            | ok k b e3 w3 =>
              cases k with
              | int z =>
                cases w3 with
                | true => rfl
                | false =>
                  simp only [putC]
                  cases getE e3 i q with
                  | none => rfl
                  | some t0 => cases t0 <;> rfl
              | _ => cases w3 <;> rfl
        | _ => cases w2 <;> rfl
theorem x_pix : dPix r a e = pixA a (r e) := by
  unfold dPix
  cases r e with
  | er C fs e1 => rfl
  | no => rfl
  | ok x e1 w =>
    cases x with
    | p i q =>
      cases w with
      | true => rfl
      | false =>
        simp only [pixA]
        cases a e1 with
        | er C fs e1 => rfl
        | no => rfl
        | ok k b e2 w2 =>
          cases k with
          | int z =>
            cases w2 with
            | true => rfl
            | false =>
              simp only [pixA2]
              cases getE e2 i q with
              | none => rfl
              | some t0 => cases t0 <;> rfl
          | _ => cases w2 <;> rfl
    | _ => cases w <;> rfl
theorem x_try {tb} : sTry d1 tb d2 e = tryA tb d2 (d1 e) := by
  unfold sTry
  cases d1 e with
  | er C fs e1 =>
    simp only [tryA]
    cases tb.lookup C with
    | none => rfl
    | some q => cases q <;> rfl
  | _ => rfl
theorem x_rep : dRep r a e = repA a (r e) := by
  unfold dRep
  cases r e with
  | er C fs e1 => rfl
  | no => rfl
  | ok x e1 w =>
    cases x with
    | t t =>
      cases t with
      | l ts =>
        simp only [repA]
        cases allD ts with
        | none => rfl
        | some ds =>
          simp only [repA2]
          cases a e1 with
          | er C fs e1 => rfl
          | no => rfl
          | ok k b e2 w2 =>
            cases k with
            | int z => cases w2 <;> rfl
            | _ => cases w2 <;> rfl
      | _ => rfl
    | _ => rfl
theorem x_raise0 {C : Str} : sRaise0 C e = .er C none e := nr rfl
end
/-! ### what an undecided test leaves -/
section
variable {p : Prop} [Decidable p]
theorem y_sq {a b : Out} {k : Env → Out} : sq (if p then a else b) k = if p then sq a k else sq b k := by split <;> rfl
theorem y_sif {a b : RV} {d1 d2 : Env → Out} : sif (if p then a else b) d1 d2 = if p then sif a d1 d2 else sif b d1 d2 := by split <;> rfl
theorem y_retV {a b : RV} : retVA (if p then a else b) = if p then retVA a else retVA b := by split <;> rfl
theorem y_setV {a b : RV} {i : Nat} : setVA i (if p then a else b) = if p then setVA i a else setVA i b := by split <;> rfl
theorem y_toV {a b : Res} : toV (if p then a else b) = if p then toV a else toV b := by split <;> rfl
theorem y_ofV {a b : RV} : ofV (if p then a else b) = if p then ofV a else ofV b := by split <;> rfl
theorem y_orw {a b : RV} {w : Bool} : orw w (if p then a else b) = if p then orw w a else orw w b := by split <;> rfl
theorem y_and {a b : RV} {k : Env → RV} : andA (if p then a else b) k = if p then andA a k else andA b k := by split <;> rfl
theorem y_or {a b : RV} {k : Env → RV} : orA (if p then a else b) k = if p then orA a k else orA b k := by split <;> rfl
theorem y_not {a b : RV} : notA (if p then a else b) = if p then notA a else notA b := by split <;> rfl
theorem y_v1 {a b : RV} {f : PyData → Option PyData} : v1a f (if p then a else b) = if p then v1a f a else v1a f b := by split <;> rfl
theorem y_v2a {a b : RV} {f : PyData → PyData → Option PyData} {d : Env → RV} : v2a f (if p then a else b) d = if p then v2a f a d else v2a f b d := by split <;> rfl
theorem y_v2b {a b : RV} {f : PyData → PyData → Option PyData} {x : PyData} {u w : Bool} : v2b f x u w (if p then a else b) = if p then v2b f x u w a else v2b f x u w b := by split <;> rfl
theorem y_finW {a b : Out} {o : List Bool} {ts : List T} : finW o ts (if p then a else b) = if p then finW o ts a else finW o ts b := by split <;> rfl
theorem y_calB {a b : FO} {e : Env} {w : Bool} : calB e w (if p then a else b) = if p then calB e w a else calB e w b := by split <;> rfl
end
/-! ### loops, comprehensions by what holds -/
theorem forL_nx {bd : PyData → Env → Out} (I : Nat → Env → Prop) : ∀ (xs : List PyData) (k : Nat) (e : Env), I k e → (∀ i x e, xs[i]? = some x → I (k + i) e → ∃ e', bd x e = .nx e' ∧ I (k + i + 1) e') → ∃ e', forL bd xs e = .nx e' ∧ I (k + xs.length) e'
  | [], k, e, h, _ => ⟨e, rfl, h⟩
  | x :: r, k, e, h, hs => by
    obtain ⟨e1, h1, h2⟩ := hs 0 x e rfl h
    obtain ⟨e2, h3, h4⟩ := forL_nx I r (k + 1) e1 h2 (fun i y e q z => by
      have := hs (i + 1) y e (by simpa using q) (by rw [show k + (i + 1) = k + 1 + i by omega]; exact z)
      rw [show k + (i + 1) + 1 = k + 1 + i + 1 by omega] at this
      exact this)
    refine ⟨e2, ?_, by rw [List.length_cons, show k + (r.length + 1) = k + 1 + r.length by omega]; exact h4⟩
    unfold forL
    simp only [h1]
    exact h3
theorem for_inv {bd : PyData → Env → Out} {xs : List PyData} {e : Env} (I : Nat → Env → Prop) (h0 : I 0 e) (hs : ∀ i x e, xs[i]? = some x → I i e → ∃ e', bd x e = .nx e' ∧ I (i + 1) e') : ∃ e', forL bd xs e = .nx e' ∧ I xs.length e' := by
  obtain ⟨e', h1, h2⟩ := forL_nx I xs 0 e h0 (fun i x e q z => by rw [Nat.zero_add] at z ⊢; exact hs i x e q z)
  rw [Nat.zero_add] at h2
  exact ⟨e', h1, h2⟩
/-- the items of a comprehension, one by one -/
theorem lcG_map {tg : PyData → Env → Option Env} {tt el : Env → RV} {e0 : Env} (f : PyData → PyData) : ∀ (xs : List PyData), (∀ x ∈ xs, ∃ e1 e2 e3 b, tg x e0 = some e1 ∧ tt e1 = .ok (.bool true) b e2 false ∧ el e2 = .ok (f x) false e3 false) → lcG tg tt el e0 xs = some (xs.map f)
  | [], _ => rfl
  | x :: r, h => by
    obtain ⟨e1, e2, e3, b, h1, h2, h3⟩ := h x (by simp)
    unfold lcG
    simp only [h1, h2, h3, lcG_map f r (fun y hy => h y (by simp [hy])), Option.map_some, List.map_cons]
end Dn
namespace Dn
theorem sq_nx {e : Env} {k : Env → Out} : sq (.nx e) k = k e := nr rfl
theorem sq_rt {r : W} {e : Env} {k : Env → Out} : sq (.rt r e) k = .rt r e := nr rfl
theorem sq_bk {e : Env} {k : Env → Out} : sq (.bk e) k = .bk e := nr rfl
theorem sq_ct {e : Env} {k : Env → Out} : sq (.ct e) k = .ct e := nr rfl
theorem sq_er {C : PySem.Str} {fs : Xd} {e : Env} {k : Env → Out} : sq (.er C fs e) k = .er C fs e := nr rfl
theorem sq_no {k : Env → Out} : sq .no k = .no := nr rfl
theorem wOf_l {ts : List T} : wOf (.l ts) = .t (.l ts) := rfl
theorem wOf_o {C : PySem.Addr} {N : List PySem.Str} {ts : List T} : wOf (.o C N ts) = .t (.o C N ts) := rfl
theorem tryA_nx {tb : List (PySem.Str × Bool)} {su : Env → Out} {e : Env} : tryA tb su (.nx e) = .nx e := rfl
theorem tryA_rt {tb : List (PySem.Str × Bool)} {su : Env → Out} {r : W} {e : Env} : tryA tb su (.rt r e) = .rt r e := rfl
theorem tryA_bk {tb : List (PySem.Str × Bool)} {su : Env → Out} {e : Env} : tryA tb su (.bk e) = .bk e := rfl
theorem tryA_ct {tb : List (PySem.Str × Bool)} {su : Env → Out} {e : Env} : tryA tb su (.ct e) = .ct e := rfl
theorem noEr_nx {e : Env} : noEr (.nx e) = .nx e := rfl
theorem noEr_rt {r : W} {e : Env} : noEr (.rt r e) = .rt r e := rfl
theorem noEr_bk {e : Env} : noEr (.bk e) = .bk e := rfl
theorem noEr_ct {e : Env} : noEr (.ct e) = .ct e := rfl
theorem isNone_i {i : Int} : isNone (.int i) = false := rfl
theorem isNone_b {b : Bool} : isNone (.bool b) = false := rfl
theorem isNone_s {z : PySem.Str} : isNone (.str z) = false := rfl
theorem isNone_l {xs : List PySem.PyData} : isNone (.list xs) = false := rfl
theorem isNone_t {xs : List PySem.PyData} : isNone (.tuple xs) = false := rfl
theorem toVp {i : Nat} {q : List Stp} {e : Env} {w : Bool} {t : T} {x : PySem.PyData} {b : Bool} (h : getE e i q = some t) (h2 : rdT t = some (x, b)) : toV (.ok (.p i q) e w) = .ok x b e w := by simp only [toV, h, h2]
end Dn
/-! # data of ints -/
namespace Dn
open PySem PySem.Spec PyProof.Rows L2
section
variable {a b l : List Int} {i : Int}
theorem iL_nil : iL [] = [] := rfl
theorem iL_cons : iL (i :: l) = .int i :: iL l := rfl
theorem iL_app : iL a ++ iL b = iL (a ++ b) := by simp [iL]
theorem iL_len : (iL l).length = l.length := by simp [iL]
theorem iL_c : PyData.int i :: iL l = iL (i :: l) := rfl
theorem iL_drop {n : Nat} : (iL l).drop n = iL (l.drop n) := by simp [iL]
theorem iL_take {n : Nat} : (iL l).take n = iL (l.take n) := by simp [iL]
theorem iL_rev : (iL l).reverse = iL l.reverse := by simp [iL]
theorem iL_rep {n : Nat} : List.replicate n (PyData.int i) = iL (List.replicate n i) := by simp [iL]
theorem iL_get {n : Nat} : (iL l)[n]? = (l[n]?).map .int := by simp [iL]
theorem iL_inj (h : iL a = iL b) : a = b := by
  unfold iL at h
  have : (a.map PyData.int).map (fun x => match x with | .int i => i | _ => 0) = (b.map PyData.int).map (fun x => match x with | .int i => i | _ => 0) := by rw [h]
  simpa [List.map_map, Function.comp_def] using this
theorem allD_iL : allD ((iL l).map T.d) = some (iL l) := allD_d _
theorem dataL_iL : dataL ((iL l).map T.d) = some (iL l) := dataL_d _
theorem rngD_iL {lo : Int} {n : Nat} : rngD lo n = iL ((List.range n).map fun k => lo + (k : Nat)) := by simp [rngD, iL, List.map_map, Function.comp_def]
theorem rngD_get {lo : Int} {n i : Nat} {x : PyData} (h : (rngD lo n)[i]? = some x) : i < n ∧ x = .int (lo + (i : Nat)) := by
  unfold rngD at h
  rw [List.getElem?_map] at h
  obtain ⟨k, h1, h2⟩ := Option.map_eq_some_iff.mp h
  obtain ⟨h3, h4⟩ := List.getElem?_eq_some_iff.mp h1
  rw [List.getElem_range] at h4
  rw [List.length_range] at h3
  subst h4
  exact ⟨h3, h2.symm⟩
theorem rngD_len {lo : Int} {n : Nat} : (rngD lo n).length = n := by simp [rngD]
theorem enumD_get' {k i : Nat} {xs : List PyData} {x : PyData} (h : (enumD k xs)[i]? = some x) : ∃ y, xs[i]? = some y ∧ x = .tuple [.int ((k + i : Nat) : Int), y] := by
  cases e : xs[i]? with
  | none =>
    have h1 := List.getElem?_eq_none_iff.mp e
    rw [List.getElem?_eq_none_iff.mpr (by rw [enumD_len]; exact h1)] at h
    cases h
  | some y =>
    rw [enumD_get k xs i y e] at h
    cases h
    exact ⟨y, rfl, rfl⟩
/-! ### what is equal -/
theorem q_int {a b : Int} : fEq (.int a) (.int b) = some (.bool (decide (a = b))) := by
  unfold fEq
  rw [show (SeqAt.shaped (PyData.int a) && SeqAt.shaped (PyData.int b)) = true from rfl]
  simp only [PyData.eqv, if_true, show (a == b) = decide (a = b) from by rw [Bool.eq_iff_iff]; simp]
theorem canL_iL : ∀ l : List Int, PyData.canLayAll0 (iL l) = true
  | [] => rfl
  | i :: l => by
    rw [iL_cons, PyData.canLayAll0, canL_iL l]
    rfl
theorem dep_iL : ∀ l : List Int, PyData.depthAll (iL l) = 0
  | [] => rfl
  | i :: l => by
    rw [iL_cons, PyData.depthAll, dep_iL l]
    rfl
theorem sh_t : SeqAt.shaped (.tuple (iL l)) = true := by
  unfold SeqAt.shaped
  rw [PyData.canLay0, PyData.depth, canL_iL, dep_iL]
  rfl
theorem sh_l : SeqAt.shaped (.list (iL l)) = true := by
  unfold SeqAt.shaped
  rw [PyData.canLay0, PyData.depth, canL_iL, dep_iL]
  rfl
theorem eqv_iL : PyData.eqvAll (iL a) (iL b) = decide (a = b) := PySem.W.ked_eqvAll a b
theorem q_t : fEq (.tuple (iL a)) (.tuple (iL b)) = some (.bool (decide (a = b))) := by
  unfold fEq
  rw [sh_t, sh_t, PyData.eqv, eqv_iL]
  rfl
theorem q_l : fEq (.list (iL a)) (.list (iL b)) = some (.bool (decide (a = b))) := by
  unfold fEq
  rw [sh_l, sh_l, PyData.eqv, eqv_iL]
  rfl
theorem n_t : fNe (.tuple (iL a)) (.tuple (iL b)) = some (.bool (!decide (a = b))) := by
  unfold fNe
  rw [sh_t, sh_t, PyData.eqv, eqv_iL]
  rfl
theorem n_l : fNe (.list (iL a)) (.list (iL b)) = some (.bool (!decide (a = b))) := by
  unfold fNe
  rw [sh_l, sh_l, PyData.eqv, eqv_iL]
  rfl
theorem n_int {a b : Int} : fNe (.int a) (.int b) = some (.bool (!decide (a = b))) := by
  unfold fNe
  rw [show (SeqAt.shaped (PyData.int a) && SeqAt.shaped (PyData.int b)) = true from rfl]
  simp only [PyData.eqv, if_true, show (a == b) = decide (a = b) from by rw [Bool.eq_iff_iff]; simp]
theorem q_self {x : PyData} (h : SeqAt.shaped x = true) : fEq x x = some (.bool true) := by
  unfold fEq
  rw [h, SeqAt.eqv_refl x (SeqAt.canLay_of_shaped h)]
  rfl
theorem n_self {x : PyData} (h : SeqAt.shaped x = true) : fNe x x = some (.bool false) := by
  unfold fNe
  rw [h, SeqAt.eqv_refl x (SeqAt.canLay_of_shaped h)]
  rfl
/-! ### places and slices -/
theorem at_iL {z : Int} {n : Nat} (h : z = n) : atI (iL l) z = (l[n]?).map .int := by
  subst h
  unfold atI ixN
  rw [if_pos (by omega), iL_len]
  by_cases h : n < l.length
  · rw [if_pos (by omega), Int.toNat_natCast, Option.bind_some, iL_get]
  · rw [if_neg (by omega), List.getElem?_eq_none_iff.mpr (by omega)]
    rfl
end
section
variable {α : Type}
theorem at_0 {x0 : α} {l : List α} : atI (x0 :: l) 0 = some x0 := by
  unfold atI ixN
  rw [if_pos (by decide), if_pos (by simp only [List.length_cons]; omega)]
  rfl
theorem ai_0 {x0 : Int} {l : List Int} : atI (iL (x0 :: l)) 0 = some (.int x0) := at_0
theorem at_1 {x0 x1 : α} {l : List α} : atI (x0 :: x1 :: l) 1 = some x1 := by
  unfold atI ixN
  rw [if_pos (by decide), if_pos (by simp only [List.length_cons]; omega)]
  rfl
theorem ai_1 {x0 x1 : Int} {l : List Int} : atI (iL (x0 :: x1 :: l)) 1 = some (.int x1) := at_1
theorem at_2 {x0 x1 x2 : α} {l : List α} : atI (x0 :: x1 :: x2 :: l) 2 = some x2 := by
  unfold atI ixN
  rw [if_pos (by decide), if_pos (by simp only [List.length_cons]; omega)]
  rfl
theorem ai_2 {x0 x1 x2 : Int} {l : List Int} : atI (iL (x0 :: x1 :: x2 :: l)) 2 = some (.int x2) := at_2
theorem at_3 {x0 x1 x2 x3 : α} {l : List α} : atI (x0 :: x1 :: x2 :: x3 :: l) 3 = some x3 := by
  unfold atI ixN
  rw [if_pos (by decide), if_pos (by simp only [List.length_cons]; omega)]
  rfl
theorem ai_3 {x0 x1 x2 x3 : Int} {l : List Int} : atI (iL (x0 :: x1 :: x2 :: x3 :: l)) 3 = some (.int x3) := at_3
theorem at_4 {x0 x1 x2 x3 x4 : α} {l : List α} : atI (x0 :: x1 :: x2 :: x3 :: x4 :: l) 4 = some x4 := by
  unfold atI ixN
  rw [if_pos (by decide), if_pos (by simp only [List.length_cons]; omega)]
  rfl
theorem ai_4 {x0 x1 x2 x3 x4 : Int} {l : List Int} : atI (iL (x0 :: x1 :: x2 :: x3 :: x4 :: l)) 4 = some (.int x4) := at_4
theorem at_5 {x0 x1 x2 x3 x4 x5 : α} {l : List α} : atI (x0 :: x1 :: x2 :: x3 :: x4 :: x5 :: l) 5 = some x5 := by
  unfold atI ixN
  rw [if_pos (by decide), if_pos (by simp only [List.length_cons]; omega)]
  rfl
theorem ai_5 {x0 x1 x2 x3 x4 x5 : Int} {l : List Int} : atI (iL (x0 :: x1 :: x2 :: x3 :: x4 :: x5 :: l)) 5 = some (.int x5) := at_5
theorem at_6 {x0 x1 x2 x3 x4 x5 x6 : α} {l : List α} : atI (x0 :: x1 :: x2 :: x3 :: x4 :: x5 :: x6 :: l) 6 = some x6 := by
  unfold atI ixN
  rw [if_pos (by decide), if_pos (by simp only [List.length_cons]; omega)]
  rfl
theorem ai_6 {x0 x1 x2 x3 x4 x5 x6 : Int} {l : List Int} : atI (iL (x0 :: x1 :: x2 :: x3 :: x4 :: x5 :: x6 :: l)) 6 = some (.int x6) := at_6
end
section
variable {a b l : List Int} {i : Int}
theorem cut_iL {lo hi : Option Int} : cutD (iL l) lo hi = iL ((l.drop (HT.sIx l.length 0 lo)).take (HT.sIx l.length l.length hi - HT.sIx l.length 0 lo)) := by
  unfold cutD
  rw [iL_len, iL_drop, iL_take]
theorem cut_to {α : Type} {l : List α} {m : Int} (h : 0 ≤ m) : (l.drop (HT.sIx l.length 0 none)).take (HT.sIx l.length l.length (some m) - HT.sIx l.length 0 none) = l.take m.toNat := by
  obtain ⟨k, rfl⟩ := Int.eq_ofNat_of_zero_le h
  rw [HT.sIx_nat, HT.sIx_none, List.drop_zero, Nat.sub_zero, Int.toNat_natCast, List.take_eq_take_iff]
  omega
theorem cut_from {α : Type} {l : List α} {m : Int} (h : 0 ≤ m) : (l.drop (HT.sIx l.length 0 (some m))).take (HT.sIx l.length l.length none - HT.sIx l.length 0 (some m)) = l.drop m.toNat := by
  obtain ⟨k, rfl⟩ := Int.eq_ofNat_of_zero_le h
  rw [HT.sIx_nat, HT.sIx_none, Int.toNat_natCast]
  by_cases hk : k ≤ l.length
  · rw [Nat.min_eq_left hk]
    exact List.take_of_length_le (by rw [List.length_drop]; omega)
  · rw [List.drop_eq_nil_of_le (by omega), List.drop_eq_nil_of_le (by omega), List.take_nil]
theorem cut_mid {α : Type} {l : List α} {a m : Int} (h : 0 ≤ a) (h2 : 0 ≤ m) : (l.drop (HT.sIx l.length 0 (some a))).take (HT.sIx l.length l.length (some m) - HT.sIx l.length 0 (some a)) = (l.drop a.toNat).take (m.toNat - a.toNat) := by
  obtain ⟨k, rfl⟩ := Int.eq_ofNat_of_zero_le h
  obtain ⟨j, rfl⟩ := Int.eq_ofNat_of_zero_le h2
  rw [HT.sIx_nat, HT.sIx_nat, Int.toNat_natCast, Int.toNat_natCast]
  by_cases hk : k ≤ l.length
  · rw [Nat.min_eq_left hk, List.take_eq_take_iff, List.length_drop]
    omega
  · rw [List.drop_eq_nil_of_le (by omega), List.drop_eq_nil_of_le (by omega)]
    simp
end
section
variable {xs : List PyData}
theorem s_to {m : Int} (h : 0 ≤ m) : fSlP (.tuple xs) none (some m) = some (.tuple (xs.take m.toNat)) := by rw [fSlP.eq_2, cutD, cut_to h]
theorem s_from {m : Int} (h : 0 ≤ m) : fSlP (.tuple xs) (some m) none = some (.tuple (xs.drop m.toNat)) := by rw [fSlP.eq_2, cutD, cut_from h]
theorem s_mid {i m : Int} (h : 0 ≤ i) (h2 : 0 ≤ m) : fSlP (.tuple xs) (some i) (some m) = some (.tuple ((xs.drop i.toNat).take (m.toNat - i.toNat))) := by rw [fSlP.eq_2, cutD, cut_mid h h2]
theorem sl_to {m : Int} (h : 0 ≤ m) : fSlP (.list xs) none (some m) = some (.list (xs.take m.toNat)) := by rw [fSlP.eq_1, cutD, cut_to h]
theorem sl_from {m : Int} (h : 0 ≤ m) : fSlP (.list xs) (some m) none = some (.list (xs.drop m.toNat)) := by rw [fSlP.eq_1, cutD, cut_from h]
theorem sl_mid {i m : Int} (h : 0 ≤ i) (h2 : 0 ≤ m) : fSlP (.list xs) (some i) (some m) = some (.list ((xs.drop i.toNat).take (m.toNat - i.toNat))) := by rw [fSlP.eq_1, cutD, cut_mid h h2]
end
section
variable {a b l : List Int} {i : Int}
/-! ### what needs room -/
theorem add_t {xs ys : List PyData} (h : xs.length + ys.length ≤ SZ) : fAdd (.tuple xs) (.tuple ys) = some (.tuple (xs ++ ys)) := if_pos h
theorem add_l {xs ys : List PyData} (h : xs.length + ys.length ≤ SZ) : fAdd (.list xs) (.list ys) = some (.list (xs ++ ys)) := if_pos h
theorem cat_l {xs ys : List PyData} (h : xs.length + ys.length ≤ SZ) : fCat (.list xs) (.list ys) = some (xs ++ ys) := if_pos h
theorem isi_t {xs : List PyData} : fIsi "tuple" (.tuple xs) = some (.bool true) := by
  show (kitB "tuple" "tuple").map _ = _
  rfl
theorem isi_b {b : Bool} : fIsi "bool" (.bool b) = some (.bool true) := by
  show (kitB "bool" "bool").map _ = _
  rfl
theorem isi_i {b : Int} : fIsi "int" (.int b) = some (.bool true) := by
  show (kitB "int" "int").map _ = _
  rfl
theorem isi_l {xs : List PyData} : fIsi "list" (.list xs) = some (.bool true) := by
  show (kitB "list" "list").map _ = _
  rfl
theorem isi_s {s : Str} : fIsi "str" (.str s) = some (.bool true) := by
  show (kitB "str" "str").map _ = _
  rfl
end
section
theorem tgN_a {i : Nat} {x : PyData} {e : Env} : tgN i x e = some (e.set i (some (.d x))) := rfl
theorem tgT_a {is : List Nat} {ds : List PyData} {e : Env} (h : ds.length = is.length) : tgT is (.tuple ds) e = some (tgS is ds e) := if_pos h
theorem apd_ok {e : Env} {i : Nat} {q : List Stp} {t : T} {ts : List T} (h : ts.length < SZ) : appC e i q t (some (.l ts)) = .ok .none false (setE e i q (.l (ts ++ [t]))) true := if_pos h
theorem lc_ok {vs : List Nat} {tg : PyData → Env → Option Env} {tt el : Env → RV} {xs : List PyData} {e1 : Env} {w : Bool} (h : xs.length < SZ) : lc0 vs tg tt el (.ok xs e1 w) = lcA e1 w (lcG tg tt el (wipeE e1 vs) xs) := if_pos h
theorem in62_t {i : Int} (h : -4611686018427387904 ≤ i) (h2 : i < 4611686018427387904) : in62 i = true := by unfold in62; simp [h, h2]
theorem rg1_ok {j : Int} {e1 : Env} {w : Bool} (h : -4611686018427387904 ≤ j) (h2 : j < 4611686018427387904) : rg1A (.ok [.int j] e1 w) = .ok (rngD 0 j.toNat) e1 w := if_pos (in62_t h h2)
theorem rg2_ok {i j : Int} {e1 : Env} {w : Bool} (h : -4611686018427387904 ≤ i) (h2 : i < 4611686018427387904) (h3 : -4611686018427387904 ≤ j) (h4 : j < 4611686018427387904) : rg2A (.ok [.int i, .int j] e1 w) = .ok (rngD i (j - i).toNat) e1 w := if_pos (by rw [in62_t h h2, in62_t h3 h4]; rfl)
theorem iL_snoc {l : List Int} {x : Int} : (iL l).map T.d ++ [T.d (.int x)] = (iL (l ++ [x])).map T.d := by simp [iL]
theorem iL_mapd {a b : List Int} : (iL a).map T.d ++ (iL b).map T.d = (iL (a ++ b)).map T.d := by simp [iL]
theorem sh_s (s : Str) (h : s.cps.all (· < 0x110000) = true) : SeqAt.shaped (.str s) = true := by
  unfold SeqAt.shaped
  rw [PyData.canLay0, PyData.depth]
  show (s.cps.all (· < 0x110000) && decide (0 ≤ 64)) = true
  rw [h]; rfl
/-- a list of one value for each item of a walk -/
theorem lc_const {is : Nat} {c : PyData} {e0 : Env} (xs : List PyData) : lcG (tgN is) (vC (.bool true)) (vC c) e0 xs = some (List.replicate xs.length c) := by
  rw [lcG_map (tg := tgN is) (tt := vC (.bool true)) (el := vC c) (e0 := e0) (fun _ => c) xs (fun x _ => ⟨_, _, _, _, rfl, rfl, rfl⟩), List.map_const']
theorem rep_l {l : List Int} {n : Nat} {i : Int} : iL l ++ List.replicate n (PyData.int i) = iL (l ++ List.replicate n i) := by simp [iL]
end
theorem dataL_nil : dataL [] = some [] := rfl
theorem dataL_cons {x : PyData} {ts : List T} : dataL (.d x :: ts) = (dataL ts).map (x :: ·) := by
  show (match some x, dataL ts with | some x, some xs => some (x :: xs) | _, _ => none) = _
  cases dataL ts <;> rfl
theorem ixN_ok {n : Nat} {z : Int} (h : 0 ≤ z) (h2 : z < n) : ixN n z = some z.toNat := by
  unfold ixN
  rw [if_pos h, if_pos h2]
theorem q_str {s t : Str} (h1 : s.cps.all (· < 0x110000) = true) (h2 : t.cps.all (· < 0x110000) = true) {b : Bool} (h3 : (s == t) = b) : fEq (.str s) (.str t) = some (.bool b) := by
  unfold fEq
  rw [sh_s s h1, sh_s t h2, PyData.eqv, h3]
  rfl
theorem n_str {s t : Str} (h1 : s.cps.all (· < 0x110000) = true) (h2 : t.cps.all (· < 0x110000) = true) {b : Bool} (h3 : (s == t) = b) : fNe (.str s) (.str t) = some (.bool !b) := by
  unfold fNe
  rw [sh_s s h1, sh_s t h2, PyData.eqv, h3]
  rfl
theorem tgS_nil {e : Env} : tgS [] [] e = e := rfl
theorem rep_none {n : Nat} : List.replicate (n + 1) (none : Option T) = none :: List.replicate n none := rfl
theorem rep_none0 : List.replicate 0 (none : Option T) = [] := rfl
theorem rep0 {i : Int} : iL (List.replicate 0 i) = [] := rfl
theorem allB_map {α : Type} (p : α → Bool) : ∀ l : List α, allB (l.map fun x => PyData.bool (p x)) = some (l.map p)
  | [] => rfl
  | x :: l => by
    show (allB (l.map fun x => PyData.bool (p x))).map (p x :: ·) = _
    rw [allB_map p l]; rfl
theorem any_map {α : Type} (p : α → Bool) (l : List α) : fAny (.list (l.map fun x => PyData.bool (p x))) = some (.bool (l.any p)) := by
  unfold fAny
  simp only [allB_map, Option.map_some, List.any_map]
  rfl
theorem all_map {α : Type} (p : α → Bool) (l : List α) : fAll (.list (l.map fun x => PyData.bool (p x))) = some (.bool (l.all p)) := by
  unfold fAll
  simp only [allB_map, Option.map_some, List.all_map]
  rfl
theorem any_false {α : Type} (l : List α) : fAny (.list (l.map fun _ => PyData.bool false)) = some (.bool false) := by
  rw [any_map (fun _ => false)]; simp
theorem all_true {α : Type} (l : List α) : fAll (.list (l.map fun _ => PyData.bool true)) = some (.bool true) := by
  rw [all_map (fun _ => true)]; simp
/-- a walk inside a def: what holds after each item -/
theorem for_fin {o : List Bool} {ts : List T} {bd : PyData → Env → Out} {xs : List PyData} {e : Env} {k : Env → Out} {R : FO} (I : Nat → Env → Prop) (h0 : I 0 e) (hs : ∀ i x e, xs[i]? = some x → I i e → ∃ e', bd x e = .nx e' ∧ I (i + 1) e') (hk : ∀ e', I xs.length e' → finW o ts (k e') = R) : finW o ts (sq (forL bd xs e) k) = R := by
  obtain ⟨e', h1, h2⟩ := for_inv I h0 hs
  rw [h1]
  exact hk e' h2
theorem dpa_iL {K : PySem.W.Frag} {R : Hp} : ∀ l : List Int, DpAll K R (l.map V.int) (iL l)
  | [] => .nil
  | i :: l => .cons (.int i) (dpa_iL l)
section
variable {l : List Int} {i : Int}
theorem iL_one : [PyData.int i] = iL [i] := rfl
theorem at_g {z : Int} (h : 0 ≤ z) (h2 : z < l.length) : atI (iL l) z = some (.int (l.getD z.toNat 0)) := by
  obtain ⟨n, rfl⟩ := Int.eq_ofNat_of_zero_le h
  rw [at_iL (n := n) rfl, Int.toNat_natCast, List.getElem?_eq_getElem (by omega), List.getD_eq_getElem?_getD, List.getElem?_eq_getElem (by omega)]
  rfl
theorem getD_in {P : Int → Prop} {n : Nat} (h : ∀ o ∈ l, P o) (h0 : P 0) : P (l.getD n 0) := by
  rw [List.getD_eq_getElem?_getD]
  cases e : l[n]? with
  | none => exact h0
  | some x => exact h x (List.mem_of_getElem? e)
theorem at_last {α : Type} {xs : List α} : atI xs (-1) = xs.getLast? := by
  unfold atI ixN
  rw [if_neg (by omega)]
  cases xs with
  | nil => rfl
  | cons x r =>
    rw [if_pos (by simp only [List.length_cons]; omega), List.getLast?_eq_getElem?, Option.bind_some]
    congr 1
    omega
theorem lc_ints {v : Nat} {el : Dn.Env → RV} {e0 : Dn.Env} (g : Int → Int) : ∀ {l : List Int}, (∀ k ∈ l, ∃ e3, el (e0.set v (some (.d (.int k)))) = .ok (.int (g k)) false e3 false) → lcG (tgN v) (vC (.bool true)) el e0 (iL l) = some (iL (l.map g))
  | [], _ => rfl
  | k :: l, h => by
    obtain ⟨e3, h1⟩ := h k (by simp)
    have ih := lc_ints (v := v) (el := el) (e0 := e0) g (l := l) (fun k hk => h k (by simp [hk]))
    rw [iL_cons, List.map_cons, iL_cons]
    unfold lcG
    simp only [tgN_a, x_C, h1, ih, Option.map_some]
theorem set_iL {n : Nat} {x : Int} : ((iL l).map T.d).set n (.d (.int x)) = (iL (l.set n x)).map T.d := by
  unfold iL
  rw [List.map_set, List.map_set]
theorem q_gen {x y : PyData} (h : SeqAt.shaped x = true) (h2 : SeqAt.shaped y = true) : fEq x y = some (.bool (PyData.eqv x y)) := by
  unfold fEq
  rw [h, h2]; rfl
theorem n_gen {x y : PyData} (h : SeqAt.shaped x = true) (h2 : SeqAt.shaped y = true) : fNe x y = some (.bool (!PyData.eqv x y)) := by
  unfold fNe
  rw [h, h2]; rfl
end
theorem ll1 {x0 : Int} : PyData.list [.int x0] = .list (iL [x0]) := rfl
theorem lt1 {x0 : Int} : PyData.tuple [.int x0] = .tuple (iL [x0]) := rfl
theorem ll2 {x0 x1 : Int} : PyData.list [.int x0, .int x1] = .list (iL [x0, x1]) := rfl
theorem lt2 {x0 x1 : Int} : PyData.tuple [.int x0, .int x1] = .tuple (iL [x0, x1]) := rfl
theorem ll3 {x0 x1 x2 : Int} : PyData.list [.int x0, .int x1, .int x2] = .list (iL [x0, x1, x2]) := rfl
theorem lt3 {x0 x1 x2 : Int} : PyData.tuple [.int x0, .int x1, .int x2] = .tuple (iL [x0, x1, x2]) := rfl
theorem ll4 {x0 x1 x2 x3 : Int} : PyData.list [.int x0, .int x1, .int x2, .int x3] = .list (iL [x0, x1, x2, x3]) := rfl
theorem lt4 {x0 x1 x2 x3 : Int} : PyData.tuple [.int x0, .int x1, .int x2, .int x3] = .tuple (iL [x0, x1, x2, x3]) := rfl
theorem ll5 {x0 x1 x2 x3 x4 : Int} : PyData.list [.int x0, .int x1, .int x2, .int x3, .int x4] = .list (iL [x0, x1, x2, x3, x4]) := rfl
theorem lt5 {x0 x1 x2 x3 x4 : Int} : PyData.tuple [.int x0, .int x1, .int x2, .int x3, .int x4] = .tuple (iL [x0, x1, x2, x3, x4]) := rfl
theorem ll6 {x0 x1 x2 x3 x4 x5 : Int} : PyData.list [.int x0, .int x1, .int x2, .int x3, .int x4, .int x5] = .list (iL [x0, x1, x2, x3, x4, x5]) := rfl
theorem lt6 {x0 x1 x2 x3 x4 x5 : Int} : PyData.tuple [.int x0, .int x1, .int x2, .int x3, .int x4, .int x5] = .tuple (iL [x0, x1, x2, x3, x4, x5]) := rfl
theorem ll7 {x0 x1 x2 x3 x4 x5 x6 : Int} : PyData.list [.int x0, .int x1, .int x2, .int x3, .int x4, .int x5, .int x6] = .list (iL [x0, x1, x2, x3, x4, x5, x6]) := rfl
theorem lt7 {x0 x1 x2 x3 x4 x5 x6 : Int} : PyData.tuple [.int x0, .int x1, .int x2, .int x3, .int x4, .int x5, .int x6] = .tuple (iL [x0, x1, x2, x3, x4, x5, x6]) := rfl
theorem ll8 {x0 x1 x2 x3 x4 x5 x6 x7 : Int} : PyData.list [.int x0, .int x1, .int x2, .int x3, .int x4, .int x5, .int x6, .int x7] = .list (iL [x0, x1, x2, x3, x4, x5, x6, x7]) := rfl
theorem lt8 {x0 x1 x2 x3 x4 x5 x6 x7 : Int} : PyData.tuple [.int x0, .int x1, .int x2, .int x3, .int x4, .int x5, .int x6, .int x7] = .tuple (iL [x0, x1, x2, x3, x4, x5, x6, x7]) := rfl
theorem ll9 {x0 x1 x2 x3 x4 x5 x6 x7 x8 : Int} : PyData.list [.int x0, .int x1, .int x2, .int x3, .int x4, .int x5, .int x6, .int x7, .int x8] = .list (iL [x0, x1, x2, x3, x4, x5, x6, x7, x8]) := rfl
theorem lt9 {x0 x1 x2 x3 x4 x5 x6 x7 x8 : Int} : PyData.tuple [.int x0, .int x1, .int x2, .int x3, .int x4, .int x5, .int x6, .int x7, .int x8] = .tuple (iL [x0, x1, x2, x3, x4, x5, x6, x7, x8]) := rfl
end Dn
/-! # [f(x, y) for x in .. for y in ..] -/
namespace Dn
open PySem PySem.Spec PyProof.Rows L2
/-- X(), an own class without an __init__ of its own -/
theorem pmk_own0 {X : Cx} {C : Addr} {bmB : List Value} {B newId initId : String} {x : Str} {p pos : Pos} (F : ExcBaseFacts B newId initId bmB) (q : PySem.W.excIn X.K C bmB newId = true) (gC : X.mg x = some (.ref C)) (kC : PySem.W.keepIn X.K (.ref C) = true) (r : Raises X (.ref C)) (hg : Gl X x)
    (hdb : (x == ("__debug__" : Str)) = false := by decide) : PMk X (.Call (.Name x p) [] [] pos) (fun _ H Q => Q (.ref C) none H) := by
  intro pins s σ H Q I h
  refine wpAny_Call_Name_kw (ld_glob I hg gC ?_ hdb)
  refine PySem.W.callWith_K0 I.kIn kC ?_
  show wpAny _ _ (call (.ref C) []) _ _ _
  obtain ⟨bm, N, nm, qn, bs, hdct, sn, sub, ab, col, dd, k0, k1, k2, k3, k5, mN, hC, hN, hni, T⟩ := exc_obj I.kIn q
  refine wpAny_call_exc_subT F T hC hN hni (fun h' e hm => ?_) (Nat.zero_le _)
  exact mk_of I hm r h (I.hok.gone hm.new)
/-- an own error class without fields -/
structure OwnErr (K : PySem.W.Frag) (mg : Str → Option Value) (x : Str) (C : Addr) : Prop where
  gC : mg x = some (.ref C)
  xP : PySem.W.excIn K C [.type "ValueError", .type "Exception", .type "BaseException", .type "object"] "ValueError.__new__" = true
  kP : PySem.W.keepIn K (.ref C) = true
  bP : PySem.W.subIn K (.ref C) (.type "BaseException") = some true
  tP : PySem.W.typeIn K (.ref C) = some (.type "type")
def lcG2 (tg : PyData → Env → Option Env) (di1 : Env → RI) (vs1 : List Nat) (tg1 : PyData → Env → Option Env) (el : Env → RV) (e0 : Env) : List PyData → Option (List PyData)
  | [] => some []
  | x :: r => match tg x e0 with
    | some e1 => match di1 e1 with
      | .ok ys e2 false => match lcG tg1 (vC (.bool true)) el (wipeE e2 vs1) ys with
        | some zs => (lcG2 tg di1 vs1 tg1 el e0 r).map (zs ++ ·)
        | none => none
      | _ => none
    | none => none
def dLc2 (di : Env → RI) (vs : List Nat) (tg : PyData → Env → Option Env) (di1 : Env → RI) (vs1 : List Nat) (tg1 : PyData → Env → Option Env) (el : Env → RV) : Env → Res := fun e => match di e with
  | .ok xs e1 w => match lcG2 tg di1 vs1 tg1 el (wipeE e1 vs) xs with
      | some ys => if ys.length < SZ then .ok (.t (.l (ys.map T.d))) e1 w else .no
      | none => .no
  | .er C fs e1 => .er C fs e1
  | .no => .no
abbrev cut (H : Hp) (D : Addr) : Hp := fun a => if a = D then none else H a
/-- what the list of a comprehension keeps to -/
structure LcS (K : PySem.W.Frag) (R1 H1 : Hp) (D : Addr) (R' H' : Hp) (acc : List V) (done : List PyData) : Prop where
  gr : Gr R1 H1 R' (cut H' D)
  hD : H' D = some (.lst acc)
  da : DpAll K R' acc done
section
variable {K : PySem.W.Frag} {R1 H1 R' H' : Hp} {D : Addr} {acc : List V} {done : List PyData}
theorem LcS.rh (S : LcS K R1 H1 D R' H' acc done) : Same R' H' := fun a o h => by
  have := S.gr.rh a o h
  by_cases z : a = D
  · unfold cut at this; rw [if_pos z] at this; cases this
  · unfold cut at this; rw [if_neg z] at this; exact this
theorem LcS.hh (S : LcS K R1 H1 D R' H' acc done) : Same H1 H' := fun a o h => by
  have := S.gr.hh a o h
  by_cases z : a = D
  · unfold cut at this; rw [if_pos z] at this; cases this
  · unfold cut at this; rw [if_neg z] at this; exact this
theorem LcS.rD (S : LcS K R1 H1 D R' H' acc done) : R' D = none := by
  cases q : R' D with
  | none => rfl
  | some o => have := S.gr.rh D o q; unfold cut at this; rw [if_pos rfl] at this; cases this
theorem LcS.keep (S : LcS K R1 H1 D R' H' acc done) (hD : H1 D = none) {R4 H4 : Hp} (q : Gr R' H' R4 H4) : LcS K R1 H1 D R4 H4 acc done := by
  have n4 : R4 D = none := by
    cases z : R4 D with
    | none => rfl
    | some o =>
      rcases q.rn D (by rw [z]; exact fun z => by cases z) with z | z
      · exact absurd S.rD z
      · rw [S.hD] at z; cases z
  refine ⟨⟨fun a o h => ?_, S.gr.rr.trans q.rr, fun a o h => ?_, fun a h => ?_⟩, q.hh D _ S.hD, dpa_up q.rr _ _ S.da⟩
  · have ne : a ≠ D := fun z => by rw [z, hD] at h; cases h
    show (if a = D then none else H4 a) = some o
    rw [if_neg ne]
    exact q.hh a o (S.hh a o h)
  · have ne : a ≠ D := fun z => by rw [z, n4] at h; cases h
    show (if a = D then none else H4 a) = some o
    rw [if_neg ne]
    exact q.rh a o h
  · rcases q.rn a h with z | z
    · exact S.gr.rn a z
    · exact .inr (S.hh.free z)
theorem LcS.app (S : LcS K R1 H1 D R' H' acc done) {u : V} {y : PyData} (d : Dp K R' u y) : LcS K R1 H1 D R' (upd H' D (.lst (acc ++ [u]))) (acc ++ [u]) (done ++ [y]) := by
  refine ⟨?_, upd_same, dpa_app S.da (.cons d .nil)⟩
  have e0 : cut (upd H' D (.lst (acc ++ [u]))) D = cut H' D := by
    funext a
    unfold cut
    by_cases z : a = D
    · rw [if_pos z, if_pos z]
    · rw [if_neg z, if_neg z, upd_ne z]
  rw [e0]
  exact S.gr
theorem cut_new {H1 : Hp} {D : Addr} {o : HO} (hD : H1 D = none) : cut (upd H1 D o) D = H1 := by
  funext a
  unfold cut
  by_cases z : a = D
  · subst z; rw [if_pos rfl, hD]
  · rw [if_neg z, upd_ne z]
theorem lcs_state {c : Ctx} {e1 : Env} {σ : L2.St} {F1 : List Addr} {vs : List Nat} (s1 : Sr c R1 H1 e1 σ F1) (S : LcS K R1 H1 D R' H' acc done) : ∃ F2, Sr (c0 c) R' H' (wipeE e1 vs) (wipe σ vs) F2 ∧ ∀ a ∈ F2, a ∈ F1 := by
  obtain ⟨F0, F2, pm, sl2⟩ := rps_wipe vs s1.sl
  have sub2 : ∀ a ∈ F2, a ∈ F1 := fun a ha => pm.mem_iff.mpr (List.mem_append_right _ ha)
  have nd2 : F2.Nodup := (List.nodup_append.mp (pm.nodup_iff.mp s1.nd)).2.1
  have nF : ∀ a ∈ F2, R' a = none := fun a ha => by
    have h1n := s1.rf a (sub2 a ha)
    cases q : R' a with
    | none => rfl
    | some o =>
      exfalso
      have hdom := rps_dom _ _ _ sl2 a ha
      rcases S.gr.rn a (by rw [q]; exact fun z => by cases z) with z | z
      · exact z h1n
      · exact hdom z
  exact ⟨F2, ⟨rps_up S.gr.rr _ _ _ (fun a _ o h => S.hh a o h) sl2, nd2, S.rh, nF, fun i v z => by simp [c0] at z, trivial⟩, sub2⟩
theorem lcs_step {c : Ctx} {e1 e2 : Env} {σ : L2.St} {F1 : List Addr} {vs : List Nat} {g : TG} {tg : PyData → Env → Option Env} {R3 H2 : Hp} {v : V} {x : PyData} {Q : L2.St → Hp → Prop} (s1 : Sr c R1 H1 e1 σ F1) (hD : H1 D = none) (S : LcS c.K R1 H1 D R' H' acc done) (gr3 : Gr R' H' R3 H2) (dp : Dp c.K R3 v x) (htg : TgOk (c0 c) vs g tg) (h3 : tg x (wipeE e1 vs) = some e2)
    (k : ∀ σ3 F3, Sr (c0 c) R3 H2 e2 σ3 F3 → (∀ a ∈ F3, a ∈ F1) → LcS c.K R1 H1 D R3 H2 acc done → wipe σ3 vs = wipe σ vs → Q σ3 H2) : g v (wipe σ vs) H2 Q := by
  have S3 := S.keep hD gr3
  obtain ⟨F2, sB, sub⟩ := lcs_state (vs := vs) s1 S3
  exact htg R3 H2 _ _ F2 v x e2 _ sB dp h3 fun σ3 F3 s3 f3 t3 => k σ3 F3 s3 (fun a ha => sub a (f3 a ha)) S3 (wipe_of t3)
theorem sr_cut {c : Ctx} {R H : Hp} {e : Env} {σ : L2.St} {F : List Addr} (s : Sr (c0 c) R H e σ F) (nD : D ∉ F) (rD : R D = none) : Sr (c0 c) R (cut H D) e σ F := by
  refine ⟨rps_up (Same.refl _) _ _ _ (fun a ha o h => ?_) s.sl, s.nd, fun a o h => ?_, s.rf, s.pn, s.fx⟩
  · have ne : a ≠ D := fun z => nD (z ▸ ha)
    show (if a = D then none else H a) = some o
    rw [if_neg ne]; exact h
  · have ne : a ≠ D := fun z => by rw [z, rD] at h; cases h
    show (if a = D then none else H a) = some o
    rw [if_neg ne]; exact s.rh a o h
end
theorem tYes_in {σ : L2.St} {H : Hp} {f g : Hp → Prop} (h : f H) : tYes σ H (fun b H3 => if b = true then f H3 else g H3) := by
  show (if true = true then f H else g H)
  rw [if_pos rfl]; exact h
theorem drop_of {xs : List PyData} {i : Nat} {x : PyData} (hx : xs[i]? = some x) : xs.drop i = x :: xs.drop (i + 1) := by
  obtain ⟨hl, hx'⟩ := List.getElem?_eq_some_iff.mp hx
  rw [List.drop_eq_getElem_cons hl, hx']
theorem dLc2_ok {c : Ctx} {vs vs1 : List Nat} {di di1 : Env → RI} {g g1 : TG} {tg tg1 : PyData → Env → Option Env} {el : Env → RV} (htg : TgOk (c0 c) vs g tg) (htg1 : TgOk (c0 c) vs1 g1 tg1) {σ : L2.St} {H : Hp} {Q : VK} (hh : tD c (dLc2 di vs tg di1 vs1 tg1 el) σ H Q) : tLc2 (tI c di) g tYes (tI (c0 c) di1) g1 tYes (tV (c0 c) el) vs vs1 σ H Q := by
  obtain ⟨e, R, F, s, p⟩ := hh
  refine ⟨e, R, F, s, ?_⟩
  unfold dLc2 at p
  cases h1 : di e with
  | no => simp only [h1] at p; exact p
  | er C fs e1 => simp only [h1] at p; exact p
  | ok xs e1 w =>
    simp only [h1] at p
    intro R1 H1 F1 J s1 ⟨G, Y, wk, hG, hY⟩ ex hw D hD
    cases h2 : lcG2 tg di1 vs1 tg1 el (wipeE e1 vs) xs with
    | none => simp only [h2] at p; exact p.elim
    | some ys =>
      simp only [h2] at p
      by_cases hl : ys.length < SZ
      · rw [if_pos hl] at p
        let P : Nat → Hp → Prop := fun i H => ∃ (R' : Hp) (acc : List V) (done : List PyData), LcS c.K R1 H1 D R' H acc done ∧ ∃ rest, lcG2 tg di1 vs1 tg1 el (wipeE e1 vs) (xs.drop i) = some rest ∧ ys = done ++ rest
        refine ⟨fun i m H => m = xs.length - i ∧ i ≤ xs.length ∧ P i H, ⟨_, rfl, Nat.zero_le _, R1, [], [], ⟨by rw [cut_new hD]; exact .refl s1.rh, upd_same, .nil⟩, ys, by rw [List.drop_zero]; exact h2, rfl⟩, ?_⟩
        rintro i m H2 ⟨rfl, hi, R', acc, done, S, rest, hr, hys⟩
        have q := hG R' H2 S.gr.rr S.rh
        by_cases hlt : i < xs.length
        · refine .inr ⟨wk.goes i H2 hlt q, P (i + 1), fun H' p' => ⟨xs.length - (i + 1), by omega, rfl, hlt, p'⟩, fun v H3 y => ?_⟩
          obtain ⟨R3, x, hx, gr3, dp⟩ := hY i R' H2 v H3 S.gr.rr S.rh hlt (wk.yields i H2 v H3 hlt q y)
          rw [drop_of hx] at hr
          unfold lcG2 at hr
          cases h3 : tg x (wipeE e1 vs) with
          | none => simp only [h3] at hr; cases hr
          | some e2 =>
            simp only [h3] at hr
            cases h4 : di1 e2 with
            | no => simp only [h4] at hr; cases hr
            | er C fs e3 => simp only [h4] at hr; cases hr
            | ok ys1 e3 w1 =>
              cases w1 with
              | true => simp only [h4] at hr; cases hr
              | false =>
                simp only [h4] at hr
                cases h5 : lcG tg1 (vC (.bool true)) el (wipeE e3 vs1) ys1 with
                | none => simp only [h5] at hr; cases hr
                | some zs =>
                  simp only [h5] at hr
                  obtain ⟨rest2, hr2, hr3⟩ := Option.map_eq_some_iff.mp hr
                  refine lcs_step s1 hD S gr3 dp htg h3 fun σ3 F3 s3 f3 S3 w3 => ⟨w3, ?_⟩
                  refine tYes_in ?_
                  refine ⟨e2, R3, F3, s3, ?_⟩
                  rw [h4]
                  intro R4 H4 F4 J1 s4 ⟨G1, Y1, wk1, hG1, hY1⟩ ex4 hw4
                  have S4 := S3.keep hD (hw4 rfl)
                  have nD : D ∉ F4 := fun z => by
                    rcases ex4.fn D z with z | z
                    · exact rps_dom _ _ _ s1.sl D (f3 D z) hD
                    · rw [S3.hD] at z; cases z
                  have s4c := sr_cut s4 nD S4.rD
                  have hDc : cut H4 D D = none := if_pos rfl
                  let P1 : Nat → Hp → Prop := fun j H => ∃ (R' : Hp) (acc' : List V) (done' : List PyData), LcS c.K R4 (cut H4 D) D R' H acc' done' ∧ ∃ zs1, lcG tg1 (vC (.bool true)) el (wipeE e3 vs1) (ys1.drop j) = some zs1 ∧ done ++ zs = done' ++ zs1
                  refine ⟨fun j k H => k = ys1.length - j ∧ j ≤ ys1.length ∧ P1 j H, ⟨_, rfl, Nat.zero_le _, R4, acc, done, ⟨.refl s4c.rh, S4.hD, S4.da⟩, zs, by rw [List.drop_zero]; exact h5, rfl⟩, ?_⟩
                  rintro j k H5 ⟨rfl, hj, R5, acc5, done5, S5, zs1, hz, hd5⟩
                  have q1 := hG1 R5 H5 S5.gr.rr S5.rh
                  by_cases lj : j < ys1.length
                  · refine .inr ⟨wk1.goes j H5 lj q1, P1 (j + 1), fun H' p' => ⟨ys1.length - (j + 1), by omega, rfl, lj, p'⟩, fun v1 H6 y1 => ?_⟩
                    obtain ⟨R6, x1, hx1, gr6, dp1⟩ := hY1 j R5 H5 v1 H6 S5.gr.rr S5.rh lj (wk1.yields j H5 v1 H6 lj q1 y1)
                    rw [drop_of hx1] at hz
                    unfold lcG at hz
                    cases h7 : tg1 x1 (wipeE e3 vs1) with
                    | none => simp only [h7] at hz; cases hz
                    | some e6 =>
                      simp only [h7, x_C] at hz
                      refine lcs_step (c := c0 c) s4c hDc S5 gr6 dp1 htg1 h7 fun σ6 F6 s6 f6 S6 w6 => ⟨w6, ?_⟩
                      refine tYes_in ?_
                      refine ⟨e6, R6, F6, s6, ?_⟩
                      cases h8 : el e6 with
                      | no => simp only [h8] at hz; cases hz
                      | er C fs e4 => simp only [h8] at hz; cases hz
                      | ok yv b7 e7 w7 =>
                        intro R7 H7 F7 u7 s7 sd7 ex7 hw7
                        cases b7 with
                        | true => simp only [h8] at hz; cases hz
                        | false =>
                          cases w7 with
                          | true => simp only [h8] at hz; cases hz
                          | false =>
                            simp only [h8] at hz
                            obtain ⟨zs2, hz2, hz3⟩ := Option.map_eq_some_iff.mp hz
                            have S7 := S6.keep hDc (hw7 rfl)
                            have la := dpa_len S7.da
                            have ll : done5.length < ys.length := by
                              rw [hys, ← hr3, ← List.append_assoc, hd5, ← hz3]
                              simp only [List.length_append, List.length_cons]
                              omega
                            exact ⟨acc5, S7.hD, by rw [la, ← sz_eq]; omega, R7, acc5 ++ [u7], done5 ++ [yv], S7.app sd7, zs2, hz2, by rw [hd5, ← hz3, List.append_assoc]; rfl⟩
                  · have ej : j = ys1.length := by omega
                    subst ej
                    refine .inl ⟨wk1.stops H5 q1, ?_⟩
                    rw [List.drop_length] at hz
                    have hz' : some ([] : List PyData) = some zs1 := hz
                    cases hz'
                    rw [List.append_nil] at hd5
                    exact ⟨R5, acc5, done5, ⟨S4.gr.trans S5.gr, S5.hD, S5.da⟩, rest2, hr2, by rw [hys, ← hr3, ← hd5, List.append_assoc]⟩
        · have ei : i = xs.length := by omega
          subst ei
          refine .inl ⟨wk.stops H2 q, ?_⟩
          rw [List.drop_length] at hr
          have hr' : some ([] : List PyData) = some rest := hr
          cases hr'
          rw [List.append_nil] at hys
          subst hys
          have g1 : Gr R1 H1 R' H2 := ⟨S.hh, S.gr.rr, S.rh, S.gr.rn⟩
          have nD : D ∉ F1 := fun z => rps_dom _ _ _ s1.sl D z hD
          refine p R' H2 F1 [D] _ (g1.sr s1) ⟨D, acc, [], rfl, .refl _, S.hD, rpl_d S.da⟩ ?_ (by simpa using S.rD) ?_ (fun z => ⟨(hw z).trans g1, fun a ha => by simp at ha; subst ha; exact (hw z).hh.free hD⟩)
          · exact List.nodup_append.mpr ⟨s1.nd, by simp, fun a ha b hb z => by simp at hb; subst hb; subst z; exact nD ha⟩
          · refine ex.trans ⟨g1.rr, fun a o h _ => g1.hh a o h, fun a h => (g1.rn a h).elim .inl fun z => .inr (.inr z), fun a ha => ?_⟩
            rcases List.mem_append.mp ha with ha | ha
            · exact .inl ha
            · simp at ha; subst ha; exact .inr hD
      · rw [if_neg hl] at p; exact p.elim
theorem de_lc2 {X : Cx} {c : Ctx} {elt tgt iter tgt1 iter1 : Expr} {scope : Scope} {own : List (Str × Nat)} {vs1 : List Nat} {pos : Pos} {di di1 : Env → RI} {g g1 : TG} {tg tg1 : PyData → Env → Option Env} {el : Env → RV} (hc : X.calm = true) (hN : X.N.Nodup) (hi : PI X tgt iter (tI c di)) (ok : BlkOk X.N X.env.scope scope own) (hv : ∀ i ∈ vs1, i ∈ own.map (·.2))
    (hg : ∀ (s : Shared) (H : Hp) (C : Addr) (cl : List (Str × Addr)) (fp : List Addr), PG (X.blk s H scope (compEnvC scope cl C X.env) fp) tgt g) (htg : TgOk (c0 c) (own.map (·.2)) g tg)
    (hi1 : ∀ (s : Shared) (H : Hp) (C : Addr) (cl : List (Str × Addr)) (fp : List Addr), PI (X.blk s H scope (compEnvC scope cl C X.env) fp) tgt1 iter1 (tI (c0 c) di1))
    (hg1 : ∀ (s : Shared) (H : Hp) (C : Addr) (cl : List (Str × Addr)) (fp : List Addr), PG (X.blk s H scope (compEnvC scope cl C X.env) fp) tgt1 g1) (htg1 : TgOk (c0 c) vs1 g1 tg1)
    (he : ∀ (s : Shared) (H : Hp) (C : Addr) (cl : List (Str × Addr)) (fp : List Addr), PE (X.blk s H scope (compEnvC scope cl C X.env) fp) elt (tV (c0 c) el)) (hs : ∀ x, foldedSetIterable iter X.env x = pure x := by intro _; rfl) (hs1 : ∀ env x, foldedSetIterable iter1 env x = pure x := by intro _ _; rfl) :
    PE X (.ListComp elt [⟨tgt, iter, [], 0⟩, ⟨tgt1, iter1, [], 0⟩] scope pos) (tD c (dLc2 di (own.map (·.2)) tg di1 vs1 tg1 el)) := PE.imp (pe_lc2 hc hN hi ok hv hg (fun _ _ _ _ _ => pts_nil) hi1 hg1 (fun _ _ _ _ _ => pts_nil) he hs hs1) fun σ H Q h => dLc2_ok htg htg1 h
/-! ## xs[::-1] -/
def fRv : PyData → Option (List PyData)
  | .list ds => some ds.reverse
  | _ => none
theorem dpa_rv {K : PySem.W.Frag} {R : Hp} : ∀ {vs : List V} {ds : List PyData}, DpAll K R vs ds → DpAll K R vs.reverse ds.reverse
  | _, _, .nil => .nil
  | _, _, .cons d r => by rw [List.reverse_cons, List.reverse_cons]; exact dpa_app (dpa_rv r) (.cons d .nil)
theorem sl_rev {K : PySem.W.Frag} : Sl1 K (fun x H1 Q => ∃ a xs, x = .ref a ∧ SqL K H1 a xs ∧ ∀ p, H1 p = none → Q (.ref p) (upd H1 p (.lst xs.reverse))) fRv := by
  intro R H v x b z Q rh s e k
  unfold fRv at e
  split at e
  · cases e
    obtain ⟨p, vs, rfl, h2, h3⟩ := sd_list s rh
    exact ⟨p, vs, rfl, h2, fun l hl => k l _ hl (dpa_rv h3)⟩
  · cases e
theorem de_rev {X : Cx} {c : Ctx} {e : Expr} {d : Env → RV} {k : Nat} {p1 p2 p3 pos : Pos} (he : PE X e (tV c d)) (hK : X.K = c.K := by rfl) : PE X (.Subscript e (.Slice none none (some (.UnaryOp .USub (.Constant (.int 1) k p1) p2)) p3) pos) (tD c (d1L fRv d)) := by
  refine PE.imp (pe_revL he) fun σ H Q h => ?_
  rw [hK]
  exact d1L_ok sl_rev h
theorem tg_sub {c : Ctx} {is js : List Nat} {g : TG} {tg : PyData → Env → Option Env} (h : TgOk c is g tg) (hs : ∀ i ∈ is, i ∈ js) : TgOk c js g tg := fun R H e σ F v x e' Q s d he q => h R H e σ F v x e' Q s d he fun σ' F' s' f t => q σ' F' s' f ⟨t.len, fun j hj => t.out j fun z => hj (hs j z)⟩
/-! ## reading -/
theorem x_lc2 {di di1 : Env → RI} {vs vs1 : List Nat} {tg tg1 : PyData → Env → Option Env} {el : Env → RV} {e : Env} : dLc2 di vs tg di1 vs1 tg1 el e = match di e with
  | .ok xs e1 w => match lcG2 tg di1 vs1 tg1 el (wipeE e1 vs) xs with
      | some ys => if ys.length < SZ then .ok (.t (.l (ys.map T.d))) e1 w else .no
      | none => .no
  | .er C fs e1 => .er C fs e1
  | .no => .no := rfl
def lc2A (e1 : Env) (w : Bool) : Option (List PyData) → Res
  | some ys => if ys.length < SZ then .ok (.t (.l (ys.map T.d))) e1 w else .no
  | none => .no
theorem lc2_ok {di di1 : Env → RI} {vs vs1 : List Nat} {tg tg1 : PyData → Env → Option Env} {el : Env → RV} {e e1 : Env} {xs ys : List PyData} {w : Bool} (h : di e = .ok xs e1 w) (h2 : lcG2 tg di1 vs1 tg1 el (wipeE e1 vs) xs = some ys) (h3 : ys.length < SZ) : dLc2 di vs tg di1 vs1 tg1 el e = .ok (.t (.l (ys.map T.d))) e1 w := by
  unfold dLc2
  simp only [h, h2]
  exact if_pos h3
/-- items one after another, each giving a list of ints -/
theorem lcG2_ints {i : Nat} {di1 : Env → RI} {vs1 : List Nat} {tg1 : PyData → Env → Option Env} {el : Env → RV} {e0 : Env} (f : Int → List Int) : ∀ {l : List Int}, (∀ k ∈ l, ∃ ys e2, di1 (e0.set i (some (.d (.int k)))) = .ok ys e2 false ∧ lcG tg1 (vC (.bool true)) el (wipeE e2 vs1) ys = some (iL (f k))) → lcG2 (tgN i) di1 vs1 tg1 el e0 (iL l) = some (iL (l.map f).flatten)
  | [], _ => rfl
  | k :: l, h => by
    obtain ⟨ys, e2, h1, h2⟩ := h k (by simp)
    have ih := lcG2_ints (i := i) (di1 := di1) (vs1 := vs1) (tg1 := tg1) (el := el) (e0 := e0) f (l := l) (fun k hk => h k (by simp [hk]))
    rw [iL_cons]
    unfold lcG2
    simp only [tgN_a, h1, h2, ih, Option.map_some, iL_app, List.map_cons, List.flatten_cons]
theorem fRv_l {xs : List PyData} : fRv (.list xs) = some xs.reverse := rfl
theorem rg3_ok {i j c : Int} {e1 : Env} {w : Bool} (hc : 0 < c) (hc2 : c < 1073741824) (hi : 0 ≤ i) (hij : i ≤ j) (hj : j < 1099511627776) : rg3A (.ok [.int i, .int j, .int c] e1 w) = .ok (rngC i c ((j - i + c - 1) / c).toNat) e1 w := by
  have e : Builtin.Range.rangeSize i j c = (j - i + c - 1) / c := by
    unfold Builtin.Range.rangeSize
    rw [if_pos hc]
    by_cases h : i < j
    · rw [if_pos h, show j - i + c - 1 = (j - i - 1) + 1 * c by omega, Int.add_mul_ediv_right _ _ (by omega)]
    · have : j = i := by omega
      subst this
      rw [if_neg h]
      symm
      exact Int.ediv_eq_zero_of_lt (by omega) (by omega)
  have n0 : 0 ≤ (j - i + c - 1) / c := Int.ediv_nonneg (by omega) (by omega)
  have n1 : (j - i + c - 1) / c ≤ j - i + c - 1 := Int.ediv_le_self _ (by omega)
  have hs : Builtin.Range.small i j c = true := by
    unfold Builtin.Range.small
    rw [e]
    simp [Builtin.Range.rangeFitsLong]
    rw [if_pos hc]
    omega
  rw [rg3A.eq_1, if_pos (by rw [hs, e]; simp; omega), e]
theorem rngC_iL {lo st : Int} {n : Nat} : rngC lo st n = iL ((List.range n).map fun k => lo + (k : Nat) * st) := by simp [rngC, iL, List.map_map, Function.comp_def]
theorem rngC_len {lo st : Int} {n : Nat} : (rngC lo st n).length = n := by simp [rngC]
end Dn
namespace L2
open PySem PySem.Spec PyProof.Rows
theorem exm_self {K : PySem.W.Frag} {S : Addr} (h1 : PySem.W.subIn K (.ref S) (.type "BaseException") = some true) (h2 : PySem.W.isClsIn K S = true) (h3 : PySem.W.typeIn K (.ref S) = some (.type "type")) (h4 : PySem.W.subIn K (.ref S) (.ref S) = some true) :
    PySem.W.exmOne K (.ref S) (.ref S) = some true := by
  have e1 : (PySem.W.subIn K (.ref S) (.type "BaseException") == some true) = true := by rw [h1] <;> rfl
  have e2 : ((PySem.W.clsIn K S).isSome && PySem.W.typeIn K (.ref S) == some (.type "type")) = true := by
    have h2' : (PySem.W.clsIn K S).isSome = true := h2
    rw [h2', h3] <;> rfl
  show (if (PySem.W.subIn K (.ref S) (.type "BaseException") == some true) = true then (if ((PySem.W.clsIn K S).isSome && PySem.W.typeIn K (.ref S) == some (.type "type")) = true then PySem.W.subIn K (.ref S) (.ref S) else none) else none) = some true
  rw [if_pos e1, if_pos e2]
  exact h4
end L2
namespace Lw
open PySem PySem.Spec PyProof.Rows L2 Dn
def topS (i : Nat) : Stmt := PySem.Challenge.pw_mobileair_k29_parts_refused.main.body.getD i (.Pass ⟨0, 0, 0, 0⟩)
abbrev s_bits_number : Stmt := topS 5
abbrev s_octet_bits : Stmt := topS 6
abbrev s_bits_octets : Stmt := topS 7
abbrev s_pack : Stmt := topS 9
abbrev s_unpack : Stmt := topS 10
abbrev s__packed_septets : Stmt := topS 23
abbrev s__alone_septets : Stmt := topS 22
abbrev s_read_part : Stmt := topS 21
abbrev s__law_mixed : Stmt := topS 25
abbrev s__law_packed : Stmt := topS 26
abbrev s__law_part : Stmt := topS 27
abbrev s__law_spoilt : Stmt := topS 28
abbrev s__law_read_right : Stmt := topS 29
abbrev s_law : Stmt := topS 30
theorem sc_bits_number : FnScope ["bits", "number", "bit"] ["bits"] (defScope s_bits_number) := ⟨rfl, rfl, rfl, by decide +kernel, rfl, by decide +kernel, by decide +kernel⟩
theorem sc_octet_bits : FnScope ["octets", "octet", "place"] ["octets"] (defScope s_octet_bits) := ⟨rfl, rfl, rfl, by decide +kernel, rfl, by decide +kernel, by decide +kernel⟩
theorem sc_bits_octets : FnScope ["bits", "at"] ["bits"] (defScope s_bits_octets) := ⟨rfl, rfl, rfl, by decide +kernel, rfl, by decide +kernel, by decide +kernel⟩
theorem sc_pack : FnScope ["row", "start", "bits", "septet", "place"] ["row", "start"] (defScope s_pack) := ⟨rfl, rfl, rfl, by decide +kernel, rfl, by decide +kernel, by decide +kernel⟩
theorem sc_unpack : FnScope ["octets", "start", "count", "bits", "end", "at"] ["octets", "start", "count"] (defScope s_unpack) := ⟨rfl, rfl, rfl, by decide +kernel, rfl, by decide +kernel, by decide +kernel⟩
theorem sc__packed_septets : FnScope ["octets", "start", "count", "row"] ["octets", "start", "count"] (defScope s__packed_septets) := ⟨rfl, rfl, rfl, by decide +kernel, rfl, by decide +kernel, by decide +kernel⟩
theorem sc__alone_septets : FnScope ["octets"] ["octets"] (defScope s__alone_septets) := ⟨rfl, rfl, rfl, by decide +kernel, rfl, by decide +kernel, by decide +kernel⟩
theorem sc_read_part : FnScope ["octets", "mark", "many", "number", "count"] ["octets"] (defScope s_read_part) := ⟨rfl, rfl, rfl, by decide +kernel, rfl, by decide +kernel, by decide +kernel⟩
theorem sc__law_mixed : FnScope ["cell", "turn", "value", "first", "second", "third"] ["cell", "turn"] (defScope s__law_mixed) := ⟨rfl, rfl, rfl, by decide +kernel, rfl, by decide +kernel, by decide +kernel⟩
theorem sc__law_packed : FnScope ["row", "start", "bits", "spare", "septet", "left", "octets", "at", "octet", "bit"] ["row", "start"] (defScope s__law_packed) := ⟨rfl, rfl, rfl, by decide +kernel, rfl, by decide +kernel, by decide +kernel⟩
theorem sc__law_part : FnScope ["mark", "many", "number", "row"] ["mark", "many", "number", "row"] (defScope s__law_part) := ⟨rfl, rfl, rfl, by decide +kernel, rfl, by decide +kernel, by decide +kernel⟩
theorem sc__law_spoilt : FnScope ["row", "value", "at", "octet", "kind", "k"] ["row", "value"] (defScope s__law_spoilt) := ⟨rfl, rfl, rfl, by decide +kernel, rfl, by decide +kernel, by decide +kernel⟩
theorem sc__law_read_right : FnScope ["part", "mark", "many", "number", "row", "right", "due"] ["part", "mark", "many", "number", "row"] (defScope s__law_read_right) := ⟨rfl, rfl, rfl, by decide +kernel, rfl, by decide +kernel, by decide +kernel⟩
theorem sc_law : FnScope ["script", "turn", "cell", "value", "many", "size", "left", "mark", "row", "k", "spare", "number", "part", "octets", "told"] ["script"] (defScope s_law) := ⟨rfl, rfl, rfl, by decide +kernel, rfl, by decide +kernel, by decide +kernel⟩
structure BI (mg : Str → Option Value) : Prop where
  range_ : mg "range" = none
  len_ : mg "len" = none
  tuple_ : mg "tuple" = none
  int_ : mg "int" = none
  reversed_ : mg "reversed" = none
  enumerate_ : mg "enumerate" = none
  isinstance_ : mg "isinstance" = none
  list_ : mg "list" = none
structure CI (K : PySem.W.Frag) (mg : Str → Option Value) (A_JOINT : Addr) : Prop where
  g_MOST_ALONE : ∃ t, mg "MOST_ALONE" = some (.int 160 t)
  g_ALONE : ∃ t, mg "ALONE" = some (.int 0 t)
  g_NO_MARK : ∃ t, mg "NO_MARK" = some (.int (-1) t)
  g_JOINT : mg "JOINT" = some (.ref A_JOINT)
  t_JOINT : ∀ H : Hp, SqT K H A_JOINT ([5, 0, 3].map V.int)
  d_JOINT : ∀ H : Hp, DpAll K H ([5, 0, 3].map V.int) (iL [5, 0, 3])
  g_SHARED : ∃ t, mg "SHARED" = some (.int 1 t)
  g_MOST_PARTS : ∃ t, mg "MOST_PARTS" = some (.int 4 t)
  g_MOST_MARK : ∃ t, mg "MOST_MARK" = some (.int 255 t)
  g_HEAD : ∃ t, mg "HEAD" = some (.int 7 t)
  g_MOST_SHARED : ∃ t, mg "MOST_SHARED" = some (.int 153 t)
def tb_BadText : List (Str × Bool) := [("BadText", true)]
def b_bits_number : Dn.Env → Out :=
    (sSeq (sSetV 1 (vC (.int 0)))
    (sSeq (sFor (iP (vVar 0)) (tgN 2)
    (sSetV 1 (v2 fAdd (v2 fMul (vC (.int 2)) (vVar 1)) (vVar 2))))
    (sRetV (vVar 1))))
def f_bits_number : List T → FO := fnD [false] ["bits", "number", "bit"].length b_bits_number
def b_octet_bits : Dn.Env → Out :=
    (sRetV (vD (dLc2 (iP (vVar 0)) [1, 2] (tgN 1) (iRg1 (vC (.int 8))) [2] (tgN 2) (v2 fAnd (v2 fShr (vVar 1) (vVar 2)) (vC (.int 1))))))
def f_octet_bits : List T → FO := fnD [false] ["octets", "octet", "place"].length b_octet_bits
def b_bits_octets : Dn.Env → Out :=
    (sSeq (sIf (v2 fNe (v2 fMod (v1 fLen (vVar 0)) (vC (.int 8))) (vC (.int 0)))
    (sRaise0 "BadBits")
    sNil)
    (sRetV (v1 fTp (vD (dLc (iRg3 (vC (.int 0)) (v1 fLen (vVar 0)) (vC (.int 8))) [1] (tgN 1) (vC (.bool true)) (vD (dCall f_bits_number [(vD (d1L fRv (vSlP (vVar 0) (some (vVar 1)) (some (v2 fAdd (vVar 1) (vC (.int 8)))))))])))))))
def f_bits_octets : List T → FO := fnD [false] ["bits", "at"].length b_bits_octets
def b_pack : Dn.Env → Out :=
    (sSeq (sSetV 2 (v2 fAdd (vD (dRep (dLst [(vC (.int 0))]) (vVar 1))) (vD (dLc2 (iP (vVar 0)) [3, 4] (tgN 3) (iRg1 (vC (.int 7))) [4] (tgN 4) (v2 fAnd (v2 fShr (vVar 3) (vVar 4)) (vC (.int 1)))))))
    (sRetV (vD (dCall f_bits_octets [(v2 fAdd (vVar 2) (vD (dRep (dLst [(vC (.int 0))]) (v2 fMod (v1 fNeg (v1 fLen (vVar 2))) (vC (.int 8))))))]))))
def f_pack : List T → FO := fnD [false, false] ["row", "start", "bits", "septet", "place"].length b_pack
def b_unpack : Dn.Env → Out :=
    (sSeq (sSetV 3 (vD (dCall f_octet_bits [(vVar 0)])))
    (sSeq (sSetV 4 (v2 fAdd (vVar 1) (v2 fMul (vC (.int 7)) (vVar 2))))
    (sSeq (sIf (v2 fLt (v1 fLen (vVar 3)) (vVar 4))
    (sRaise0 "BadText")
    sNil)
    (sRetV (vD (dLc (iRg3 (vVar 1) (vVar 4) (vC (.int 7))) [5] (tgN 5) (vC (.bool true)) (vD (dCall f_bits_number [(vD (d1L fRv (vSlP (vVar 3) (some (vVar 5)) (some (v2 fAdd (vVar 5) (vC (.int 7)))))))]))))))))
def f_unpack : List T → FO := fnD [false, false, false] ["octets", "start", "count", "bits", "end", "at"].length b_unpack
def b__packed_septets : Dn.Env → Out :=
    (sSeq (sSetV 3 (vD (dCall f_unpack [(vVar 0), (vVar 1), (vVar 2)])))
    (sSeq (sIf (v2 fNe (vD (dCall f_pack [(vVar 3), (vVar 1)])) (vVar 0))
    (sRaise0 "BadText")
    sNil)
    (sRetV (vVar 3))))
def f__packed_septets : List T → FO := fnD [false, false, false] ["octets", "start", "count", "row"].length b__packed_septets
def b__alone_septets : Dn.Env → Out :=
    (sSeq (sIf (vOr (v2 fLt (v1 fLen (vVar 0)) (vC (.int 2))) (vNot (vCh fLe fLe (vC (.int 0)) (v2 fIx (vVar 0) (vC (.int 1))) (vC (.int 160)))))
    (sRaise0 "BadText")
    sNil)
    (sRetV (vD (dCall f__packed_septets [(vSlP (vVar 0) (some (vC (.int 2))) none), (vC (.int 0)), (v2 fIx (vVar 0) (vC (.int 1)))]))))
def f__alone_septets : List T → FO := fnD [false] ["octets"].length b__alone_septets
def b_read_part : Dn.Env → Out :=
    (sSeq (sIf (v2 fEq (vSlP (vVar 0) none (some (vC (.int 1)))) (vTup [(vC (.int 0))]))
    (sRetV (vTup [(vC (.int (-1))), (vC (.int 1)), (vC (.int 1)), (vD (dCall f__alone_septets [(vVar 0)]))]))
    sNil)
    (sSeq (sIf (vOr (v2 fLt (v1 fLen (vVar 0)) (vC (.int 8))) (vOr (v2 fNe (v2 fIx (vVar 0) (vC (.int 0))) (vC (.int 1))) (v2 fNe (vSlP (vVar 0) (some (vC (.int 2))) (some (vC (.int 5)))) (vC (.tuple (iL [5, 0, 3]))))))
    (sRaise0 "BadText")
    sNil)
    (sSeq (sAsg (tgT [1, 2, 3]) (vSlP (vVar 0) (some (vC (.int 5))) (some (vC (.int 8)))))
    (sSeq (sIf (vOr (vNot (vCh fLe fLe (vC (.int 0)) (vVar 1) (vC (.int 255)))) (vOr (vNot (vCh fLe fLe (vC (.int 2)) (vVar 2) (vC (.int 4)))) (vNot (vCh fLe fLe (vC (.int 1)) (vVar 3) (vVar 2)))))
    (sRaise0 "BadText")
    sNil)
    (sSeq (sSetV 4 (v2 fSub (v2 fIx (vVar 0) (vC (.int 1))) (vC (.int 7))))
    (sSeq (sIf (vNot (vCh fLe fLe (vC (.int 1)) (vVar 4) (vC (.int 153))))
    (sRaise0 "BadText")
    sNil)
    (sRetV (vTup [(vVar 1), (vVar 2), (vVar 3), (vD (dCall f__packed_septets [(vSlP (vVar 0) (some (vC (.int 8))) none), (vC (.int 1)), (vVar 4)]))]))))))))
def f_read_part : List T → FO := fnD [false] ["octets", "mark", "many", "number", "count"].length b_read_part
def b__law_mixed : Dn.Env → Out :=
    (sSeq (sSetV 2 (v1 fInt (vVar 0)))
    (sSeq (sIf (v2 fGe (vVar 2) (v2 fPow (vC (.int 10)) (vC (.int 18))))
    (sRetV (vVar 2))
    sNil)
    (sSeq (sSetV 3 (v2 fMod (v2 fAdd (v2 fMul (v2 fMod (vVar 2) (vC (.int 1000003))) (vC (.int 48271))) (v2 fMul (vC (.int 69621)) (v2 fAdd (vVar 1) (vC (.int 1))))) (vC (.int 2147483647))))
    (sSeq (sSetV 4 (v2 fMod (v2 fAdd (v2 fMul (vVar 3) (vC (.int 48271))) (v2 fMod (vVar 2) (vC (.int 999983)))) (vC (.int 2147483647))))
    (sSeq (sSetV 5 (v2 fMod (v2 fAdd (v2 fMul (vVar 4) (vC (.int 69621))) (vVar 3)) (vC (.int 2147483647))))
    (sRetV (v2 fAdd (v2 fAdd (vVar 3) (v2 fMul (vC (.int 2147483647)) (vVar 4))) (v2 fMul (vC (.int 4611686014132420609)) (vVar 5)))))))))
def f__law_mixed : List T → FO := fnD [false, false] ["cell", "turn", "value", "first", "second", "third"].length b__law_mixed
def b__law_packed : Dn.Env → Out :=
    (sSeq (sSet 2 (dLc (iRg1 (vVar 1)) [3] (tgN 3) (vC (.bool true)) (vC (.int 0))))
    (sSeq (sFor (iP (vVar 0)) (tgN 4)
    (sSeq (sSetV 5 (v1 fInt (vVar 4)))
    (sFor (iRg1 (vC (.int 7))) (tgN 3)
    (sSeq (sExp (vApp (dVar 2) (dV (v2 fMod (vVar 5) (vC (.int 2))))))
    (sSetV 5 (v2 fDiv (vVar 5) (vC (.int 2))))))))
    (sSeq (sSet 6 (dLst []))
    (sSeq (sFor (iRg3 (vC (.int 0)) (v1 fLen (vVar 2)) (vC (.int 8))) (tgN 7)
    (sSeq (sSetV 8 (vC (.int 0)))
    (sSeq (sFor (iRv (vSlP (vVar 2) (some (vVar 7)) (some (v2 fAdd (vVar 7) (vC (.int 8)))))) (tgN 9)
    (sSetV 8 (v2 fAdd (v2 fMul (vC (.int 2)) (vVar 8)) (vVar 9))))
    (sExp (vApp (dVar 6) (dV (vVar 8)))))))
    (sRet (dVar 6))))))
def f__law_packed : List T → FO := fnD [false, false] ["row", "start", "bits", "spare", "septet", "left", "octets", "at", "octet", "bit"].length b__law_packed
def b__law_part : Dn.Env → Out :=
    (sSeq (sIf (v2 fEq (vVar 1) (vC (.int 1)))
    (sRetV (v2 fAdd (vD (dLst [(vC (.int 0)), (v1 fLen (vVar 3))])) (vD (dCall f__law_packed [(vVar 3), (vC (.int 0))]))))
    sNil)
    (sRetV (v2 fAdd (vD (dLst [(vC (.int 1)), (v2 fAdd (v1 fLen (vVar 3)) (vC (.int 7))), (vC (.int 5)), (vC (.int 0)), (vC (.int 3)), (vVar 0), (vVar 1), (vVar 2)])) (vD (dCall f__law_packed [(vVar 3), (vC (.int 1))])))))
def f__law_part : List T → FO := fnD [false, false, false, false] ["mark", "many", "number", "row"].length b__law_part
def b__law_spoilt : Dn.Env → Out :=
    (sSeq (sSetV 2 (v2 fMod (v2 fDiv (vVar 1) (vC (.int 6))) (v1 fLen (vVar 0))))
    (sSeq (sSetV 3 (v2 fIx (vD (dLst [(vC (.int 0)), (vC (.int 1)), (vC (.int 7)), (vC (.int 8)), (vC (.int 128)), (vC (.int 255)), (v2 fMod (v2 fAdd (v2 fIx (vVar 0) (vVar 2)) (vC (.int 1))) (vC (.int 256))), (v2 fMod (v2 fDiv (vVar 1) (vC (.int 97))) (vC (.int 256)))])) (v2 fMod (v2 fDiv (vVar 1) (vC (.int 48))) (vC (.int 8)))))
    (sSeq (sSetV 4 (v2 fMod (vVar 1) (vC (.int 6))))
    (sSeq (sIf (v2 fLt (vVar 4) (vC (.int 2)))
    (sRetV (v2 fAdd (v2 fAdd (vSlP (vVar 0) none (some (vVar 2))) (vD (dLst [(vVar 3)]))) (vSlP (vVar 0) (some (v2 fAdd (vVar 2) (vC (.int 1)))) none)))
    sNil)
    (sSeq (sIf (v2 fEq (vVar 4) (vC (.int 2)))
    (sRetV (v2 fAdd (vSlP (vVar 0) none (some (vVar 2))) (vSlP (vVar 0) (some (v2 fAdd (vVar 2) (vC (.int 1)))) none)))
    sNil)
    (sSeq (sIf (v2 fEq (vVar 4) (vC (.int 3)))
    (sRetV (v2 fAdd (v2 fAdd (vSlP (vVar 0) none (some (vVar 2))) (vD (dLst [(vVar 3)]))) (vSlP (vVar 0) (some (vVar 2)) none)))
    sNil)
    (sSeq (sIf (v2 fEq (vVar 4) (vC (.int 4)))
    (sRetV (vSlP (vVar 0) none (some (vVar 2))))
    sNil)
    (sRetV (v2 fAdd (vD (dLst [(v2 fMod (v2 fDiv (vVar 1) (vC (.int 6))) (vC (.int 3)))])) (vD (dLc (iRg1 (v2 fMod (v2 fDiv (vVar 1) (vC (.int 18))) (vC (.int 9)))) [5] (tgN 5) (vC (.bool true)) (v2 fMod (v2 fAdd (vVar 3) (v2 fMul (vVar 5) (vVar 2))) (vC (.int 256))))))))))))))
def f__law_spoilt : List T → FO := fnD [false, false] ["row", "value", "at", "octet", "kind", "k"].length b__law_spoilt
def b__law_read_right : Dn.Env → Out :=
    (sSeq (sSetV 5 (v2 fLe (v1 fLen (vVar 4)) (vC (.int 160))))
    (sSeq (sSetV 6 (vTup [(v1 fNeg (vC (.int 1))), (vC (.int 1)), (vC (.int 1)), (vVar 4)]))
    (sSeq (sIf (v2 fGt (vVar 2) (vC (.int 1)))
    (sSeq (sSetV 5 (vCh fLe fLe (vC (.int 1)) (v1 fLen (vVar 4)) (vC (.int 153))))
    (sSetV 6 (vTup [(vVar 1), (vVar 2), (vVar 3), (vVar 4)])))
    sNil)
    (sTry (sRetV (vAnd (v2 fEq (vD (dCall f_read_part [(v1 fTp (vVar 0))])) (vVar 6)) (vVar 5))) tb_BadText
    (sRetV (vNot (vVar 5)))))))
def f__law_read_right : List T → FO := fnD [false, false, false, false, false] ["part", "mark", "many", "number", "row", "right", "due"].length b__law_read_right
def b_law : Dn.Env → Out :=
    (sSeq (sFor (iEn (vSlP (vVar 0) none (some (vC (.int 20))))) (tgT [1, 2])
    (sSeq (sSetV 3 (vD (dCall f__law_mixed [(vVar 2), (vVar 1)])))
    (sSeq (sSetV 4 (v2 fAdd (vC (.int 1)) (v2 fMod (vVar 3) (vC (.int 4)))))
    (sSeq (sSetV 5 (v2 fMod (v2 fDiv (vVar 3) (vC (.int 4))) (vC (.int 31))))
    (sSeq (sIf (v2 fEq (v2 fMod (v2 fDiv (vVar 3) (vC (.int 124))) (vC (.int 5))) (vC (.int 0)))
    (sSetV 5 (v2 fIx (vD (dLst [(vC (.int 152)), (vC (.int 153)), (vC (.int 154)), (vC (.int 160)), (vC (.int 161)), (vC (.int 200)), (vC (.int 248))])) (v2 fMod (v2 fDiv (vVar 3) (vC (.int 620))) (vC (.int 7)))))
    sNil)
    (sSeq (sSetV 6 (v2 fDiv (vVar 3) (vC (.int 4340))))
    (sSeq (sSetV 7 (v2 fMod (vVar 6) (vC (.int 256))))
    (sSeq (sSetV 6 (v2 fDiv (vVar 6) (vC (.int 256))))
    (sSeq (sSetV 8 (vD (dLc (iRg1 (vVar 5)) [9] (tgN 9) (vC (.bool true)) (v2 fMod (v2 fAdd (v2 fDiv (vVar 6) (v2 fAdd (vVar 9) (vC (.int 3)))) (v2 fMul (vC (.int 5)) (vVar 9))) (vC (.int 128))))))
    (sSeq (sIf (v2 fEq (v2 fMod (v2 fDiv (vVar 3) (vC (.int 124))) (vC (.int 5))) (vC (.int 1)))
    (sSetV 8 (vD (dLc (iRg1 (v2 fMod (vVar 5) (vC (.int 3)))) [10] (tgN 10) (vC (.bool true)) (vC (.int 0)))))
    sNil)
    (sSeq (sSetV 11 (v2 fAdd (vC (.int 1)) (v2 fMod (vVar 6) (vVar 4))))
    (sSeq (sSetV 12 (vD (dCall f__law_part [(vVar 7), (vVar 4), (vVar 11), (vVar 8)])))
    (sSeq (sIf (v2 fEq (v2 fMod (v2 fDiv (vVar 6) (vC (.int 4))) (vC (.int 5))) (vC (.int 0)))
    (sSeq (sIf (vNot (vD (dCall f__law_read_right [(vVar 12), (vVar 7), (vVar 4), (vVar 11), (vVar 8)])))
    (sRetV (vC (.bool false)))
    sNil)
    sCnt)
    sNil)
    (sSeq (sSetV 13 (v1 fTp (vD (dCall f__law_spoilt [(vVar 12), (v2 fDiv (vVar 6) (vC (.int 20)))]))))
    (sSeq (sSetV 14 (vC .none))
    (sSeq (sTry (sSetV 14 (vD (dCall f_read_part [(vVar 13)]))) tb_BadText
    (sSetV 14 (vC .none)))
    (sIf (v2 fNotN (vVar 14) (vC .none))
    (sSeq (sIf (vOr (vNot (v1 (fIsi "tuple") (vVar 14))) (vOr (v2 fNe (v1 fLen (vVar 14)) (vC (.int 4))) (vNot (v1 (fIsi "list") (v2 fIx (vVar 14) (vC (.int 3)))))))
    (sRetV (vC (.bool false)))
    sNil)
    (sSeq (sIf (vOr (vAnd (v2 fEq (v2 fIx (vVar 14) (vC (.int 1))) (vC (.int 1))) (v2 fNe (vSlP (vVar 14) none (some (vC (.int 3)))) (vTup [(v1 fNeg (vC (.int 1))), (vC (.int 1)), (vC (.int 1))]))) (vOr (v2 fGt (v1 fLen (v2 fIx (vVar 14) (vC (.int 3)))) (vC (.int 160))) (vAnd (v2 fNe (v2 fIx (vVar 14) (vC (.int 1))) (vC (.int 1))) (v2 fEq (v2 fIx (vVar 14) (vC (.int 3))) (vD (dLst []))))))
    (sRetV (vC (.bool false)))
    sNil)
    (sSeq (sIf (v2 fNe (v1 fTp (vD (dCall f__law_part [(v2 fIx (vVar 14) (vC (.int 0))), (v2 fIx (vVar 14) (vC (.int 1))), (v2 fIx (vVar 14) (vC (.int 2))), (v2 fIx (vVar 14) (vC (.int 3)))]))) (vVar 13))
    (sRetV (vC (.bool false)))
    sNil)
    (sSeq (sIf (vAnd (v2 fNe (v2 fIx (vVar 14) (vC (.int 1))) (vC (.int 1))) (vOr (v2 fGt (v1 fLen (v2 fIx (vVar 14) (vC (.int 3)))) (vC (.int 153))) (vOr (v2 fLt (v2 fIx (vVar 14) (vC (.int 1))) (vC (.int 2))) (v2 fGt (v2 fIx (vVar 14) (vC (.int 1))) (vC (.int 4))))))
    (sRetV (vC (.bool false)))
    sNil)
    (sIf (vAnd (v2 fNe (v2 fIx (vVar 14) (vC (.int 1))) (vC (.int 1))) (vOr (v2 fLt (v2 fIx (vVar 14) (vC (.int 2))) (vC (.int 1))) (v2 fGt (v2 fIx (vVar 14) (vC (.int 2))) (v2 fIx (vVar 14) (vC (.int 1))))))
    (sRetV (vC (.bool false)))
    sNil)))))
    sNil)))))))))))))))))
    (sRetV (vC (.bool true))))
def f_law : List T → FO := fnD [false] ["script", "turn", "cell", "value", "many", "size", "left", "mark", "row", "k", "spare", "number", "part", "octets", "told"].length b_law
/-! ### _law_mixed -/
def mixF (c t : Int) : Int := (c % 1000003 * 48271 + 69621 * (t + 1)) % 2147483647
def mixS (c t : Int) : Int := (mixF c t * 48271 + c % 999983) % 2147483647
def mixT (c t : Int) : Int := (mixS c t * 69621 + mixF c t) % 2147483647
/-- what is made of a cell -/
def mixed (c t : Int) : Int := if 1000000000000000000 ≤ c then c else mixF c t + 2147483647 * mixS c t + 4611686014132420609 * mixT c t
theorem mixed_nn (c t : Int) : 0 ≤ mixed c t := by
  unfold mixed mixT mixS mixF
  split <;> omega
theorem f_mixed (c t : Int) : f__law_mixed [.d (.int c), .d (.int t)] = .rt (.d (.int (mixed c t))) [.d (.int c), .d (.int t)] := by
  unfold f__law_mixed
  simp (disch := (first | with_reducible assumption | omega | (simp only [iL_len, rngD_len, rngC_len, List.length_append, List.length_replicate, List.length_cons, List.length_nil, List.length_map, List.length_take, List.length_drop, List.length_range, SZ] <;> omega) | (simp only [iL_len, rngD_len, rngC_len, List.length_append, List.length_replicate, List.length_cons, List.length_nil, List.length_map, List.length_take, List.length_drop, List.length_range, SZ] at * <;> omega) | fail)) only [↓x_seq, ↓x_nil, ↓x_if, ↓x_set, ↓x_setV, ↓x_asg, ↓x_exp, ↓x_ret, ↓x_retV, ↓x_retN, ↓x_brk, ↓x_cnt, ↓x_for, ↓x_bdy, ↓x_C, ↓x_var, ↓x_dvar, ↓x_v1, ↓x_v2, ↓x_d1L, ↓x_d2L, ↓x_and, ↓x_or, ↓x_not, ↓x_ifx, ↓x_args0, ↓x_args1, ↓x_tup, ↓x_lst, ↓x_call, ↓x_vD, ↓x_dV, ↓x_slP, ↓x_opt0, ↓x_opt1, ↓x_iP, ↓x_rg1, ↓x_rg2, ↓x_rg3, ↓x_en, ↓x_zp, ↓x_rv, ↓x_ch, ↓x_lc, ↓x_aug, ↓x_app, ↓x_put, ↓x_pix, ↓x_try, ↓x_rep, ↓x_raise0, y_sq, y_sif, y_retV, y_setV, y_toV, y_ofV, y_orw, y_and, y_or, y_not, y_v1, y_v2a, y_v2b, y_finW, y_calB, sq_nx, sq_rt, sq_bk, sq_ct, sq_er, sq_no, dataL_d, allD_d, fnD, SZ, List.getElem?_cons_zero, List.getElem?_cons_succ, List.getElem?_nil, List.set_cons_zero, List.set_cons_succ, List.map_cons, List.map_nil, List.length_cons, List.length_nil, List.length_map, List.length_append, List.cons_append, List.nil_append, List.append_nil, Nat.reduceAdd, Nat.reduceSub, Nat.zero_add, Nat.add_zero, Option.map_some, Option.map_none, Option.getD_some, Option.getD_none, Bool.false_eq_true, Bool.true_eq_false, Bool.and_false, Bool.false_and, Bool.and_true, Bool.true_and, Bool.or_false, Bool.false_or, Bool.or_true, Bool.true_or, Bool.not_true, Bool.not_false, if_true, if_false, ite_true, ite_false, decide_eq_true_eq, Bool.and_eq_true, Bool.or_eq_true, Bool.not_eq_true', decide_eq_false_iff_not, decide_true, decide_false, true_and, and_true, reduceCtorEq, Int.reduceNeg, Int.reduceLT, Int.reduceLE, Int.reduceToNat, Nat.reduceLeDiff, Int.reduceAbs, Int.reduceSub, Int.reduceAdd, Int.reduceMul, Int.reduceEq, Nat.reduceMul, Nat.reduceEqDiff, Nat.reduceLT, Nat.reducePow, Int.reducePow, ↓reduceIte, ite_not, sif.eq_1, sif.eq_3, sif.eq_4, andA.eq_1, andA.eq_3, andA.eq_4, orA.eq_1, orA.eq_3, orA.eq_4, notA.eq_1, notA.eq_3, notA.eq_4, ifA.eq_1, ifA.eq_3, ifA.eq_4, orw.eq_1, orw.eq_2, orw.eq_3, v1r.eq_1, v1r.eq_2, v1a.eq_1, v1a.eq_2, v1a.eq_3, v2a.eq_1, v2a.eq_2, v2a.eq_3, v2b.eq_1, v2b.eq_2, v2b.eq_3, dlr.eq_1, dlr.eq_2, d1a.eq_1, d1a.eq_2, d1a.eq_3, d2a.eq_1, d2a.eq_2, d2a.eq_3, d2b.eq_1, d2b.eq_2, d2b.eq_3, ar1.eq_1, ar1.eq_2, ar1.eq_3, ar1.eq_4, ar2.eq_1, ar2.eq_2, ar2.eq_3, tupA.eq_1, tupA.eq_2, tupA.eq_3, lstA.eq_1, lstA.eq_2, lstA.eq_3, calA.eq_1, calA.eq_2, calA.eq_3, calB.eq_1, calB.eq_2, calB.eq_3, wOf.eq_1, varV.eq_1, varR.eq_1, varR.eq_2, varD.eq_1, setA.eq_1, setA.eq_2, setA.eq_4, setA.eq_5, setVA.eq_1, setVA.eq_2, setVA.eq_3, setVA.eq_4, asgA.eq_1, asgA.eq_2, asgA.eq_3, asgA.eq_4, asgB.eq_1, asgB.eq_2, expA.eq_1, expA.eq_2, expA.eq_3, retA.eq_1, retA.eq_2, retA.eq_3, retVA.eq_1, retVA.eq_2, retVA.eq_3, retVA.eq_4, forA.eq_1, forA.eq_2, forA.eq_3, sl0.eq_1, sl0.eq_2, sl0.eq_3, sl1.eq_1, sl1.eq_2, sl2.eq_1, sl2.eq_2, sl3.eq_1, sl3.eq_2, optA.eq_1, bdyA.eq_1, bdyA.eq_2, iPA.eq_1, iPA.eq_2, iPA.eq_3, iPA.eq_5, iPA.eq_6, rg1A.eq_3, rg1A.eq_4, rg2A.eq_3, rg2A.eq_4, rg3A.eq_3, rg3A.eq_4, enA.eq_1, enA.eq_3, enA.eq_4, zpA.eq_1, zpA.eq_3, zpA.eq_4, rvA.eq_1, rvA.eq_3, rvA.eq_4, ch1.eq_1, ch1.eq_2, ch1.eq_3, ch2.eq_1, ch2.eq_2, ch2.eq_3, chA.eq_1, chB.eq_1, chB.eq_2, chB.eq_3, chC.eq_1, chC.eq_2, lc0.eq_2, lc0.eq_3, lcA.eq_1, lcA.eq_2, augA.eq_1, augB.eq_1, augB.eq_3, augB.eq_4, appA.eq_1, appB.eq_1, appB.eq_2, appB.eq_3, putA.eq_1, putA.eq_2, putA.eq_3, putA2.eq_1, putA2.eq_2, putB.eq_1, putC.eq_1, putD.eq_1, pixA.eq_1, pixA2.eq_1, pixB.eq_1, tryA.eq_1, tryB.eq_1, tryB.eq_2, tryB.eq_3, noEr.eq_1, repA.eq_1, repA2.eq_1, repA2.eq_2, repB.eq_1, rdT.eq_1, rdT.eq_2, toV.eq_1, toV.eq_2, toV.eq_3, toV.eq_4, toV.eq_5, toV.eq_6, ofV.eq_1, ofV.eq_2, ofV.eq_4, ofV.eq_5, tOf.eq_1, tOf.eq_2, isL.eq_1, getE.eq_1, getT.eq_1, getT.eq_2, getT.eq_3, setE.eq_1, setT.eq_1, setT.eq_2, setT.eq_3, T.data.eq_1, T.data.eq_2, finW.eq_1, finW.eq_2, finW.eq_3, finW.eq_4, finW.eq_6, fin.eq_1, fin.eq_2, fin.eq_3, tgS.eq_1, wipeE.eq_1, wipeE.eq_2, fAdd.eq_1, fAdd.eq_2, fI2.eq_1, fB2.eq_1, fU.eq_1, fLen.eq_1, fLen.eq_2, fLen.eq_3, fIx.eq_1, fIx.eq_2, fIx.eq_3, fIsN.eq_1, fNotN.eq_1, isNone.eq_1, fInt.eq_1, fInt.eq_2, fInt.eq_3, fLs.eq_1, fLs.eq_2, fTp.eq_1, fTp.eq_2, fSlP.eq_3, wOf_l, wOf_o, tryA_nx, tryA_rt, tryA_bk, tryA_ct, noEr_nx, noEr_rt, noEr_bk, noEr_ct, isNone_i, isNone_b, isNone_s, isNone_l, isNone_t, iL_app, iL_len, iL_rep, iL_rev, allD_iL, dataL_iL, q_int, q_t, q_l, n_t, n_l, n_int, q_self, n_self, s_to, s_from, s_mid, sl_to, sl_from, sl_mid, add_t, add_l, cat_l, isi_t, isi_b, isi_i, isi_l, isi_s, at_0, at_1, at_2, at_3, at_4, at_5, at_6, ai_0, ai_1, ai_2, ai_3, ai_4, ai_5, ai_6, tgN_a, tgT_a, apd_ok, lc_ok, rg1_ok, rg2_ok, iL_snoc, iL_mapd, lc_const, rngD_len, iL_take, iL_drop, Int.toNat_natCast, dataL_nil, dataL_cons, allD.eq_1, allD.eq_2, ixN_ok, rep_l, tgS_nil, rep_none, rep_none0, List.take_left, List.drop_left, any_false, all_true, eq_self, set_iL, at_last, List.drop_succ_cons, List.drop_zero, List.take_succ_cons, List.take_zero, List.getLast?_cons_cons, List.getLast?_singleton, Int.cast_ofNat_Int, rg3_ok, rngC_len, fRv_l, b__law_mixed]
  unfold mixed mixT mixS mixF
  split <;> rfl

/-! ## bits -/
def bit (x : Int) (k : Nat) : Int := x / 2 ^ k % 2
def LB : List Int → Int
  | [] => 0
  | b :: r => 2 * LB r + b
def bitsOf (m : Nat) (x : Int) : List Int := (List.range m).map (bit x)
theorem bit_succ (x : Int) (k : Nat) : bit x (k + 1) = bit (x / 2) k := by
  unfold bit
  rw [Int.pow_succ, Int.mul_comm, Int.ediv_ediv_of_nonneg (by omega)]
theorem bitsOf_succ (m : Nat) (x : Int) : bitsOf (m + 1) x = bit x 0 :: bitsOf m (x / 2) := by
  unfold bitsOf
  rw [List.range_succ_eq_map, List.map_cons, List.map_map]
  congr 1
  apply List.map_congr_left
  intro k _
  exact bit_succ x k
theorem bitsOf_len (m : Nat) (x : Int) : (bitsOf m x).length = m := by simp [bitsOf]
theorem bit01 (x : Int) (k : Nat) : bit x k = 0 ∨ bit x k = 1 := by
  unfold bit
  have := Int.emod_two_eq (x / 2 ^ k)
  omega
theorem LB_bitsOf : ∀ (m : Nat) (x : Int), 0 ≤ x → x < 2 ^ m → LB (bitsOf m x) = x
  | 0, x, h, h2 => by
    have : x = 0 := by simp at h2; omega
    subst this; rfl
  | m + 1, x, h, h2 => by
    rw [bitsOf_succ, LB, LB_bitsOf m (x / 2) (by omega) (by rw [Int.pow_succ] at h2; omega)]
    unfold bit
    rw [Int.pow_zero, Int.ediv_one]
    omega
theorem LB_nn : ∀ (c : List Int), (∀ b ∈ c, b = 0 ∨ b = 1) → 0 ≤ LB c ∧ LB c < 2 ^ c.length
  | [], _ => by simp [LB]
  | b :: r, h => by
    have ih := LB_nn r (fun x hx => h x (by simp [hx]))
    have hb := h b (by simp)
    rw [LB, List.length_cons, Int.pow_succ]
    omega
theorem bit_LB : ∀ (c : List Int) (k : Nat), (∀ b ∈ c, b = 0 ∨ b = 1) → bit (LB c) k = c.getD k 0
  | [], k, _ => by simp [LB, bit]
  | b :: r, 0, h => by
    have hb := h b (by simp)
    unfold bit
    rw [Int.pow_zero, Int.ediv_one, LB]
    show (2 * LB r + b) % 2 = b
    omega
  | b :: r, k + 1, h => by
    have hb := h b (by simp)
    have e : (2 * LB r + b) / 2 = LB r := by omega
    rw [bit_succ, LB, e, bit_LB r k (fun x hx => h x (by simp [hx]))]
    rfl
theorem bitsOf_LB (c : List Int) (h : ∀ b ∈ c, b = 0 ∨ b = 1) : bitsOf c.length (LB c) = c := by
  apply List.ext_getElem?
  intro i
  by_cases hi : i < c.length
  · unfold bitsOf
    rw [List.getElem?_map, List.getElem?_range hi, Option.map_some, bit_LB c i h, List.getD_eq_getElem?_getD, List.getElem?_eq_getElem hi]
    rfl
  · rw [List.getElem?_eq_none (by rw [bitsOf_len]; omega), List.getElem?_eq_none (by omega)]
/-! flat lists of pieces of one length -/
theorem fl_len {m : Nat} {f : Int → List Int} (hf : ∀ x, (f x).length = m) : ∀ l : List Int, (l.map f).flatten.length = m * l.length
  | [] => by simp
  | x :: l => by rw [List.map_cons, List.flatten_cons, List.length_append, hf, fl_len hf l, List.length_cons, Nat.mul_succ, Nat.add_comm]
theorem fl_piece {m : Nat} {f : Int → List Int} (hf : ∀ x, (f x).length = m) : ∀ (l : List Int) (j : Nat), j < l.length → ((l.map f).flatten.drop (m * j)).take m = f (l.getD j 0)
  | [], j, h => by simp at h
  | x :: l, 0, _ => by
    rw [Nat.mul_zero, List.drop_zero, List.map_cons, List.flatten_cons, ← hf x, List.take_left]
    rfl
  | x :: l, j + 1, h => by
    rw [List.map_cons, List.flatten_cons, Nat.mul_succ, Nat.add_comm (m * j) m, ← List.drop_drop]
    have e : List.drop m (f x ++ (l.map f).flatten) = (l.map f).flatten := by rw [← hf x, List.drop_left]
    rw [e, fl_piece hf l j (by simpa using h)]
    rfl
theorem fl_get {m : Nat} {f : Int → List Int} (hm : 0 < m) (hf : ∀ x, (f x).length = m) (l : List Int) (i : Nat) (h : i < m * l.length) : (l.map f).flatten[i]? = (f (l.getD (i / m) 0))[i % m]? := by
  have hj : i / m < l.length := by rw [Nat.div_lt_iff_lt_mul hm, Nat.mul_comm]; exact h
  rw [← fl_piece hf l (i / m) hj, List.getElem?_take_of_lt (Nat.mod_lt _ hm), List.getElem?_drop, Nat.div_add_mod]
/-- the whole of eights -/
def CH (bs : List Int) : List Int := (List.range (bs.length / 8)).map fun j => LB ((bs.drop (8 * j)).take 8)
def OB (os : List Int) : List Int := (os.map (bitsOf 8)).flatten
theorem OB_len (os : List Int) : (OB os).length = 8 * os.length := fl_len (bitsOf_len 8) os
theorem CH_len (bs : List Int) : (CH bs).length = bs.length / 8 := by simp [CH]
theorem OB_CH (bs : List Int) (h8 : bs.length % 8 = 0) (h : ∀ b ∈ bs, b = 0 ∨ b = 1) : OB (CH bs) = bs := by
  apply List.ext_getElem?
  intro i
  by_cases hi : i < bs.length
  · have hc : i / 8 < (CH bs).length := by rw [CH_len]; omega
    have hlt : i / 8 < bs.length / 8 := by omega
    unfold OB
    rw [fl_get (by omega) (bitsOf_len 8) _ _ (by rw [CH_len]; omega)]
    have e : (CH bs).getD (i / 8) 0 = LB ((bs.drop (8 * (i / 8))).take 8) := by
      rw [List.getD_eq_getElem?_getD]
      unfold CH
      rw [List.getElem?_map, List.getElem?_range hlt]
      rfl
    have hl : ((bs.drop (8 * (i / 8))).take 8).length = 8 := by rw [List.length_take, List.length_drop]; omega
    have hb := bitsOf_LB ((bs.drop (8 * (i / 8))).take 8) (fun b hb => h b (List.mem_of_mem_drop (List.mem_of_mem_take hb)))
    rw [hl] at hb
    rw [e, hb, List.getElem?_take_of_lt (by omega), List.getElem?_drop]
    congr 1
    omega
  · rw [List.getElem?_eq_none (by rw [OB_len, CH_len]; omega), List.getElem?_eq_none (by omega)]
/-! ## the defs -/
def dd (l : List Int) : T := .d (.list (iL l))
def tt (l : List Int) : T := .d (.tuple (iL l))
theorem number_ok (bs : List Int) : f_bits_number [.d (.list (iL bs))] = .rt (.d (.int (LB bs.reverse))) [.d (.list (iL bs))] := by
  unfold f_bits_number
  simp (disch := (first | with_reducible assumption | omega | (simp only [iL_len, rngD_len, rngC_len, List.length_append, List.length_replicate, List.length_cons, List.length_nil, List.length_map, List.length_take, List.length_drop, List.length_range, SZ] <;> omega) | (simp only [iL_len, rngD_len, rngC_len, List.length_append, List.length_replicate, List.length_cons, List.length_nil, List.length_map, List.length_take, List.length_drop, List.length_range, SZ] at * <;> omega) | fail)) only [↓x_seq, ↓x_nil, ↓x_if, ↓x_set, ↓x_setV, ↓x_asg, ↓x_exp, ↓x_ret, ↓x_retV, ↓x_retN, ↓x_brk, ↓x_cnt, ↓x_for, ↓x_bdy, ↓x_C, ↓x_var, ↓x_dvar, ↓x_v1, ↓x_v2, ↓x_d1L, ↓x_d2L, ↓x_and, ↓x_or, ↓x_not, ↓x_ifx, ↓x_args0, ↓x_args1, ↓x_tup, ↓x_lst, ↓x_call, ↓x_vD, ↓x_dV, ↓x_slP, ↓x_opt0, ↓x_opt1, ↓x_iP, ↓x_rg1, ↓x_rg2, ↓x_rg3, ↓x_en, ↓x_zp, ↓x_rv, ↓x_ch, ↓x_lc, ↓x_aug, ↓x_app, ↓x_put, ↓x_pix, ↓x_try, ↓x_rep, ↓x_raise0, y_sq, y_sif, y_retV, y_setV, y_toV, y_ofV, y_orw, y_and, y_or, y_not, y_v1, y_v2a, y_v2b, y_finW, y_calB, sq_nx, sq_rt, sq_bk, sq_ct, sq_er, sq_no, dataL_d, allD_d, fnD, SZ, List.getElem?_cons_zero, List.getElem?_cons_succ, List.getElem?_nil, List.set_cons_zero, List.set_cons_succ, List.map_cons, List.map_nil, List.length_cons, List.length_nil, List.length_map, List.length_append, List.cons_append, List.nil_append, List.append_nil, Nat.reduceAdd, Nat.reduceSub, Nat.zero_add, Nat.add_zero, Option.map_some, Option.map_none, Option.getD_some, Option.getD_none, Bool.false_eq_true, Bool.true_eq_false, Bool.and_false, Bool.false_and, Bool.and_true, Bool.true_and, Bool.or_false, Bool.false_or, Bool.or_true, Bool.true_or, Bool.not_true, Bool.not_false, if_true, if_false, ite_true, ite_false, decide_eq_true_eq, Bool.and_eq_true, Bool.or_eq_true, Bool.not_eq_true', decide_eq_false_iff_not, decide_true, decide_false, true_and, and_true, reduceCtorEq, Int.reduceNeg, Int.reduceLT, Int.reduceLE, Int.reduceToNat, Nat.reduceLeDiff, Int.reduceAbs, Int.reduceSub, Int.reduceAdd, Int.reduceMul, Int.reduceEq, Nat.reduceMul, Nat.reduceEqDiff, Nat.reduceLT, Nat.reducePow, Int.reducePow, ↓reduceIte, ite_not, sif.eq_1, sif.eq_3, sif.eq_4, andA.eq_1, andA.eq_3, andA.eq_4, orA.eq_1, orA.eq_3, orA.eq_4, notA.eq_1, notA.eq_3, notA.eq_4, ifA.eq_1, ifA.eq_3, ifA.eq_4, orw.eq_1, orw.eq_2, orw.eq_3, v1r.eq_1, v1r.eq_2, v1a.eq_1, v1a.eq_2, v1a.eq_3, v2a.eq_1, v2a.eq_2, v2a.eq_3, v2b.eq_1, v2b.eq_2, v2b.eq_3, dlr.eq_1, dlr.eq_2, d1a.eq_1, d1a.eq_2, d1a.eq_3, d2a.eq_1, d2a.eq_2, d2a.eq_3, d2b.eq_1, d2b.eq_2, d2b.eq_3, ar1.eq_1, ar1.eq_2, ar1.eq_3, ar1.eq_4, ar2.eq_1, ar2.eq_2, ar2.eq_3, tupA.eq_1, tupA.eq_2, tupA.eq_3, lstA.eq_1, lstA.eq_2, lstA.eq_3, calA.eq_1, calA.eq_2, calA.eq_3, calB.eq_1, calB.eq_2, calB.eq_3, wOf.eq_1, varV.eq_1, varR.eq_1, varR.eq_2, varD.eq_1, setA.eq_1, setA.eq_2, setA.eq_4, setA.eq_5, setVA.eq_1, setVA.eq_2, setVA.eq_3, setVA.eq_4, asgA.eq_1, asgA.eq_2, asgA.eq_3, asgA.eq_4, asgB.eq_1, asgB.eq_2, expA.eq_1, expA.eq_2, expA.eq_3, retA.eq_1, retA.eq_2, retA.eq_3, retVA.eq_1, retVA.eq_2, retVA.eq_3, retVA.eq_4, forA.eq_1, forA.eq_2, forA.eq_3, sl0.eq_1, sl0.eq_2, sl0.eq_3, sl1.eq_1, sl1.eq_2, sl2.eq_1, sl2.eq_2, sl3.eq_1, sl3.eq_2, optA.eq_1, bdyA.eq_1, bdyA.eq_2, iPA.eq_1, iPA.eq_2, iPA.eq_3, iPA.eq_5, iPA.eq_6, rg1A.eq_3, rg1A.eq_4, rg2A.eq_3, rg2A.eq_4, rg3A.eq_3, rg3A.eq_4, enA.eq_1, enA.eq_3, enA.eq_4, zpA.eq_1, zpA.eq_3, zpA.eq_4, rvA.eq_1, rvA.eq_3, rvA.eq_4, ch1.eq_1, ch1.eq_2, ch1.eq_3, ch2.eq_1, ch2.eq_2, ch2.eq_3, chA.eq_1, chB.eq_1, chB.eq_2, chB.eq_3, chC.eq_1, chC.eq_2, lc0.eq_2, lc0.eq_3, lcA.eq_1, lcA.eq_2, augA.eq_1, augB.eq_1, augB.eq_3, augB.eq_4, appA.eq_1, appB.eq_1, appB.eq_2, appB.eq_3, putA.eq_1, putA.eq_2, putA.eq_3, putA2.eq_1, putA2.eq_2, putB.eq_1, putC.eq_1, putD.eq_1, pixA.eq_1, pixA2.eq_1, pixB.eq_1, tryA.eq_1, tryB.eq_1, tryB.eq_2, tryB.eq_3, noEr.eq_1, repA.eq_1, repA2.eq_1, repA2.eq_2, repB.eq_1, rdT.eq_1, rdT.eq_2, toV.eq_1, toV.eq_2, toV.eq_3, toV.eq_4, toV.eq_5, toV.eq_6, ofV.eq_1, ofV.eq_2, ofV.eq_4, ofV.eq_5, tOf.eq_1, tOf.eq_2, isL.eq_1, getE.eq_1, getT.eq_1, getT.eq_2, getT.eq_3, setE.eq_1, setT.eq_1, setT.eq_2, setT.eq_3, T.data.eq_1, T.data.eq_2, finW.eq_1, finW.eq_2, finW.eq_3, finW.eq_4, finW.eq_6, fin.eq_1, fin.eq_2, fin.eq_3, tgS.eq_1, wipeE.eq_1, wipeE.eq_2, fAdd.eq_1, fAdd.eq_2, fI2.eq_1, fB2.eq_1, fU.eq_1, fLen.eq_1, fLen.eq_2, fLen.eq_3, fIx.eq_1, fIx.eq_2, fIx.eq_3, fIsN.eq_1, fNotN.eq_1, isNone.eq_1, fInt.eq_1, fInt.eq_2, fInt.eq_3, fLs.eq_1, fLs.eq_2, fTp.eq_1, fTp.eq_2, fSlP.eq_3, wOf_l, wOf_o, tryA_nx, tryA_rt, tryA_bk, tryA_ct, noEr_nx, noEr_rt, noEr_bk, noEr_ct, isNone_i, isNone_b, isNone_s, isNone_l, isNone_t, iL_app, iL_len, iL_rep, iL_rev, allD_iL, dataL_iL, q_int, q_t, q_l, n_t, n_l, n_int, q_self, n_self, s_to, s_from, s_mid, sl_to, sl_from, sl_mid, add_t, add_l, cat_l, isi_t, isi_b, isi_i, isi_l, isi_s, at_0, at_1, at_2, at_3, at_4, at_5, at_6, ai_0, ai_1, ai_2, ai_3, ai_4, ai_5, ai_6, tgN_a, tgT_a, apd_ok, lc_ok, rg1_ok, rg2_ok, iL_snoc, iL_mapd, lc_const, rngD_len, iL_take, iL_drop, Int.toNat_natCast, dataL_nil, dataL_cons, allD.eq_1, allD.eq_2, ixN_ok, rep_l, tgS_nil, rep_none, rep_none0, List.take_left, List.drop_left, any_false, all_true, eq_self, set_iL, at_last, List.drop_succ_cons, List.drop_zero, List.take_succ_cons, List.take_zero, List.getLast?_cons_cons, List.getLast?_singleton, Int.cast_ofNat_Int, rg3_ok, rngC_len, fRv_l, b_bits_number]
  refine for_fin (fun i e => ∃ h, e = [some (.d (.list (iL bs))), some (.d (.int (LB (bs.take i).reverse))), h]) ⟨none, rfl⟩ ?_ ?_
  · intro i x e hx ⟨h, he⟩
    subst he
    rw [iL_get] at hx
    obtain ⟨b, hb, rfl⟩ := Option.map_eq_some_iff.mp hx
    have e : (bs.take (i + 1)).reverse = b :: (bs.take i).reverse := by
      rw [List.take_add_one, hb]
      simp
    rw [e, LB]
    simp (disch := (first | with_reducible assumption | omega | (simp only [iL_len, rngD_len, rngC_len, List.length_append, List.length_replicate, List.length_cons, List.length_nil, List.length_map, List.length_take, List.length_drop, List.length_range, SZ] <;> omega) | (simp only [iL_len, rngD_len, rngC_len, List.length_append, List.length_replicate, List.length_cons, List.length_nil, List.length_map, List.length_take, List.length_drop, List.length_range, SZ] at * <;> omega) | fail)) only [↓x_seq, ↓x_nil, ↓x_if, ↓x_set, ↓x_setV, ↓x_asg, ↓x_exp, ↓x_ret, ↓x_retV, ↓x_retN, ↓x_brk, ↓x_cnt, ↓x_for, ↓x_bdy, ↓x_C, ↓x_var, ↓x_dvar, ↓x_v1, ↓x_v2, ↓x_d1L, ↓x_d2L, ↓x_and, ↓x_or, ↓x_not, ↓x_ifx, ↓x_args0, ↓x_args1, ↓x_tup, ↓x_lst, ↓x_call, ↓x_vD, ↓x_dV, ↓x_slP, ↓x_opt0, ↓x_opt1, ↓x_iP, ↓x_rg1, ↓x_rg2, ↓x_rg3, ↓x_en, ↓x_zp, ↓x_rv, ↓x_ch, ↓x_lc, ↓x_aug, ↓x_app, ↓x_put, ↓x_pix, ↓x_try, ↓x_rep, ↓x_raise0, y_sq, y_sif, y_retV, y_setV, y_toV, y_ofV, y_orw, y_and, y_or, y_not, y_v1, y_v2a, y_v2b, y_finW, y_calB, sq_nx, sq_rt, sq_bk, sq_ct, sq_er, sq_no, dataL_d, allD_d, fnD, SZ, List.getElem?_cons_zero, List.getElem?_cons_succ, List.getElem?_nil, List.set_cons_zero, List.set_cons_succ, List.map_cons, List.map_nil, List.length_cons, List.length_nil, List.length_map, List.length_append, List.cons_append, List.nil_append, List.append_nil, Nat.reduceAdd, Nat.reduceSub, Nat.zero_add, Nat.add_zero, Option.map_some, Option.map_none, Option.getD_some, Option.getD_none, Bool.false_eq_true, Bool.true_eq_false, Bool.and_false, Bool.false_and, Bool.and_true, Bool.true_and, Bool.or_false, Bool.false_or, Bool.or_true, Bool.true_or, Bool.not_true, Bool.not_false, if_true, if_false, ite_true, ite_false, decide_eq_true_eq, Bool.and_eq_true, Bool.or_eq_true, Bool.not_eq_true', decide_eq_false_iff_not, decide_true, decide_false, true_and, and_true, reduceCtorEq, Int.reduceNeg, Int.reduceLT, Int.reduceLE, Int.reduceToNat, Nat.reduceLeDiff, Int.reduceAbs, Int.reduceSub, Int.reduceAdd, Int.reduceMul, Int.reduceEq, Nat.reduceMul, Nat.reduceEqDiff, Nat.reduceLT, Nat.reducePow, Int.reducePow, ↓reduceIte, ite_not, sif.eq_1, sif.eq_3, sif.eq_4, andA.eq_1, andA.eq_3, andA.eq_4, orA.eq_1, orA.eq_3, orA.eq_4, notA.eq_1, notA.eq_3, notA.eq_4, ifA.eq_1, ifA.eq_3, ifA.eq_4, orw.eq_1, orw.eq_2, orw.eq_3, v1r.eq_1, v1r.eq_2, v1a.eq_1, v1a.eq_2, v1a.eq_3, v2a.eq_1, v2a.eq_2, v2a.eq_3, v2b.eq_1, v2b.eq_2, v2b.eq_3, dlr.eq_1, dlr.eq_2, d1a.eq_1, d1a.eq_2, d1a.eq_3, d2a.eq_1, d2a.eq_2, d2a.eq_3, d2b.eq_1, d2b.eq_2, d2b.eq_3, ar1.eq_1, ar1.eq_2, ar1.eq_3, ar1.eq_4, ar2.eq_1, ar2.eq_2, ar2.eq_3, tupA.eq_1, tupA.eq_2, tupA.eq_3, lstA.eq_1, lstA.eq_2, lstA.eq_3, calA.eq_1, calA.eq_2, calA.eq_3, calB.eq_1, calB.eq_2, calB.eq_3, wOf.eq_1, varV.eq_1, varR.eq_1, varR.eq_2, varD.eq_1, setA.eq_1, setA.eq_2, setA.eq_4, setA.eq_5, setVA.eq_1, setVA.eq_2, setVA.eq_3, setVA.eq_4, asgA.eq_1, asgA.eq_2, asgA.eq_3, asgA.eq_4, asgB.eq_1, asgB.eq_2, expA.eq_1, expA.eq_2, expA.eq_3, retA.eq_1, retA.eq_2, retA.eq_3, retVA.eq_1, retVA.eq_2, retVA.eq_3, retVA.eq_4, forA.eq_1, forA.eq_2, forA.eq_3, sl0.eq_1, sl0.eq_2, sl0.eq_3, sl1.eq_1, sl1.eq_2, sl2.eq_1, sl2.eq_2, sl3.eq_1, sl3.eq_2, optA.eq_1, bdyA.eq_1, bdyA.eq_2, iPA.eq_1, iPA.eq_2, iPA.eq_3, iPA.eq_5, iPA.eq_6, rg1A.eq_3, rg1A.eq_4, rg2A.eq_3, rg2A.eq_4, rg3A.eq_3, rg3A.eq_4, enA.eq_1, enA.eq_3, enA.eq_4, zpA.eq_1, zpA.eq_3, zpA.eq_4, rvA.eq_1, rvA.eq_3, rvA.eq_4, ch1.eq_1, ch1.eq_2, ch1.eq_3, ch2.eq_1, ch2.eq_2, ch2.eq_3, chA.eq_1, chB.eq_1, chB.eq_2, chB.eq_3, chC.eq_1, chC.eq_2, lc0.eq_2, lc0.eq_3, lcA.eq_1, lcA.eq_2, augA.eq_1, augB.eq_1, augB.eq_3, augB.eq_4, appA.eq_1, appB.eq_1, appB.eq_2, appB.eq_3, putA.eq_1, putA.eq_2, putA.eq_3, putA2.eq_1, putA2.eq_2, putB.eq_1, putC.eq_1, putD.eq_1, pixA.eq_1, pixA2.eq_1, pixB.eq_1, tryA.eq_1, tryB.eq_1, tryB.eq_2, tryB.eq_3, noEr.eq_1, repA.eq_1, repA2.eq_1, repA2.eq_2, repB.eq_1, rdT.eq_1, rdT.eq_2, toV.eq_1, toV.eq_2, toV.eq_3, toV.eq_4, toV.eq_5, toV.eq_6, ofV.eq_1, ofV.eq_2, ofV.eq_4, ofV.eq_5, tOf.eq_1, tOf.eq_2, isL.eq_1, getE.eq_1, getT.eq_1, getT.eq_2, getT.eq_3, setE.eq_1, setT.eq_1, setT.eq_2, setT.eq_3, T.data.eq_1, T.data.eq_2, finW.eq_1, finW.eq_2, finW.eq_3, finW.eq_4, finW.eq_6, fin.eq_1, fin.eq_2, fin.eq_3, tgS.eq_1, wipeE.eq_1, wipeE.eq_2, fAdd.eq_1, fAdd.eq_2, fI2.eq_1, fB2.eq_1, fU.eq_1, fLen.eq_1, fLen.eq_2, fLen.eq_3, fIx.eq_1, fIx.eq_2, fIx.eq_3, fIsN.eq_1, fNotN.eq_1, isNone.eq_1, fInt.eq_1, fInt.eq_2, fInt.eq_3, fLs.eq_1, fLs.eq_2, fTp.eq_1, fTp.eq_2, fSlP.eq_3, wOf_l, wOf_o, tryA_nx, tryA_rt, tryA_bk, tryA_ct, noEr_nx, noEr_rt, noEr_bk, noEr_ct, isNone_i, isNone_b, isNone_s, isNone_l, isNone_t, iL_app, iL_len, iL_rep, iL_rev, allD_iL, dataL_iL, q_int, q_t, q_l, n_t, n_l, n_int, q_self, n_self, s_to, s_from, s_mid, sl_to, sl_from, sl_mid, add_t, add_l, cat_l, isi_t, isi_b, isi_i, isi_l, isi_s, at_0, at_1, at_2, at_3, at_4, at_5, at_6, ai_0, ai_1, ai_2, ai_3, ai_4, ai_5, ai_6, tgN_a, tgT_a, apd_ok, lc_ok, rg1_ok, rg2_ok, iL_snoc, iL_mapd, lc_const, rngD_len, iL_take, iL_drop, Int.toNat_natCast, dataL_nil, dataL_cons, allD.eq_1, allD.eq_2, ixN_ok, rep_l, tgS_nil, rep_none, rep_none0, List.take_left, List.drop_left, any_false, all_true, eq_self, set_iL, at_last, List.drop_succ_cons, List.drop_zero, List.take_succ_cons, List.take_zero, List.getLast?_cons_cons, List.getLast?_singleton, Int.cast_ofNat_Int, rg3_ok, rngC_len, fRv_l]
    exact ⟨_, rfl, _, rfl⟩
  · intro e ⟨h, he⟩
    subst he
    rw [iL_len, List.take_length]
    simp (disch := (first | with_reducible assumption | omega | (simp only [iL_len, rngD_len, rngC_len, List.length_append, List.length_replicate, List.length_cons, List.length_nil, List.length_map, List.length_take, List.length_drop, List.length_range, SZ] <;> omega) | (simp only [iL_len, rngD_len, rngC_len, List.length_append, List.length_replicate, List.length_cons, List.length_nil, List.length_map, List.length_take, List.length_drop, List.length_range, SZ] at * <;> omega) | fail)) only [↓x_seq, ↓x_nil, ↓x_if, ↓x_set, ↓x_setV, ↓x_asg, ↓x_exp, ↓x_ret, ↓x_retV, ↓x_retN, ↓x_brk, ↓x_cnt, ↓x_for, ↓x_bdy, ↓x_C, ↓x_var, ↓x_dvar, ↓x_v1, ↓x_v2, ↓x_d1L, ↓x_d2L, ↓x_and, ↓x_or, ↓x_not, ↓x_ifx, ↓x_args0, ↓x_args1, ↓x_tup, ↓x_lst, ↓x_call, ↓x_vD, ↓x_dV, ↓x_slP, ↓x_opt0, ↓x_opt1, ↓x_iP, ↓x_rg1, ↓x_rg2, ↓x_rg3, ↓x_en, ↓x_zp, ↓x_rv, ↓x_ch, ↓x_lc, ↓x_aug, ↓x_app, ↓x_put, ↓x_pix, ↓x_try, ↓x_rep, ↓x_raise0, y_sq, y_sif, y_retV, y_setV, y_toV, y_ofV, y_orw, y_and, y_or, y_not, y_v1, y_v2a, y_v2b, y_finW, y_calB, sq_nx, sq_rt, sq_bk, sq_ct, sq_er, sq_no, dataL_d, allD_d, fnD, SZ, List.getElem?_cons_zero, List.getElem?_cons_succ, List.getElem?_nil, List.set_cons_zero, List.set_cons_succ, List.map_cons, List.map_nil, List.length_cons, List.length_nil, List.length_map, List.length_append, List.cons_append, List.nil_append, List.append_nil, Nat.reduceAdd, Nat.reduceSub, Nat.zero_add, Nat.add_zero, Option.map_some, Option.map_none, Option.getD_some, Option.getD_none, Bool.false_eq_true, Bool.true_eq_false, Bool.and_false, Bool.false_and, Bool.and_true, Bool.true_and, Bool.or_false, Bool.false_or, Bool.or_true, Bool.true_or, Bool.not_true, Bool.not_false, if_true, if_false, ite_true, ite_false, decide_eq_true_eq, Bool.and_eq_true, Bool.or_eq_true, Bool.not_eq_true', decide_eq_false_iff_not, decide_true, decide_false, true_and, and_true, reduceCtorEq, Int.reduceNeg, Int.reduceLT, Int.reduceLE, Int.reduceToNat, Nat.reduceLeDiff, Int.reduceAbs, Int.reduceSub, Int.reduceAdd, Int.reduceMul, Int.reduceEq, Nat.reduceMul, Nat.reduceEqDiff, Nat.reduceLT, Nat.reducePow, Int.reducePow, ↓reduceIte, ite_not, sif.eq_1, sif.eq_3, sif.eq_4, andA.eq_1, andA.eq_3, andA.eq_4, orA.eq_1, orA.eq_3, orA.eq_4, notA.eq_1, notA.eq_3, notA.eq_4, ifA.eq_1, ifA.eq_3, ifA.eq_4, orw.eq_1, orw.eq_2, orw.eq_3, v1r.eq_1, v1r.eq_2, v1a.eq_1, v1a.eq_2, v1a.eq_3, v2a.eq_1, v2a.eq_2, v2a.eq_3, v2b.eq_1, v2b.eq_2, v2b.eq_3, dlr.eq_1, dlr.eq_2, d1a.eq_1, d1a.eq_2, d1a.eq_3, d2a.eq_1, d2a.eq_2, d2a.eq_3, d2b.eq_1, d2b.eq_2, d2b.eq_3, ar1.eq_1, ar1.eq_2, ar1.eq_3, ar1.eq_4, ar2.eq_1, ar2.eq_2, ar2.eq_3, tupA.eq_1, tupA.eq_2, tupA.eq_3, lstA.eq_1, lstA.eq_2, lstA.eq_3, calA.eq_1, calA.eq_2, calA.eq_3, calB.eq_1, calB.eq_2, calB.eq_3, wOf.eq_1, varV.eq_1, varR.eq_1, varR.eq_2, varD.eq_1, setA.eq_1, setA.eq_2, setA.eq_4, setA.eq_5, setVA.eq_1, setVA.eq_2, setVA.eq_3, setVA.eq_4, asgA.eq_1, asgA.eq_2, asgA.eq_3, asgA.eq_4, asgB.eq_1, asgB.eq_2, expA.eq_1, expA.eq_2, expA.eq_3, retA.eq_1, retA.eq_2, retA.eq_3, retVA.eq_1, retVA.eq_2, retVA.eq_3, retVA.eq_4, forA.eq_1, forA.eq_2, forA.eq_3, sl0.eq_1, sl0.eq_2, sl0.eq_3, sl1.eq_1, sl1.eq_2, sl2.eq_1, sl2.eq_2, sl3.eq_1, sl3.eq_2, optA.eq_1, bdyA.eq_1, bdyA.eq_2, iPA.eq_1, iPA.eq_2, iPA.eq_3, iPA.eq_5, iPA.eq_6, rg1A.eq_3, rg1A.eq_4, rg2A.eq_3, rg2A.eq_4, rg3A.eq_3, rg3A.eq_4, enA.eq_1, enA.eq_3, enA.eq_4, zpA.eq_1, zpA.eq_3, zpA.eq_4, rvA.eq_1, rvA.eq_3, rvA.eq_4, ch1.eq_1, ch1.eq_2, ch1.eq_3, ch2.eq_1, ch2.eq_2, ch2.eq_3, chA.eq_1, chB.eq_1, chB.eq_2, chB.eq_3, chC.eq_1, chC.eq_2, lc0.eq_2, lc0.eq_3, lcA.eq_1, lcA.eq_2, augA.eq_1, augB.eq_1, augB.eq_3, augB.eq_4, appA.eq_1, appB.eq_1, appB.eq_2, appB.eq_3, putA.eq_1, putA.eq_2, putA.eq_3, putA2.eq_1, putA2.eq_2, putB.eq_1, putC.eq_1, putD.eq_1, pixA.eq_1, pixA2.eq_1, pixB.eq_1, tryA.eq_1, tryB.eq_1, tryB.eq_2, tryB.eq_3, noEr.eq_1, repA.eq_1, repA2.eq_1, repA2.eq_2, repB.eq_1, rdT.eq_1, rdT.eq_2, toV.eq_1, toV.eq_2, toV.eq_3, toV.eq_4, toV.eq_5, toV.eq_6, ofV.eq_1, ofV.eq_2, ofV.eq_4, ofV.eq_5, tOf.eq_1, tOf.eq_2, isL.eq_1, getE.eq_1, getT.eq_1, getT.eq_2, getT.eq_3, setE.eq_1, setT.eq_1, setT.eq_2, setT.eq_3, T.data.eq_1, T.data.eq_2, finW.eq_1, finW.eq_2, finW.eq_3, finW.eq_4, finW.eq_6, fin.eq_1, fin.eq_2, fin.eq_3, tgS.eq_1, wipeE.eq_1, wipeE.eq_2, fAdd.eq_1, fAdd.eq_2, fI2.eq_1, fB2.eq_1, fU.eq_1, fLen.eq_1, fLen.eq_2, fLen.eq_3, fIx.eq_1, fIx.eq_2, fIx.eq_3, fIsN.eq_1, fNotN.eq_1, isNone.eq_1, fInt.eq_1, fInt.eq_2, fInt.eq_3, fLs.eq_1, fLs.eq_2, fTp.eq_1, fTp.eq_2, fSlP.eq_3, wOf_l, wOf_o, tryA_nx, tryA_rt, tryA_bk, tryA_ct, noEr_nx, noEr_rt, noEr_bk, noEr_ct, isNone_i, isNone_b, isNone_s, isNone_l, isNone_t, iL_app, iL_len, iL_rep, iL_rev, allD_iL, dataL_iL, q_int, q_t, q_l, n_t, n_l, n_int, q_self, n_self, s_to, s_from, s_mid, sl_to, sl_from, sl_mid, add_t, add_l, cat_l, isi_t, isi_b, isi_i, isi_l, isi_s, at_0, at_1, at_2, at_3, at_4, at_5, at_6, ai_0, ai_1, ai_2, ai_3, ai_4, ai_5, ai_6, tgN_a, tgT_a, apd_ok, lc_ok, rg1_ok, rg2_ok, iL_snoc, iL_mapd, lc_const, rngD_len, iL_take, iL_drop, Int.toNat_natCast, dataL_nil, dataL_cons, allD.eq_1, allD.eq_2, ixN_ok, rep_l, tgS_nil, rep_none, rep_none0, List.take_left, List.drop_left, any_false, all_true, eq_self, set_iL, at_last, List.drop_succ_cons, List.drop_zero, List.take_succ_cons, List.take_zero, List.getLast?_cons_cons, List.getLast?_singleton, Int.cast_ofNat_Int, rg3_ok, rngC_len, fRv_l]
theorem number_rev (bs : List Int) : f_bits_number [.d (.list (iL bs.reverse))] = .rt (.d (.int (LB bs))) [.d (.list (iL bs.reverse))] := by
  have := number_ok bs.reverse
  rwa [List.reverse_reverse] at this
theorem octet_bits_ok (os : List Int) (hl : os.length < 1000000) : f_octet_bits [.d (.tuple (iL os))] = .rt (.d (.list (iL (OB os)))) [.d (.tuple (iL os))] := by
  have h2 : lcG2 (tgN 1) (iRg1 (vC (.int 8))) [2] (tgN 2) (v2 fAnd (v2 fShr (vVar 1) (vVar 2)) (vC (.int 1))) [some (.d (.tuple (iL os))), none, none] (iL os) = some (iL (OB os)) := by
    refine lcG2_ints (bitsOf 8) (fun x _ => ⟨rngD 0 8, [some (.d (.tuple (iL os))), some (.d (.int x)), none], ?_, ?_⟩)
    · simp (disch := (first | with_reducible assumption | omega | (simp only [iL_len, rngD_len, rngC_len, List.length_append, List.length_replicate, List.length_cons, List.length_nil, List.length_map, List.length_take, List.length_drop, List.length_range, SZ] <;> omega) | (simp only [iL_len, rngD_len, rngC_len, List.length_append, List.length_replicate, List.length_cons, List.length_nil, List.length_map, List.length_take, List.length_drop, List.length_range, SZ] at * <;> omega) | fail)) only [↓x_seq, ↓x_nil, ↓x_if, ↓x_set, ↓x_setV, ↓x_asg, ↓x_exp, ↓x_ret, ↓x_retV, ↓x_retN, ↓x_brk, ↓x_cnt, ↓x_for, ↓x_bdy, ↓x_C, ↓x_var, ↓x_dvar, ↓x_v1, ↓x_v2, ↓x_d1L, ↓x_d2L, ↓x_and, ↓x_or, ↓x_not, ↓x_ifx, ↓x_args0, ↓x_args1, ↓x_tup, ↓x_lst, ↓x_call, ↓x_vD, ↓x_dV, ↓x_slP, ↓x_opt0, ↓x_opt1, ↓x_iP, ↓x_rg1, ↓x_rg2, ↓x_rg3, ↓x_en, ↓x_zp, ↓x_rv, ↓x_ch, ↓x_lc, ↓x_aug, ↓x_app, ↓x_put, ↓x_pix, ↓x_try, ↓x_rep, ↓x_raise0, y_sq, y_sif, y_retV, y_setV, y_toV, y_ofV, y_orw, y_and, y_or, y_not, y_v1, y_v2a, y_v2b, y_finW, y_calB, sq_nx, sq_rt, sq_bk, sq_ct, sq_er, sq_no, dataL_d, allD_d, fnD, SZ, List.getElem?_cons_zero, List.getElem?_cons_succ, List.getElem?_nil, List.set_cons_zero, List.set_cons_succ, List.map_cons, List.map_nil, List.length_cons, List.length_nil, List.length_map, List.length_append, List.cons_append, List.nil_append, List.append_nil, Nat.reduceAdd, Nat.reduceSub, Nat.zero_add, Nat.add_zero, Option.map_some, Option.map_none, Option.getD_some, Option.getD_none, Bool.false_eq_true, Bool.true_eq_false, Bool.and_false, Bool.false_and, Bool.and_true, Bool.true_and, Bool.or_false, Bool.false_or, Bool.or_true, Bool.true_or, Bool.not_true, Bool.not_false, if_true, if_false, ite_true, ite_false, decide_eq_true_eq, Bool.and_eq_true, Bool.or_eq_true, Bool.not_eq_true', decide_eq_false_iff_not, decide_true, decide_false, true_and, and_true, reduceCtorEq, Int.reduceNeg, Int.reduceLT, Int.reduceLE, Int.reduceToNat, Nat.reduceLeDiff, Int.reduceAbs, Int.reduceSub, Int.reduceAdd, Int.reduceMul, Int.reduceEq, Nat.reduceMul, Nat.reduceEqDiff, Nat.reduceLT, Nat.reducePow, Int.reducePow, ↓reduceIte, ite_not, sif.eq_1, sif.eq_3, sif.eq_4, andA.eq_1, andA.eq_3, andA.eq_4, orA.eq_1, orA.eq_3, orA.eq_4, notA.eq_1, notA.eq_3, notA.eq_4, ifA.eq_1, ifA.eq_3, ifA.eq_4, orw.eq_1, orw.eq_2, orw.eq_3, v1r.eq_1, v1r.eq_2, v1a.eq_1, v1a.eq_2, v1a.eq_3, v2a.eq_1, v2a.eq_2, v2a.eq_3, v2b.eq_1, v2b.eq_2, v2b.eq_3, dlr.eq_1, dlr.eq_2, d1a.eq_1, d1a.eq_2, d1a.eq_3, d2a.eq_1, d2a.eq_2, d2a.eq_3, d2b.eq_1, d2b.eq_2, d2b.eq_3, ar1.eq_1, ar1.eq_2, ar1.eq_3, ar1.eq_4, ar2.eq_1, ar2.eq_2, ar2.eq_3, tupA.eq_1, tupA.eq_2, tupA.eq_3, lstA.eq_1, lstA.eq_2, lstA.eq_3, calA.eq_1, calA.eq_2, calA.eq_3, calB.eq_1, calB.eq_2, calB.eq_3, wOf.eq_1, varV.eq_1, varR.eq_1, varR.eq_2, varD.eq_1, setA.eq_1, setA.eq_2, setA.eq_4, setA.eq_5, setVA.eq_1, setVA.eq_2, setVA.eq_3, setVA.eq_4, asgA.eq_1, asgA.eq_2, asgA.eq_3, asgA.eq_4, asgB.eq_1, asgB.eq_2, expA.eq_1, expA.eq_2, expA.eq_3, retA.eq_1, retA.eq_2, retA.eq_3, retVA.eq_1, retVA.eq_2, retVA.eq_3, retVA.eq_4, forA.eq_1, forA.eq_2, forA.eq_3, sl0.eq_1, sl0.eq_2, sl0.eq_3, sl1.eq_1, sl1.eq_2, sl2.eq_1, sl2.eq_2, sl3.eq_1, sl3.eq_2, optA.eq_1, bdyA.eq_1, bdyA.eq_2, iPA.eq_1, iPA.eq_2, iPA.eq_3, iPA.eq_5, iPA.eq_6, rg1A.eq_3, rg1A.eq_4, rg2A.eq_3, rg2A.eq_4, rg3A.eq_3, rg3A.eq_4, enA.eq_1, enA.eq_3, enA.eq_4, zpA.eq_1, zpA.eq_3, zpA.eq_4, rvA.eq_1, rvA.eq_3, rvA.eq_4, ch1.eq_1, ch1.eq_2, ch1.eq_3, ch2.eq_1, ch2.eq_2, ch2.eq_3, chA.eq_1, chB.eq_1, chB.eq_2, chB.eq_3, chC.eq_1, chC.eq_2, lc0.eq_2, lc0.eq_3, lcA.eq_1, lcA.eq_2, augA.eq_1, augB.eq_1, augB.eq_3, augB.eq_4, appA.eq_1, appB.eq_1, appB.eq_2, appB.eq_3, putA.eq_1, putA.eq_2, putA.eq_3, putA2.eq_1, putA2.eq_2, putB.eq_1, putC.eq_1, putD.eq_1, pixA.eq_1, pixA2.eq_1, pixB.eq_1, tryA.eq_1, tryB.eq_1, tryB.eq_2, tryB.eq_3, noEr.eq_1, repA.eq_1, repA2.eq_1, repA2.eq_2, repB.eq_1, rdT.eq_1, rdT.eq_2, toV.eq_1, toV.eq_2, toV.eq_3, toV.eq_4, toV.eq_5, toV.eq_6, ofV.eq_1, ofV.eq_2, ofV.eq_4, ofV.eq_5, tOf.eq_1, tOf.eq_2, isL.eq_1, getE.eq_1, getT.eq_1, getT.eq_2, getT.eq_3, setE.eq_1, setT.eq_1, setT.eq_2, setT.eq_3, T.data.eq_1, T.data.eq_2, finW.eq_1, finW.eq_2, finW.eq_3, finW.eq_4, finW.eq_6, fin.eq_1, fin.eq_2, fin.eq_3, tgS.eq_1, wipeE.eq_1, wipeE.eq_2, fAdd.eq_1, fAdd.eq_2, fI2.eq_1, fB2.eq_1, fU.eq_1, fLen.eq_1, fLen.eq_2, fLen.eq_3, fIx.eq_1, fIx.eq_2, fIx.eq_3, fIsN.eq_1, fNotN.eq_1, isNone.eq_1, fInt.eq_1, fInt.eq_2, fInt.eq_3, fLs.eq_1, fLs.eq_2, fTp.eq_1, fTp.eq_2, fSlP.eq_3, wOf_l, wOf_o, tryA_nx, tryA_rt, tryA_bk, tryA_ct, noEr_nx, noEr_rt, noEr_bk, noEr_ct, isNone_i, isNone_b, isNone_s, isNone_l, isNone_t, iL_app, iL_len, iL_rep, iL_rev, allD_iL, dataL_iL, q_int, q_t, q_l, n_t, n_l, n_int, q_self, n_self, s_to, s_from, s_mid, sl_to, sl_from, sl_mid, add_t, add_l, cat_l, isi_t, isi_b, isi_i, isi_l, isi_s, at_0, at_1, at_2, at_3, at_4, at_5, at_6, ai_0, ai_1, ai_2, ai_3, ai_4, ai_5, ai_6, tgN_a, tgT_a, apd_ok, lc_ok, rg1_ok, rg2_ok, iL_snoc, iL_mapd, lc_const, rngD_len, iL_take, iL_drop, Int.toNat_natCast, dataL_nil, dataL_cons, allD.eq_1, allD.eq_2, ixN_ok, rep_l, tgS_nil, rep_none, rep_none0, List.take_left, List.drop_left, any_false, all_true, eq_self, set_iL, at_last, List.drop_succ_cons, List.drop_zero, List.take_succ_cons, List.take_zero, List.getLast?_cons_cons, List.getLast?_singleton, Int.cast_ofNat_Int, rg3_ok, rngC_len, fRv_l]
    · rw [rngD_iL]
      have := lc_ints (v := 2) (el := (v2 fAnd (v2 fShr (vVar 1) (vVar 2)) (vC (.int 1)))) (e0 := [some (.d (.tuple (iL os))), some (.d (.int x)), none]) (fun k => bit x k.toNat) (l := (List.range 8).map fun k => (0 : Int) + (k : Nat)) (fun k hk => ⟨[some (.d (.tuple (iL os))), some (.d (.int x)), some (.d (.int k))], by
        obtain ⟨n, _, rfl⟩ := List.mem_map.mp hk
        have z : decide ((0 : Int) ≤ 0 + (n : Nat)) = true := by simp
        simp (disch := (first | with_reducible assumption | omega | (simp only [iL_len, rngD_len, rngC_len, List.length_append, List.length_replicate, List.length_cons, List.length_nil, List.length_map, List.length_take, List.length_drop, List.length_range, SZ] <;> omega) | (simp only [iL_len, rngD_len, rngC_len, List.length_append, List.length_replicate, List.length_cons, List.length_nil, List.length_map, List.length_take, List.length_drop, List.length_range, SZ] at * <;> omega) | fail)) only [↓x_seq, ↓x_nil, ↓x_if, ↓x_set, ↓x_setV, ↓x_asg, ↓x_exp, ↓x_ret, ↓x_retV, ↓x_retN, ↓x_brk, ↓x_cnt, ↓x_for, ↓x_bdy, ↓x_C, ↓x_var, ↓x_dvar, ↓x_v1, ↓x_v2, ↓x_d1L, ↓x_d2L, ↓x_and, ↓x_or, ↓x_not, ↓x_ifx, ↓x_args0, ↓x_args1, ↓x_tup, ↓x_lst, ↓x_call, ↓x_vD, ↓x_dV, ↓x_slP, ↓x_opt0, ↓x_opt1, ↓x_iP, ↓x_rg1, ↓x_rg2, ↓x_rg3, ↓x_en, ↓x_zp, ↓x_rv, ↓x_ch, ↓x_lc, ↓x_aug, ↓x_app, ↓x_put, ↓x_pix, ↓x_try, ↓x_rep, ↓x_raise0, y_sq, y_sif, y_retV, y_setV, y_toV, y_ofV, y_orw, y_and, y_or, y_not, y_v1, y_v2a, y_v2b, y_finW, y_calB, sq_nx, sq_rt, sq_bk, sq_ct, sq_er, sq_no, dataL_d, allD_d, fnD, SZ, List.getElem?_cons_zero, List.getElem?_cons_succ, List.getElem?_nil, List.set_cons_zero, List.set_cons_succ, List.map_cons, List.map_nil, List.length_cons, List.length_nil, List.length_map, List.length_append, List.cons_append, List.nil_append, List.append_nil, Nat.reduceAdd, Nat.reduceSub, Nat.zero_add, Nat.add_zero, Option.map_some, Option.map_none, Option.getD_some, Option.getD_none, Bool.false_eq_true, Bool.true_eq_false, Bool.and_false, Bool.false_and, Bool.and_true, Bool.true_and, Bool.or_false, Bool.false_or, Bool.or_true, Bool.true_or, Bool.not_true, Bool.not_false, if_true, if_false, ite_true, ite_false, decide_eq_true_eq, Bool.and_eq_true, Bool.or_eq_true, Bool.not_eq_true', decide_eq_false_iff_not, decide_true, decide_false, true_and, and_true, reduceCtorEq, Int.reduceNeg, Int.reduceLT, Int.reduceLE, Int.reduceToNat, Nat.reduceLeDiff, Int.reduceAbs, Int.reduceSub, Int.reduceAdd, Int.reduceMul, Int.reduceEq, Nat.reduceMul, Nat.reduceEqDiff, Nat.reduceLT, Nat.reducePow, Int.reducePow, ↓reduceIte, ite_not, sif.eq_1, sif.eq_3, sif.eq_4, andA.eq_1, andA.eq_3, andA.eq_4, orA.eq_1, orA.eq_3, orA.eq_4, notA.eq_1, notA.eq_3, notA.eq_4, ifA.eq_1, ifA.eq_3, ifA.eq_4, orw.eq_1, orw.eq_2, orw.eq_3, v1r.eq_1, v1r.eq_2, v1a.eq_1, v1a.eq_2, v1a.eq_3, v2a.eq_1, v2a.eq_2, v2a.eq_3, v2b.eq_1, v2b.eq_2, v2b.eq_3, dlr.eq_1, dlr.eq_2, d1a.eq_1, d1a.eq_2, d1a.eq_3, d2a.eq_1, d2a.eq_2, d2a.eq_3, d2b.eq_1, d2b.eq_2, d2b.eq_3, ar1.eq_1, ar1.eq_2, ar1.eq_3, ar1.eq_4, ar2.eq_1, ar2.eq_2, ar2.eq_3, tupA.eq_1, tupA.eq_2, tupA.eq_3, lstA.eq_1, lstA.eq_2, lstA.eq_3, calA.eq_1, calA.eq_2, calA.eq_3, calB.eq_1, calB.eq_2, calB.eq_3, wOf.eq_1, varV.eq_1, varR.eq_1, varR.eq_2, varD.eq_1, setA.eq_1, setA.eq_2, setA.eq_4, setA.eq_5, setVA.eq_1, setVA.eq_2, setVA.eq_3, setVA.eq_4, asgA.eq_1, asgA.eq_2, asgA.eq_3, asgA.eq_4, asgB.eq_1, asgB.eq_2, expA.eq_1, expA.eq_2, expA.eq_3, retA.eq_1, retA.eq_2, retA.eq_3, retVA.eq_1, retVA.eq_2, retVA.eq_3, retVA.eq_4, forA.eq_1, forA.eq_2, forA.eq_3, sl0.eq_1, sl0.eq_2, sl0.eq_3, sl1.eq_1, sl1.eq_2, sl2.eq_1, sl2.eq_2, sl3.eq_1, sl3.eq_2, optA.eq_1, bdyA.eq_1, bdyA.eq_2, iPA.eq_1, iPA.eq_2, iPA.eq_3, iPA.eq_5, iPA.eq_6, rg1A.eq_3, rg1A.eq_4, rg2A.eq_3, rg2A.eq_4, rg3A.eq_3, rg3A.eq_4, enA.eq_1, enA.eq_3, enA.eq_4, zpA.eq_1, zpA.eq_3, zpA.eq_4, rvA.eq_1, rvA.eq_3, rvA.eq_4, ch1.eq_1, ch1.eq_2, ch1.eq_3, ch2.eq_1, ch2.eq_2, ch2.eq_3, chA.eq_1, chB.eq_1, chB.eq_2, chB.eq_3, chC.eq_1, chC.eq_2, lc0.eq_2, lc0.eq_3, lcA.eq_1, lcA.eq_2, augA.eq_1, augB.eq_1, augB.eq_3, augB.eq_4, appA.eq_1, appB.eq_1, appB.eq_2, appB.eq_3, putA.eq_1, putA.eq_2, putA.eq_3, putA2.eq_1, putA2.eq_2, putB.eq_1, putC.eq_1, putD.eq_1, pixA.eq_1, pixA2.eq_1, pixB.eq_1, tryA.eq_1, tryB.eq_1, tryB.eq_2, tryB.eq_3, noEr.eq_1, repA.eq_1, repA2.eq_1, repA2.eq_2, repB.eq_1, rdT.eq_1, rdT.eq_2, toV.eq_1, toV.eq_2, toV.eq_3, toV.eq_4, toV.eq_5, toV.eq_6, ofV.eq_1, ofV.eq_2, ofV.eq_4, ofV.eq_5, tOf.eq_1, tOf.eq_2, isL.eq_1, getE.eq_1, getT.eq_1, getT.eq_2, getT.eq_3, setE.eq_1, setT.eq_1, setT.eq_2, setT.eq_3, T.data.eq_1, T.data.eq_2, finW.eq_1, finW.eq_2, finW.eq_3, finW.eq_4, finW.eq_6, fin.eq_1, fin.eq_2, fin.eq_3, tgS.eq_1, wipeE.eq_1, wipeE.eq_2, fAdd.eq_1, fAdd.eq_2, fI2.eq_1, fB2.eq_1, fU.eq_1, fLen.eq_1, fLen.eq_2, fLen.eq_3, fIx.eq_1, fIx.eq_2, fIx.eq_3, fIsN.eq_1, fNotN.eq_1, isNone.eq_1, fInt.eq_1, fInt.eq_2, fInt.eq_3, fLs.eq_1, fLs.eq_2, fTp.eq_1, fTp.eq_2, fSlP.eq_3, wOf_l, wOf_o, tryA_nx, tryA_rt, tryA_bk, tryA_ct, noEr_nx, noEr_rt, noEr_bk, noEr_ct, isNone_i, isNone_b, isNone_s, isNone_l, isNone_t, iL_app, iL_len, iL_rep, iL_rev, allD_iL, dataL_iL, q_int, q_t, q_l, n_t, n_l, n_int, q_self, n_self, s_to, s_from, s_mid, sl_to, sl_from, sl_mid, add_t, add_l, cat_l, isi_t, isi_b, isi_i, isi_l, isi_s, at_0, at_1, at_2, at_3, at_4, at_5, at_6, ai_0, ai_1, ai_2, ai_3, ai_4, ai_5, ai_6, tgN_a, tgT_a, apd_ok, lc_ok, rg1_ok, rg2_ok, iL_snoc, iL_mapd, lc_const, rngD_len, iL_take, iL_drop, Int.toNat_natCast, dataL_nil, dataL_cons, allD.eq_1, allD.eq_2, ixN_ok, rep_l, tgS_nil, rep_none, rep_none0, List.take_left, List.drop_left, any_false, all_true, eq_self, set_iL, at_last, List.drop_succ_cons, List.drop_zero, List.take_succ_cons, List.take_zero, List.getLast?_cons_cons, List.getLast?_singleton, Int.cast_ofNat_Int, rg3_ok, rngC_len, fRv_l, z, bitAnd_m1, bit]⟩)
      simp (disch := (first | with_reducible assumption | omega | (simp only [iL_len, rngD_len, rngC_len, List.length_append, List.length_replicate, List.length_cons, List.length_nil, List.length_map, List.length_take, List.length_drop, List.length_range, SZ] <;> omega) | (simp only [iL_len, rngD_len, rngC_len, List.length_append, List.length_replicate, List.length_cons, List.length_nil, List.length_map, List.length_take, List.length_drop, List.length_range, SZ] at * <;> omega) | fail)) only [↓x_seq, ↓x_nil, ↓x_if, ↓x_set, ↓x_setV, ↓x_asg, ↓x_exp, ↓x_ret, ↓x_retV, ↓x_retN, ↓x_brk, ↓x_cnt, ↓x_for, ↓x_bdy, ↓x_C, ↓x_var, ↓x_dvar, ↓x_v1, ↓x_v2, ↓x_d1L, ↓x_d2L, ↓x_and, ↓x_or, ↓x_not, ↓x_ifx, ↓x_args0, ↓x_args1, ↓x_tup, ↓x_lst, ↓x_call, ↓x_vD, ↓x_dV, ↓x_slP, ↓x_opt0, ↓x_opt1, ↓x_iP, ↓x_rg1, ↓x_rg2, ↓x_rg3, ↓x_en, ↓x_zp, ↓x_rv, ↓x_ch, ↓x_lc, ↓x_aug, ↓x_app, ↓x_put, ↓x_pix, ↓x_try, ↓x_rep, ↓x_raise0, y_sq, y_sif, y_retV, y_setV, y_toV, y_ofV, y_orw, y_and, y_or, y_not, y_v1, y_v2a, y_v2b, y_finW, y_calB, sq_nx, sq_rt, sq_bk, sq_ct, sq_er, sq_no, dataL_d, allD_d, fnD, SZ, List.getElem?_cons_zero, List.getElem?_cons_succ, List.getElem?_nil, List.set_cons_zero, List.set_cons_succ, List.map_cons, List.map_nil, List.length_cons, List.length_nil, List.length_map, List.length_append, List.cons_append, List.nil_append, List.append_nil, Nat.reduceAdd, Nat.reduceSub, Nat.zero_add, Nat.add_zero, Option.map_some, Option.map_none, Option.getD_some, Option.getD_none, Bool.false_eq_true, Bool.true_eq_false, Bool.and_false, Bool.false_and, Bool.and_true, Bool.true_and, Bool.or_false, Bool.false_or, Bool.or_true, Bool.true_or, Bool.not_true, Bool.not_false, if_true, if_false, ite_true, ite_false, decide_eq_true_eq, Bool.and_eq_true, Bool.or_eq_true, Bool.not_eq_true', decide_eq_false_iff_not, decide_true, decide_false, true_and, and_true, reduceCtorEq, Int.reduceNeg, Int.reduceLT, Int.reduceLE, Int.reduceToNat, Nat.reduceLeDiff, Int.reduceAbs, Int.reduceSub, Int.reduceAdd, Int.reduceMul, Int.reduceEq, Nat.reduceMul, Nat.reduceEqDiff, Nat.reduceLT, Nat.reducePow, Int.reducePow, ↓reduceIte, ite_not, sif.eq_1, sif.eq_3, sif.eq_4, andA.eq_1, andA.eq_3, andA.eq_4, orA.eq_1, orA.eq_3, orA.eq_4, notA.eq_1, notA.eq_3, notA.eq_4, ifA.eq_1, ifA.eq_3, ifA.eq_4, orw.eq_1, orw.eq_2, orw.eq_3, v1r.eq_1, v1r.eq_2, v1a.eq_1, v1a.eq_2, v1a.eq_3, v2a.eq_1, v2a.eq_2, v2a.eq_3, v2b.eq_1, v2b.eq_2, v2b.eq_3, dlr.eq_1, dlr.eq_2, d1a.eq_1, d1a.eq_2, d1a.eq_3, d2a.eq_1, d2a.eq_2, d2a.eq_3, d2b.eq_1, d2b.eq_2, d2b.eq_3, ar1.eq_1, ar1.eq_2, ar1.eq_3, ar1.eq_4, ar2.eq_1, ar2.eq_2, ar2.eq_3, tupA.eq_1, tupA.eq_2, tupA.eq_3, lstA.eq_1, lstA.eq_2, lstA.eq_3, calA.eq_1, calA.eq_2, calA.eq_3, calB.eq_1, calB.eq_2, calB.eq_3, wOf.eq_1, varV.eq_1, varR.eq_1, varR.eq_2, varD.eq_1, setA.eq_1, setA.eq_2, setA.eq_4, setA.eq_5, setVA.eq_1, setVA.eq_2, setVA.eq_3, setVA.eq_4, asgA.eq_1, asgA.eq_2, asgA.eq_3, asgA.eq_4, asgB.eq_1, asgB.eq_2, expA.eq_1, expA.eq_2, expA.eq_3, retA.eq_1, retA.eq_2, retA.eq_3, retVA.eq_1, retVA.eq_2, retVA.eq_3, retVA.eq_4, forA.eq_1, forA.eq_2, forA.eq_3, sl0.eq_1, sl0.eq_2, sl0.eq_3, sl1.eq_1, sl1.eq_2, sl2.eq_1, sl2.eq_2, sl3.eq_1, sl3.eq_2, optA.eq_1, bdyA.eq_1, bdyA.eq_2, iPA.eq_1, iPA.eq_2, iPA.eq_3, iPA.eq_5, iPA.eq_6, rg1A.eq_3, rg1A.eq_4, rg2A.eq_3, rg2A.eq_4, rg3A.eq_3, rg3A.eq_4, enA.eq_1, enA.eq_3, enA.eq_4, zpA.eq_1, zpA.eq_3, zpA.eq_4, rvA.eq_1, rvA.eq_3, rvA.eq_4, ch1.eq_1, ch1.eq_2, ch1.eq_3, ch2.eq_1, ch2.eq_2, ch2.eq_3, chA.eq_1, chB.eq_1, chB.eq_2, chB.eq_3, chC.eq_1, chC.eq_2, lc0.eq_2, lc0.eq_3, lcA.eq_1, lcA.eq_2, augA.eq_1, augB.eq_1, augB.eq_3, augB.eq_4, appA.eq_1, appB.eq_1, appB.eq_2, appB.eq_3, putA.eq_1, putA.eq_2, putA.eq_3, putA2.eq_1, putA2.eq_2, putB.eq_1, putC.eq_1, putD.eq_1, pixA.eq_1, pixA2.eq_1, pixB.eq_1, tryA.eq_1, tryB.eq_1, tryB.eq_2, tryB.eq_3, noEr.eq_1, repA.eq_1, repA2.eq_1, repA2.eq_2, repB.eq_1, rdT.eq_1, rdT.eq_2, toV.eq_1, toV.eq_2, toV.eq_3, toV.eq_4, toV.eq_5, toV.eq_6, ofV.eq_1, ofV.eq_2, ofV.eq_4, ofV.eq_5, tOf.eq_1, tOf.eq_2, isL.eq_1, getE.eq_1, getT.eq_1, getT.eq_2, getT.eq_3, setE.eq_1, setT.eq_1, setT.eq_2, setT.eq_3, T.data.eq_1, T.data.eq_2, finW.eq_1, finW.eq_2, finW.eq_3, finW.eq_4, finW.eq_6, fin.eq_1, fin.eq_2, fin.eq_3, tgS.eq_1, wipeE.eq_1, wipeE.eq_2, fAdd.eq_1, fAdd.eq_2, fI2.eq_1, fB2.eq_1, fU.eq_1, fLen.eq_1, fLen.eq_2, fLen.eq_3, fIx.eq_1, fIx.eq_2, fIx.eq_3, fIsN.eq_1, fNotN.eq_1, isNone.eq_1, fInt.eq_1, fInt.eq_2, fInt.eq_3, fLs.eq_1, fLs.eq_2, fTp.eq_1, fTp.eq_2, fSlP.eq_3, wOf_l, wOf_o, tryA_nx, tryA_rt, tryA_bk, tryA_ct, noEr_nx, noEr_rt, noEr_bk, noEr_ct, isNone_i, isNone_b, isNone_s, isNone_l, isNone_t, iL_app, iL_len, iL_rep, iL_rev, allD_iL, dataL_iL, q_int, q_t, q_l, n_t, n_l, n_int, q_self, n_self, s_to, s_from, s_mid, sl_to, sl_from, sl_mid, add_t, add_l, cat_l, isi_t, isi_b, isi_i, isi_l, isi_s, at_0, at_1, at_2, at_3, at_4, at_5, at_6, ai_0, ai_1, ai_2, ai_3, ai_4, ai_5, ai_6, tgN_a, tgT_a, apd_ok, lc_ok, rg1_ok, rg2_ok, iL_snoc, iL_mapd, lc_const, rngD_len, iL_take, iL_drop, Int.toNat_natCast, dataL_nil, dataL_cons, allD.eq_1, allD.eq_2, ixN_ok, rep_l, tgS_nil, rep_none, rep_none0, List.take_left, List.drop_left, any_false, all_true, eq_self, set_iL, at_last, List.drop_succ_cons, List.drop_zero, List.take_succ_cons, List.take_zero, List.getLast?_cons_cons, List.getLast?_singleton, Int.cast_ofNat_Int, rg3_ok, rngC_len, fRv_l]
      rw [this]
      rfl
  unfold f_octet_bits
  have h3 := lc2_ok (di := iP (vVar 0)) (di1 := iRg1 (vC (.int 8))) (vs := [1, 2]) (e := [some (.d (.tuple (iL os))), none, none]) (e1 := [some (.d (.tuple (iL os))), none, none]) (xs := iL os) (w := false) (by simp (disch := (first | with_reducible assumption | omega | (simp only [iL_len, rngD_len, rngC_len, List.length_append, List.length_replicate, List.length_cons, List.length_nil, List.length_map, List.length_take, List.length_drop, List.length_range, SZ] <;> omega) | (simp only [iL_len, rngD_len, rngC_len, List.length_append, List.length_replicate, List.length_cons, List.length_nil, List.length_map, List.length_take, List.length_drop, List.length_range, SZ] at * <;> omega) | fail)) only [↓x_seq, ↓x_nil, ↓x_if, ↓x_set, ↓x_setV, ↓x_asg, ↓x_exp, ↓x_ret, ↓x_retV, ↓x_retN, ↓x_brk, ↓x_cnt, ↓x_for, ↓x_bdy, ↓x_C, ↓x_var, ↓x_dvar, ↓x_v1, ↓x_v2, ↓x_d1L, ↓x_d2L, ↓x_and, ↓x_or, ↓x_not, ↓x_ifx, ↓x_args0, ↓x_args1, ↓x_tup, ↓x_lst, ↓x_call, ↓x_vD, ↓x_dV, ↓x_slP, ↓x_opt0, ↓x_opt1, ↓x_iP, ↓x_rg1, ↓x_rg2, ↓x_rg3, ↓x_en, ↓x_zp, ↓x_rv, ↓x_ch, ↓x_lc, ↓x_aug, ↓x_app, ↓x_put, ↓x_pix, ↓x_try, ↓x_rep, ↓x_raise0, y_sq, y_sif, y_retV, y_setV, y_toV, y_ofV, y_orw, y_and, y_or, y_not, y_v1, y_v2a, y_v2b, y_finW, y_calB, sq_nx, sq_rt, sq_bk, sq_ct, sq_er, sq_no, dataL_d, allD_d, fnD, SZ, List.getElem?_cons_zero, List.getElem?_cons_succ, List.getElem?_nil, List.set_cons_zero, List.set_cons_succ, List.map_cons, List.map_nil, List.length_cons, List.length_nil, List.length_map, List.length_append, List.cons_append, List.nil_append, List.append_nil, Nat.reduceAdd, Nat.reduceSub, Nat.zero_add, Nat.add_zero, Option.map_some, Option.map_none, Option.getD_some, Option.getD_none, Bool.false_eq_true, Bool.true_eq_false, Bool.and_false, Bool.false_and, Bool.and_true, Bool.true_and, Bool.or_false, Bool.false_or, Bool.or_true, Bool.true_or, Bool.not_true, Bool.not_false, if_true, if_false, ite_true, ite_false, decide_eq_true_eq, Bool.and_eq_true, Bool.or_eq_true, Bool.not_eq_true', decide_eq_false_iff_not, decide_true, decide_false, true_and, and_true, reduceCtorEq, Int.reduceNeg, Int.reduceLT, Int.reduceLE, Int.reduceToNat, Nat.reduceLeDiff, Int.reduceAbs, Int.reduceSub, Int.reduceAdd, Int.reduceMul, Int.reduceEq, Nat.reduceMul, Nat.reduceEqDiff, Nat.reduceLT, Nat.reducePow, Int.reducePow, ↓reduceIte, ite_not, sif.eq_1, sif.eq_3, sif.eq_4, andA.eq_1, andA.eq_3, andA.eq_4, orA.eq_1, orA.eq_3, orA.eq_4, notA.eq_1, notA.eq_3, notA.eq_4, ifA.eq_1, ifA.eq_3, ifA.eq_4, orw.eq_1, orw.eq_2, orw.eq_3, v1r.eq_1, v1r.eq_2, v1a.eq_1, v1a.eq_2, v1a.eq_3, v2a.eq_1, v2a.eq_2, v2a.eq_3, v2b.eq_1, v2b.eq_2, v2b.eq_3, dlr.eq_1, dlr.eq_2, d1a.eq_1, d1a.eq_2, d1a.eq_3, d2a.eq_1, d2a.eq_2, d2a.eq_3, d2b.eq_1, d2b.eq_2, d2b.eq_3, ar1.eq_1, ar1.eq_2, ar1.eq_3, ar1.eq_4, ar2.eq_1, ar2.eq_2, ar2.eq_3, tupA.eq_1, tupA.eq_2, tupA.eq_3, lstA.eq_1, lstA.eq_2, lstA.eq_3, calA.eq_1, calA.eq_2, calA.eq_3, calB.eq_1, calB.eq_2, calB.eq_3, wOf.eq_1, varV.eq_1, varR.eq_1, varR.eq_2, varD.eq_1, setA.eq_1, setA.eq_2, setA.eq_4, setA.eq_5, setVA.eq_1, setVA.eq_2, setVA.eq_3, setVA.eq_4, asgA.eq_1, asgA.eq_2, asgA.eq_3, asgA.eq_4, asgB.eq_1, asgB.eq_2, expA.eq_1, expA.eq_2, expA.eq_3, retA.eq_1, retA.eq_2, retA.eq_3, retVA.eq_1, retVA.eq_2, retVA.eq_3, retVA.eq_4, forA.eq_1, forA.eq_2, forA.eq_3, sl0.eq_1, sl0.eq_2, sl0.eq_3, sl1.eq_1, sl1.eq_2, sl2.eq_1, sl2.eq_2, sl3.eq_1, sl3.eq_2, optA.eq_1, bdyA.eq_1, bdyA.eq_2, iPA.eq_1, iPA.eq_2, iPA.eq_3, iPA.eq_5, iPA.eq_6, rg1A.eq_3, rg1A.eq_4, rg2A.eq_3, rg2A.eq_4, rg3A.eq_3, rg3A.eq_4, enA.eq_1, enA.eq_3, enA.eq_4, zpA.eq_1, zpA.eq_3, zpA.eq_4, rvA.eq_1, rvA.eq_3, rvA.eq_4, ch1.eq_1, ch1.eq_2, ch1.eq_3, ch2.eq_1, ch2.eq_2, ch2.eq_3, chA.eq_1, chB.eq_1, chB.eq_2, chB.eq_3, chC.eq_1, chC.eq_2, lc0.eq_2, lc0.eq_3, lcA.eq_1, lcA.eq_2, augA.eq_1, augB.eq_1, augB.eq_3, augB.eq_4, appA.eq_1, appB.eq_1, appB.eq_2, appB.eq_3, putA.eq_1, putA.eq_2, putA.eq_3, putA2.eq_1, putA2.eq_2, putB.eq_1, putC.eq_1, putD.eq_1, pixA.eq_1, pixA2.eq_1, pixB.eq_1, tryA.eq_1, tryB.eq_1, tryB.eq_2, tryB.eq_3, noEr.eq_1, repA.eq_1, repA2.eq_1, repA2.eq_2, repB.eq_1, rdT.eq_1, rdT.eq_2, toV.eq_1, toV.eq_2, toV.eq_3, toV.eq_4, toV.eq_5, toV.eq_6, ofV.eq_1, ofV.eq_2, ofV.eq_4, ofV.eq_5, tOf.eq_1, tOf.eq_2, isL.eq_1, getE.eq_1, getT.eq_1, getT.eq_2, getT.eq_3, setE.eq_1, setT.eq_1, setT.eq_2, setT.eq_3, T.data.eq_1, T.data.eq_2, finW.eq_1, finW.eq_2, finW.eq_3, finW.eq_4, finW.eq_6, fin.eq_1, fin.eq_2, fin.eq_3, tgS.eq_1, wipeE.eq_1, wipeE.eq_2, fAdd.eq_1, fAdd.eq_2, fI2.eq_1, fB2.eq_1, fU.eq_1, fLen.eq_1, fLen.eq_2, fLen.eq_3, fIx.eq_1, fIx.eq_2, fIx.eq_3, fIsN.eq_1, fNotN.eq_1, isNone.eq_1, fInt.eq_1, fInt.eq_2, fInt.eq_3, fLs.eq_1, fLs.eq_2, fTp.eq_1, fTp.eq_2, fSlP.eq_3, wOf_l, wOf_o, tryA_nx, tryA_rt, tryA_bk, tryA_ct, noEr_nx, noEr_rt, noEr_bk, noEr_ct, isNone_i, isNone_b, isNone_s, isNone_l, isNone_t, iL_app, iL_len, iL_rep, iL_rev, allD_iL, dataL_iL, q_int, q_t, q_l, n_t, n_l, n_int, q_self, n_self, s_to, s_from, s_mid, sl_to, sl_from, sl_mid, add_t, add_l, cat_l, isi_t, isi_b, isi_i, isi_l, isi_s, at_0, at_1, at_2, at_3, at_4, at_5, at_6, ai_0, ai_1, ai_2, ai_3, ai_4, ai_5, ai_6, tgN_a, tgT_a, apd_ok, lc_ok, rg1_ok, rg2_ok, iL_snoc, iL_mapd, lc_const, rngD_len, iL_take, iL_drop, Int.toNat_natCast, dataL_nil, dataL_cons, allD.eq_1, allD.eq_2, ixN_ok, rep_l, tgS_nil, rep_none, rep_none0, List.take_left, List.drop_left, any_false, all_true, eq_self, set_iL, at_last, List.drop_succ_cons, List.drop_zero, List.take_succ_cons, List.take_zero, List.getLast?_cons_cons, List.getLast?_singleton, Int.cast_ofNat_Int, rg3_ok, rngC_len, fRv_l]) h2 (by rw [iL_len, OB_len]; unfold SZ; omega)
  simp (disch := (first | with_reducible assumption | omega | (simp only [iL_len, rngD_len, rngC_len, List.length_append, List.length_replicate, List.length_cons, List.length_nil, List.length_map, List.length_take, List.length_drop, List.length_range, SZ] <;> omega) | (simp only [iL_len, rngD_len, rngC_len, List.length_append, List.length_replicate, List.length_cons, List.length_nil, List.length_map, List.length_take, List.length_drop, List.length_range, SZ] at * <;> omega) | fail)) only [↓x_seq, ↓x_nil, ↓x_if, ↓x_set, ↓x_setV, ↓x_asg, ↓x_exp, ↓x_ret, ↓x_retV, ↓x_retN, ↓x_brk, ↓x_cnt, ↓x_for, ↓x_bdy, ↓x_C, ↓x_var, ↓x_dvar, ↓x_v1, ↓x_v2, ↓x_d1L, ↓x_d2L, ↓x_and, ↓x_or, ↓x_not, ↓x_ifx, ↓x_args0, ↓x_args1, ↓x_tup, ↓x_lst, ↓x_call, ↓x_vD, ↓x_dV, ↓x_slP, ↓x_opt0, ↓x_opt1, ↓x_iP, ↓x_rg1, ↓x_rg2, ↓x_rg3, ↓x_en, ↓x_zp, ↓x_rv, ↓x_ch, ↓x_lc, ↓x_aug, ↓x_app, ↓x_put, ↓x_pix, ↓x_try, ↓x_rep, ↓x_raise0, y_sq, y_sif, y_retV, y_setV, y_toV, y_ofV, y_orw, y_and, y_or, y_not, y_v1, y_v2a, y_v2b, y_finW, y_calB, sq_nx, sq_rt, sq_bk, sq_ct, sq_er, sq_no, dataL_d, allD_d, fnD, SZ, List.getElem?_cons_zero, List.getElem?_cons_succ, List.getElem?_nil, List.set_cons_zero, List.set_cons_succ, List.map_cons, List.map_nil, List.length_cons, List.length_nil, List.length_map, List.length_append, List.cons_append, List.nil_append, List.append_nil, Nat.reduceAdd, Nat.reduceSub, Nat.zero_add, Nat.add_zero, Option.map_some, Option.map_none, Option.getD_some, Option.getD_none, Bool.false_eq_true, Bool.true_eq_false, Bool.and_false, Bool.false_and, Bool.and_true, Bool.true_and, Bool.or_false, Bool.false_or, Bool.or_true, Bool.true_or, Bool.not_true, Bool.not_false, if_true, if_false, ite_true, ite_false, decide_eq_true_eq, Bool.and_eq_true, Bool.or_eq_true, Bool.not_eq_true', decide_eq_false_iff_not, decide_true, decide_false, true_and, and_true, reduceCtorEq, Int.reduceNeg, Int.reduceLT, Int.reduceLE, Int.reduceToNat, Nat.reduceLeDiff, Int.reduceAbs, Int.reduceSub, Int.reduceAdd, Int.reduceMul, Int.reduceEq, Nat.reduceMul, Nat.reduceEqDiff, Nat.reduceLT, Nat.reducePow, Int.reducePow, ↓reduceIte, ite_not, sif.eq_1, sif.eq_3, sif.eq_4, andA.eq_1, andA.eq_3, andA.eq_4, orA.eq_1, orA.eq_3, orA.eq_4, notA.eq_1, notA.eq_3, notA.eq_4, ifA.eq_1, ifA.eq_3, ifA.eq_4, orw.eq_1, orw.eq_2, orw.eq_3, v1r.eq_1, v1r.eq_2, v1a.eq_1, v1a.eq_2, v1a.eq_3, v2a.eq_1, v2a.eq_2, v2a.eq_3, v2b.eq_1, v2b.eq_2, v2b.eq_3, dlr.eq_1, dlr.eq_2, d1a.eq_1, d1a.eq_2, d1a.eq_3, d2a.eq_1, d2a.eq_2, d2a.eq_3, d2b.eq_1, d2b.eq_2, d2b.eq_3, ar1.eq_1, ar1.eq_2, ar1.eq_3, ar1.eq_4, ar2.eq_1, ar2.eq_2, ar2.eq_3, tupA.eq_1, tupA.eq_2, tupA.eq_3, lstA.eq_1, lstA.eq_2, lstA.eq_3, calA.eq_1, calA.eq_2, calA.eq_3, calB.eq_1, calB.eq_2, calB.eq_3, wOf.eq_1, varV.eq_1, varR.eq_1, varR.eq_2, varD.eq_1, setA.eq_1, setA.eq_2, setA.eq_4, setA.eq_5, setVA.eq_1, setVA.eq_2, setVA.eq_3, setVA.eq_4, asgA.eq_1, asgA.eq_2, asgA.eq_3, asgA.eq_4, asgB.eq_1, asgB.eq_2, expA.eq_1, expA.eq_2, expA.eq_3, retA.eq_1, retA.eq_2, retA.eq_3, retVA.eq_1, retVA.eq_2, retVA.eq_3, retVA.eq_4, forA.eq_1, forA.eq_2, forA.eq_3, sl0.eq_1, sl0.eq_2, sl0.eq_3, sl1.eq_1, sl1.eq_2, sl2.eq_1, sl2.eq_2, sl3.eq_1, sl3.eq_2, optA.eq_1, bdyA.eq_1, bdyA.eq_2, iPA.eq_1, iPA.eq_2, iPA.eq_3, iPA.eq_5, iPA.eq_6, rg1A.eq_3, rg1A.eq_4, rg2A.eq_3, rg2A.eq_4, rg3A.eq_3, rg3A.eq_4, enA.eq_1, enA.eq_3, enA.eq_4, zpA.eq_1, zpA.eq_3, zpA.eq_4, rvA.eq_1, rvA.eq_3, rvA.eq_4, ch1.eq_1, ch1.eq_2, ch1.eq_3, ch2.eq_1, ch2.eq_2, ch2.eq_3, chA.eq_1, chB.eq_1, chB.eq_2, chB.eq_3, chC.eq_1, chC.eq_2, lc0.eq_2, lc0.eq_3, lcA.eq_1, lcA.eq_2, augA.eq_1, augB.eq_1, augB.eq_3, augB.eq_4, appA.eq_1, appB.eq_1, appB.eq_2, appB.eq_3, putA.eq_1, putA.eq_2, putA.eq_3, putA2.eq_1, putA2.eq_2, putB.eq_1, putC.eq_1, putD.eq_1, pixA.eq_1, pixA2.eq_1, pixB.eq_1, tryA.eq_1, tryB.eq_1, tryB.eq_2, tryB.eq_3, noEr.eq_1, repA.eq_1, repA2.eq_1, repA2.eq_2, repB.eq_1, rdT.eq_1, rdT.eq_2, toV.eq_1, toV.eq_2, toV.eq_3, toV.eq_4, toV.eq_5, toV.eq_6, ofV.eq_1, ofV.eq_2, ofV.eq_4, ofV.eq_5, tOf.eq_1, tOf.eq_2, isL.eq_1, getE.eq_1, getT.eq_1, getT.eq_2, getT.eq_3, setE.eq_1, setT.eq_1, setT.eq_2, setT.eq_3, T.data.eq_1, T.data.eq_2, finW.eq_1, finW.eq_2, finW.eq_3, finW.eq_4, finW.eq_6, fin.eq_1, fin.eq_2, fin.eq_3, tgS.eq_1, wipeE.eq_1, wipeE.eq_2, fAdd.eq_1, fAdd.eq_2, fI2.eq_1, fB2.eq_1, fU.eq_1, fLen.eq_1, fLen.eq_2, fLen.eq_3, fIx.eq_1, fIx.eq_2, fIx.eq_3, fIsN.eq_1, fNotN.eq_1, isNone.eq_1, fInt.eq_1, fInt.eq_2, fInt.eq_3, fLs.eq_1, fLs.eq_2, fTp.eq_1, fTp.eq_2, fSlP.eq_3, wOf_l, wOf_o, tryA_nx, tryA_rt, tryA_bk, tryA_ct, noEr_nx, noEr_rt, noEr_bk, noEr_ct, isNone_i, isNone_b, isNone_s, isNone_l, isNone_t, iL_app, iL_len, iL_rep, iL_rev, allD_iL, dataL_iL, q_int, q_t, q_l, n_t, n_l, n_int, q_self, n_self, s_to, s_from, s_mid, sl_to, sl_from, sl_mid, add_t, add_l, cat_l, isi_t, isi_b, isi_i, isi_l, isi_s, at_0, at_1, at_2, at_3, at_4, at_5, at_6, ai_0, ai_1, ai_2, ai_3, ai_4, ai_5, ai_6, tgN_a, tgT_a, apd_ok, lc_ok, rg1_ok, rg2_ok, iL_snoc, iL_mapd, lc_const, rngD_len, iL_take, iL_drop, Int.toNat_natCast, dataL_nil, dataL_cons, allD.eq_1, allD.eq_2, ixN_ok, rep_l, tgS_nil, rep_none, rep_none0, List.take_left, List.drop_left, any_false, all_true, eq_self, set_iL, at_last, List.drop_succ_cons, List.drop_zero, List.take_succ_cons, List.take_zero, List.getLast?_cons_cons, List.getLast?_singleton, Int.cast_ofNat_Int, rg3_ok, rngC_len, fRv_l, b_octet_bits, h3]

theorem bo_if (bs : List Int) (e8 : (((bs.length : Int) % 8 = 0)) = True) (k : Dn.Env → Out) {r : PyData} (hr : k [some (.d (.list (iL bs))), none] = .rt (.v r) [some (.d (.list (iL bs))), none]) : fnD [false] 2 (sSeq (sIf (v2 fNe (v2 fMod (v1 fLen (vVar 0)) (vC (.int 8))) (vC (.int 0))) (sRaise0 "BadBits") sNil) k) [.d (.list (iL bs))] = .rt (.d r) [.d (.list (iL bs))] := by
  simp (disch := (first | with_reducible assumption | omega | (simp only [iL_len, rngD_len, rngC_len, List.length_append, List.length_replicate, List.length_cons, List.length_nil, List.length_map, List.length_take, List.length_drop, List.length_range, SZ] <;> omega) | (simp only [iL_len, rngD_len, rngC_len, List.length_append, List.length_replicate, List.length_cons, List.length_nil, List.length_map, List.length_take, List.length_drop, List.length_range, SZ] at * <;> omega) | fail)) only [↓x_seq, ↓x_nil, ↓x_if, ↓x_set, ↓x_setV, ↓x_asg, ↓x_exp, ↓x_ret, ↓x_retV, ↓x_retN, ↓x_brk, ↓x_cnt, ↓x_for, ↓x_bdy, ↓x_C, ↓x_var, ↓x_dvar, ↓x_v1, ↓x_v2, ↓x_d1L, ↓x_d2L, ↓x_and, ↓x_or, ↓x_not, ↓x_ifx, ↓x_args0, ↓x_args1, ↓x_tup, ↓x_lst, ↓x_call, ↓x_vD, ↓x_dV, ↓x_slP, ↓x_opt0, ↓x_opt1, ↓x_iP, ↓x_rg1, ↓x_rg2, ↓x_rg3, ↓x_en, ↓x_zp, ↓x_rv, ↓x_ch, ↓x_lc, ↓x_aug, ↓x_app, ↓x_put, ↓x_pix, ↓x_try, ↓x_rep, ↓x_raise0, y_sq, y_sif, y_retV, y_setV, y_toV, y_ofV, y_orw, y_and, y_or, y_not, y_v1, y_v2a, y_v2b, y_finW, y_calB, sq_nx, sq_rt, sq_bk, sq_ct, sq_er, sq_no, dataL_d, allD_d, fnD, SZ, List.getElem?_cons_zero, List.getElem?_cons_succ, List.getElem?_nil, List.set_cons_zero, List.set_cons_succ, List.map_cons, List.map_nil, List.length_cons, List.length_nil, List.length_map, List.length_append, List.cons_append, List.nil_append, List.append_nil, Nat.reduceAdd, Nat.reduceSub, Nat.zero_add, Nat.add_zero, Option.map_some, Option.map_none, Option.getD_some, Option.getD_none, Bool.false_eq_true, Bool.true_eq_false, Bool.and_false, Bool.false_and, Bool.and_true, Bool.true_and, Bool.or_false, Bool.false_or, Bool.or_true, Bool.true_or, Bool.not_true, Bool.not_false, if_true, if_false, ite_true, ite_false, decide_eq_true_eq, Bool.and_eq_true, Bool.or_eq_true, Bool.not_eq_true', decide_eq_false_iff_not, decide_true, decide_false, true_and, and_true, reduceCtorEq, Int.reduceNeg, Int.reduceLT, Int.reduceLE, Int.reduceToNat, Nat.reduceLeDiff, Int.reduceAbs, Int.reduceSub, Int.reduceAdd, Int.reduceMul, Int.reduceEq, Nat.reduceMul, Nat.reduceEqDiff, Nat.reduceLT, Nat.reducePow, Int.reducePow, ↓reduceIte, ite_not, sif.eq_1, sif.eq_3, sif.eq_4, andA.eq_1, andA.eq_3, andA.eq_4, orA.eq_1, orA.eq_3, orA.eq_4, notA.eq_1, notA.eq_3, notA.eq_4, ifA.eq_1, ifA.eq_3, ifA.eq_4, orw.eq_1, orw.eq_2, orw.eq_3, v1r.eq_1, v1r.eq_2, v1a.eq_1, v1a.eq_2, v1a.eq_3, v2a.eq_1, v2a.eq_2, v2a.eq_3, v2b.eq_1, v2b.eq_2, v2b.eq_3, dlr.eq_1, dlr.eq_2, d1a.eq_1, d1a.eq_2, d1a.eq_3, d2a.eq_1, d2a.eq_2, d2a.eq_3, d2b.eq_1, d2b.eq_2, d2b.eq_3, ar1.eq_1, ar1.eq_2, ar1.eq_3, ar1.eq_4, ar2.eq_1, ar2.eq_2, ar2.eq_3, tupA.eq_1, tupA.eq_2, tupA.eq_3, lstA.eq_1, lstA.eq_2, lstA.eq_3, calA.eq_1, calA.eq_2, calA.eq_3, calB.eq_1, calB.eq_2, calB.eq_3, wOf.eq_1, varV.eq_1, varR.eq_1, varR.eq_2, varD.eq_1, setA.eq_1, setA.eq_2, setA.eq_4, setA.eq_5, setVA.eq_1, setVA.eq_2, setVA.eq_3, setVA.eq_4, asgA.eq_1, asgA.eq_2, asgA.eq_3, asgA.eq_4, asgB.eq_1, asgB.eq_2, expA.eq_1, expA.eq_2, expA.eq_3, retA.eq_1, retA.eq_2, retA.eq_3, retVA.eq_1, retVA.eq_2, retVA.eq_3, retVA.eq_4, forA.eq_1, forA.eq_2, forA.eq_3, sl0.eq_1, sl0.eq_2, sl0.eq_3, sl1.eq_1, sl1.eq_2, sl2.eq_1, sl2.eq_2, sl3.eq_1, sl3.eq_2, optA.eq_1, bdyA.eq_1, bdyA.eq_2, iPA.eq_1, iPA.eq_2, iPA.eq_3, iPA.eq_5, iPA.eq_6, rg1A.eq_3, rg1A.eq_4, rg2A.eq_3, rg2A.eq_4, rg3A.eq_3, rg3A.eq_4, enA.eq_1, enA.eq_3, enA.eq_4, zpA.eq_1, zpA.eq_3, zpA.eq_4, rvA.eq_1, rvA.eq_3, rvA.eq_4, ch1.eq_1, ch1.eq_2, ch1.eq_3, ch2.eq_1, ch2.eq_2, ch2.eq_3, chA.eq_1, chB.eq_1, chB.eq_2, chB.eq_3, chC.eq_1, chC.eq_2, lc0.eq_2, lc0.eq_3, lcA.eq_1, lcA.eq_2, augA.eq_1, augB.eq_1, augB.eq_3, augB.eq_4, appA.eq_1, appB.eq_1, appB.eq_2, appB.eq_3, putA.eq_1, putA.eq_2, putA.eq_3, putA2.eq_1, putA2.eq_2, putB.eq_1, putC.eq_1, putD.eq_1, pixA.eq_1, pixA2.eq_1, pixB.eq_1, tryA.eq_1, tryB.eq_1, tryB.eq_2, tryB.eq_3, noEr.eq_1, repA.eq_1, repA2.eq_1, repA2.eq_2, repB.eq_1, rdT.eq_1, rdT.eq_2, toV.eq_1, toV.eq_2, toV.eq_3, toV.eq_4, toV.eq_5, toV.eq_6, ofV.eq_1, ofV.eq_2, ofV.eq_4, ofV.eq_5, tOf.eq_1, tOf.eq_2, isL.eq_1, getE.eq_1, getT.eq_1, getT.eq_2, getT.eq_3, setE.eq_1, setT.eq_1, setT.eq_2, setT.eq_3, T.data.eq_1, T.data.eq_2, finW.eq_1, finW.eq_2, finW.eq_3, finW.eq_4, finW.eq_6, fin.eq_1, fin.eq_2, fin.eq_3, tgS.eq_1, wipeE.eq_1, wipeE.eq_2, fAdd.eq_1, fAdd.eq_2, fI2.eq_1, fB2.eq_1, fU.eq_1, fLen.eq_1, fLen.eq_2, fLen.eq_3, fIx.eq_1, fIx.eq_2, fIx.eq_3, fIsN.eq_1, fNotN.eq_1, isNone.eq_1, fInt.eq_1, fInt.eq_2, fInt.eq_3, fLs.eq_1, fLs.eq_2, fTp.eq_1, fTp.eq_2, fSlP.eq_3, wOf_l, wOf_o, tryA_nx, tryA_rt, tryA_bk, tryA_ct, noEr_nx, noEr_rt, noEr_bk, noEr_ct, isNone_i, isNone_b, isNone_s, isNone_l, isNone_t, iL_app, iL_len, iL_rep, iL_rev, allD_iL, dataL_iL, q_int, q_t, q_l, n_t, n_l, n_int, q_self, n_self, s_to, s_from, s_mid, sl_to, sl_from, sl_mid, add_t, add_l, cat_l, isi_t, isi_b, isi_i, isi_l, isi_s, at_0, at_1, at_2, at_3, at_4, at_5, at_6, ai_0, ai_1, ai_2, ai_3, ai_4, ai_5, ai_6, tgN_a, tgT_a, apd_ok, lc_ok, rg1_ok, rg2_ok, iL_snoc, iL_mapd, lc_const, rngD_len, iL_take, iL_drop, Int.toNat_natCast, dataL_nil, dataL_cons, allD.eq_1, allD.eq_2, ixN_ok, rep_l, tgS_nil, rep_none, rep_none0, List.take_left, List.drop_left, any_false, all_true, eq_self, set_iL, at_last, List.drop_succ_cons, List.drop_zero, List.take_succ_cons, List.take_zero, List.getLast?_cons_cons, List.getLast?_singleton, Int.cast_ofNat_Int, rg3_ok, rngC_len, fRv_l, e8, hr]
theorem bits_octets_ok (bs : List Int) (h8 : bs.length % 8 = 0) (hl : bs.length < 1000000) : f_bits_octets [.d (.list (iL bs))] = .rt (.d (.tuple (iL (CH bs)))) [.d (.list (iL bs))] := by
  unfold f_bits_octets
  have e8 : (((bs.length : Int) % 8 = 0)) = True := by apply eq_true; omega
  have en : (((bs.length : Int) - 0 + 8 - 1) / 8).toNat = bs.length / 8 := by omega
  have hk := lc_ints (v := 1) (el := (vD (dCall f_bits_number [(vD (d1L fRv (vSlP (vVar 0) (some (vVar 1)) (some (v2 fAdd (vVar 1) (vC (.int 8)))))))]))) (e0 := [some (.d (.list (iL bs))), none]) (fun k => LB ((bs.drop k.toNat).take 8)) (l := (List.range (bs.length / 8)).map fun k => (0 : Int) + (k : Nat) * 8) (fun k hk => ⟨[some (.d (.list (iL bs))), some (.d (.int k))], by
    obtain ⟨n, _, rfl⟩ := List.mem_map.mp hk
    have z1 : 0 ≤ 0 + (n : Int) * 8 := by omega
    have z2 : 0 ≤ 0 + (n : Int) * 8 + 8 := by omega
    have z3 : (0 + (n : Int) * 8 + 8).toNat - (0 + (n : Int) * 8).toNat = 8 := by omega
    simp (disch := (first | with_reducible assumption | omega | (simp only [iL_len, rngD_len, rngC_len, List.length_append, List.length_replicate, List.length_cons, List.length_nil, List.length_map, List.length_take, List.length_drop, List.length_range, SZ] <;> omega) | (simp only [iL_len, rngD_len, rngC_len, List.length_append, List.length_replicate, List.length_cons, List.length_nil, List.length_map, List.length_take, List.length_drop, List.length_range, SZ] at * <;> omega) | fail)) only [↓x_seq, ↓x_nil, ↓x_if, ↓x_set, ↓x_setV, ↓x_asg, ↓x_exp, ↓x_ret, ↓x_retV, ↓x_retN, ↓x_brk, ↓x_cnt, ↓x_for, ↓x_bdy, ↓x_C, ↓x_var, ↓x_dvar, ↓x_v1, ↓x_v2, ↓x_d1L, ↓x_d2L, ↓x_and, ↓x_or, ↓x_not, ↓x_ifx, ↓x_args0, ↓x_args1, ↓x_tup, ↓x_lst, ↓x_call, ↓x_vD, ↓x_dV, ↓x_slP, ↓x_opt0, ↓x_opt1, ↓x_iP, ↓x_rg1, ↓x_rg2, ↓x_rg3, ↓x_en, ↓x_zp, ↓x_rv, ↓x_ch, ↓x_lc, ↓x_aug, ↓x_app, ↓x_put, ↓x_pix, ↓x_try, ↓x_rep, ↓x_raise0, y_sq, y_sif, y_retV, y_setV, y_toV, y_ofV, y_orw, y_and, y_or, y_not, y_v1, y_v2a, y_v2b, y_finW, y_calB, sq_nx, sq_rt, sq_bk, sq_ct, sq_er, sq_no, dataL_d, allD_d, fnD, SZ, List.getElem?_cons_zero, List.getElem?_cons_succ, List.getElem?_nil, List.set_cons_zero, List.set_cons_succ, List.map_cons, List.map_nil, List.length_cons, List.length_nil, List.length_map, List.length_append, List.cons_append, List.nil_append, List.append_nil, Nat.reduceAdd, Nat.reduceSub, Nat.zero_add, Nat.add_zero, Option.map_some, Option.map_none, Option.getD_some, Option.getD_none, Bool.false_eq_true, Bool.true_eq_false, Bool.and_false, Bool.false_and, Bool.and_true, Bool.true_and, Bool.or_false, Bool.false_or, Bool.or_true, Bool.true_or, Bool.not_true, Bool.not_false, if_true, if_false, ite_true, ite_false, decide_eq_true_eq, Bool.and_eq_true, Bool.or_eq_true, Bool.not_eq_true', decide_eq_false_iff_not, decide_true, decide_false, true_and, and_true, reduceCtorEq, Int.reduceNeg, Int.reduceLT, Int.reduceLE, Int.reduceToNat, Nat.reduceLeDiff, Int.reduceAbs, Int.reduceSub, Int.reduceAdd, Int.reduceMul, Int.reduceEq, Nat.reduceMul, Nat.reduceEqDiff, Nat.reduceLT, Nat.reducePow, Int.reducePow, ↓reduceIte, ite_not, sif.eq_1, sif.eq_3, sif.eq_4, andA.eq_1, andA.eq_3, andA.eq_4, orA.eq_1, orA.eq_3, orA.eq_4, notA.eq_1, notA.eq_3, notA.eq_4, ifA.eq_1, ifA.eq_3, ifA.eq_4, orw.eq_1, orw.eq_2, orw.eq_3, v1r.eq_1, v1r.eq_2, v1a.eq_1, v1a.eq_2, v1a.eq_3, v2a.eq_1, v2a.eq_2, v2a.eq_3, v2b.eq_1, v2b.eq_2, v2b.eq_3, dlr.eq_1, dlr.eq_2, d1a.eq_1, d1a.eq_2, d1a.eq_3, d2a.eq_1, d2a.eq_2, d2a.eq_3, d2b.eq_1, d2b.eq_2, d2b.eq_3, ar1.eq_1, ar1.eq_2, ar1.eq_3, ar1.eq_4, ar2.eq_1, ar2.eq_2, ar2.eq_3, tupA.eq_1, tupA.eq_2, tupA.eq_3, lstA.eq_1, lstA.eq_2, lstA.eq_3, calA.eq_1, calA.eq_2, calA.eq_3, calB.eq_1, calB.eq_2, calB.eq_3, wOf.eq_1, varV.eq_1, varR.eq_1, varR.eq_2, varD.eq_1, setA.eq_1, setA.eq_2, setA.eq_4, setA.eq_5, setVA.eq_1, setVA.eq_2, setVA.eq_3, setVA.eq_4, asgA.eq_1, asgA.eq_2, asgA.eq_3, asgA.eq_4, asgB.eq_1, asgB.eq_2, expA.eq_1, expA.eq_2, expA.eq_3, retA.eq_1, retA.eq_2, retA.eq_3, retVA.eq_1, retVA.eq_2, retVA.eq_3, retVA.eq_4, forA.eq_1, forA.eq_2, forA.eq_3, sl0.eq_1, sl0.eq_2, sl0.eq_3, sl1.eq_1, sl1.eq_2, sl2.eq_1, sl2.eq_2, sl3.eq_1, sl3.eq_2, optA.eq_1, bdyA.eq_1, bdyA.eq_2, iPA.eq_1, iPA.eq_2, iPA.eq_3, iPA.eq_5, iPA.eq_6, rg1A.eq_3, rg1A.eq_4, rg2A.eq_3, rg2A.eq_4, rg3A.eq_3, rg3A.eq_4, enA.eq_1, enA.eq_3, enA.eq_4, zpA.eq_1, zpA.eq_3, zpA.eq_4, rvA.eq_1, rvA.eq_3, rvA.eq_4, ch1.eq_1, ch1.eq_2, ch1.eq_3, ch2.eq_1, ch2.eq_2, ch2.eq_3, chA.eq_1, chB.eq_1, chB.eq_2, chB.eq_3, chC.eq_1, chC.eq_2, lc0.eq_2, lc0.eq_3, lcA.eq_1, lcA.eq_2, augA.eq_1, augB.eq_1, augB.eq_3, augB.eq_4, appA.eq_1, appB.eq_1, appB.eq_2, appB.eq_3, putA.eq_1, putA.eq_2, putA.eq_3, putA2.eq_1, putA2.eq_2, putB.eq_1, putC.eq_1, putD.eq_1, pixA.eq_1, pixA2.eq_1, pixB.eq_1, tryA.eq_1, tryB.eq_1, tryB.eq_2, tryB.eq_3, noEr.eq_1, repA.eq_1, repA2.eq_1, repA2.eq_2, repB.eq_1, rdT.eq_1, rdT.eq_2, toV.eq_1, toV.eq_2, toV.eq_3, toV.eq_4, toV.eq_5, toV.eq_6, ofV.eq_1, ofV.eq_2, ofV.eq_4, ofV.eq_5, tOf.eq_1, tOf.eq_2, isL.eq_1, getE.eq_1, getT.eq_1, getT.eq_2, getT.eq_3, setE.eq_1, setT.eq_1, setT.eq_2, setT.eq_3, T.data.eq_1, T.data.eq_2, finW.eq_1, finW.eq_2, finW.eq_3, finW.eq_4, finW.eq_6, fin.eq_1, fin.eq_2, fin.eq_3, tgS.eq_1, wipeE.eq_1, wipeE.eq_2, fAdd.eq_1, fAdd.eq_2, fI2.eq_1, fB2.eq_1, fU.eq_1, fLen.eq_1, fLen.eq_2, fLen.eq_3, fIx.eq_1, fIx.eq_2, fIx.eq_3, fIsN.eq_1, fNotN.eq_1, isNone.eq_1, fInt.eq_1, fInt.eq_2, fInt.eq_3, fLs.eq_1, fLs.eq_2, fTp.eq_1, fTp.eq_2, fSlP.eq_3, wOf_l, wOf_o, tryA_nx, tryA_rt, tryA_bk, tryA_ct, noEr_nx, noEr_rt, noEr_bk, noEr_ct, isNone_i, isNone_b, isNone_s, isNone_l, isNone_t, iL_app, iL_len, iL_rep, iL_rev, allD_iL, dataL_iL, q_int, q_t, q_l, n_t, n_l, n_int, q_self, n_self, s_to, s_from, s_mid, sl_to, sl_from, sl_mid, add_t, add_l, cat_l, isi_t, isi_b, isi_i, isi_l, isi_s, at_0, at_1, at_2, at_3, at_4, at_5, at_6, ai_0, ai_1, ai_2, ai_3, ai_4, ai_5, ai_6, tgN_a, tgT_a, apd_ok, lc_ok, rg1_ok, rg2_ok, iL_snoc, iL_mapd, lc_const, rngD_len, iL_take, iL_drop, Int.toNat_natCast, dataL_nil, dataL_cons, allD.eq_1, allD.eq_2, ixN_ok, rep_l, tgS_nil, rep_none, rep_none0, List.take_left, List.drop_left, any_false, all_true, eq_self, set_iL, at_last, List.drop_succ_cons, List.drop_zero, List.take_succ_cons, List.take_zero, List.getLast?_cons_cons, List.getLast?_singleton, Int.cast_ofNat_Int, rg3_ok, rngC_len, fRv_l, z3, number_rev]⟩)
  have e3 : (List.map (fun k : Int => LB (List.take 8 (List.drop k.toNat bs))) (List.map (fun k : Nat => (0 : Int) + (k : Nat) * 8) (List.range (bs.length / 8)))) = CH bs := by
    unfold CH
    rw [List.map_map]
    apply List.map_congr_left
    intro k _
    show LB (List.take 8 (List.drop (0 + (k : Int) * 8).toNat bs)) = _
    rw [show (0 + (k : Int) * 8).toNat = 8 * k by omega]
  have hr : dLc (iRg3 (vC (.int 0)) (v1 fLen (vVar 0)) (vC (.int 8))) [1] (tgN 1) (vC (.bool true)) (vD (dCall f_bits_number [(vD (d1L fRv (vSlP (vVar 0) (some (vVar 1)) (some (v2 fAdd (vVar 1) (vC (.int 8)))))))])) [some (.d (.list (iL bs))), none] = .ok (.t (.l ((iL (CH bs)).map T.d))) [some (.d (.list (iL bs))), none] false := by
    simp (disch := (first | with_reducible assumption | omega | (simp only [iL_len, rngD_len, rngC_len, List.length_append, List.length_replicate, List.length_cons, List.length_nil, List.length_map, List.length_take, List.length_drop, List.length_range, SZ] <;> omega) | (simp only [iL_len, rngD_len, rngC_len, List.length_append, List.length_replicate, List.length_cons, List.length_nil, List.length_map, List.length_take, List.length_drop, List.length_range, SZ] at * <;> omega) | fail)) only [↓x_seq, ↓x_nil, ↓x_if, ↓x_set, ↓x_setV, ↓x_asg, ↓x_exp, ↓x_ret, ↓x_retV, ↓x_retN, ↓x_brk, ↓x_cnt, ↓x_for, ↓x_bdy, ↓x_C, ↓x_var, ↓x_dvar, ↓x_v1, ↓x_v2, ↓x_d1L, ↓x_d2L, ↓x_and, ↓x_or, ↓x_not, ↓x_ifx, ↓x_args0, ↓x_args1, ↓x_tup, ↓x_lst, ↓x_call, ↓x_vD, ↓x_dV, ↓x_slP, ↓x_opt0, ↓x_opt1, ↓x_iP, ↓x_rg1, ↓x_rg2, ↓x_rg3, ↓x_en, ↓x_zp, ↓x_rv, ↓x_ch, ↓x_lc, ↓x_aug, ↓x_app, ↓x_put, ↓x_pix, ↓x_try, ↓x_rep, ↓x_raise0, y_sq, y_sif, y_retV, y_setV, y_toV, y_ofV, y_orw, y_and, y_or, y_not, y_v1, y_v2a, y_v2b, y_finW, y_calB, sq_nx, sq_rt, sq_bk, sq_ct, sq_er, sq_no, dataL_d, allD_d, fnD, SZ, List.getElem?_cons_zero, List.getElem?_cons_succ, List.getElem?_nil, List.set_cons_zero, List.set_cons_succ, List.map_cons, List.map_nil, List.length_cons, List.length_nil, List.length_map, List.length_append, List.cons_append, List.nil_append, List.append_nil, Nat.reduceAdd, Nat.reduceSub, Nat.zero_add, Nat.add_zero, Option.map_some, Option.map_none, Option.getD_some, Option.getD_none, Bool.false_eq_true, Bool.true_eq_false, Bool.and_false, Bool.false_and, Bool.and_true, Bool.true_and, Bool.or_false, Bool.false_or, Bool.or_true, Bool.true_or, Bool.not_true, Bool.not_false, if_true, if_false, ite_true, ite_false, decide_eq_true_eq, Bool.and_eq_true, Bool.or_eq_true, Bool.not_eq_true', decide_eq_false_iff_not, decide_true, decide_false, true_and, and_true, reduceCtorEq, Int.reduceNeg, Int.reduceLT, Int.reduceLE, Int.reduceToNat, Nat.reduceLeDiff, Int.reduceAbs, Int.reduceSub, Int.reduceAdd, Int.reduceMul, Int.reduceEq, Nat.reduceMul, Nat.reduceEqDiff, Nat.reduceLT, Nat.reducePow, Int.reducePow, ↓reduceIte, ite_not, sif.eq_1, sif.eq_3, sif.eq_4, andA.eq_1, andA.eq_3, andA.eq_4, orA.eq_1, orA.eq_3, orA.eq_4, notA.eq_1, notA.eq_3, notA.eq_4, ifA.eq_1, ifA.eq_3, ifA.eq_4, orw.eq_1, orw.eq_2, orw.eq_3, v1r.eq_1, v1r.eq_2, v1a.eq_1, v1a.eq_2, v1a.eq_3, v2a.eq_1, v2a.eq_2, v2a.eq_3, v2b.eq_1, v2b.eq_2, v2b.eq_3, dlr.eq_1, dlr.eq_2, d1a.eq_1, d1a.eq_2, d1a.eq_3, d2a.eq_1, d2a.eq_2, d2a.eq_3, d2b.eq_1, d2b.eq_2, d2b.eq_3, ar1.eq_1, ar1.eq_2, ar1.eq_3, ar1.eq_4, ar2.eq_1, ar2.eq_2, ar2.eq_3, tupA.eq_1, tupA.eq_2, tupA.eq_3, lstA.eq_1, lstA.eq_2, lstA.eq_3, calA.eq_1, calA.eq_2, calA.eq_3, calB.eq_1, calB.eq_2, calB.eq_3, wOf.eq_1, varV.eq_1, varR.eq_1, varR.eq_2, varD.eq_1, setA.eq_1, setA.eq_2, setA.eq_4, setA.eq_5, setVA.eq_1, setVA.eq_2, setVA.eq_3, setVA.eq_4, asgA.eq_1, asgA.eq_2, asgA.eq_3, asgA.eq_4, asgB.eq_1, asgB.eq_2, expA.eq_1, expA.eq_2, expA.eq_3, retA.eq_1, retA.eq_2, retA.eq_3, retVA.eq_1, retVA.eq_2, retVA.eq_3, retVA.eq_4, forA.eq_1, forA.eq_2, forA.eq_3, sl0.eq_1, sl0.eq_2, sl0.eq_3, sl1.eq_1, sl1.eq_2, sl2.eq_1, sl2.eq_2, sl3.eq_1, sl3.eq_2, optA.eq_1, bdyA.eq_1, bdyA.eq_2, iPA.eq_1, iPA.eq_2, iPA.eq_3, iPA.eq_5, iPA.eq_6, rg1A.eq_3, rg1A.eq_4, rg2A.eq_3, rg2A.eq_4, rg3A.eq_3, rg3A.eq_4, enA.eq_1, enA.eq_3, enA.eq_4, zpA.eq_1, zpA.eq_3, zpA.eq_4, rvA.eq_1, rvA.eq_3, rvA.eq_4, ch1.eq_1, ch1.eq_2, ch1.eq_3, ch2.eq_1, ch2.eq_2, ch2.eq_3, chA.eq_1, chB.eq_1, chB.eq_2, chB.eq_3, chC.eq_1, chC.eq_2, lc0.eq_2, lc0.eq_3, lcA.eq_1, lcA.eq_2, augA.eq_1, augB.eq_1, augB.eq_3, augB.eq_4, appA.eq_1, appB.eq_1, appB.eq_2, appB.eq_3, putA.eq_1, putA.eq_2, putA.eq_3, putA2.eq_1, putA2.eq_2, putB.eq_1, putC.eq_1, putD.eq_1, pixA.eq_1, pixA2.eq_1, pixB.eq_1, tryA.eq_1, tryB.eq_1, tryB.eq_2, tryB.eq_3, noEr.eq_1, repA.eq_1, repA2.eq_1, repA2.eq_2, repB.eq_1, rdT.eq_1, rdT.eq_2, toV.eq_1, toV.eq_2, toV.eq_3, toV.eq_4, toV.eq_5, toV.eq_6, ofV.eq_1, ofV.eq_2, ofV.eq_4, ofV.eq_5, tOf.eq_1, tOf.eq_2, isL.eq_1, getE.eq_1, getT.eq_1, getT.eq_2, getT.eq_3, setE.eq_1, setT.eq_1, setT.eq_2, setT.eq_3, T.data.eq_1, T.data.eq_2, finW.eq_1, finW.eq_2, finW.eq_3, finW.eq_4, finW.eq_6, fin.eq_1, fin.eq_2, fin.eq_3, tgS.eq_1, wipeE.eq_1, wipeE.eq_2, fAdd.eq_1, fAdd.eq_2, fI2.eq_1, fB2.eq_1, fU.eq_1, fLen.eq_1, fLen.eq_2, fLen.eq_3, fIx.eq_1, fIx.eq_2, fIx.eq_3, fIsN.eq_1, fNotN.eq_1, isNone.eq_1, fInt.eq_1, fInt.eq_2, fInt.eq_3, fLs.eq_1, fLs.eq_2, fTp.eq_1, fTp.eq_2, fSlP.eq_3, wOf_l, wOf_o, tryA_nx, tryA_rt, tryA_bk, tryA_ct, noEr_nx, noEr_rt, noEr_bk, noEr_ct, isNone_i, isNone_b, isNone_s, isNone_l, isNone_t, iL_app, iL_len, iL_rep, iL_rev, allD_iL, dataL_iL, q_int, q_t, q_l, n_t, n_l, n_int, q_self, n_self, s_to, s_from, s_mid, sl_to, sl_from, sl_mid, add_t, add_l, cat_l, isi_t, isi_b, isi_i, isi_l, isi_s, at_0, at_1, at_2, at_3, at_4, at_5, at_6, ai_0, ai_1, ai_2, ai_3, ai_4, ai_5, ai_6, tgN_a, tgT_a, apd_ok, lc_ok, rg1_ok, rg2_ok, iL_snoc, iL_mapd, lc_const, rngD_len, iL_take, iL_drop, Int.toNat_natCast, dataL_nil, dataL_cons, allD.eq_1, allD.eq_2, ixN_ok, rep_l, tgS_nil, rep_none, rep_none0, List.take_left, List.drop_left, any_false, all_true, eq_self, set_iL, at_last, List.drop_succ_cons, List.drop_zero, List.take_succ_cons, List.take_zero, List.getLast?_cons_cons, List.getLast?_singleton, Int.cast_ofNat_Int, rg3_ok, rngC_len, fRv_l, en, rngC_iL, hk, e3]
  have hq : sRetV (v1 fTp (vD (dLc (iRg3 (vC (.int 0)) (v1 fLen (vVar 0)) (vC (.int 8))) [1] (tgN 1) (vC (.bool true)) (vD (dCall f_bits_number [(vD (d1L fRv (vSlP (vVar 0) (some (vVar 1)) (some (v2 fAdd (vVar 1) (vC (.int 8)))))))]))))) [some (.d (.list (iL bs))), none] = .rt (.v (.tuple (iL (CH bs)))) [some (.d (.list (iL bs))), none] := by
    rw [x_retV, x_v1, x_vD, hr]
    simp (disch := (first | with_reducible assumption | omega | (simp only [iL_len, rngD_len, rngC_len, List.length_append, List.length_replicate, List.length_cons, List.length_nil, List.length_map, List.length_take, List.length_drop, List.length_range, SZ] <;> omega) | (simp only [iL_len, rngD_len, rngC_len, List.length_append, List.length_replicate, List.length_cons, List.length_nil, List.length_map, List.length_take, List.length_drop, List.length_range, SZ] at * <;> omega) | fail)) only [↓x_seq, ↓x_nil, ↓x_if, ↓x_set, ↓x_setV, ↓x_asg, ↓x_exp, ↓x_ret, ↓x_retV, ↓x_retN, ↓x_brk, ↓x_cnt, ↓x_for, ↓x_bdy, ↓x_C, ↓x_var, ↓x_dvar, ↓x_v1, ↓x_v2, ↓x_d1L, ↓x_d2L, ↓x_and, ↓x_or, ↓x_not, ↓x_ifx, ↓x_args0, ↓x_args1, ↓x_tup, ↓x_lst, ↓x_call, ↓x_vD, ↓x_dV, ↓x_slP, ↓x_opt0, ↓x_opt1, ↓x_iP, ↓x_rg1, ↓x_rg2, ↓x_rg3, ↓x_en, ↓x_zp, ↓x_rv, ↓x_ch, ↓x_lc, ↓x_aug, ↓x_app, ↓x_put, ↓x_pix, ↓x_try, ↓x_rep, ↓x_raise0, y_sq, y_sif, y_retV, y_setV, y_toV, y_ofV, y_orw, y_and, y_or, y_not, y_v1, y_v2a, y_v2b, y_finW, y_calB, sq_nx, sq_rt, sq_bk, sq_ct, sq_er, sq_no, dataL_d, allD_d, fnD, SZ, List.getElem?_cons_zero, List.getElem?_cons_succ, List.getElem?_nil, List.set_cons_zero, List.set_cons_succ, List.map_cons, List.map_nil, List.length_cons, List.length_nil, List.length_map, List.length_append, List.cons_append, List.nil_append, List.append_nil, Nat.reduceAdd, Nat.reduceSub, Nat.zero_add, Nat.add_zero, Option.map_some, Option.map_none, Option.getD_some, Option.getD_none, Bool.false_eq_true, Bool.true_eq_false, Bool.and_false, Bool.false_and, Bool.and_true, Bool.true_and, Bool.or_false, Bool.false_or, Bool.or_true, Bool.true_or, Bool.not_true, Bool.not_false, if_true, if_false, ite_true, ite_false, decide_eq_true_eq, Bool.and_eq_true, Bool.or_eq_true, Bool.not_eq_true', decide_eq_false_iff_not, decide_true, decide_false, true_and, and_true, reduceCtorEq, Int.reduceNeg, Int.reduceLT, Int.reduceLE, Int.reduceToNat, Nat.reduceLeDiff, Int.reduceAbs, Int.reduceSub, Int.reduceAdd, Int.reduceMul, Int.reduceEq, Nat.reduceMul, Nat.reduceEqDiff, Nat.reduceLT, Nat.reducePow, Int.reducePow, ↓reduceIte, ite_not, sif.eq_1, sif.eq_3, sif.eq_4, andA.eq_1, andA.eq_3, andA.eq_4, orA.eq_1, orA.eq_3, orA.eq_4, notA.eq_1, notA.eq_3, notA.eq_4, ifA.eq_1, ifA.eq_3, ifA.eq_4, orw.eq_1, orw.eq_2, orw.eq_3, v1r.eq_1, v1r.eq_2, v1a.eq_1, v1a.eq_2, v1a.eq_3, v2a.eq_1, v2a.eq_2, v2a.eq_3, v2b.eq_1, v2b.eq_2, v2b.eq_3, dlr.eq_1, dlr.eq_2, d1a.eq_1, d1a.eq_2, d1a.eq_3, d2a.eq_1, d2a.eq_2, d2a.eq_3, d2b.eq_1, d2b.eq_2, d2b.eq_3, ar1.eq_1, ar1.eq_2, ar1.eq_3, ar1.eq_4, ar2.eq_1, ar2.eq_2, ar2.eq_3, tupA.eq_1, tupA.eq_2, tupA.eq_3, lstA.eq_1, lstA.eq_2, lstA.eq_3, calA.eq_1, calA.eq_2, calA.eq_3, calB.eq_1, calB.eq_2, calB.eq_3, wOf.eq_1, varV.eq_1, varR.eq_1, varR.eq_2, varD.eq_1, setA.eq_1, setA.eq_2, setA.eq_4, setA.eq_5, setVA.eq_1, setVA.eq_2, setVA.eq_3, setVA.eq_4, asgA.eq_1, asgA.eq_2, asgA.eq_3, asgA.eq_4, asgB.eq_1, asgB.eq_2, expA.eq_1, expA.eq_2, expA.eq_3, retA.eq_1, retA.eq_2, retA.eq_3, retVA.eq_1, retVA.eq_2, retVA.eq_3, retVA.eq_4, forA.eq_1, forA.eq_2, forA.eq_3, sl0.eq_1, sl0.eq_2, sl0.eq_3, sl1.eq_1, sl1.eq_2, sl2.eq_1, sl2.eq_2, sl3.eq_1, sl3.eq_2, optA.eq_1, bdyA.eq_1, bdyA.eq_2, iPA.eq_1, iPA.eq_2, iPA.eq_3, iPA.eq_5, iPA.eq_6, rg1A.eq_3, rg1A.eq_4, rg2A.eq_3, rg2A.eq_4, rg3A.eq_3, rg3A.eq_4, enA.eq_1, enA.eq_3, enA.eq_4, zpA.eq_1, zpA.eq_3, zpA.eq_4, rvA.eq_1, rvA.eq_3, rvA.eq_4, ch1.eq_1, ch1.eq_2, ch1.eq_3, ch2.eq_1, ch2.eq_2, ch2.eq_3, chA.eq_1, chB.eq_1, chB.eq_2, chB.eq_3, chC.eq_1, chC.eq_2, lc0.eq_2, lc0.eq_3, lcA.eq_1, lcA.eq_2, augA.eq_1, augB.eq_1, augB.eq_3, augB.eq_4, appA.eq_1, appB.eq_1, appB.eq_2, appB.eq_3, putA.eq_1, putA.eq_2, putA.eq_3, putA2.eq_1, putA2.eq_2, putB.eq_1, putC.eq_1, putD.eq_1, pixA.eq_1, pixA2.eq_1, pixB.eq_1, tryA.eq_1, tryB.eq_1, tryB.eq_2, tryB.eq_3, noEr.eq_1, repA.eq_1, repA2.eq_1, repA2.eq_2, repB.eq_1, rdT.eq_1, rdT.eq_2, toV.eq_1, toV.eq_2, toV.eq_3, toV.eq_4, toV.eq_5, toV.eq_6, ofV.eq_1, ofV.eq_2, ofV.eq_4, ofV.eq_5, tOf.eq_1, tOf.eq_2, isL.eq_1, getE.eq_1, getT.eq_1, getT.eq_2, getT.eq_3, setE.eq_1, setT.eq_1, setT.eq_2, setT.eq_3, T.data.eq_1, T.data.eq_2, finW.eq_1, finW.eq_2, finW.eq_3, finW.eq_4, finW.eq_6, fin.eq_1, fin.eq_2, fin.eq_3, tgS.eq_1, wipeE.eq_1, wipeE.eq_2, fAdd.eq_1, fAdd.eq_2, fI2.eq_1, fB2.eq_1, fU.eq_1, fLen.eq_1, fLen.eq_2, fLen.eq_3, fIx.eq_1, fIx.eq_2, fIx.eq_3, fIsN.eq_1, fNotN.eq_1, isNone.eq_1, fInt.eq_1, fInt.eq_2, fInt.eq_3, fLs.eq_1, fLs.eq_2, fTp.eq_1, fTp.eq_2, fSlP.eq_3, wOf_l, wOf_o, tryA_nx, tryA_rt, tryA_bk, tryA_ct, noEr_nx, noEr_rt, noEr_bk, noEr_ct, isNone_i, isNone_b, isNone_s, isNone_l, isNone_t, iL_app, iL_len, iL_rep, iL_rev, allD_iL, dataL_iL, q_int, q_t, q_l, n_t, n_l, n_int, q_self, n_self, s_to, s_from, s_mid, sl_to, sl_from, sl_mid, add_t, add_l, cat_l, isi_t, isi_b, isi_i, isi_l, isi_s, at_0, at_1, at_2, at_3, at_4, at_5, at_6, ai_0, ai_1, ai_2, ai_3, ai_4, ai_5, ai_6, tgN_a, tgT_a, apd_ok, lc_ok, rg1_ok, rg2_ok, iL_snoc, iL_mapd, lc_const, rngD_len, iL_take, iL_drop, Int.toNat_natCast, dataL_nil, dataL_cons, allD.eq_1, allD.eq_2, ixN_ok, rep_l, tgS_nil, rep_none, rep_none0, List.take_left, List.drop_left, any_false, all_true, eq_self, set_iL, at_last, List.drop_succ_cons, List.drop_zero, List.take_succ_cons, List.take_zero, List.getLast?_cons_cons, List.getLast?_singleton, Int.cast_ofNat_Int, rg3_ok, rngC_len, fRv_l]
  exact bo_if bs e8 _ hq

theorem rep1_ok {e1 e2 : Dn.Env} {w1 b : Bool} {x k : Int} (h : -9223372036854775808 ≤ k) (h2 : k < 9223372036854775808) (h3 : k.toNat ≤ 1000000) : repB e1 w1 [.int x] (.ok (.int k) b e2 false) = .ok (.t (.l ((iL (List.replicate k.toNat x)).map T.d))) e2 w1 := by
  rw [repB.eq_1, if_neg (by simp), if_pos (by refine ⟨h, h2, ?_⟩; unfold SZ; simp; omega)]
  have : (List.replicate k.toNat [PyData.int x]).flatten = iL (List.replicate k.toNat x) := by
    unfold iL
    rw [List.map_replicate]
    generalize k.toNat = n
    induction n with
    | zero => rfl
    | succ n ih => rw [List.replicate_succ, List.flatten_cons, ih]; rfl
  rw [this]

def PB (row : List Int) (s : Nat) : List Int := List.replicate s 0 ++ (row.map (bitsOf 7)).flatten
def PP (row : List Int) (s : Nat) : List Int := PB row s ++ List.replicate (((-((PB row s).length : Int)) % 8).toNat) 0
theorem fl7_len (row : List Int) : (row.map (bitsOf 7)).flatten.length = 7 * row.length := fl_len (bitsOf_len 7) row
theorem PB_len (row : List Int) (s : Nat) : (PB row s).length = s + 7 * row.length := by
  unfold PB
  rw [List.length_append, List.length_replicate, fl7_len]
theorem PP_len (row : List Int) (s : Nat) : (PP row s).length = 8 * ((s + 7 * row.length + 7) / 8) := by
  unfold PP
  rw [List.length_append, List.length_replicate, PB_len]
  omega
theorem pack_ok (row : List Int) (s : Nat) (hl : row.length < 10000) (hs : s < 100) : f_pack [.d (.list (iL row)), .d (.int s)] = .rt (.d (.tuple (iL (CH (PP row s))))) [.d (.list (iL row)), .d (.int s)] := by
  have hp := PP_len row s
  have hb := bits_octets_ok (PP row s) (by omega) (by omega)
  have h2 : ∀ a, lcG2 (tgN 3) (iRg1 (vC (.int 7))) [4] (tgN 4) (v2 fAnd (v2 fShr (vVar 3) (vVar 4)) (vC (.int 1))) [some (.d (.list (iL row))), some (.d (.int s)), a, none, none] (iL row) = some (iL (row.map (bitsOf 7)).flatten) := fun a => by
    refine lcG2_ints (bitsOf 7) (fun x _ => ⟨rngD 0 7, [some (.d (.list (iL row))), some (.d (.int s)), a, some (.d (.int x)), none], ?_, ?_⟩)
    · simp (disch := (first | with_reducible assumption | omega | (simp only [iL_len, rngD_len, rngC_len, List.length_append, List.length_replicate, List.length_cons, List.length_nil, List.length_map, List.length_take, List.length_drop, List.length_range, SZ] <;> omega) | (simp only [iL_len, rngD_len, rngC_len, List.length_append, List.length_replicate, List.length_cons, List.length_nil, List.length_map, List.length_take, List.length_drop, List.length_range, SZ] at * <;> omega) | fail)) only [↓x_seq, ↓x_nil, ↓x_if, ↓x_set, ↓x_setV, ↓x_asg, ↓x_exp, ↓x_ret, ↓x_retV, ↓x_retN, ↓x_brk, ↓x_cnt, ↓x_for, ↓x_bdy, ↓x_C, ↓x_var, ↓x_dvar, ↓x_v1, ↓x_v2, ↓x_d1L, ↓x_d2L, ↓x_and, ↓x_or, ↓x_not, ↓x_ifx, ↓x_args0, ↓x_args1, ↓x_tup, ↓x_lst, ↓x_call, ↓x_vD, ↓x_dV, ↓x_slP, ↓x_opt0, ↓x_opt1, ↓x_iP, ↓x_rg1, ↓x_rg2, ↓x_rg3, ↓x_en, ↓x_zp, ↓x_rv, ↓x_ch, ↓x_lc, ↓x_aug, ↓x_app, ↓x_put, ↓x_pix, ↓x_try, ↓x_rep, ↓x_raise0, y_sq, y_sif, y_retV, y_setV, y_toV, y_ofV, y_orw, y_and, y_or, y_not, y_v1, y_v2a, y_v2b, y_finW, y_calB, sq_nx, sq_rt, sq_bk, sq_ct, sq_er, sq_no, dataL_d, allD_d, fnD, SZ, List.getElem?_cons_zero, List.getElem?_cons_succ, List.getElem?_nil, List.set_cons_zero, List.set_cons_succ, List.map_cons, List.map_nil, List.length_cons, List.length_nil, List.length_map, List.length_append, List.cons_append, List.nil_append, List.append_nil, Nat.reduceAdd, Nat.reduceSub, Nat.zero_add, Nat.add_zero, Option.map_some, Option.map_none, Option.getD_some, Option.getD_none, Bool.false_eq_true, Bool.true_eq_false, Bool.and_false, Bool.false_and, Bool.and_true, Bool.true_and, Bool.or_false, Bool.false_or, Bool.or_true, Bool.true_or, Bool.not_true, Bool.not_false, if_true, if_false, ite_true, ite_false, decide_eq_true_eq, Bool.and_eq_true, Bool.or_eq_true, Bool.not_eq_true', decide_eq_false_iff_not, decide_true, decide_false, true_and, and_true, reduceCtorEq, Int.reduceNeg, Int.reduceLT, Int.reduceLE, Int.reduceToNat, Nat.reduceLeDiff, Int.reduceAbs, Int.reduceSub, Int.reduceAdd, Int.reduceMul, Int.reduceEq, Nat.reduceMul, Nat.reduceEqDiff, Nat.reduceLT, Nat.reducePow, Int.reducePow, ↓reduceIte, ite_not, sif.eq_1, sif.eq_3, sif.eq_4, andA.eq_1, andA.eq_3, andA.eq_4, orA.eq_1, orA.eq_3, orA.eq_4, notA.eq_1, notA.eq_3, notA.eq_4, ifA.eq_1, ifA.eq_3, ifA.eq_4, orw.eq_1, orw.eq_2, orw.eq_3, v1r.eq_1, v1r.eq_2, v1a.eq_1, v1a.eq_2, v1a.eq_3, v2a.eq_1, v2a.eq_2, v2a.eq_3, v2b.eq_1, v2b.eq_2, v2b.eq_3, dlr.eq_1, dlr.eq_2, d1a.eq_1, d1a.eq_2, d1a.eq_3, d2a.eq_1, d2a.eq_2, d2a.eq_3, d2b.eq_1, d2b.eq_2, d2b.eq_3, ar1.eq_1, ar1.eq_2, ar1.eq_3, ar1.eq_4, ar2.eq_1, ar2.eq_2, ar2.eq_3, tupA.eq_1, tupA.eq_2, tupA.eq_3, lstA.eq_1, lstA.eq_2, lstA.eq_3, calA.eq_1, calA.eq_2, calA.eq_3, calB.eq_1, calB.eq_2, calB.eq_3, wOf.eq_1, varV.eq_1, varR.eq_1, varR.eq_2, varD.eq_1, setA.eq_1, setA.eq_2, setA.eq_4, setA.eq_5, setVA.eq_1, setVA.eq_2, setVA.eq_3, setVA.eq_4, asgA.eq_1, asgA.eq_2, asgA.eq_3, asgA.eq_4, asgB.eq_1, asgB.eq_2, expA.eq_1, expA.eq_2, expA.eq_3, retA.eq_1, retA.eq_2, retA.eq_3, retVA.eq_1, retVA.eq_2, retVA.eq_3, retVA.eq_4, forA.eq_1, forA.eq_2, forA.eq_3, sl0.eq_1, sl0.eq_2, sl0.eq_3, sl1.eq_1, sl1.eq_2, sl2.eq_1, sl2.eq_2, sl3.eq_1, sl3.eq_2, optA.eq_1, bdyA.eq_1, bdyA.eq_2, iPA.eq_1, iPA.eq_2, iPA.eq_3, iPA.eq_5, iPA.eq_6, rg1A.eq_3, rg1A.eq_4, rg2A.eq_3, rg2A.eq_4, rg3A.eq_3, rg3A.eq_4, enA.eq_1, enA.eq_3, enA.eq_4, zpA.eq_1, zpA.eq_3, zpA.eq_4, rvA.eq_1, rvA.eq_3, rvA.eq_4, ch1.eq_1, ch1.eq_2, ch1.eq_3, ch2.eq_1, ch2.eq_2, ch2.eq_3, chA.eq_1, chB.eq_1, chB.eq_2, chB.eq_3, chC.eq_1, chC.eq_2, lc0.eq_2, lc0.eq_3, lcA.eq_1, lcA.eq_2, augA.eq_1, augB.eq_1, augB.eq_3, augB.eq_4, appA.eq_1, appB.eq_1, appB.eq_2, appB.eq_3, putA.eq_1, putA.eq_2, putA.eq_3, putA2.eq_1, putA2.eq_2, putB.eq_1, putC.eq_1, putD.eq_1, pixA.eq_1, pixA2.eq_1, pixB.eq_1, tryA.eq_1, tryB.eq_1, tryB.eq_2, tryB.eq_3, noEr.eq_1, repA.eq_1, repA2.eq_1, repA2.eq_2, repB.eq_1, rdT.eq_1, rdT.eq_2, toV.eq_1, toV.eq_2, toV.eq_3, toV.eq_4, toV.eq_5, toV.eq_6, ofV.eq_1, ofV.eq_2, ofV.eq_4, ofV.eq_5, tOf.eq_1, tOf.eq_2, isL.eq_1, getE.eq_1, getT.eq_1, getT.eq_2, getT.eq_3, setE.eq_1, setT.eq_1, setT.eq_2, setT.eq_3, T.data.eq_1, T.data.eq_2, finW.eq_1, finW.eq_2, finW.eq_3, finW.eq_4, finW.eq_6, fin.eq_1, fin.eq_2, fin.eq_3, tgS.eq_1, wipeE.eq_1, wipeE.eq_2, fAdd.eq_1, fAdd.eq_2, fI2.eq_1, fB2.eq_1, fU.eq_1, fLen.eq_1, fLen.eq_2, fLen.eq_3, fIx.eq_1, fIx.eq_2, fIx.eq_3, fIsN.eq_1, fNotN.eq_1, isNone.eq_1, fInt.eq_1, fInt.eq_2, fInt.eq_3, fLs.eq_1, fLs.eq_2, fTp.eq_1, fTp.eq_2, fSlP.eq_3, wOf_l, wOf_o, tryA_nx, tryA_rt, tryA_bk, tryA_ct, noEr_nx, noEr_rt, noEr_bk, noEr_ct, isNone_i, isNone_b, isNone_s, isNone_l, isNone_t, iL_app, iL_len, iL_rep, iL_rev, allD_iL, dataL_iL, q_int, q_t, q_l, n_t, n_l, n_int, q_self, n_self, s_to, s_from, s_mid, sl_to, sl_from, sl_mid, add_t, add_l, cat_l, isi_t, isi_b, isi_i, isi_l, isi_s, at_0, at_1, at_2, at_3, at_4, at_5, at_6, ai_0, ai_1, ai_2, ai_3, ai_4, ai_5, ai_6, tgN_a, tgT_a, apd_ok, lc_ok, rg1_ok, rg2_ok, iL_snoc, iL_mapd, lc_const, rngD_len, iL_take, iL_drop, Int.toNat_natCast, dataL_nil, dataL_cons, allD.eq_1, allD.eq_2, ixN_ok, rep_l, tgS_nil, rep_none, rep_none0, List.take_left, List.drop_left, any_false, all_true, eq_self, set_iL, at_last, List.drop_succ_cons, List.drop_zero, List.take_succ_cons, List.take_zero, List.getLast?_cons_cons, List.getLast?_singleton, Int.cast_ofNat_Int, rg3_ok, rngC_len, fRv_l]
    · rw [rngD_iL]
      have := lc_ints (v := 4) (el := (v2 fAnd (v2 fShr (vVar 3) (vVar 4)) (vC (.int 1)))) (e0 := [some (.d (.list (iL row))), some (.d (.int s)), a, some (.d (.int x)), none]) (fun k => bit x k.toNat) (l := (List.range 7).map fun k => (0 : Int) + (k : Nat)) (fun k hk => ⟨[some (.d (.list (iL row))), some (.d (.int s)), a, some (.d (.int x)), some (.d (.int k))], by
        obtain ⟨n, _, rfl⟩ := List.mem_map.mp hk
        have z : decide ((0 : Int) ≤ 0 + (n : Nat)) = true := by simp
        simp (disch := (first | with_reducible assumption | omega | (simp only [iL_len, rngD_len, rngC_len, List.length_append, List.length_replicate, List.length_cons, List.length_nil, List.length_map, List.length_take, List.length_drop, List.length_range, SZ] <;> omega) | (simp only [iL_len, rngD_len, rngC_len, List.length_append, List.length_replicate, List.length_cons, List.length_nil, List.length_map, List.length_take, List.length_drop, List.length_range, SZ] at * <;> omega) | fail)) only [↓x_seq, ↓x_nil, ↓x_if, ↓x_set, ↓x_setV, ↓x_asg, ↓x_exp, ↓x_ret, ↓x_retV, ↓x_retN, ↓x_brk, ↓x_cnt, ↓x_for, ↓x_bdy, ↓x_C, ↓x_var, ↓x_dvar, ↓x_v1, ↓x_v2, ↓x_d1L, ↓x_d2L, ↓x_and, ↓x_or, ↓x_not, ↓x_ifx, ↓x_args0, ↓x_args1, ↓x_tup, ↓x_lst, ↓x_call, ↓x_vD, ↓x_dV, ↓x_slP, ↓x_opt0, ↓x_opt1, ↓x_iP, ↓x_rg1, ↓x_rg2, ↓x_rg3, ↓x_en, ↓x_zp, ↓x_rv, ↓x_ch, ↓x_lc, ↓x_aug, ↓x_app, ↓x_put, ↓x_pix, ↓x_try, ↓x_rep, ↓x_raise0, y_sq, y_sif, y_retV, y_setV, y_toV, y_ofV, y_orw, y_and, y_or, y_not, y_v1, y_v2a, y_v2b, y_finW, y_calB, sq_nx, sq_rt, sq_bk, sq_ct, sq_er, sq_no, dataL_d, allD_d, fnD, SZ, List.getElem?_cons_zero, List.getElem?_cons_succ, List.getElem?_nil, List.set_cons_zero, List.set_cons_succ, List.map_cons, List.map_nil, List.length_cons, List.length_nil, List.length_map, List.length_append, List.cons_append, List.nil_append, List.append_nil, Nat.reduceAdd, Nat.reduceSub, Nat.zero_add, Nat.add_zero, Option.map_some, Option.map_none, Option.getD_some, Option.getD_none, Bool.false_eq_true, Bool.true_eq_false, Bool.and_false, Bool.false_and, Bool.and_true, Bool.true_and, Bool.or_false, Bool.false_or, Bool.or_true, Bool.true_or, Bool.not_true, Bool.not_false, if_true, if_false, ite_true, ite_false, decide_eq_true_eq, Bool.and_eq_true, Bool.or_eq_true, Bool.not_eq_true', decide_eq_false_iff_not, decide_true, decide_false, true_and, and_true, reduceCtorEq, Int.reduceNeg, Int.reduceLT, Int.reduceLE, Int.reduceToNat, Nat.reduceLeDiff, Int.reduceAbs, Int.reduceSub, Int.reduceAdd, Int.reduceMul, Int.reduceEq, Nat.reduceMul, Nat.reduceEqDiff, Nat.reduceLT, Nat.reducePow, Int.reducePow, ↓reduceIte, ite_not, sif.eq_1, sif.eq_3, sif.eq_4, andA.eq_1, andA.eq_3, andA.eq_4, orA.eq_1, orA.eq_3, orA.eq_4, notA.eq_1, notA.eq_3, notA.eq_4, ifA.eq_1, ifA.eq_3, ifA.eq_4, orw.eq_1, orw.eq_2, orw.eq_3, v1r.eq_1, v1r.eq_2, v1a.eq_1, v1a.eq_2, v1a.eq_3, v2a.eq_1, v2a.eq_2, v2a.eq_3, v2b.eq_1, v2b.eq_2, v2b.eq_3, dlr.eq_1, dlr.eq_2, d1a.eq_1, d1a.eq_2, d1a.eq_3, d2a.eq_1, d2a.eq_2, d2a.eq_3, d2b.eq_1, d2b.eq_2, d2b.eq_3, ar1.eq_1, ar1.eq_2, ar1.eq_3, ar1.eq_4, ar2.eq_1, ar2.eq_2, ar2.eq_3, tupA.eq_1, tupA.eq_2, tupA.eq_3, lstA.eq_1, lstA.eq_2, lstA.eq_3, calA.eq_1, calA.eq_2, calA.eq_3, calB.eq_1, calB.eq_2, calB.eq_3, wOf.eq_1, varV.eq_1, varR.eq_1, varR.eq_2, varD.eq_1, setA.eq_1, setA.eq_2, setA.eq_4, setA.eq_5, setVA.eq_1, setVA.eq_2, setVA.eq_3, setVA.eq_4, asgA.eq_1, asgA.eq_2, asgA.eq_3, asgA.eq_4, asgB.eq_1, asgB.eq_2, expA.eq_1, expA.eq_2, expA.eq_3, retA.eq_1, retA.eq_2, retA.eq_3, retVA.eq_1, retVA.eq_2, retVA.eq_3, retVA.eq_4, forA.eq_1, forA.eq_2, forA.eq_3, sl0.eq_1, sl0.eq_2, sl0.eq_3, sl1.eq_1, sl1.eq_2, sl2.eq_1, sl2.eq_2, sl3.eq_1, sl3.eq_2, optA.eq_1, bdyA.eq_1, bdyA.eq_2, iPA.eq_1, iPA.eq_2, iPA.eq_3, iPA.eq_5, iPA.eq_6, rg1A.eq_3, rg1A.eq_4, rg2A.eq_3, rg2A.eq_4, rg3A.eq_3, rg3A.eq_4, enA.eq_1, enA.eq_3, enA.eq_4, zpA.eq_1, zpA.eq_3, zpA.eq_4, rvA.eq_1, rvA.eq_3, rvA.eq_4, ch1.eq_1, ch1.eq_2, ch1.eq_3, ch2.eq_1, ch2.eq_2, ch2.eq_3, chA.eq_1, chB.eq_1, chB.eq_2, chB.eq_3, chC.eq_1, chC.eq_2, lc0.eq_2, lc0.eq_3, lcA.eq_1, lcA.eq_2, augA.eq_1, augB.eq_1, augB.eq_3, augB.eq_4, appA.eq_1, appB.eq_1, appB.eq_2, appB.eq_3, putA.eq_1, putA.eq_2, putA.eq_3, putA2.eq_1, putA2.eq_2, putB.eq_1, putC.eq_1, putD.eq_1, pixA.eq_1, pixA2.eq_1, pixB.eq_1, tryA.eq_1, tryB.eq_1, tryB.eq_2, tryB.eq_3, noEr.eq_1, repA.eq_1, repA2.eq_1, repA2.eq_2, repB.eq_1, rdT.eq_1, rdT.eq_2, toV.eq_1, toV.eq_2, toV.eq_3, toV.eq_4, toV.eq_5, toV.eq_6, ofV.eq_1, ofV.eq_2, ofV.eq_4, ofV.eq_5, tOf.eq_1, tOf.eq_2, isL.eq_1, getE.eq_1, getT.eq_1, getT.eq_2, getT.eq_3, setE.eq_1, setT.eq_1, setT.eq_2, setT.eq_3, T.data.eq_1, T.data.eq_2, finW.eq_1, finW.eq_2, finW.eq_3, finW.eq_4, finW.eq_6, fin.eq_1, fin.eq_2, fin.eq_3, tgS.eq_1, wipeE.eq_1, wipeE.eq_2, fAdd.eq_1, fAdd.eq_2, fI2.eq_1, fB2.eq_1, fU.eq_1, fLen.eq_1, fLen.eq_2, fLen.eq_3, fIx.eq_1, fIx.eq_2, fIx.eq_3, fIsN.eq_1, fNotN.eq_1, isNone.eq_1, fInt.eq_1, fInt.eq_2, fInt.eq_3, fLs.eq_1, fLs.eq_2, fTp.eq_1, fTp.eq_2, fSlP.eq_3, wOf_l, wOf_o, tryA_nx, tryA_rt, tryA_bk, tryA_ct, noEr_nx, noEr_rt, noEr_bk, noEr_ct, isNone_i, isNone_b, isNone_s, isNone_l, isNone_t, iL_app, iL_len, iL_rep, iL_rev, allD_iL, dataL_iL, q_int, q_t, q_l, n_t, n_l, n_int, q_self, n_self, s_to, s_from, s_mid, sl_to, sl_from, sl_mid, add_t, add_l, cat_l, isi_t, isi_b, isi_i, isi_l, isi_s, at_0, at_1, at_2, at_3, at_4, at_5, at_6, ai_0, ai_1, ai_2, ai_3, ai_4, ai_5, ai_6, tgN_a, tgT_a, apd_ok, lc_ok, rg1_ok, rg2_ok, iL_snoc, iL_mapd, lc_const, rngD_len, iL_take, iL_drop, Int.toNat_natCast, dataL_nil, dataL_cons, allD.eq_1, allD.eq_2, ixN_ok, rep_l, tgS_nil, rep_none, rep_none0, List.take_left, List.drop_left, any_false, all_true, eq_self, set_iL, at_last, List.drop_succ_cons, List.drop_zero, List.take_succ_cons, List.take_zero, List.getLast?_cons_cons, List.getLast?_singleton, Int.cast_ofNat_Int, rg3_ok, rngC_len, fRv_l, z, bitAnd_m1, bit]⟩)
      simp (disch := (first | with_reducible assumption | omega | (simp only [iL_len, rngD_len, rngC_len, List.length_append, List.length_replicate, List.length_cons, List.length_nil, List.length_map, List.length_take, List.length_drop, List.length_range, SZ] <;> omega) | (simp only [iL_len, rngD_len, rngC_len, List.length_append, List.length_replicate, List.length_cons, List.length_nil, List.length_map, List.length_take, List.length_drop, List.length_range, SZ] at * <;> omega) | fail)) only [↓x_seq, ↓x_nil, ↓x_if, ↓x_set, ↓x_setV, ↓x_asg, ↓x_exp, ↓x_ret, ↓x_retV, ↓x_retN, ↓x_brk, ↓x_cnt, ↓x_for, ↓x_bdy, ↓x_C, ↓x_var, ↓x_dvar, ↓x_v1, ↓x_v2, ↓x_d1L, ↓x_d2L, ↓x_and, ↓x_or, ↓x_not, ↓x_ifx, ↓x_args0, ↓x_args1, ↓x_tup, ↓x_lst, ↓x_call, ↓x_vD, ↓x_dV, ↓x_slP, ↓x_opt0, ↓x_opt1, ↓x_iP, ↓x_rg1, ↓x_rg2, ↓x_rg3, ↓x_en, ↓x_zp, ↓x_rv, ↓x_ch, ↓x_lc, ↓x_aug, ↓x_app, ↓x_put, ↓x_pix, ↓x_try, ↓x_rep, ↓x_raise0, y_sq, y_sif, y_retV, y_setV, y_toV, y_ofV, y_orw, y_and, y_or, y_not, y_v1, y_v2a, y_v2b, y_finW, y_calB, sq_nx, sq_rt, sq_bk, sq_ct, sq_er, sq_no, dataL_d, allD_d, fnD, SZ, List.getElem?_cons_zero, List.getElem?_cons_succ, List.getElem?_nil, List.set_cons_zero, List.set_cons_succ, List.map_cons, List.map_nil, List.length_cons, List.length_nil, List.length_map, List.length_append, List.cons_append, List.nil_append, List.append_nil, Nat.reduceAdd, Nat.reduceSub, Nat.zero_add, Nat.add_zero, Option.map_some, Option.map_none, Option.getD_some, Option.getD_none, Bool.false_eq_true, Bool.true_eq_false, Bool.and_false, Bool.false_and, Bool.and_true, Bool.true_and, Bool.or_false, Bool.false_or, Bool.or_true, Bool.true_or, Bool.not_true, Bool.not_false, if_true, if_false, ite_true, ite_false, decide_eq_true_eq, Bool.and_eq_true, Bool.or_eq_true, Bool.not_eq_true', decide_eq_false_iff_not, decide_true, decide_false, true_and, and_true, reduceCtorEq, Int.reduceNeg, Int.reduceLT, Int.reduceLE, Int.reduceToNat, Nat.reduceLeDiff, Int.reduceAbs, Int.reduceSub, Int.reduceAdd, Int.reduceMul, Int.reduceEq, Nat.reduceMul, Nat.reduceEqDiff, Nat.reduceLT, Nat.reducePow, Int.reducePow, ↓reduceIte, ite_not, sif.eq_1, sif.eq_3, sif.eq_4, andA.eq_1, andA.eq_3, andA.eq_4, orA.eq_1, orA.eq_3, orA.eq_4, notA.eq_1, notA.eq_3, notA.eq_4, ifA.eq_1, ifA.eq_3, ifA.eq_4, orw.eq_1, orw.eq_2, orw.eq_3, v1r.eq_1, v1r.eq_2, v1a.eq_1, v1a.eq_2, v1a.eq_3, v2a.eq_1, v2a.eq_2, v2a.eq_3, v2b.eq_1, v2b.eq_2, v2b.eq_3, dlr.eq_1, dlr.eq_2, d1a.eq_1, d1a.eq_2, d1a.eq_3, d2a.eq_1, d2a.eq_2, d2a.eq_3, d2b.eq_1, d2b.eq_2, d2b.eq_3, ar1.eq_1, ar1.eq_2, ar1.eq_3, ar1.eq_4, ar2.eq_1, ar2.eq_2, ar2.eq_3, tupA.eq_1, tupA.eq_2, tupA.eq_3, lstA.eq_1, lstA.eq_2, lstA.eq_3, calA.eq_1, calA.eq_2, calA.eq_3, calB.eq_1, calB.eq_2, calB.eq_3, wOf.eq_1, varV.eq_1, varR.eq_1, varR.eq_2, varD.eq_1, setA.eq_1, setA.eq_2, setA.eq_4, setA.eq_5, setVA.eq_1, setVA.eq_2, setVA.eq_3, setVA.eq_4, asgA.eq_1, asgA.eq_2, asgA.eq_3, asgA.eq_4, asgB.eq_1, asgB.eq_2, expA.eq_1, expA.eq_2, expA.eq_3, retA.eq_1, retA.eq_2, retA.eq_3, retVA.eq_1, retVA.eq_2, retVA.eq_3, retVA.eq_4, forA.eq_1, forA.eq_2, forA.eq_3, sl0.eq_1, sl0.eq_2, sl0.eq_3, sl1.eq_1, sl1.eq_2, sl2.eq_1, sl2.eq_2, sl3.eq_1, sl3.eq_2, optA.eq_1, bdyA.eq_1, bdyA.eq_2, iPA.eq_1, iPA.eq_2, iPA.eq_3, iPA.eq_5, iPA.eq_6, rg1A.eq_3, rg1A.eq_4, rg2A.eq_3, rg2A.eq_4, rg3A.eq_3, rg3A.eq_4, enA.eq_1, enA.eq_3, enA.eq_4, zpA.eq_1, zpA.eq_3, zpA.eq_4, rvA.eq_1, rvA.eq_3, rvA.eq_4, ch1.eq_1, ch1.eq_2, ch1.eq_3, ch2.eq_1, ch2.eq_2, ch2.eq_3, chA.eq_1, chB.eq_1, chB.eq_2, chB.eq_3, chC.eq_1, chC.eq_2, lc0.eq_2, lc0.eq_3, lcA.eq_1, lcA.eq_2, augA.eq_1, augB.eq_1, augB.eq_3, augB.eq_4, appA.eq_1, appB.eq_1, appB.eq_2, appB.eq_3, putA.eq_1, putA.eq_2, putA.eq_3, putA2.eq_1, putA2.eq_2, putB.eq_1, putC.eq_1, putD.eq_1, pixA.eq_1, pixA2.eq_1, pixB.eq_1, tryA.eq_1, tryB.eq_1, tryB.eq_2, tryB.eq_3, noEr.eq_1, repA.eq_1, repA2.eq_1, repA2.eq_2, repB.eq_1, rdT.eq_1, rdT.eq_2, toV.eq_1, toV.eq_2, toV.eq_3, toV.eq_4, toV.eq_5, toV.eq_6, ofV.eq_1, ofV.eq_2, ofV.eq_4, ofV.eq_5, tOf.eq_1, tOf.eq_2, isL.eq_1, getE.eq_1, getT.eq_1, getT.eq_2, getT.eq_3, setE.eq_1, setT.eq_1, setT.eq_2, setT.eq_3, T.data.eq_1, T.data.eq_2, finW.eq_1, finW.eq_2, finW.eq_3, finW.eq_4, finW.eq_6, fin.eq_1, fin.eq_2, fin.eq_3, tgS.eq_1, wipeE.eq_1, wipeE.eq_2, fAdd.eq_1, fAdd.eq_2, fI2.eq_1, fB2.eq_1, fU.eq_1, fLen.eq_1, fLen.eq_2, fLen.eq_3, fIx.eq_1, fIx.eq_2, fIx.eq_3, fIsN.eq_1, fNotN.eq_1, isNone.eq_1, fInt.eq_1, fInt.eq_2, fInt.eq_3, fLs.eq_1, fLs.eq_2, fTp.eq_1, fTp.eq_2, fSlP.eq_3, wOf_l, wOf_o, tryA_nx, tryA_rt, tryA_bk, tryA_ct, noEr_nx, noEr_rt, noEr_bk, noEr_ct, isNone_i, isNone_b, isNone_s, isNone_l, isNone_t, iL_app, iL_len, iL_rep, iL_rev, allD_iL, dataL_iL, q_int, q_t, q_l, n_t, n_l, n_int, q_self, n_self, s_to, s_from, s_mid, sl_to, sl_from, sl_mid, add_t, add_l, cat_l, isi_t, isi_b, isi_i, isi_l, isi_s, at_0, at_1, at_2, at_3, at_4, at_5, at_6, ai_0, ai_1, ai_2, ai_3, ai_4, ai_5, ai_6, tgN_a, tgT_a, apd_ok, lc_ok, rg1_ok, rg2_ok, iL_snoc, iL_mapd, lc_const, rngD_len, iL_take, iL_drop, Int.toNat_natCast, dataL_nil, dataL_cons, allD.eq_1, allD.eq_2, ixN_ok, rep_l, tgS_nil, rep_none, rep_none0, List.take_left, List.drop_left, any_false, all_true, eq_self, set_iL, at_last, List.drop_succ_cons, List.drop_zero, List.take_succ_cons, List.take_zero, List.getLast?_cons_cons, List.getLast?_singleton, Int.cast_ofNat_Int, rg3_ok, rngC_len, fRv_l]
      rw [this]
      rfl
  have h3 := lc2_ok (di := iP (vVar 0)) (di1 := iRg1 (vC (.int 7))) (vs := [3, 4]) (e := [some (.d (.list (iL row))), some (.d (.int s)), none, none, none]) (e1 := [some (.d (.list (iL row))), some (.d (.int s)), none, none, none]) (xs := iL row) (w := false) (by simp (disch := (first | with_reducible assumption | omega | (simp only [iL_len, rngD_len, rngC_len, List.length_append, List.length_replicate, List.length_cons, List.length_nil, List.length_map, List.length_take, List.length_drop, List.length_range, SZ] <;> omega) | (simp only [iL_len, rngD_len, rngC_len, List.length_append, List.length_replicate, List.length_cons, List.length_nil, List.length_map, List.length_take, List.length_drop, List.length_range, SZ] at * <;> omega) | fail)) only [↓x_seq, ↓x_nil, ↓x_if, ↓x_set, ↓x_setV, ↓x_asg, ↓x_exp, ↓x_ret, ↓x_retV, ↓x_retN, ↓x_brk, ↓x_cnt, ↓x_for, ↓x_bdy, ↓x_C, ↓x_var, ↓x_dvar, ↓x_v1, ↓x_v2, ↓x_d1L, ↓x_d2L, ↓x_and, ↓x_or, ↓x_not, ↓x_ifx, ↓x_args0, ↓x_args1, ↓x_tup, ↓x_lst, ↓x_call, ↓x_vD, ↓x_dV, ↓x_slP, ↓x_opt0, ↓x_opt1, ↓x_iP, ↓x_rg1, ↓x_rg2, ↓x_rg3, ↓x_en, ↓x_zp, ↓x_rv, ↓x_ch, ↓x_lc, ↓x_aug, ↓x_app, ↓x_put, ↓x_pix, ↓x_try, ↓x_rep, ↓x_raise0, y_sq, y_sif, y_retV, y_setV, y_toV, y_ofV, y_orw, y_and, y_or, y_not, y_v1, y_v2a, y_v2b, y_finW, y_calB, sq_nx, sq_rt, sq_bk, sq_ct, sq_er, sq_no, dataL_d, allD_d, fnD, SZ, List.getElem?_cons_zero, List.getElem?_cons_succ, List.getElem?_nil, List.set_cons_zero, List.set_cons_succ, List.map_cons, List.map_nil, List.length_cons, List.length_nil, List.length_map, List.length_append, List.cons_append, List.nil_append, List.append_nil, Nat.reduceAdd, Nat.reduceSub, Nat.zero_add, Nat.add_zero, Option.map_some, Option.map_none, Option.getD_some, Option.getD_none, Bool.false_eq_true, Bool.true_eq_false, Bool.and_false, Bool.false_and, Bool.and_true, Bool.true_and, Bool.or_false, Bool.false_or, Bool.or_true, Bool.true_or, Bool.not_true, Bool.not_false, if_true, if_false, ite_true, ite_false, decide_eq_true_eq, Bool.and_eq_true, Bool.or_eq_true, Bool.not_eq_true', decide_eq_false_iff_not, decide_true, decide_false, true_and, and_true, reduceCtorEq, Int.reduceNeg, Int.reduceLT, Int.reduceLE, Int.reduceToNat, Nat.reduceLeDiff, Int.reduceAbs, Int.reduceSub, Int.reduceAdd, Int.reduceMul, Int.reduceEq, Nat.reduceMul, Nat.reduceEqDiff, Nat.reduceLT, Nat.reducePow, Int.reducePow, ↓reduceIte, ite_not, sif.eq_1, sif.eq_3, sif.eq_4, andA.eq_1, andA.eq_3, andA.eq_4, orA.eq_1, orA.eq_3, orA.eq_4, notA.eq_1, notA.eq_3, notA.eq_4, ifA.eq_1, ifA.eq_3, ifA.eq_4, orw.eq_1, orw.eq_2, orw.eq_3, v1r.eq_1, v1r.eq_2, v1a.eq_1, v1a.eq_2, v1a.eq_3, v2a.eq_1, v2a.eq_2, v2a.eq_3, v2b.eq_1, v2b.eq_2, v2b.eq_3, dlr.eq_1, dlr.eq_2, d1a.eq_1, d1a.eq_2, d1a.eq_3, d2a.eq_1, d2a.eq_2, d2a.eq_3, d2b.eq_1, d2b.eq_2, d2b.eq_3, ar1.eq_1, ar1.eq_2, ar1.eq_3, ar1.eq_4, ar2.eq_1, ar2.eq_2, ar2.eq_3, tupA.eq_1, tupA.eq_2, tupA.eq_3, lstA.eq_1, lstA.eq_2, lstA.eq_3, calA.eq_1, calA.eq_2, calA.eq_3, calB.eq_1, calB.eq_2, calB.eq_3, wOf.eq_1, varV.eq_1, varR.eq_1, varR.eq_2, varD.eq_1, setA.eq_1, setA.eq_2, setA.eq_4, setA.eq_5, setVA.eq_1, setVA.eq_2, setVA.eq_3, setVA.eq_4, asgA.eq_1, asgA.eq_2, asgA.eq_3, asgA.eq_4, asgB.eq_1, asgB.eq_2, expA.eq_1, expA.eq_2, expA.eq_3, retA.eq_1, retA.eq_2, retA.eq_3, retVA.eq_1, retVA.eq_2, retVA.eq_3, retVA.eq_4, forA.eq_1, forA.eq_2, forA.eq_3, sl0.eq_1, sl0.eq_2, sl0.eq_3, sl1.eq_1, sl1.eq_2, sl2.eq_1, sl2.eq_2, sl3.eq_1, sl3.eq_2, optA.eq_1, bdyA.eq_1, bdyA.eq_2, iPA.eq_1, iPA.eq_2, iPA.eq_3, iPA.eq_5, iPA.eq_6, rg1A.eq_3, rg1A.eq_4, rg2A.eq_3, rg2A.eq_4, rg3A.eq_3, rg3A.eq_4, enA.eq_1, enA.eq_3, enA.eq_4, zpA.eq_1, zpA.eq_3, zpA.eq_4, rvA.eq_1, rvA.eq_3, rvA.eq_4, ch1.eq_1, ch1.eq_2, ch1.eq_3, ch2.eq_1, ch2.eq_2, ch2.eq_3, chA.eq_1, chB.eq_1, chB.eq_2, chB.eq_3, chC.eq_1, chC.eq_2, lc0.eq_2, lc0.eq_3, lcA.eq_1, lcA.eq_2, augA.eq_1, augB.eq_1, augB.eq_3, augB.eq_4, appA.eq_1, appB.eq_1, appB.eq_2, appB.eq_3, putA.eq_1, putA.eq_2, putA.eq_3, putA2.eq_1, putA2.eq_2, putB.eq_1, putC.eq_1, putD.eq_1, pixA.eq_1, pixA2.eq_1, pixB.eq_1, tryA.eq_1, tryB.eq_1, tryB.eq_2, tryB.eq_3, noEr.eq_1, repA.eq_1, repA2.eq_1, repA2.eq_2, repB.eq_1, rdT.eq_1, rdT.eq_2, toV.eq_1, toV.eq_2, toV.eq_3, toV.eq_4, toV.eq_5, toV.eq_6, ofV.eq_1, ofV.eq_2, ofV.eq_4, ofV.eq_5, tOf.eq_1, tOf.eq_2, isL.eq_1, getE.eq_1, getT.eq_1, getT.eq_2, getT.eq_3, setE.eq_1, setT.eq_1, setT.eq_2, setT.eq_3, T.data.eq_1, T.data.eq_2, finW.eq_1, finW.eq_2, finW.eq_3, finW.eq_4, finW.eq_6, fin.eq_1, fin.eq_2, fin.eq_3, tgS.eq_1, wipeE.eq_1, wipeE.eq_2, fAdd.eq_1, fAdd.eq_2, fI2.eq_1, fB2.eq_1, fU.eq_1, fLen.eq_1, fLen.eq_2, fLen.eq_3, fIx.eq_1, fIx.eq_2, fIx.eq_3, fIsN.eq_1, fNotN.eq_1, isNone.eq_1, fInt.eq_1, fInt.eq_2, fInt.eq_3, fLs.eq_1, fLs.eq_2, fTp.eq_1, fTp.eq_2, fSlP.eq_3, wOf_l, wOf_o, tryA_nx, tryA_rt, tryA_bk, tryA_ct, noEr_nx, noEr_rt, noEr_bk, noEr_ct, isNone_i, isNone_b, isNone_s, isNone_l, isNone_t, iL_app, iL_len, iL_rep, iL_rev, allD_iL, dataL_iL, q_int, q_t, q_l, n_t, n_l, n_int, q_self, n_self, s_to, s_from, s_mid, sl_to, sl_from, sl_mid, add_t, add_l, cat_l, isi_t, isi_b, isi_i, isi_l, isi_s, at_0, at_1, at_2, at_3, at_4, at_5, at_6, ai_0, ai_1, ai_2, ai_3, ai_4, ai_5, ai_6, tgN_a, tgT_a, apd_ok, lc_ok, rg1_ok, rg2_ok, iL_snoc, iL_mapd, lc_const, rngD_len, iL_take, iL_drop, Int.toNat_natCast, dataL_nil, dataL_cons, allD.eq_1, allD.eq_2, ixN_ok, rep_l, tgS_nil, rep_none, rep_none0, List.take_left, List.drop_left, any_false, all_true, eq_self, set_iL, at_last, List.drop_succ_cons, List.drop_zero, List.take_succ_cons, List.take_zero, List.getLast?_cons_cons, List.getLast?_singleton, Int.cast_ofNat_Int, rg3_ok, rngC_len, fRv_l]) (h2 none) (by rw [iL_len, fl7_len]; unfold SZ; omega)
  unfold f_pack
  have hf := fl7_len row
  have e1 : (-((s : Int) + (7 * row.length : Nat)) % 8) = (((-((s : Int) + (7 * row.length : Nat)) % 8).toNat : Nat) : Int) := by omega
  have e2 : PP row s = List.replicate s 0 ++ (row.map (bitsOf 7)).flatten ++ List.replicate ((-((s + 7 * row.length : Nat) : Int)) % 8).toNat 0 := by
    unfold PP
    rw [PB_len]
    rfl
  simp (disch := (first | with_reducible assumption | omega | (simp only [iL_len, rngD_len, rngC_len, List.length_append, List.length_replicate, List.length_cons, List.length_nil, List.length_map, List.length_take, List.length_drop, List.length_range, SZ] <;> omega) | (simp only [iL_len, rngD_len, rngC_len, List.length_append, List.length_replicate, List.length_cons, List.length_nil, List.length_map, List.length_take, List.length_drop, List.length_range, SZ] at * <;> omega) | fail)) only [↓x_seq, ↓x_nil, ↓x_if, ↓x_set, ↓x_setV, ↓x_asg, ↓x_exp, ↓x_ret, ↓x_retV, ↓x_retN, ↓x_brk, ↓x_cnt, ↓x_for, ↓x_bdy, ↓x_C, ↓x_var, ↓x_dvar, ↓x_v1, ↓x_v2, ↓x_d1L, ↓x_d2L, ↓x_and, ↓x_or, ↓x_not, ↓x_ifx, ↓x_args0, ↓x_args1, ↓x_tup, ↓x_lst, ↓x_call, ↓x_vD, ↓x_dV, ↓x_slP, ↓x_opt0, ↓x_opt1, ↓x_iP, ↓x_rg1, ↓x_rg2, ↓x_rg3, ↓x_en, ↓x_zp, ↓x_rv, ↓x_ch, ↓x_lc, ↓x_aug, ↓x_app, ↓x_put, ↓x_pix, ↓x_try, ↓x_rep, ↓x_raise0, y_sq, y_sif, y_retV, y_setV, y_toV, y_ofV, y_orw, y_and, y_or, y_not, y_v1, y_v2a, y_v2b, y_finW, y_calB, sq_nx, sq_rt, sq_bk, sq_ct, sq_er, sq_no, dataL_d, allD_d, fnD, SZ, List.getElem?_cons_zero, List.getElem?_cons_succ, List.getElem?_nil, List.set_cons_zero, List.set_cons_succ, List.map_cons, List.map_nil, List.length_cons, List.length_nil, List.length_map, List.length_append, List.cons_append, List.nil_append, List.append_nil, Nat.reduceAdd, Nat.reduceSub, Nat.zero_add, Nat.add_zero, Option.map_some, Option.map_none, Option.getD_some, Option.getD_none, Bool.false_eq_true, Bool.true_eq_false, Bool.and_false, Bool.false_and, Bool.and_true, Bool.true_and, Bool.or_false, Bool.false_or, Bool.or_true, Bool.true_or, Bool.not_true, Bool.not_false, if_true, if_false, ite_true, ite_false, decide_eq_true_eq, Bool.and_eq_true, Bool.or_eq_true, Bool.not_eq_true', decide_eq_false_iff_not, decide_true, decide_false, true_and, and_true, reduceCtorEq, Int.reduceNeg, Int.reduceLT, Int.reduceLE, Int.reduceToNat, Nat.reduceLeDiff, Int.reduceAbs, Int.reduceSub, Int.reduceAdd, Int.reduceMul, Int.reduceEq, Nat.reduceMul, Nat.reduceEqDiff, Nat.reduceLT, Nat.reducePow, Int.reducePow, ↓reduceIte, ite_not, sif.eq_1, sif.eq_3, sif.eq_4, andA.eq_1, andA.eq_3, andA.eq_4, orA.eq_1, orA.eq_3, orA.eq_4, notA.eq_1, notA.eq_3, notA.eq_4, ifA.eq_1, ifA.eq_3, ifA.eq_4, orw.eq_1, orw.eq_2, orw.eq_3, v1r.eq_1, v1r.eq_2, v1a.eq_1, v1a.eq_2, v1a.eq_3, v2a.eq_1, v2a.eq_2, v2a.eq_3, v2b.eq_1, v2b.eq_2, v2b.eq_3, dlr.eq_1, dlr.eq_2, d1a.eq_1, d1a.eq_2, d1a.eq_3, d2a.eq_1, d2a.eq_2, d2a.eq_3, d2b.eq_1, d2b.eq_2, d2b.eq_3, ar1.eq_1, ar1.eq_2, ar1.eq_3, ar1.eq_4, ar2.eq_1, ar2.eq_2, ar2.eq_3, tupA.eq_1, tupA.eq_2, tupA.eq_3, lstA.eq_1, lstA.eq_2, lstA.eq_3, calA.eq_1, calA.eq_2, calA.eq_3, calB.eq_1, calB.eq_2, calB.eq_3, wOf.eq_1, varV.eq_1, varR.eq_1, varR.eq_2, varD.eq_1, setA.eq_1, setA.eq_2, setA.eq_4, setA.eq_5, setVA.eq_1, setVA.eq_2, setVA.eq_3, setVA.eq_4, asgA.eq_1, asgA.eq_2, asgA.eq_3, asgA.eq_4, asgB.eq_1, asgB.eq_2, expA.eq_1, expA.eq_2, expA.eq_3, retA.eq_1, retA.eq_2, retA.eq_3, retVA.eq_1, retVA.eq_2, retVA.eq_3, retVA.eq_4, forA.eq_1, forA.eq_2, forA.eq_3, sl0.eq_1, sl0.eq_2, sl0.eq_3, sl1.eq_1, sl1.eq_2, sl2.eq_1, sl2.eq_2, sl3.eq_1, sl3.eq_2, optA.eq_1, bdyA.eq_1, bdyA.eq_2, iPA.eq_1, iPA.eq_2, iPA.eq_3, iPA.eq_5, iPA.eq_6, rg1A.eq_3, rg1A.eq_4, rg2A.eq_3, rg2A.eq_4, rg3A.eq_3, rg3A.eq_4, enA.eq_1, enA.eq_3, enA.eq_4, zpA.eq_1, zpA.eq_3, zpA.eq_4, rvA.eq_1, rvA.eq_3, rvA.eq_4, ch1.eq_1, ch1.eq_2, ch1.eq_3, ch2.eq_1, ch2.eq_2, ch2.eq_3, chA.eq_1, chB.eq_1, chB.eq_2, chB.eq_3, chC.eq_1, chC.eq_2, lc0.eq_2, lc0.eq_3, lcA.eq_1, lcA.eq_2, augA.eq_1, augB.eq_1, augB.eq_3, augB.eq_4, appA.eq_1, appB.eq_1, appB.eq_2, appB.eq_3, putA.eq_1, putA.eq_2, putA.eq_3, putA2.eq_1, putA2.eq_2, putB.eq_1, putC.eq_1, putD.eq_1, pixA.eq_1, pixA2.eq_1, pixB.eq_1, tryA.eq_1, tryB.eq_1, tryB.eq_2, tryB.eq_3, noEr.eq_1, repA.eq_1, repA2.eq_1, repA2.eq_2, rdT.eq_1, rdT.eq_2, toV.eq_1, toV.eq_2, toV.eq_3, toV.eq_4, toV.eq_5, toV.eq_6, ofV.eq_1, ofV.eq_2, ofV.eq_4, ofV.eq_5, tOf.eq_1, tOf.eq_2, isL.eq_1, getE.eq_1, getT.eq_1, getT.eq_2, getT.eq_3, setE.eq_1, setT.eq_1, setT.eq_2, setT.eq_3, T.data.eq_1, T.data.eq_2, finW.eq_1, finW.eq_2, finW.eq_3, finW.eq_4, finW.eq_6, fin.eq_1, fin.eq_2, fin.eq_3, tgS.eq_1, wipeE.eq_1, wipeE.eq_2, fAdd.eq_1, fAdd.eq_2, fI2.eq_1, fB2.eq_1, fU.eq_1, fLen.eq_1, fLen.eq_2, fLen.eq_3, fIx.eq_1, fIx.eq_2, fIx.eq_3, fIsN.eq_1, fNotN.eq_1, isNone.eq_1, fInt.eq_1, fInt.eq_2, fInt.eq_3, fLs.eq_1, fLs.eq_2, fTp.eq_1, fTp.eq_2, fSlP.eq_3, wOf_l, wOf_o, tryA_nx, tryA_rt, tryA_bk, tryA_ct, noEr_nx, noEr_rt, noEr_bk, noEr_ct, isNone_i, isNone_b, isNone_s, isNone_l, isNone_t, iL_app, iL_len, iL_rep, iL_rev, allD_iL, dataL_iL, q_int, q_t, q_l, n_t, n_l, n_int, q_self, n_self, s_to, s_from, s_mid, sl_to, sl_from, sl_mid, add_t, add_l, cat_l, isi_t, isi_b, isi_i, isi_l, isi_s, at_0, at_1, at_2, at_3, at_4, at_5, at_6, ai_0, ai_1, ai_2, ai_3, ai_4, ai_5, ai_6, tgN_a, tgT_a, apd_ok, lc_ok, rg1_ok, rg2_ok, iL_snoc, iL_mapd, lc_const, rngD_len, iL_take, iL_drop, Int.toNat_natCast, dataL_nil, dataL_cons, allD.eq_1, allD.eq_2, ixN_ok, rep_l, tgS_nil, rep_none, rep_none0, List.take_left, List.drop_left, any_false, all_true, eq_self, set_iL, at_last, List.drop_succ_cons, List.drop_zero, List.take_succ_cons, List.take_zero, List.getLast?_cons_cons, List.getLast?_singleton, Int.cast_ofNat_Int, rg3_ok, rngC_len, fRv_l, b_pack, h3, rep1_ok, hf, List.length_replicate, ← e2, hb]

theorem PB01 (row : List Int) (s : Nat) : ∀ b ∈ PP row s, b = 0 ∨ b = 1 := by
  intro b h
  unfold PP PB at h
  rcases List.mem_append.mp h with h | h
  · rcases List.mem_append.mp h with h | h
    · exact .inl (List.eq_of_mem_replicate h)
    · obtain ⟨l, h1, h2⟩ := List.mem_flatten.mp h
      obtain ⟨x, _, rfl⟩ := List.mem_map.mp h1
      obtain ⟨k, _, rfl⟩ := List.mem_map.mp h2
      exact bit01 x k
  · exact .inl (List.eq_of_mem_replicate h)
theorem OBP (row : List Int) (s : Nat) : OB (CH (PP row s)) = PP row s := OB_CH _ (by rw [PP_len]; omega) (PB01 row s)
theorem CHP_len (row : List Int) (s : Nat) : (CH (PP row s)).length = (s + 7 * row.length + 7) / 8 := by rw [CH_len, PP_len]; omega
theorem up_if (os : List Int) (s n : Nat) (hl : os.length < 100000) (hs : s < 100) (hn : n < 100000) (hk : s + 7 * n ≤ 8 * os.length) (k : Dn.Env → Out) {r : PyData} (hr : k [some (.d (.tuple (iL os))), some (.d (.int s)), some (.d (.int n)), some (.d (.list (iL (OB os)))), some (.d (.int (s + 7 * n))), none] = .rt (.v r) [some (.d (.tuple (iL os))), some (.d (.int s)), some (.d (.int n)), some (.d (.list (iL (OB os)))), some (.d (.int (s + 7 * n))), none]) : fnD [false, false, false] 6 (sSeq (sSetV 3 (vD (dCall f_octet_bits [(vVar 0)]))) (sSeq (sSetV 4 (v2 fAdd (vVar 1) (v2 fMul (vC (.int 7)) (vVar 2)))) (sSeq (sIf (v2 fLt (v1 fLen (vVar 3)) (vVar 4)) (sRaise0 "BadText") sNil) k))) [.d (.tuple (iL os)), .d (.int s), .d (.int n)] = .rt (.d r) [.d (.tuple (iL os)), .d (.int s), .d (.int n)] := by
  have e : (((OB os).length : Int) < (s : Int) + 7 * (n : Int)) = False := by apply eq_false; rw [OB_len]; omega
  simp (disch := (first | with_reducible assumption | omega | (simp only [iL_len, rngD_len, rngC_len, List.length_append, List.length_replicate, List.length_cons, List.length_nil, List.length_map, List.length_take, List.length_drop, List.length_range, SZ] <;> omega) | (simp only [iL_len, rngD_len, rngC_len, List.length_append, List.length_replicate, List.length_cons, List.length_nil, List.length_map, List.length_take, List.length_drop, List.length_range, SZ] at * <;> omega) | fail)) only [↓x_seq, ↓x_nil, ↓x_if, ↓x_set, ↓x_setV, ↓x_asg, ↓x_exp, ↓x_ret, ↓x_retV, ↓x_retN, ↓x_brk, ↓x_cnt, ↓x_for, ↓x_bdy, ↓x_C, ↓x_var, ↓x_dvar, ↓x_v1, ↓x_v2, ↓x_d1L, ↓x_d2L, ↓x_and, ↓x_or, ↓x_not, ↓x_ifx, ↓x_args0, ↓x_args1, ↓x_tup, ↓x_lst, ↓x_call, ↓x_vD, ↓x_dV, ↓x_slP, ↓x_opt0, ↓x_opt1, ↓x_iP, ↓x_rg1, ↓x_rg2, ↓x_rg3, ↓x_en, ↓x_zp, ↓x_rv, ↓x_ch, ↓x_lc, ↓x_aug, ↓x_app, ↓x_put, ↓x_pix, ↓x_try, ↓x_rep, ↓x_raise0, y_sq, y_sif, y_retV, y_setV, y_toV, y_ofV, y_orw, y_and, y_or, y_not, y_v1, y_v2a, y_v2b, y_finW, y_calB, sq_nx, sq_rt, sq_bk, sq_ct, sq_er, sq_no, dataL_d, allD_d, fnD, SZ, List.getElem?_cons_zero, List.getElem?_cons_succ, List.getElem?_nil, List.set_cons_zero, List.set_cons_succ, List.map_cons, List.map_nil, List.length_cons, List.length_nil, List.length_map, List.length_append, List.cons_append, List.nil_append, List.append_nil, Nat.reduceAdd, Nat.reduceSub, Nat.zero_add, Nat.add_zero, Option.map_some, Option.map_none, Option.getD_some, Option.getD_none, Bool.false_eq_true, Bool.true_eq_false, Bool.and_false, Bool.false_and, Bool.and_true, Bool.true_and, Bool.or_false, Bool.false_or, Bool.or_true, Bool.true_or, Bool.not_true, Bool.not_false, if_true, if_false, ite_true, ite_false, decide_eq_true_eq, Bool.and_eq_true, Bool.or_eq_true, Bool.not_eq_true', decide_eq_false_iff_not, decide_true, decide_false, true_and, and_true, reduceCtorEq, Int.reduceNeg, Int.reduceLT, Int.reduceLE, Int.reduceToNat, Nat.reduceLeDiff, Int.reduceAbs, Int.reduceSub, Int.reduceAdd, Int.reduceMul, Int.reduceEq, Nat.reduceMul, Nat.reduceEqDiff, Nat.reduceLT, Nat.reducePow, Int.reducePow, ↓reduceIte, ite_not, sif.eq_1, sif.eq_3, sif.eq_4, andA.eq_1, andA.eq_3, andA.eq_4, orA.eq_1, orA.eq_3, orA.eq_4, notA.eq_1, notA.eq_3, notA.eq_4, ifA.eq_1, ifA.eq_3, ifA.eq_4, orw.eq_1, orw.eq_2, orw.eq_3, v1r.eq_1, v1r.eq_2, v1a.eq_1, v1a.eq_2, v1a.eq_3, v2a.eq_1, v2a.eq_2, v2a.eq_3, v2b.eq_1, v2b.eq_2, v2b.eq_3, dlr.eq_1, dlr.eq_2, d1a.eq_1, d1a.eq_2, d1a.eq_3, d2a.eq_1, d2a.eq_2, d2a.eq_3, d2b.eq_1, d2b.eq_2, d2b.eq_3, ar1.eq_1, ar1.eq_2, ar1.eq_3, ar1.eq_4, ar2.eq_1, ar2.eq_2, ar2.eq_3, tupA.eq_1, tupA.eq_2, tupA.eq_3, lstA.eq_1, lstA.eq_2, lstA.eq_3, calA.eq_1, calA.eq_2, calA.eq_3, calB.eq_1, calB.eq_2, calB.eq_3, wOf.eq_1, varV.eq_1, varR.eq_1, varR.eq_2, varD.eq_1, setA.eq_1, setA.eq_2, setA.eq_4, setA.eq_5, setVA.eq_1, setVA.eq_2, setVA.eq_3, setVA.eq_4, asgA.eq_1, asgA.eq_2, asgA.eq_3, asgA.eq_4, asgB.eq_1, asgB.eq_2, expA.eq_1, expA.eq_2, expA.eq_3, retA.eq_1, retA.eq_2, retA.eq_3, retVA.eq_1, retVA.eq_2, retVA.eq_3, retVA.eq_4, forA.eq_1, forA.eq_2, forA.eq_3, sl0.eq_1, sl0.eq_2, sl0.eq_3, sl1.eq_1, sl1.eq_2, sl2.eq_1, sl2.eq_2, sl3.eq_1, sl3.eq_2, optA.eq_1, bdyA.eq_1, bdyA.eq_2, iPA.eq_1, iPA.eq_2, iPA.eq_3, iPA.eq_5, iPA.eq_6, rg1A.eq_3, rg1A.eq_4, rg2A.eq_3, rg2A.eq_4, rg3A.eq_3, rg3A.eq_4, enA.eq_1, enA.eq_3, enA.eq_4, zpA.eq_1, zpA.eq_3, zpA.eq_4, rvA.eq_1, rvA.eq_3, rvA.eq_4, ch1.eq_1, ch1.eq_2, ch1.eq_3, ch2.eq_1, ch2.eq_2, ch2.eq_3, chA.eq_1, chB.eq_1, chB.eq_2, chB.eq_3, chC.eq_1, chC.eq_2, lc0.eq_2, lc0.eq_3, lcA.eq_1, lcA.eq_2, augA.eq_1, augB.eq_1, augB.eq_3, augB.eq_4, appA.eq_1, appB.eq_1, appB.eq_2, appB.eq_3, putA.eq_1, putA.eq_2, putA.eq_3, putA2.eq_1, putA2.eq_2, putB.eq_1, putC.eq_1, putD.eq_1, pixA.eq_1, pixA2.eq_1, pixB.eq_1, tryA.eq_1, tryB.eq_1, tryB.eq_2, tryB.eq_3, noEr.eq_1, repA.eq_1, repA2.eq_1, repA2.eq_2, repB.eq_1, rdT.eq_1, rdT.eq_2, toV.eq_1, toV.eq_2, toV.eq_3, toV.eq_4, toV.eq_5, toV.eq_6, ofV.eq_1, ofV.eq_2, ofV.eq_4, ofV.eq_5, tOf.eq_1, tOf.eq_2, isL.eq_1, getE.eq_1, getT.eq_1, getT.eq_2, getT.eq_3, setE.eq_1, setT.eq_1, setT.eq_2, setT.eq_3, T.data.eq_1, T.data.eq_2, finW.eq_1, finW.eq_2, finW.eq_3, finW.eq_4, finW.eq_6, fin.eq_1, fin.eq_2, fin.eq_3, tgS.eq_1, wipeE.eq_1, wipeE.eq_2, fAdd.eq_1, fAdd.eq_2, fI2.eq_1, fB2.eq_1, fU.eq_1, fLen.eq_1, fLen.eq_2, fLen.eq_3, fIx.eq_1, fIx.eq_2, fIx.eq_3, fIsN.eq_1, fNotN.eq_1, isNone.eq_1, fInt.eq_1, fInt.eq_2, fInt.eq_3, fLs.eq_1, fLs.eq_2, fTp.eq_1, fTp.eq_2, fSlP.eq_3, wOf_l, wOf_o, tryA_nx, tryA_rt, tryA_bk, tryA_ct, noEr_nx, noEr_rt, noEr_bk, noEr_ct, isNone_i, isNone_b, isNone_s, isNone_l, isNone_t, iL_app, iL_len, iL_rep, iL_rev, allD_iL, dataL_iL, q_int, q_t, q_l, n_t, n_l, n_int, q_self, n_self, s_to, s_from, s_mid, sl_to, sl_from, sl_mid, add_t, add_l, cat_l, isi_t, isi_b, isi_i, isi_l, isi_s, at_0, at_1, at_2, at_3, at_4, at_5, at_6, ai_0, ai_1, ai_2, ai_3, ai_4, ai_5, ai_6, tgN_a, tgT_a, apd_ok, lc_ok, rg1_ok, rg2_ok, iL_snoc, iL_mapd, lc_const, rngD_len, iL_take, iL_drop, Int.toNat_natCast, dataL_nil, dataL_cons, allD.eq_1, allD.eq_2, ixN_ok, rep_l, tgS_nil, rep_none, rep_none0, List.take_left, List.drop_left, any_false, all_true, eq_self, set_iL, at_last, List.drop_succ_cons, List.drop_zero, List.take_succ_cons, List.take_zero, List.getLast?_cons_cons, List.getLast?_singleton, Int.cast_ofNat_Int, rg3_ok, rngC_len, fRv_l, octet_bits_ok os (by omega), e, hr]
theorem up_er (os : List Int) (s n : Nat) (hl : os.length < 100000) (hs : s < 100) (hn : n < 100000) (hk : 8 * os.length < s + 7 * n) (k : Dn.Env → Out) : fnD [false, false, false] 6 (sSeq (sSetV 3 (vD (dCall f_octet_bits [(vVar 0)]))) (sSeq (sSetV 4 (v2 fAdd (vVar 1) (v2 fMul (vC (.int 7)) (vVar 2)))) (sSeq (sIf (v2 fLt (v1 fLen (vVar 3)) (vVar 4)) (sRaise0 "BadText") sNil) k))) [.d (.tuple (iL os)), .d (.int s), .d (.int n)] = .er "BadText" none [.d (.tuple (iL os)), .d (.int s), .d (.int n)] := by
  have e : (((OB os).length : Int) < (s : Int) + 7 * (n : Int)) = True := by apply eq_true; rw [OB_len]; omega
  simp (disch := (first | with_reducible assumption | omega | (simp only [iL_len, rngD_len, rngC_len, List.length_append, List.length_replicate, List.length_cons, List.length_nil, List.length_map, List.length_take, List.length_drop, List.length_range, SZ] <;> omega) | (simp only [iL_len, rngD_len, rngC_len, List.length_append, List.length_replicate, List.length_cons, List.length_nil, List.length_map, List.length_take, List.length_drop, List.length_range, SZ] at * <;> omega) | fail)) only [↓x_seq, ↓x_nil, ↓x_if, ↓x_set, ↓x_setV, ↓x_asg, ↓x_exp, ↓x_ret, ↓x_retV, ↓x_retN, ↓x_brk, ↓x_cnt, ↓x_for, ↓x_bdy, ↓x_C, ↓x_var, ↓x_dvar, ↓x_v1, ↓x_v2, ↓x_d1L, ↓x_d2L, ↓x_and, ↓x_or, ↓x_not, ↓x_ifx, ↓x_args0, ↓x_args1, ↓x_tup, ↓x_lst, ↓x_call, ↓x_vD, ↓x_dV, ↓x_slP, ↓x_opt0, ↓x_opt1, ↓x_iP, ↓x_rg1, ↓x_rg2, ↓x_rg3, ↓x_en, ↓x_zp, ↓x_rv, ↓x_ch, ↓x_lc, ↓x_aug, ↓x_app, ↓x_put, ↓x_pix, ↓x_try, ↓x_rep, ↓x_raise0, y_sq, y_sif, y_retV, y_setV, y_toV, y_ofV, y_orw, y_and, y_or, y_not, y_v1, y_v2a, y_v2b, y_finW, y_calB, sq_nx, sq_rt, sq_bk, sq_ct, sq_er, sq_no, dataL_d, allD_d, fnD, SZ, List.getElem?_cons_zero, List.getElem?_cons_succ, List.getElem?_nil, List.set_cons_zero, List.set_cons_succ, List.map_cons, List.map_nil, List.length_cons, List.length_nil, List.length_map, List.length_append, List.cons_append, List.nil_append, List.append_nil, Nat.reduceAdd, Nat.reduceSub, Nat.zero_add, Nat.add_zero, Option.map_some, Option.map_none, Option.getD_some, Option.getD_none, Bool.false_eq_true, Bool.true_eq_false, Bool.and_false, Bool.false_and, Bool.and_true, Bool.true_and, Bool.or_false, Bool.false_or, Bool.or_true, Bool.true_or, Bool.not_true, Bool.not_false, if_true, if_false, ite_true, ite_false, decide_eq_true_eq, Bool.and_eq_true, Bool.or_eq_true, Bool.not_eq_true', decide_eq_false_iff_not, decide_true, decide_false, true_and, and_true, reduceCtorEq, Int.reduceNeg, Int.reduceLT, Int.reduceLE, Int.reduceToNat, Nat.reduceLeDiff, Int.reduceAbs, Int.reduceSub, Int.reduceAdd, Int.reduceMul, Int.reduceEq, Nat.reduceMul, Nat.reduceEqDiff, Nat.reduceLT, Nat.reducePow, Int.reducePow, ↓reduceIte, ite_not, sif.eq_1, sif.eq_3, sif.eq_4, andA.eq_1, andA.eq_3, andA.eq_4, orA.eq_1, orA.eq_3, orA.eq_4, notA.eq_1, notA.eq_3, notA.eq_4, ifA.eq_1, ifA.eq_3, ifA.eq_4, orw.eq_1, orw.eq_2, orw.eq_3, v1r.eq_1, v1r.eq_2, v1a.eq_1, v1a.eq_2, v1a.eq_3, v2a.eq_1, v2a.eq_2, v2a.eq_3, v2b.eq_1, v2b.eq_2, v2b.eq_3, dlr.eq_1, dlr.eq_2, d1a.eq_1, d1a.eq_2, d1a.eq_3, d2a.eq_1, d2a.eq_2, d2a.eq_3, d2b.eq_1, d2b.eq_2, d2b.eq_3, ar1.eq_1, ar1.eq_2, ar1.eq_3, ar1.eq_4, ar2.eq_1, ar2.eq_2, ar2.eq_3, tupA.eq_1, tupA.eq_2, tupA.eq_3, lstA.eq_1, lstA.eq_2, lstA.eq_3, calA.eq_1, calA.eq_2, calA.eq_3, calB.eq_1, calB.eq_2, calB.eq_3, wOf.eq_1, varV.eq_1, varR.eq_1, varR.eq_2, varD.eq_1, setA.eq_1, setA.eq_2, setA.eq_4, setA.eq_5, setVA.eq_1, setVA.eq_2, setVA.eq_3, setVA.eq_4, asgA.eq_1, asgA.eq_2, asgA.eq_3, asgA.eq_4, asgB.eq_1, asgB.eq_2, expA.eq_1, expA.eq_2, expA.eq_3, retA.eq_1, retA.eq_2, retA.eq_3, retVA.eq_1, retVA.eq_2, retVA.eq_3, retVA.eq_4, forA.eq_1, forA.eq_2, forA.eq_3, sl0.eq_1, sl0.eq_2, sl0.eq_3, sl1.eq_1, sl1.eq_2, sl2.eq_1, sl2.eq_2, sl3.eq_1, sl3.eq_2, optA.eq_1, bdyA.eq_1, bdyA.eq_2, iPA.eq_1, iPA.eq_2, iPA.eq_3, iPA.eq_5, iPA.eq_6, rg1A.eq_3, rg1A.eq_4, rg2A.eq_3, rg2A.eq_4, rg3A.eq_3, rg3A.eq_4, enA.eq_1, enA.eq_3, enA.eq_4, zpA.eq_1, zpA.eq_3, zpA.eq_4, rvA.eq_1, rvA.eq_3, rvA.eq_4, ch1.eq_1, ch1.eq_2, ch1.eq_3, ch2.eq_1, ch2.eq_2, ch2.eq_3, chA.eq_1, chB.eq_1, chB.eq_2, chB.eq_3, chC.eq_1, chC.eq_2, lc0.eq_2, lc0.eq_3, lcA.eq_1, lcA.eq_2, augA.eq_1, augB.eq_1, augB.eq_3, augB.eq_4, appA.eq_1, appB.eq_1, appB.eq_2, appB.eq_3, putA.eq_1, putA.eq_2, putA.eq_3, putA2.eq_1, putA2.eq_2, putB.eq_1, putC.eq_1, putD.eq_1, pixA.eq_1, pixA2.eq_1, pixB.eq_1, tryA.eq_1, tryB.eq_1, tryB.eq_2, tryB.eq_3, noEr.eq_1, repA.eq_1, repA2.eq_1, repA2.eq_2, repB.eq_1, rdT.eq_1, rdT.eq_2, toV.eq_1, toV.eq_2, toV.eq_3, toV.eq_4, toV.eq_5, toV.eq_6, ofV.eq_1, ofV.eq_2, ofV.eq_4, ofV.eq_5, tOf.eq_1, tOf.eq_2, isL.eq_1, getE.eq_1, getT.eq_1, getT.eq_2, getT.eq_3, setE.eq_1, setT.eq_1, setT.eq_2, setT.eq_3, T.data.eq_1, T.data.eq_2, finW.eq_1, finW.eq_2, finW.eq_3, finW.eq_4, finW.eq_6, fin.eq_1, fin.eq_2, fin.eq_3, tgS.eq_1, wipeE.eq_1, wipeE.eq_2, fAdd.eq_1, fAdd.eq_2, fI2.eq_1, fB2.eq_1, fU.eq_1, fLen.eq_1, fLen.eq_2, fLen.eq_3, fIx.eq_1, fIx.eq_2, fIx.eq_3, fIsN.eq_1, fNotN.eq_1, isNone.eq_1, fInt.eq_1, fInt.eq_2, fInt.eq_3, fLs.eq_1, fLs.eq_2, fTp.eq_1, fTp.eq_2, fSlP.eq_3, wOf_l, wOf_o, tryA_nx, tryA_rt, tryA_bk, tryA_ct, noEr_nx, noEr_rt, noEr_bk, noEr_ct, isNone_i, isNone_b, isNone_s, isNone_l, isNone_t, iL_app, iL_len, iL_rep, iL_rev, allD_iL, dataL_iL, q_int, q_t, q_l, n_t, n_l, n_int, q_self, n_self, s_to, s_from, s_mid, sl_to, sl_from, sl_mid, add_t, add_l, cat_l, isi_t, isi_b, isi_i, isi_l, isi_s, at_0, at_1, at_2, at_3, at_4, at_5, at_6, ai_0, ai_1, ai_2, ai_3, ai_4, ai_5, ai_6, tgN_a, tgT_a, apd_ok, lc_ok, rg1_ok, rg2_ok, iL_snoc, iL_mapd, lc_const, rngD_len, iL_take, iL_drop, Int.toNat_natCast, dataL_nil, dataL_cons, allD.eq_1, allD.eq_2, ixN_ok, rep_l, tgS_nil, rep_none, rep_none0, List.take_left, List.drop_left, any_false, all_true, eq_self, set_iL, at_last, List.drop_succ_cons, List.drop_zero, List.take_succ_cons, List.take_zero, List.getLast?_cons_cons, List.getLast?_singleton, Int.cast_ofNat_Int, rg3_ok, rngC_len, fRv_l, octet_bits_ok os (by omega), e]
def UN (bs : List Int) (s n : Nat) : List Int := (List.range n).map fun j => LB ((bs.drop (s + 7 * j)).take 7)
theorem unpack_ok (os : List Int) (s n : Nat) (hl : os.length < 100000) (hs : s < 100) (hn : n < 100000) (hk : s + 7 * n ≤ 8 * os.length) : f_unpack [.d (.tuple (iL os)), .d (.int s), .d (.int n)] = .rt (.d (.list (iL (UN (OB os) s n)))) [.d (.tuple (iL os)), .d (.int s), .d (.int n)] := by
  refine up_if os s n hl hs hn hk _ ?_
  have en : (((s : Int) + 7 * (n : Int) - (s : Int) + 7 - 1) / 7).toNat = n := by omega
  have hg := lc_ints (v := 5) (el := (vD (dCall f_bits_number [(vD (d1L fRv (vSlP (vVar 3) (some (vVar 5)) (some (v2 fAdd (vVar 5) (vC (.int 7)))))))]))) (e0 := [some (.d (.tuple (iL os))), some (.d (.int s)), some (.d (.int n)), some (.d (.list (iL (OB os)))), some (.d (.int (s + 7 * n))), none]) (fun k => LB (((OB os).drop k.toNat).take 7)) (l := (List.range n).map fun k => (s : Int) + (k : Nat) * 7) (fun k hk => ⟨[some (.d (.tuple (iL os))), some (.d (.int s)), some (.d (.int n)), some (.d (.list (iL (OB os)))), some (.d (.int (s + 7 * n))), some (.d (.int k))], by
    obtain ⟨m, _, rfl⟩ := List.mem_map.mp hk
    have z1 : 0 ≤ (s : Int) + (m : Int) * 7 := by omega
    have z2 : 0 ≤ (s : Int) + (m : Int) * 7 + 7 := by omega
    have z3 : ((s : Int) + (m : Int) * 7 + 7).toNat - ((s : Int) + (m : Int) * 7).toNat = 7 := by omega
    simp (disch := (first | with_reducible assumption | omega | (simp only [iL_len, rngD_len, rngC_len, List.length_append, List.length_replicate, List.length_cons, List.length_nil, List.length_map, List.length_take, List.length_drop, List.length_range, SZ] <;> omega) | (simp only [iL_len, rngD_len, rngC_len, List.length_append, List.length_replicate, List.length_cons, List.length_nil, List.length_map, List.length_take, List.length_drop, List.length_range, SZ] at * <;> omega) | fail)) only [↓x_seq, ↓x_nil, ↓x_if, ↓x_set, ↓x_setV, ↓x_asg, ↓x_exp, ↓x_ret, ↓x_retV, ↓x_retN, ↓x_brk, ↓x_cnt, ↓x_for, ↓x_bdy, ↓x_C, ↓x_var, ↓x_dvar, ↓x_v1, ↓x_v2, ↓x_d1L, ↓x_d2L, ↓x_and, ↓x_or, ↓x_not, ↓x_ifx, ↓x_args0, ↓x_args1, ↓x_tup, ↓x_lst, ↓x_call, ↓x_vD, ↓x_dV, ↓x_slP, ↓x_opt0, ↓x_opt1, ↓x_iP, ↓x_rg1, ↓x_rg2, ↓x_rg3, ↓x_en, ↓x_zp, ↓x_rv, ↓x_ch, ↓x_lc, ↓x_aug, ↓x_app, ↓x_put, ↓x_pix, ↓x_try, ↓x_rep, ↓x_raise0, y_sq, y_sif, y_retV, y_setV, y_toV, y_ofV, y_orw, y_and, y_or, y_not, y_v1, y_v2a, y_v2b, y_finW, y_calB, sq_nx, sq_rt, sq_bk, sq_ct, sq_er, sq_no, dataL_d, allD_d, fnD, SZ, List.getElem?_cons_zero, List.getElem?_cons_succ, List.getElem?_nil, List.set_cons_zero, List.set_cons_succ, List.map_cons, List.map_nil, List.length_cons, List.length_nil, List.length_map, List.length_append, List.cons_append, List.nil_append, List.append_nil, Nat.reduceAdd, Nat.reduceSub, Nat.zero_add, Nat.add_zero, Option.map_some, Option.map_none, Option.getD_some, Option.getD_none, Bool.false_eq_true, Bool.true_eq_false, Bool.and_false, Bool.false_and, Bool.and_true, Bool.true_and, Bool.or_false, Bool.false_or, Bool.or_true, Bool.true_or, Bool.not_true, Bool.not_false, if_true, if_false, ite_true, ite_false, decide_eq_true_eq, Bool.and_eq_true, Bool.or_eq_true, Bool.not_eq_true', decide_eq_false_iff_not, decide_true, decide_false, true_and, and_true, reduceCtorEq, Int.reduceNeg, Int.reduceLT, Int.reduceLE, Int.reduceToNat, Nat.reduceLeDiff, Int.reduceAbs, Int.reduceSub, Int.reduceAdd, Int.reduceMul, Int.reduceEq, Nat.reduceMul, Nat.reduceEqDiff, Nat.reduceLT, Nat.reducePow, Int.reducePow, ↓reduceIte, ite_not, sif.eq_1, sif.eq_3, sif.eq_4, andA.eq_1, andA.eq_3, andA.eq_4, orA.eq_1, orA.eq_3, orA.eq_4, notA.eq_1, notA.eq_3, notA.eq_4, ifA.eq_1, ifA.eq_3, ifA.eq_4, orw.eq_1, orw.eq_2, orw.eq_3, v1r.eq_1, v1r.eq_2, v1a.eq_1, v1a.eq_2, v1a.eq_3, v2a.eq_1, v2a.eq_2, v2a.eq_3, v2b.eq_1, v2b.eq_2, v2b.eq_3, dlr.eq_1, dlr.eq_2, d1a.eq_1, d1a.eq_2, d1a.eq_3, d2a.eq_1, d2a.eq_2, d2a.eq_3, d2b.eq_1, d2b.eq_2, d2b.eq_3, ar1.eq_1, ar1.eq_2, ar1.eq_3, ar1.eq_4, ar2.eq_1, ar2.eq_2, ar2.eq_3, tupA.eq_1, tupA.eq_2, tupA.eq_3, lstA.eq_1, lstA.eq_2, lstA.eq_3, calA.eq_1, calA.eq_2, calA.eq_3, calB.eq_1, calB.eq_2, calB.eq_3, wOf.eq_1, varV.eq_1, varR.eq_1, varR.eq_2, varD.eq_1, setA.eq_1, setA.eq_2, setA.eq_4, setA.eq_5, setVA.eq_1, setVA.eq_2, setVA.eq_3, setVA.eq_4, asgA.eq_1, asgA.eq_2, asgA.eq_3, asgA.eq_4, asgB.eq_1, asgB.eq_2, expA.eq_1, expA.eq_2, expA.eq_3, retA.eq_1, retA.eq_2, retA.eq_3, retVA.eq_1, retVA.eq_2, retVA.eq_3, retVA.eq_4, forA.eq_1, forA.eq_2, forA.eq_3, sl0.eq_1, sl0.eq_2, sl0.eq_3, sl1.eq_1, sl1.eq_2, sl2.eq_1, sl2.eq_2, sl3.eq_1, sl3.eq_2, optA.eq_1, bdyA.eq_1, bdyA.eq_2, iPA.eq_1, iPA.eq_2, iPA.eq_3, iPA.eq_5, iPA.eq_6, rg1A.eq_3, rg1A.eq_4, rg2A.eq_3, rg2A.eq_4, rg3A.eq_3, rg3A.eq_4, enA.eq_1, enA.eq_3, enA.eq_4, zpA.eq_1, zpA.eq_3, zpA.eq_4, rvA.eq_1, rvA.eq_3, rvA.eq_4, ch1.eq_1, ch1.eq_2, ch1.eq_3, ch2.eq_1, ch2.eq_2, ch2.eq_3, chA.eq_1, chB.eq_1, chB.eq_2, chB.eq_3, chC.eq_1, chC.eq_2, lc0.eq_2, lc0.eq_3, lcA.eq_1, lcA.eq_2, augA.eq_1, augB.eq_1, augB.eq_3, augB.eq_4, appA.eq_1, appB.eq_1, appB.eq_2, appB.eq_3, putA.eq_1, putA.eq_2, putA.eq_3, putA2.eq_1, putA2.eq_2, putB.eq_1, putC.eq_1, putD.eq_1, pixA.eq_1, pixA2.eq_1, pixB.eq_1, tryA.eq_1, tryB.eq_1, tryB.eq_2, tryB.eq_3, noEr.eq_1, repA.eq_1, repA2.eq_1, repA2.eq_2, repB.eq_1, rdT.eq_1, rdT.eq_2, toV.eq_1, toV.eq_2, toV.eq_3, toV.eq_4, toV.eq_5, toV.eq_6, ofV.eq_1, ofV.eq_2, ofV.eq_4, ofV.eq_5, tOf.eq_1, tOf.eq_2, isL.eq_1, getE.eq_1, getT.eq_1, getT.eq_2, getT.eq_3, setE.eq_1, setT.eq_1, setT.eq_2, setT.eq_3, T.data.eq_1, T.data.eq_2, finW.eq_1, finW.eq_2, finW.eq_3, finW.eq_4, finW.eq_6, fin.eq_1, fin.eq_2, fin.eq_3, tgS.eq_1, wipeE.eq_1, wipeE.eq_2, fAdd.eq_1, fAdd.eq_2, fI2.eq_1, fB2.eq_1, fU.eq_1, fLen.eq_1, fLen.eq_2, fLen.eq_3, fIx.eq_1, fIx.eq_2, fIx.eq_3, fIsN.eq_1, fNotN.eq_1, isNone.eq_1, fInt.eq_1, fInt.eq_2, fInt.eq_3, fLs.eq_1, fLs.eq_2, fTp.eq_1, fTp.eq_2, fSlP.eq_3, wOf_l, wOf_o, tryA_nx, tryA_rt, tryA_bk, tryA_ct, noEr_nx, noEr_rt, noEr_bk, noEr_ct, isNone_i, isNone_b, isNone_s, isNone_l, isNone_t, iL_app, iL_len, iL_rep, iL_rev, allD_iL, dataL_iL, q_int, q_t, q_l, n_t, n_l, n_int, q_self, n_self, s_to, s_from, s_mid, sl_to, sl_from, sl_mid, add_t, add_l, cat_l, isi_t, isi_b, isi_i, isi_l, isi_s, at_0, at_1, at_2, at_3, at_4, at_5, at_6, ai_0, ai_1, ai_2, ai_3, ai_4, ai_5, ai_6, tgN_a, tgT_a, apd_ok, lc_ok, rg1_ok, rg2_ok, iL_snoc, iL_mapd, lc_const, rngD_len, iL_take, iL_drop, Int.toNat_natCast, dataL_nil, dataL_cons, allD.eq_1, allD.eq_2, ixN_ok, rep_l, tgS_nil, rep_none, rep_none0, List.take_left, List.drop_left, any_false, all_true, eq_self, set_iL, at_last, List.drop_succ_cons, List.drop_zero, List.take_succ_cons, List.take_zero, List.getLast?_cons_cons, List.getLast?_singleton, Int.cast_ofNat_Int, rg3_ok, rngC_len, fRv_l, z3, number_rev]⟩)
  have e3 : (List.map (fun k : Int => LB (List.take 7 (List.drop k.toNat (OB os)))) (List.map (fun k : Nat => (s : Int) + (k : Nat) * 7) (List.range n))) = UN (OB os) s n := by
    unfold UN
    rw [List.map_map]
    apply List.map_congr_left
    intro k _
    show LB (List.take 7 (List.drop ((s : Int) + (k : Int) * 7).toNat (OB os))) = _
    rw [show ((s : Int) + (k : Int) * 7).toNat = s + 7 * k by omega]
  rw [x_retV, x_vD]
  have hr : dLc (iRg3 (vVar 1) (vVar 4) (vC (.int 7))) [5] (tgN 5) (vC (.bool true)) (vD (dCall f_bits_number [(vD (d1L fRv (vSlP (vVar 3) (some (vVar 5)) (some (v2 fAdd (vVar 5) (vC (.int 7)))))))])) [some (.d (.tuple (iL os))), some (.d (.int s)), some (.d (.int n)), some (.d (.list (iL (OB os)))), some (.d (.int (s + 7 * n))), none] = .ok (.t (.l ((iL (UN (OB os) s n)).map T.d))) [some (.d (.tuple (iL os))), some (.d (.int s)), some (.d (.int n)), some (.d (.list (iL (OB os)))), some (.d (.int (s + 7 * n))), none] false := by
    simp (disch := (first | with_reducible assumption | omega | (simp only [iL_len, rngD_len, rngC_len, List.length_append, List.length_replicate, List.length_cons, List.length_nil, List.length_map, List.length_take, List.length_drop, List.length_range, SZ] <;> omega) | (simp only [iL_len, rngD_len, rngC_len, List.length_append, List.length_replicate, List.length_cons, List.length_nil, List.length_map, List.length_take, List.length_drop, List.length_range, SZ] at * <;> omega) | fail)) only [↓x_seq, ↓x_nil, ↓x_if, ↓x_set, ↓x_setV, ↓x_asg, ↓x_exp, ↓x_ret, ↓x_retV, ↓x_retN, ↓x_brk, ↓x_cnt, ↓x_for, ↓x_bdy, ↓x_C, ↓x_var, ↓x_dvar, ↓x_v1, ↓x_v2, ↓x_d1L, ↓x_d2L, ↓x_and, ↓x_or, ↓x_not, ↓x_ifx, ↓x_args0, ↓x_args1, ↓x_tup, ↓x_lst, ↓x_call, ↓x_vD, ↓x_dV, ↓x_slP, ↓x_opt0, ↓x_opt1, ↓x_iP, ↓x_rg1, ↓x_rg2, ↓x_rg3, ↓x_en, ↓x_zp, ↓x_rv, ↓x_ch, ↓x_lc, ↓x_aug, ↓x_app, ↓x_put, ↓x_pix, ↓x_try, ↓x_rep, ↓x_raise0, y_sq, y_sif, y_retV, y_setV, y_toV, y_ofV, y_orw, y_and, y_or, y_not, y_v1, y_v2a, y_v2b, y_finW, y_calB, sq_nx, sq_rt, sq_bk, sq_ct, sq_er, sq_no, dataL_d, allD_d, fnD, SZ, List.getElem?_cons_zero, List.getElem?_cons_succ, List.getElem?_nil, List.set_cons_zero, List.set_cons_succ, List.map_cons, List.map_nil, List.length_cons, List.length_nil, List.length_map, List.length_append, List.cons_append, List.nil_append, List.append_nil, Nat.reduceAdd, Nat.reduceSub, Nat.zero_add, Nat.add_zero, Option.map_some, Option.map_none, Option.getD_some, Option.getD_none, Bool.false_eq_true, Bool.true_eq_false, Bool.and_false, Bool.false_and, Bool.and_true, Bool.true_and, Bool.or_false, Bool.false_or, Bool.or_true, Bool.true_or, Bool.not_true, Bool.not_false, if_true, if_false, ite_true, ite_false, decide_eq_true_eq, Bool.and_eq_true, Bool.or_eq_true, Bool.not_eq_true', decide_eq_false_iff_not, decide_true, decide_false, true_and, and_true, reduceCtorEq, Int.reduceNeg, Int.reduceLT, Int.reduceLE, Int.reduceToNat, Nat.reduceLeDiff, Int.reduceAbs, Int.reduceSub, Int.reduceAdd, Int.reduceMul, Int.reduceEq, Nat.reduceMul, Nat.reduceEqDiff, Nat.reduceLT, Nat.reducePow, Int.reducePow, ↓reduceIte, ite_not, sif.eq_1, sif.eq_3, sif.eq_4, andA.eq_1, andA.eq_3, andA.eq_4, orA.eq_1, orA.eq_3, orA.eq_4, notA.eq_1, notA.eq_3, notA.eq_4, ifA.eq_1, ifA.eq_3, ifA.eq_4, orw.eq_1, orw.eq_2, orw.eq_3, v1r.eq_1, v1r.eq_2, v1a.eq_1, v1a.eq_2, v1a.eq_3, v2a.eq_1, v2a.eq_2, v2a.eq_3, v2b.eq_1, v2b.eq_2, v2b.eq_3, dlr.eq_1, dlr.eq_2, d1a.eq_1, d1a.eq_2, d1a.eq_3, d2a.eq_1, d2a.eq_2, d2a.eq_3, d2b.eq_1, d2b.eq_2, d2b.eq_3, ar1.eq_1, ar1.eq_2, ar1.eq_3, ar1.eq_4, ar2.eq_1, ar2.eq_2, ar2.eq_3, tupA.eq_1, tupA.eq_2, tupA.eq_3, lstA.eq_1, lstA.eq_2, lstA.eq_3, calA.eq_1, calA.eq_2, calA.eq_3, calB.eq_1, calB.eq_2, calB.eq_3, wOf.eq_1, varV.eq_1, varR.eq_1, varR.eq_2, varD.eq_1, setA.eq_1, setA.eq_2, setA.eq_4, setA.eq_5, setVA.eq_1, setVA.eq_2, setVA.eq_3, setVA.eq_4, asgA.eq_1, asgA.eq_2, asgA.eq_3, asgA.eq_4, asgB.eq_1, asgB.eq_2, expA.eq_1, expA.eq_2, expA.eq_3, retA.eq_1, retA.eq_2, retA.eq_3, retVA.eq_1, retVA.eq_2, retVA.eq_3, retVA.eq_4, forA.eq_1, forA.eq_2, forA.eq_3, sl0.eq_1, sl0.eq_2, sl0.eq_3, sl1.eq_1, sl1.eq_2, sl2.eq_1, sl2.eq_2, sl3.eq_1, sl3.eq_2, optA.eq_1, bdyA.eq_1, bdyA.eq_2, iPA.eq_1, iPA.eq_2, iPA.eq_3, iPA.eq_5, iPA.eq_6, rg1A.eq_3, rg1A.eq_4, rg2A.eq_3, rg2A.eq_4, rg3A.eq_3, rg3A.eq_4, enA.eq_1, enA.eq_3, enA.eq_4, zpA.eq_1, zpA.eq_3, zpA.eq_4, rvA.eq_1, rvA.eq_3, rvA.eq_4, ch1.eq_1, ch1.eq_2, ch1.eq_3, ch2.eq_1, ch2.eq_2, ch2.eq_3, chA.eq_1, chB.eq_1, chB.eq_2, chB.eq_3, chC.eq_1, chC.eq_2, lc0.eq_2, lc0.eq_3, lcA.eq_1, lcA.eq_2, augA.eq_1, augB.eq_1, augB.eq_3, augB.eq_4, appA.eq_1, appB.eq_1, appB.eq_2, appB.eq_3, putA.eq_1, putA.eq_2, putA.eq_3, putA2.eq_1, putA2.eq_2, putB.eq_1, putC.eq_1, putD.eq_1, pixA.eq_1, pixA2.eq_1, pixB.eq_1, tryA.eq_1, tryB.eq_1, tryB.eq_2, tryB.eq_3, noEr.eq_1, repA.eq_1, repA2.eq_1, repA2.eq_2, repB.eq_1, rdT.eq_1, rdT.eq_2, toV.eq_1, toV.eq_2, toV.eq_3, toV.eq_4, toV.eq_5, toV.eq_6, ofV.eq_1, ofV.eq_2, ofV.eq_4, ofV.eq_5, tOf.eq_1, tOf.eq_2, isL.eq_1, getE.eq_1, getT.eq_1, getT.eq_2, getT.eq_3, setE.eq_1, setT.eq_1, setT.eq_2, setT.eq_3, T.data.eq_1, T.data.eq_2, finW.eq_1, finW.eq_2, finW.eq_3, finW.eq_4, finW.eq_6, fin.eq_1, fin.eq_2, fin.eq_3, tgS.eq_1, wipeE.eq_1, wipeE.eq_2, fAdd.eq_1, fAdd.eq_2, fI2.eq_1, fB2.eq_1, fU.eq_1, fLen.eq_1, fLen.eq_2, fLen.eq_3, fIx.eq_1, fIx.eq_2, fIx.eq_3, fIsN.eq_1, fNotN.eq_1, isNone.eq_1, fInt.eq_1, fInt.eq_2, fInt.eq_3, fLs.eq_1, fLs.eq_2, fTp.eq_1, fTp.eq_2, fSlP.eq_3, wOf_l, wOf_o, tryA_nx, tryA_rt, tryA_bk, tryA_ct, noEr_nx, noEr_rt, noEr_bk, noEr_ct, isNone_i, isNone_b, isNone_s, isNone_l, isNone_t, iL_app, iL_len, iL_rep, iL_rev, allD_iL, dataL_iL, q_int, q_t, q_l, n_t, n_l, n_int, q_self, n_self, s_to, s_from, s_mid, sl_to, sl_from, sl_mid, add_t, add_l, cat_l, isi_t, isi_b, isi_i, isi_l, isi_s, at_0, at_1, at_2, at_3, at_4, at_5, at_6, ai_0, ai_1, ai_2, ai_3, ai_4, ai_5, ai_6, tgN_a, tgT_a, apd_ok, lc_ok, rg1_ok, rg2_ok, iL_snoc, iL_mapd, lc_const, rngD_len, iL_take, iL_drop, Int.toNat_natCast, dataL_nil, dataL_cons, allD.eq_1, allD.eq_2, ixN_ok, rep_l, tgS_nil, rep_none, rep_none0, List.take_left, List.drop_left, any_false, all_true, eq_self, set_iL, at_last, List.drop_succ_cons, List.drop_zero, List.take_succ_cons, List.take_zero, List.getLast?_cons_cons, List.getLast?_singleton, Int.cast_ofNat_Int, rg3_ok, rngC_len, fRv_l, en, rngC_iL, hg, e3]
  rw [hr]
  simp (disch := (first | with_reducible assumption | omega | (simp only [iL_len, rngD_len, rngC_len, List.length_append, List.length_replicate, List.length_cons, List.length_nil, List.length_map, List.length_take, List.length_drop, List.length_range, SZ] <;> omega) | (simp only [iL_len, rngD_len, rngC_len, List.length_append, List.length_replicate, List.length_cons, List.length_nil, List.length_map, List.length_take, List.length_drop, List.length_range, SZ] at * <;> omega) | fail)) only [↓x_seq, ↓x_nil, ↓x_if, ↓x_set, ↓x_setV, ↓x_asg, ↓x_exp, ↓x_ret, ↓x_retV, ↓x_retN, ↓x_brk, ↓x_cnt, ↓x_for, ↓x_bdy, ↓x_C, ↓x_var, ↓x_dvar, ↓x_v1, ↓x_v2, ↓x_d1L, ↓x_d2L, ↓x_and, ↓x_or, ↓x_not, ↓x_ifx, ↓x_args0, ↓x_args1, ↓x_tup, ↓x_lst, ↓x_call, ↓x_vD, ↓x_dV, ↓x_slP, ↓x_opt0, ↓x_opt1, ↓x_iP, ↓x_rg1, ↓x_rg2, ↓x_rg3, ↓x_en, ↓x_zp, ↓x_rv, ↓x_ch, ↓x_lc, ↓x_aug, ↓x_app, ↓x_put, ↓x_pix, ↓x_try, ↓x_rep, ↓x_raise0, y_sq, y_sif, y_retV, y_setV, y_toV, y_ofV, y_orw, y_and, y_or, y_not, y_v1, y_v2a, y_v2b, y_finW, y_calB, sq_nx, sq_rt, sq_bk, sq_ct, sq_er, sq_no, dataL_d, allD_d, fnD, SZ, List.getElem?_cons_zero, List.getElem?_cons_succ, List.getElem?_nil, List.set_cons_zero, List.set_cons_succ, List.map_cons, List.map_nil, List.length_cons, List.length_nil, List.length_map, List.length_append, List.cons_append, List.nil_append, List.append_nil, Nat.reduceAdd, Nat.reduceSub, Nat.zero_add, Nat.add_zero, Option.map_some, Option.map_none, Option.getD_some, Option.getD_none, Bool.false_eq_true, Bool.true_eq_false, Bool.and_false, Bool.false_and, Bool.and_true, Bool.true_and, Bool.or_false, Bool.false_or, Bool.or_true, Bool.true_or, Bool.not_true, Bool.not_false, if_true, if_false, ite_true, ite_false, decide_eq_true_eq, Bool.and_eq_true, Bool.or_eq_true, Bool.not_eq_true', decide_eq_false_iff_not, decide_true, decide_false, true_and, and_true, reduceCtorEq, Int.reduceNeg, Int.reduceLT, Int.reduceLE, Int.reduceToNat, Nat.reduceLeDiff, Int.reduceAbs, Int.reduceSub, Int.reduceAdd, Int.reduceMul, Int.reduceEq, Nat.reduceMul, Nat.reduceEqDiff, Nat.reduceLT, Nat.reducePow, Int.reducePow, ↓reduceIte, ite_not, sif.eq_1, sif.eq_3, sif.eq_4, andA.eq_1, andA.eq_3, andA.eq_4, orA.eq_1, orA.eq_3, orA.eq_4, notA.eq_1, notA.eq_3, notA.eq_4, ifA.eq_1, ifA.eq_3, ifA.eq_4, orw.eq_1, orw.eq_2, orw.eq_3, v1r.eq_1, v1r.eq_2, v1a.eq_1, v1a.eq_2, v1a.eq_3, v2a.eq_1, v2a.eq_2, v2a.eq_3, v2b.eq_1, v2b.eq_2, v2b.eq_3, dlr.eq_1, dlr.eq_2, d1a.eq_1, d1a.eq_2, d1a.eq_3, d2a.eq_1, d2a.eq_2, d2a.eq_3, d2b.eq_1, d2b.eq_2, d2b.eq_3, ar1.eq_1, ar1.eq_2, ar1.eq_3, ar1.eq_4, ar2.eq_1, ar2.eq_2, ar2.eq_3, tupA.eq_1, tupA.eq_2, tupA.eq_3, lstA.eq_1, lstA.eq_2, lstA.eq_3, calA.eq_1, calA.eq_2, calA.eq_3, calB.eq_1, calB.eq_2, calB.eq_3, wOf.eq_1, varV.eq_1, varR.eq_1, varR.eq_2, varD.eq_1, setA.eq_1, setA.eq_2, setA.eq_4, setA.eq_5, setVA.eq_1, setVA.eq_2, setVA.eq_3, setVA.eq_4, asgA.eq_1, asgA.eq_2, asgA.eq_3, asgA.eq_4, asgB.eq_1, asgB.eq_2, expA.eq_1, expA.eq_2, expA.eq_3, retA.eq_1, retA.eq_2, retA.eq_3, retVA.eq_1, retVA.eq_2, retVA.eq_3, retVA.eq_4, forA.eq_1, forA.eq_2, forA.eq_3, sl0.eq_1, sl0.eq_2, sl0.eq_3, sl1.eq_1, sl1.eq_2, sl2.eq_1, sl2.eq_2, sl3.eq_1, sl3.eq_2, optA.eq_1, bdyA.eq_1, bdyA.eq_2, iPA.eq_1, iPA.eq_2, iPA.eq_3, iPA.eq_5, iPA.eq_6, rg1A.eq_3, rg1A.eq_4, rg2A.eq_3, rg2A.eq_4, rg3A.eq_3, rg3A.eq_4, enA.eq_1, enA.eq_3, enA.eq_4, zpA.eq_1, zpA.eq_3, zpA.eq_4, rvA.eq_1, rvA.eq_3, rvA.eq_4, ch1.eq_1, ch1.eq_2, ch1.eq_3, ch2.eq_1, ch2.eq_2, ch2.eq_3, chA.eq_1, chB.eq_1, chB.eq_2, chB.eq_3, chC.eq_1, chC.eq_2, lc0.eq_2, lc0.eq_3, lcA.eq_1, lcA.eq_2, augA.eq_1, augB.eq_1, augB.eq_3, augB.eq_4, appA.eq_1, appB.eq_1, appB.eq_2, appB.eq_3, putA.eq_1, putA.eq_2, putA.eq_3, putA2.eq_1, putA2.eq_2, putB.eq_1, putC.eq_1, putD.eq_1, pixA.eq_1, pixA2.eq_1, pixB.eq_1, tryA.eq_1, tryB.eq_1, tryB.eq_2, tryB.eq_3, noEr.eq_1, repA.eq_1, repA2.eq_1, repA2.eq_2, repB.eq_1, rdT.eq_1, rdT.eq_2, toV.eq_1, toV.eq_2, toV.eq_3, toV.eq_4, toV.eq_5, toV.eq_6, ofV.eq_1, ofV.eq_2, ofV.eq_4, ofV.eq_5, tOf.eq_1, tOf.eq_2, isL.eq_1, getE.eq_1, getT.eq_1, getT.eq_2, getT.eq_3, setE.eq_1, setT.eq_1, setT.eq_2, setT.eq_3, T.data.eq_1, T.data.eq_2, finW.eq_1, finW.eq_2, finW.eq_3, finW.eq_4, finW.eq_6, fin.eq_1, fin.eq_2, fin.eq_3, tgS.eq_1, wipeE.eq_1, wipeE.eq_2, fAdd.eq_1, fAdd.eq_2, fI2.eq_1, fB2.eq_1, fU.eq_1, fLen.eq_1, fLen.eq_2, fLen.eq_3, fIx.eq_1, fIx.eq_2, fIx.eq_3, fIsN.eq_1, fNotN.eq_1, isNone.eq_1, fInt.eq_1, fInt.eq_2, fInt.eq_3, fLs.eq_1, fLs.eq_2, fTp.eq_1, fTp.eq_2, fSlP.eq_3, wOf_l, wOf_o, tryA_nx, tryA_rt, tryA_bk, tryA_ct, noEr_nx, noEr_rt, noEr_bk, noEr_ct, isNone_i, isNone_b, isNone_s, isNone_l, isNone_t, iL_app, iL_len, iL_rep, iL_rev, allD_iL, dataL_iL, q_int, q_t, q_l, n_t, n_l, n_int, q_self, n_self, s_to, s_from, s_mid, sl_to, sl_from, sl_mid, add_t, add_l, cat_l, isi_t, isi_b, isi_i, isi_l, isi_s, at_0, at_1, at_2, at_3, at_4, at_5, at_6, ai_0, ai_1, ai_2, ai_3, ai_4, ai_5, ai_6, tgN_a, tgT_a, apd_ok, lc_ok, rg1_ok, rg2_ok, iL_snoc, iL_mapd, lc_const, rngD_len, iL_take, iL_drop, Int.toNat_natCast, dataL_nil, dataL_cons, allD.eq_1, allD.eq_2, ixN_ok, rep_l, tgS_nil, rep_none, rep_none0, List.take_left, List.drop_left, any_false, all_true, eq_self, set_iL, at_last, List.drop_succ_cons, List.drop_zero, List.take_succ_cons, List.take_zero, List.getLast?_cons_cons, List.getLast?_singleton, Int.cast_ofNat_Int, rg3_ok, rngC_len, fRv_l]
theorem unpack_er (os : List Int) (s n : Nat) (hl : os.length < 100000) (hs : s < 100) (hn : n < 100000) (hk : 8 * os.length < s + 7 * n) : f_unpack [.d (.tuple (iL os)), .d (.int s), .d (.int n)] = .er "BadText" none [.d (.tuple (iL os)), .d (.int s), .d (.int n)] := up_er os s n hl hs hn hk _
theorem PP_get (row : List Int) (s p : Nat) : (p < s → (PP row s).getD p 0 = 0) ∧ (s ≤ p → p < s + 7 * row.length → (PP row s).getD p 0 = bit (row.getD ((p - s) / 7) 0) ((p - s) % 7)) ∧ (s + 7 * row.length ≤ p → (PP row s).getD p 0 = 0) := by
  have hb := PB_len row s
  refine ⟨fun h => ?_, fun h h2 => ?_, fun h => ?_⟩
  · rw [List.getD_eq_getElem?_getD]
    unfold PP PB
    rw [List.getElem?_append_left (by simp; omega), List.getElem?_append_left (by simp; omega), List.getElem?_replicate]
    split <;> rfl
  · rw [List.getD_eq_getElem?_getD]
    unfold PP
    rw [List.getElem?_append_left (by omega)]
    unfold PB
    rw [List.getElem?_append_right (by simp; omega), List.length_replicate, fl_get (by omega) (bitsOf_len 7) _ _ (by omega)]
    unfold bitsOf
    rw [List.getElem?_map, List.getElem?_range (Nat.mod_lt _ (by omega))]
    rfl
  · rw [List.getD_eq_getElem?_getD]
    unfold PP
    rw [List.getElem?_append_right (by omega), List.getElem?_replicate]
    split <;> rfl
theorem UN_row (row : List Int) (s n : Nat) (hn : n ≤ row.length) (hr : ∀ x ∈ row, 0 ≤ x ∧ x < 128) : UN (PP row s) s n = row.take n := by
  apply List.ext_getElem?
  intro i
  by_cases hi : i < n
  · unfold UN
    rw [List.getElem?_map, List.getElem?_range hi, List.getElem?_take_of_lt hi]
    have hd : ((PP row s).drop (s + 7 * i)).take 7 = bitsOf 7 (row.getD i 0) := by
      rw [← fl_piece (bitsOf_len 7) row i (by omega)]
      unfold PP PB
      have a1 : (List.replicate s (0 : Int) ++ (row.map (bitsOf 7)).flatten ++ List.replicate ((-((List.replicate s (0 : Int) ++ (row.map (bitsOf 7)).flatten).length : Int)) % 8).toNat 0).drop (s + 7 * i) = (row.map (bitsOf 7)).flatten.drop (7 * i) ++ List.replicate ((-((List.replicate s (0 : Int) ++ (row.map (bitsOf 7)).flatten).length : Int)) % 8).toNat 0 := by
        rw [List.append_assoc, ← List.drop_drop, List.drop_left' (by simp), List.drop_append_of_le_length (by rw [fl7_len]; omega)]
      rw [a1, List.take_append_of_le_length (by rw [List.length_drop, fl7_len]; omega)]
    have hx : 0 ≤ row.getD i 0 ∧ row.getD i 0 < 2 ^ 7 := getD_in (l := row) (P := fun x => 0 ≤ x ∧ x < 2 ^ 7) hr (by decide)
    show some (LB (((PP row s).drop (s + 7 * i)).take 7)) = _
    rw [hd, LB_bitsOf 7 _ hx.1 hx.2, List.getD_eq_getElem?_getD, List.getElem?_eq_getElem (by omega)]
    rfl
  · rw [List.getElem?_eq_none (by simp [UN]; omega), List.getElem?_eq_none (by rw [List.length_take]; omega)]

/-! ## the law's own packing -/
theorem half_step (x : Int) (i : Nat) : x / 2 ^ i / 2 = x / 2 ^ (i + 1) := by
  rw [Int.pow_succ, Int.ediv_ediv_of_nonneg (Int.pow_nonneg (by omega))]
theorem bitsOf_snoc (m : Nat) (x : Int) : bitsOf m x ++ [bit x m] = bitsOf (m + 1) x := by
  unfold bitsOf
  rw [List.range_succ, List.map_append]
  rfl
theorem seven (r q b n1 n2 n3 n4 sp : Option T) (B : List Int) (x : Int) (hB : B.length < 100000) : ∃ sp' lf, forL (bdy (tgN 3) (sSeq (sExp (vApp (dVar 2) (dV (v2 fMod (vVar 5) (vC (.int 2)))))) (sSetV 5 (v2 fDiv (vVar 5) (vC (.int 2)))))) (rngD 0 7) [r, q, some (.l ((iL B).map T.d)), sp, b, some (.d (.int x)), n1, n2, n3, n4] = .nx [r, q, some (.l ((iL (B ++ bitsOf 7 x)).map T.d)), sp', b, lf, n1, n2, n3, n4] := by
  obtain ⟨e', h1, sp', h2⟩ := for_inv (bd := bdy (tgN 3) (sSeq (sExp (vApp (dVar 2) (dV (v2 fMod (vVar 5) (vC (.int 2)))))) (sSetV 5 (v2 fDiv (vVar 5) (vC (.int 2)))))) (xs := rngD 0 7) (e := [r, q, some (.l ((iL B).map T.d)), sp, b, some (.d (.int x)), n1, n2, n3, n4])
    (fun i e => ∃ sp', e = [r, q, some (.l ((iL (B ++ bitsOf i x)).map T.d)), sp', b, some (.d (.int (x / 2 ^ i))), n1, n2, n3, n4]) ⟨sp, by simp [bitsOf]⟩ (by
    intro i y e hy ⟨h', he⟩
    obtain ⟨hi, rfl⟩ := rngD_get hy
    subst he
    have hl : (B ++ bitsOf i x).length < 16777216 := by rw [List.length_append, bitsOf_len]; omega
    have e1 : B ++ bitsOf i x ++ [x / 2 ^ i % 2] = B ++ bitsOf (i + 1) x := by rw [List.append_assoc]; exact congrArg (B ++ ·) (bitsOf_snoc i x)
    simp (disch := (first | with_reducible assumption | omega | (simp only [iL_len, rngD_len, rngC_len, List.length_append, List.length_replicate, List.length_cons, List.length_nil, List.length_map, List.length_take, List.length_drop, List.length_range, SZ] <;> omega) | (simp only [iL_len, rngD_len, rngC_len, List.length_append, List.length_replicate, List.length_cons, List.length_nil, List.length_map, List.length_take, List.length_drop, List.length_range, SZ] at * <;> omega) | fail)) only [↓x_seq, ↓x_nil, ↓x_if, ↓x_set, ↓x_setV, ↓x_asg, ↓x_exp, ↓x_ret, ↓x_retV, ↓x_retN, ↓x_brk, ↓x_cnt, ↓x_for, ↓x_bdy, ↓x_C, ↓x_var, ↓x_dvar, ↓x_v1, ↓x_v2, ↓x_d1L, ↓x_d2L, ↓x_and, ↓x_or, ↓x_not, ↓x_ifx, ↓x_args0, ↓x_args1, ↓x_tup, ↓x_lst, ↓x_call, ↓x_vD, ↓x_dV, ↓x_slP, ↓x_opt0, ↓x_opt1, ↓x_iP, ↓x_rg1, ↓x_rg2, ↓x_rg3, ↓x_en, ↓x_zp, ↓x_rv, ↓x_ch, ↓x_lc, ↓x_aug, ↓x_app, ↓x_put, ↓x_pix, ↓x_try, ↓x_rep, ↓x_raise0, y_sq, y_sif, y_retV, y_setV, y_toV, y_ofV, y_orw, y_and, y_or, y_not, y_v1, y_v2a, y_v2b, y_finW, y_calB, sq_nx, sq_rt, sq_bk, sq_ct, sq_er, sq_no, dataL_d, allD_d, fnD, SZ, List.getElem?_cons_zero, List.getElem?_cons_succ, List.getElem?_nil, List.set_cons_zero, List.set_cons_succ, List.map_cons, List.map_nil, List.length_cons, List.length_nil, List.length_map, List.length_append, List.cons_append, List.nil_append, List.append_nil, Nat.reduceAdd, Nat.reduceSub, Nat.zero_add, Nat.add_zero, Option.map_some, Option.map_none, Option.getD_some, Option.getD_none, Bool.false_eq_true, Bool.true_eq_false, Bool.and_false, Bool.false_and, Bool.and_true, Bool.true_and, Bool.or_false, Bool.false_or, Bool.or_true, Bool.true_or, Bool.not_true, Bool.not_false, if_true, if_false, ite_true, ite_false, decide_eq_true_eq, Bool.and_eq_true, Bool.or_eq_true, Bool.not_eq_true', decide_eq_false_iff_not, decide_true, decide_false, true_and, and_true, reduceCtorEq, Int.reduceNeg, Int.reduceLT, Int.reduceLE, Int.reduceToNat, Nat.reduceLeDiff, Int.reduceAbs, Int.reduceSub, Int.reduceAdd, Int.reduceMul, Int.reduceEq, Nat.reduceMul, Nat.reduceEqDiff, Nat.reduceLT, Nat.reducePow, Int.reducePow, ↓reduceIte, ite_not, sif.eq_1, sif.eq_3, sif.eq_4, andA.eq_1, andA.eq_3, andA.eq_4, orA.eq_1, orA.eq_3, orA.eq_4, notA.eq_1, notA.eq_3, notA.eq_4, ifA.eq_1, ifA.eq_3, ifA.eq_4, orw.eq_1, orw.eq_2, orw.eq_3, v1r.eq_1, v1r.eq_2, v1a.eq_1, v1a.eq_2, v1a.eq_3, v2a.eq_1, v2a.eq_2, v2a.eq_3, v2b.eq_1, v2b.eq_2, v2b.eq_3, dlr.eq_1, dlr.eq_2, d1a.eq_1, d1a.eq_2, d1a.eq_3, d2a.eq_1, d2a.eq_2, d2a.eq_3, d2b.eq_1, d2b.eq_2, d2b.eq_3, ar1.eq_1, ar1.eq_2, ar1.eq_3, ar1.eq_4, ar2.eq_1, ar2.eq_2, ar2.eq_3, tupA.eq_1, tupA.eq_2, tupA.eq_3, lstA.eq_1, lstA.eq_2, lstA.eq_3, calA.eq_1, calA.eq_2, calA.eq_3, calB.eq_1, calB.eq_2, calB.eq_3, wOf.eq_1, varV.eq_1, varR.eq_1, varR.eq_2, varD.eq_1, setA.eq_1, setA.eq_2, setA.eq_4, setA.eq_5, setVA.eq_1, setVA.eq_2, setVA.eq_3, setVA.eq_4, asgA.eq_1, asgA.eq_2, asgA.eq_3, asgA.eq_4, asgB.eq_1, asgB.eq_2, expA.eq_1, expA.eq_2, expA.eq_3, retA.eq_1, retA.eq_2, retA.eq_3, retVA.eq_1, retVA.eq_2, retVA.eq_3, retVA.eq_4, forA.eq_1, forA.eq_2, forA.eq_3, sl0.eq_1, sl0.eq_2, sl0.eq_3, sl1.eq_1, sl1.eq_2, sl2.eq_1, sl2.eq_2, sl3.eq_1, sl3.eq_2, optA.eq_1, bdyA.eq_1, bdyA.eq_2, iPA.eq_1, iPA.eq_2, iPA.eq_3, iPA.eq_5, iPA.eq_6, rg1A.eq_3, rg1A.eq_4, rg2A.eq_3, rg2A.eq_4, rg3A.eq_3, rg3A.eq_4, enA.eq_1, enA.eq_3, enA.eq_4, zpA.eq_1, zpA.eq_3, zpA.eq_4, rvA.eq_1, rvA.eq_3, rvA.eq_4, ch1.eq_1, ch1.eq_2, ch1.eq_3, ch2.eq_1, ch2.eq_2, ch2.eq_3, chA.eq_1, chB.eq_1, chB.eq_2, chB.eq_3, chC.eq_1, chC.eq_2, lc0.eq_2, lc0.eq_3, lcA.eq_1, lcA.eq_2, augA.eq_1, augB.eq_1, augB.eq_3, augB.eq_4, appA.eq_1, appB.eq_1, appB.eq_2, appB.eq_3, putA.eq_1, putA.eq_2, putA.eq_3, putA2.eq_1, putA2.eq_2, putB.eq_1, putC.eq_1, putD.eq_1, pixA.eq_1, pixA2.eq_1, pixB.eq_1, tryA.eq_1, tryB.eq_1, tryB.eq_2, tryB.eq_3, noEr.eq_1, repA.eq_1, repA2.eq_1, repA2.eq_2, repB.eq_1, rdT.eq_1, rdT.eq_2, toV.eq_1, toV.eq_2, toV.eq_3, toV.eq_4, toV.eq_5, toV.eq_6, ofV.eq_1, ofV.eq_2, ofV.eq_4, ofV.eq_5, tOf.eq_1, tOf.eq_2, isL.eq_1, getE.eq_1, getT.eq_1, getT.eq_2, getT.eq_3, setE.eq_1, setT.eq_1, setT.eq_2, setT.eq_3, T.data.eq_1, T.data.eq_2, finW.eq_1, finW.eq_2, finW.eq_3, finW.eq_4, finW.eq_6, fin.eq_1, fin.eq_2, fin.eq_3, tgS.eq_1, wipeE.eq_1, wipeE.eq_2, fAdd.eq_1, fAdd.eq_2, fI2.eq_1, fB2.eq_1, fU.eq_1, fLen.eq_1, fLen.eq_2, fLen.eq_3, fIx.eq_1, fIx.eq_2, fIx.eq_3, fIsN.eq_1, fNotN.eq_1, isNone.eq_1, fInt.eq_1, fInt.eq_2, fInt.eq_3, fLs.eq_1, fLs.eq_2, fTp.eq_1, fTp.eq_2, fSlP.eq_3, wOf_l, wOf_o, tryA_nx, tryA_rt, tryA_bk, tryA_ct, noEr_nx, noEr_rt, noEr_bk, noEr_ct, isNone_i, isNone_b, isNone_s, isNone_l, isNone_t, iL_app, iL_len, iL_rep, iL_rev, allD_iL, dataL_iL, q_int, q_t, q_l, n_t, n_l, n_int, q_self, n_self, s_to, s_from, s_mid, sl_to, sl_from, sl_mid, add_t, add_l, cat_l, isi_t, isi_b, isi_i, isi_l, isi_s, at_0, at_1, at_2, at_3, at_4, at_5, at_6, ai_0, ai_1, ai_2, ai_3, ai_4, ai_5, ai_6, tgN_a, tgT_a, apd_ok, lc_ok, rg1_ok, rg2_ok, iL_snoc, iL_mapd, lc_const, rngD_len, iL_take, iL_drop, Int.toNat_natCast, dataL_nil, dataL_cons, allD.eq_1, allD.eq_2, ixN_ok, rep_l, tgS_nil, rep_none, rep_none0, List.take_left, List.drop_left, any_false, all_true, eq_self, set_iL, at_last, List.drop_succ_cons, List.drop_zero, List.take_succ_cons, List.take_zero, List.getLast?_cons_cons, List.getLast?_singleton, Int.cast_ofNat_Int, rg3_ok, rngC_len, fRv_l, half_step, e1]
    exact ⟨_, rfl, _, rfl⟩)
  rw [rngD_len] at h2
  exact ⟨sp', _, by rw [h1, h2]⟩
theorem eight (s1 s2 s3 s4 s5 s6 s7 s8 bt : Option T) (c : List Int) : ∃ bt', forL (bdy (tgN 9) (sSetV 8 (v2 fAdd (v2 fMul (vC (.int 2)) (vVar 8)) (vVar 9)))) (iL c.reverse) [s1, s2, s3, s4, s5, s6, s7, s8, some (.d (.int 0)), bt] = .nx [s1, s2, s3, s4, s5, s6, s7, s8, some (.d (.int (LB c))), bt'] := by
  obtain ⟨e', h1, bt', h2⟩ := for_inv (bd := bdy (tgN 9) (sSetV 8 (v2 fAdd (v2 fMul (vC (.int 2)) (vVar 8)) (vVar 9)))) (xs := iL c.reverse) (e := [s1, s2, s3, s4, s5, s6, s7, s8, some (.d (.int 0)), bt])
    (fun i e => ∃ bt', e = [s1, s2, s3, s4, s5, s6, s7, s8, some (.d (.int (LB (c.reverse.take i).reverse))), bt']) ⟨bt, rfl⟩ (by
    intro i y e hy ⟨h', he⟩
    subst he
    rw [iL_get] at hy
    obtain ⟨b, hb, rfl⟩ := Option.map_eq_some_iff.mp hy
    have e : (c.reverse.take (i + 1)).reverse = b :: (c.reverse.take i).reverse := by
      rw [List.take_add_one, hb]
      simp
    rw [e, LB]
    simp (disch := (first | with_reducible assumption | omega | (simp only [iL_len, rngD_len, rngC_len, List.length_append, List.length_replicate, List.length_cons, List.length_nil, List.length_map, List.length_take, List.length_drop, List.length_range, SZ] <;> omega) | (simp only [iL_len, rngD_len, rngC_len, List.length_append, List.length_replicate, List.length_cons, List.length_nil, List.length_map, List.length_take, List.length_drop, List.length_range, SZ] at * <;> omega) | fail)) only [↓x_seq, ↓x_nil, ↓x_if, ↓x_set, ↓x_setV, ↓x_asg, ↓x_exp, ↓x_ret, ↓x_retV, ↓x_retN, ↓x_brk, ↓x_cnt, ↓x_for, ↓x_bdy, ↓x_C, ↓x_var, ↓x_dvar, ↓x_v1, ↓x_v2, ↓x_d1L, ↓x_d2L, ↓x_and, ↓x_or, ↓x_not, ↓x_ifx, ↓x_args0, ↓x_args1, ↓x_tup, ↓x_lst, ↓x_call, ↓x_vD, ↓x_dV, ↓x_slP, ↓x_opt0, ↓x_opt1, ↓x_iP, ↓x_rg1, ↓x_rg2, ↓x_rg3, ↓x_en, ↓x_zp, ↓x_rv, ↓x_ch, ↓x_lc, ↓x_aug, ↓x_app, ↓x_put, ↓x_pix, ↓x_try, ↓x_rep, ↓x_raise0, y_sq, y_sif, y_retV, y_setV, y_toV, y_ofV, y_orw, y_and, y_or, y_not, y_v1, y_v2a, y_v2b, y_finW, y_calB, sq_nx, sq_rt, sq_bk, sq_ct, sq_er, sq_no, dataL_d, allD_d, fnD, SZ, List.getElem?_cons_zero, List.getElem?_cons_succ, List.getElem?_nil, List.set_cons_zero, List.set_cons_succ, List.map_cons, List.map_nil, List.length_cons, List.length_nil, List.length_map, List.length_append, List.cons_append, List.nil_append, List.append_nil, Nat.reduceAdd, Nat.reduceSub, Nat.zero_add, Nat.add_zero, Option.map_some, Option.map_none, Option.getD_some, Option.getD_none, Bool.false_eq_true, Bool.true_eq_false, Bool.and_false, Bool.false_and, Bool.and_true, Bool.true_and, Bool.or_false, Bool.false_or, Bool.or_true, Bool.true_or, Bool.not_true, Bool.not_false, if_true, if_false, ite_true, ite_false, decide_eq_true_eq, Bool.and_eq_true, Bool.or_eq_true, Bool.not_eq_true', decide_eq_false_iff_not, decide_true, decide_false, true_and, and_true, reduceCtorEq, Int.reduceNeg, Int.reduceLT, Int.reduceLE, Int.reduceToNat, Nat.reduceLeDiff, Int.reduceAbs, Int.reduceSub, Int.reduceAdd, Int.reduceMul, Int.reduceEq, Nat.reduceMul, Nat.reduceEqDiff, Nat.reduceLT, Nat.reducePow, Int.reducePow, ↓reduceIte, ite_not, sif.eq_1, sif.eq_3, sif.eq_4, andA.eq_1, andA.eq_3, andA.eq_4, orA.eq_1, orA.eq_3, orA.eq_4, notA.eq_1, notA.eq_3, notA.eq_4, ifA.eq_1, ifA.eq_3, ifA.eq_4, orw.eq_1, orw.eq_2, orw.eq_3, v1r.eq_1, v1r.eq_2, v1a.eq_1, v1a.eq_2, v1a.eq_3, v2a.eq_1, v2a.eq_2, v2a.eq_3, v2b.eq_1, v2b.eq_2, v2b.eq_3, dlr.eq_1, dlr.eq_2, d1a.eq_1, d1a.eq_2, d1a.eq_3, d2a.eq_1, d2a.eq_2, d2a.eq_3, d2b.eq_1, d2b.eq_2, d2b.eq_3, ar1.eq_1, ar1.eq_2, ar1.eq_3, ar1.eq_4, ar2.eq_1, ar2.eq_2, ar2.eq_3, tupA.eq_1, tupA.eq_2, tupA.eq_3, lstA.eq_1, lstA.eq_2, lstA.eq_3, calA.eq_1, calA.eq_2, calA.eq_3, calB.eq_1, calB.eq_2, calB.eq_3, wOf.eq_1, varV.eq_1, varR.eq_1, varR.eq_2, varD.eq_1, setA.eq_1, setA.eq_2, setA.eq_4, setA.eq_5, setVA.eq_1, setVA.eq_2, setVA.eq_3, setVA.eq_4, asgA.eq_1, asgA.eq_2, asgA.eq_3, asgA.eq_4, asgB.eq_1, asgB.eq_2, expA.eq_1, expA.eq_2, expA.eq_3, retA.eq_1, retA.eq_2, retA.eq_3, retVA.eq_1, retVA.eq_2, retVA.eq_3, retVA.eq_4, forA.eq_1, forA.eq_2, forA.eq_3, sl0.eq_1, sl0.eq_2, sl0.eq_3, sl1.eq_1, sl1.eq_2, sl2.eq_1, sl2.eq_2, sl3.eq_1, sl3.eq_2, optA.eq_1, bdyA.eq_1, bdyA.eq_2, iPA.eq_1, iPA.eq_2, iPA.eq_3, iPA.eq_5, iPA.eq_6, rg1A.eq_3, rg1A.eq_4, rg2A.eq_3, rg2A.eq_4, rg3A.eq_3, rg3A.eq_4, enA.eq_1, enA.eq_3, enA.eq_4, zpA.eq_1, zpA.eq_3, zpA.eq_4, rvA.eq_1, rvA.eq_3, rvA.eq_4, ch1.eq_1, ch1.eq_2, ch1.eq_3, ch2.eq_1, ch2.eq_2, ch2.eq_3, chA.eq_1, chB.eq_1, chB.eq_2, chB.eq_3, chC.eq_1, chC.eq_2, lc0.eq_2, lc0.eq_3, lcA.eq_1, lcA.eq_2, augA.eq_1, augB.eq_1, augB.eq_3, augB.eq_4, appA.eq_1, appB.eq_1, appB.eq_2, appB.eq_3, putA.eq_1, putA.eq_2, putA.eq_3, putA2.eq_1, putA2.eq_2, putB.eq_1, putC.eq_1, putD.eq_1, pixA.eq_1, pixA2.eq_1, pixB.eq_1, tryA.eq_1, tryB.eq_1, tryB.eq_2, tryB.eq_3, noEr.eq_1, repA.eq_1, repA2.eq_1, repA2.eq_2, repB.eq_1, rdT.eq_1, rdT.eq_2, toV.eq_1, toV.eq_2, toV.eq_3, toV.eq_4, toV.eq_5, toV.eq_6, ofV.eq_1, ofV.eq_2, ofV.eq_4, ofV.eq_5, tOf.eq_1, tOf.eq_2, isL.eq_1, getE.eq_1, getT.eq_1, getT.eq_2, getT.eq_3, setE.eq_1, setT.eq_1, setT.eq_2, setT.eq_3, T.data.eq_1, T.data.eq_2, finW.eq_1, finW.eq_2, finW.eq_3, finW.eq_4, finW.eq_6, fin.eq_1, fin.eq_2, fin.eq_3, tgS.eq_1, wipeE.eq_1, wipeE.eq_2, fAdd.eq_1, fAdd.eq_2, fI2.eq_1, fB2.eq_1, fU.eq_1, fLen.eq_1, fLen.eq_2, fLen.eq_3, fIx.eq_1, fIx.eq_2, fIx.eq_3, fIsN.eq_1, fNotN.eq_1, isNone.eq_1, fInt.eq_1, fInt.eq_2, fInt.eq_3, fLs.eq_1, fLs.eq_2, fTp.eq_1, fTp.eq_2, fSlP.eq_3, wOf_l, wOf_o, tryA_nx, tryA_rt, tryA_bk, tryA_ct, noEr_nx, noEr_rt, noEr_bk, noEr_ct, isNone_i, isNone_b, isNone_s, isNone_l, isNone_t, iL_app, iL_len, iL_rep, iL_rev, allD_iL, dataL_iL, q_int, q_t, q_l, n_t, n_l, n_int, q_self, n_self, s_to, s_from, s_mid, sl_to, sl_from, sl_mid, add_t, add_l, cat_l, isi_t, isi_b, isi_i, isi_l, isi_s, at_0, at_1, at_2, at_3, at_4, at_5, at_6, ai_0, ai_1, ai_2, ai_3, ai_4, ai_5, ai_6, tgN_a, tgT_a, apd_ok, lc_ok, rg1_ok, rg2_ok, iL_snoc, iL_mapd, lc_const, rngD_len, iL_take, iL_drop, Int.toNat_natCast, dataL_nil, dataL_cons, allD.eq_1, allD.eq_2, ixN_ok, rep_l, tgS_nil, rep_none, rep_none0, List.take_left, List.drop_left, any_false, all_true, eq_self, set_iL, at_last, List.drop_succ_cons, List.drop_zero, List.take_succ_cons, List.take_zero, List.getLast?_cons_cons, List.getLast?_singleton, Int.cast_ofNat_Int, rg3_ok, rngC_len, fRv_l]
    exact ⟨_, rfl, _, rfl⟩)
  rw [iL_len, List.take_length, List.reverse_reverse] at h2
  exact ⟨bt', by rw [h1, h2]⟩
theorem LB_zeros : ∀ (c : List Int) (n : Nat), LB (c ++ List.replicate n 0) = LB c
  | [], n => by
    show LB (List.replicate n 0) = 0
    induction n with
    | zero => rfl
    | succ n ih => rw [List.replicate_succ, LB, ih]; rfl
  | b :: c, n => by rw [List.cons_append, LB, LB, LB_zeros c n]
theorem CH_pad (row : List Int) (s : Nat) : (List.range (((PB row s).length + 7) / 8)).map (fun j => LB (((PB row s).drop (8 * j)).take 8)) = CH (PP row s) := by
  unfold CH
  have e : (PP row s).length / 8 = ((PB row s).length + 7) / 8 := by rw [PP_len, PB_len]; omega
  rw [e]
  apply List.map_congr_left
  intro j _
  unfold PP
  rw [List.drop_append, List.take_append, List.drop_replicate, List.take_replicate, LB_zeros]
theorem law_packed_ok (row : List Int) (s : Nat) (hl : row.length < 1000) (hs : s < 8) : f__law_packed [.d (.list (iL row)), .d (.int s)] = .rt (.l ((iL (CH (PP row s))).map T.d)) [.d (.list (iL row)), .d (.int s)] := by
  unfold f__law_packed
  simp (disch := (first | with_reducible assumption | omega | (simp only [iL_len, rngD_len, rngC_len, List.length_append, List.length_replicate, List.length_cons, List.length_nil, List.length_map, List.length_take, List.length_drop, List.length_range, SZ] <;> omega) | (simp only [iL_len, rngD_len, rngC_len, List.length_append, List.length_replicate, List.length_cons, List.length_nil, List.length_map, List.length_take, List.length_drop, List.length_range, SZ] at * <;> omega) | fail)) only [↓x_seq, ↓x_nil, ↓x_if, ↓x_set, ↓x_setV, ↓x_asg, ↓x_exp, ↓x_ret, ↓x_retV, ↓x_retN, ↓x_brk, ↓x_cnt, ↓x_for, ↓x_bdy, ↓x_C, ↓x_var, ↓x_dvar, ↓x_v1, ↓x_v2, ↓x_d1L, ↓x_d2L, ↓x_and, ↓x_or, ↓x_not, ↓x_ifx, ↓x_args0, ↓x_args1, ↓x_tup, ↓x_lst, ↓x_call, ↓x_vD, ↓x_dV, ↓x_slP, ↓x_opt0, ↓x_opt1, ↓x_iP, ↓x_rg1, ↓x_rg2, ↓x_rg3, ↓x_en, ↓x_zp, ↓x_rv, ↓x_ch, ↓x_lc, ↓x_aug, ↓x_app, ↓x_put, ↓x_pix, ↓x_try, ↓x_rep, ↓x_raise0, y_sq, y_sif, y_retV, y_setV, y_toV, y_ofV, y_orw, y_and, y_or, y_not, y_v1, y_v2a, y_v2b, y_finW, y_calB, sq_nx, sq_rt, sq_bk, sq_ct, sq_er, sq_no, dataL_d, allD_d, fnD, SZ, List.getElem?_cons_zero, List.getElem?_cons_succ, List.getElem?_nil, List.set_cons_zero, List.set_cons_succ, List.map_cons, List.map_nil, List.length_cons, List.length_nil, List.length_map, List.length_append, List.cons_append, List.nil_append, List.append_nil, Nat.reduceAdd, Nat.reduceSub, Nat.zero_add, Nat.add_zero, Option.map_some, Option.map_none, Option.getD_some, Option.getD_none, Bool.false_eq_true, Bool.true_eq_false, Bool.and_false, Bool.false_and, Bool.and_true, Bool.true_and, Bool.or_false, Bool.false_or, Bool.or_true, Bool.true_or, Bool.not_true, Bool.not_false, if_true, if_false, ite_true, ite_false, decide_eq_true_eq, Bool.and_eq_true, Bool.or_eq_true, Bool.not_eq_true', decide_eq_false_iff_not, decide_true, decide_false, true_and, and_true, reduceCtorEq, Int.reduceNeg, Int.reduceLT, Int.reduceLE, Int.reduceToNat, Nat.reduceLeDiff, Int.reduceAbs, Int.reduceSub, Int.reduceAdd, Int.reduceMul, Int.reduceEq, Nat.reduceMul, Nat.reduceEqDiff, Nat.reduceLT, Nat.reducePow, Int.reducePow, ↓reduceIte, ite_not, sif.eq_1, sif.eq_3, sif.eq_4, andA.eq_1, andA.eq_3, andA.eq_4, orA.eq_1, orA.eq_3, orA.eq_4, notA.eq_1, notA.eq_3, notA.eq_4, ifA.eq_1, ifA.eq_3, ifA.eq_4, orw.eq_1, orw.eq_2, orw.eq_3, v1r.eq_1, v1r.eq_2, v1a.eq_1, v1a.eq_2, v1a.eq_3, v2a.eq_1, v2a.eq_2, v2a.eq_3, v2b.eq_1, v2b.eq_2, v2b.eq_3, dlr.eq_1, dlr.eq_2, d1a.eq_1, d1a.eq_2, d1a.eq_3, d2a.eq_1, d2a.eq_2, d2a.eq_3, d2b.eq_1, d2b.eq_2, d2b.eq_3, ar1.eq_1, ar1.eq_2, ar1.eq_3, ar1.eq_4, ar2.eq_1, ar2.eq_2, ar2.eq_3, tupA.eq_1, tupA.eq_2, tupA.eq_3, lstA.eq_1, lstA.eq_2, lstA.eq_3, calA.eq_1, calA.eq_2, calA.eq_3, calB.eq_1, calB.eq_2, calB.eq_3, wOf.eq_1, varV.eq_1, varR.eq_1, varR.eq_2, varD.eq_1, setA.eq_1, setA.eq_2, setA.eq_4, setA.eq_5, setVA.eq_1, setVA.eq_2, setVA.eq_3, setVA.eq_4, asgA.eq_1, asgA.eq_2, asgA.eq_3, asgA.eq_4, asgB.eq_1, asgB.eq_2, expA.eq_1, expA.eq_2, expA.eq_3, retA.eq_1, retA.eq_2, retA.eq_3, retVA.eq_1, retVA.eq_2, retVA.eq_3, retVA.eq_4, forA.eq_1, forA.eq_2, forA.eq_3, sl0.eq_1, sl0.eq_2, sl0.eq_3, sl1.eq_1, sl1.eq_2, sl2.eq_1, sl2.eq_2, sl3.eq_1, sl3.eq_2, optA.eq_1, bdyA.eq_1, bdyA.eq_2, iPA.eq_1, iPA.eq_2, iPA.eq_3, iPA.eq_5, iPA.eq_6, rg1A.eq_3, rg1A.eq_4, rg2A.eq_3, rg2A.eq_4, rg3A.eq_3, rg3A.eq_4, enA.eq_1, enA.eq_3, enA.eq_4, zpA.eq_1, zpA.eq_3, zpA.eq_4, rvA.eq_1, rvA.eq_3, rvA.eq_4, ch1.eq_1, ch1.eq_2, ch1.eq_3, ch2.eq_1, ch2.eq_2, ch2.eq_3, chA.eq_1, chB.eq_1, chB.eq_2, chB.eq_3, chC.eq_1, chC.eq_2, lc0.eq_2, lc0.eq_3, lcA.eq_1, lcA.eq_2, augA.eq_1, augB.eq_1, augB.eq_3, augB.eq_4, appA.eq_1, appB.eq_1, appB.eq_2, appB.eq_3, putA.eq_1, putA.eq_2, putA.eq_3, putA2.eq_1, putA2.eq_2, putB.eq_1, putC.eq_1, putD.eq_1, pixA.eq_1, pixA2.eq_1, pixB.eq_1, tryA.eq_1, tryB.eq_1, tryB.eq_2, tryB.eq_3, noEr.eq_1, repA.eq_1, repA2.eq_1, repA2.eq_2, repB.eq_1, rdT.eq_1, rdT.eq_2, toV.eq_1, toV.eq_2, toV.eq_3, toV.eq_4, toV.eq_5, toV.eq_6, ofV.eq_1, ofV.eq_2, ofV.eq_4, ofV.eq_5, tOf.eq_1, tOf.eq_2, isL.eq_1, getE.eq_1, getT.eq_1, getT.eq_2, getT.eq_3, setE.eq_1, setT.eq_1, setT.eq_2, setT.eq_3, T.data.eq_1, T.data.eq_2, finW.eq_1, finW.eq_2, finW.eq_3, finW.eq_4, finW.eq_6, fin.eq_1, fin.eq_2, fin.eq_3, tgS.eq_1, wipeE.eq_1, wipeE.eq_2, fAdd.eq_1, fAdd.eq_2, fI2.eq_1, fB2.eq_1, fU.eq_1, fLen.eq_1, fLen.eq_2, fLen.eq_3, fIx.eq_1, fIx.eq_2, fIx.eq_3, fIsN.eq_1, fNotN.eq_1, isNone.eq_1, fInt.eq_1, fInt.eq_2, fInt.eq_3, fLs.eq_1, fLs.eq_2, fTp.eq_1, fTp.eq_2, fSlP.eq_3, wOf_l, wOf_o, tryA_nx, tryA_rt, tryA_bk, tryA_ct, noEr_nx, noEr_rt, noEr_bk, noEr_ct, isNone_i, isNone_b, isNone_s, isNone_l, isNone_t, iL_app, iL_len, iL_rep, iL_rev, allD_iL, dataL_iL, q_int, q_t, q_l, n_t, n_l, n_int, q_self, n_self, s_to, s_from, s_mid, sl_to, sl_from, sl_mid, add_t, add_l, cat_l, isi_t, isi_b, isi_i, isi_l, isi_s, at_0, at_1, at_2, at_3, at_4, at_5, at_6, ai_0, ai_1, ai_2, ai_3, ai_4, ai_5, ai_6, tgN_a, tgT_a, apd_ok, lc_ok, rg1_ok, rg2_ok, iL_snoc, iL_mapd, lc_const, rngD_len, iL_take, iL_drop, Int.toNat_natCast, dataL_nil, dataL_cons, allD.eq_1, allD.eq_2, ixN_ok, rep_l, tgS_nil, rep_none, rep_none0, List.take_left, List.drop_left, any_false, all_true, eq_self, set_iL, at_last, List.drop_succ_cons, List.drop_zero, List.take_succ_cons, List.take_zero, List.getLast?_cons_cons, List.getLast?_singleton, Int.cast_ofNat_Int, rg3_ok, rngC_len, fRv_l, b__law_packed]
  refine for_fin (fun i e => ∃ x y z, e = [some (.d (.list (iL row))), some (.d (.int s)), some (.l ((iL (List.replicate s 0 ++ ((row.take i).map (bitsOf 7)).flatten)).map T.d)), x, y, z, none, none, none, none]) ⟨none, none, none, by simp⟩ ?_ ?_
  · intro i x e hx ⟨a, b, c, he⟩
    rw [iL_get] at hx
    obtain ⟨v, hv, rfl⟩ := Option.map_eq_some_iff.mp hx
    have hi : i < row.length := (List.getElem?_eq_some_iff.mp hv).1
    subst he
    obtain ⟨sp, lf, hq⟩ := seven (some (.d (.list (iL row)))) (some (.d (.int s))) (some (.d (.int v))) none none none none a (List.replicate s 0 ++ ((row.take i).map (bitsOf 7)).flatten) v (by
      rw [List.length_append, List.length_replicate, fl7_len, List.length_take]; omega)
    have e1 : List.replicate s 0 ++ ((row.take i).map (bitsOf 7)).flatten ++ bitsOf 7 v = List.replicate s 0 ++ ((row.take (i + 1)).map (bitsOf 7)).flatten := by
      rw [List.take_add_one, hv, List.append_assoc]
      simp
    rw [e1] at hq
    simp (disch := (first | with_reducible assumption | omega | (simp only [iL_len, rngD_len, rngC_len, List.length_append, List.length_replicate, List.length_cons, List.length_nil, List.length_map, List.length_take, List.length_drop, List.length_range, SZ] <;> omega) | (simp only [iL_len, rngD_len, rngC_len, List.length_append, List.length_replicate, List.length_cons, List.length_nil, List.length_map, List.length_take, List.length_drop, List.length_range, SZ] at * <;> omega) | fail)) only [↓x_seq, ↓x_nil, ↓x_if, ↓x_set, ↓x_setV, ↓x_asg, ↓x_exp, ↓x_ret, ↓x_retV, ↓x_retN, ↓x_brk, ↓x_cnt, ↓x_for, ↓x_bdy, ↓x_C, ↓x_var, ↓x_dvar, ↓x_v1, ↓x_v2, ↓x_d1L, ↓x_d2L, ↓x_and, ↓x_or, ↓x_not, ↓x_ifx, ↓x_args0, ↓x_args1, ↓x_tup, ↓x_lst, ↓x_call, ↓x_vD, ↓x_dV, ↓x_slP, ↓x_opt0, ↓x_opt1, ↓x_iP, ↓x_rg1, ↓x_rg2, ↓x_rg3, ↓x_en, ↓x_zp, ↓x_rv, ↓x_ch, ↓x_lc, ↓x_aug, ↓x_app, ↓x_put, ↓x_pix, ↓x_try, ↓x_rep, ↓x_raise0, y_sq, y_sif, y_retV, y_setV, y_toV, y_ofV, y_orw, y_and, y_or, y_not, y_v1, y_v2a, y_v2b, y_finW, y_calB, sq_nx, sq_rt, sq_bk, sq_ct, sq_er, sq_no, dataL_d, allD_d, fnD, SZ, List.getElem?_cons_zero, List.getElem?_cons_succ, List.getElem?_nil, List.set_cons_zero, List.set_cons_succ, List.map_cons, List.map_nil, List.length_cons, List.length_nil, List.length_map, List.length_append, List.cons_append, List.nil_append, List.append_nil, Nat.reduceAdd, Nat.reduceSub, Nat.zero_add, Nat.add_zero, Option.map_some, Option.map_none, Option.getD_some, Option.getD_none, Bool.false_eq_true, Bool.true_eq_false, Bool.and_false, Bool.false_and, Bool.and_true, Bool.true_and, Bool.or_false, Bool.false_or, Bool.or_true, Bool.true_or, Bool.not_true, Bool.not_false, if_true, if_false, ite_true, ite_false, decide_eq_true_eq, Bool.and_eq_true, Bool.or_eq_true, Bool.not_eq_true', decide_eq_false_iff_not, decide_true, decide_false, true_and, and_true, reduceCtorEq, Int.reduceNeg, Int.reduceLT, Int.reduceLE, Int.reduceToNat, Nat.reduceLeDiff, Int.reduceAbs, Int.reduceSub, Int.reduceAdd, Int.reduceMul, Int.reduceEq, Nat.reduceMul, Nat.reduceEqDiff, Nat.reduceLT, Nat.reducePow, Int.reducePow, ↓reduceIte, ite_not, sif.eq_1, sif.eq_3, sif.eq_4, andA.eq_1, andA.eq_3, andA.eq_4, orA.eq_1, orA.eq_3, orA.eq_4, notA.eq_1, notA.eq_3, notA.eq_4, ifA.eq_1, ifA.eq_3, ifA.eq_4, orw.eq_1, orw.eq_2, orw.eq_3, v1r.eq_1, v1r.eq_2, v1a.eq_1, v1a.eq_2, v1a.eq_3, v2a.eq_1, v2a.eq_2, v2a.eq_3, v2b.eq_1, v2b.eq_2, v2b.eq_3, dlr.eq_1, dlr.eq_2, d1a.eq_1, d1a.eq_2, d1a.eq_3, d2a.eq_1, d2a.eq_2, d2a.eq_3, d2b.eq_1, d2b.eq_2, d2b.eq_3, ar1.eq_1, ar1.eq_2, ar1.eq_3, ar1.eq_4, ar2.eq_1, ar2.eq_2, ar2.eq_3, tupA.eq_1, tupA.eq_2, tupA.eq_3, lstA.eq_1, lstA.eq_2, lstA.eq_3, calA.eq_1, calA.eq_2, calA.eq_3, calB.eq_1, calB.eq_2, calB.eq_3, wOf.eq_1, varV.eq_1, varR.eq_1, varR.eq_2, varD.eq_1, setA.eq_1, setA.eq_2, setA.eq_4, setA.eq_5, setVA.eq_1, setVA.eq_2, setVA.eq_3, setVA.eq_4, asgA.eq_1, asgA.eq_2, asgA.eq_3, asgA.eq_4, asgB.eq_1, asgB.eq_2, expA.eq_1, expA.eq_2, expA.eq_3, retA.eq_1, retA.eq_2, retA.eq_3, retVA.eq_1, retVA.eq_2, retVA.eq_3, retVA.eq_4, forA.eq_1, forA.eq_2, forA.eq_3, sl0.eq_1, sl0.eq_2, sl0.eq_3, sl1.eq_1, sl1.eq_2, sl2.eq_1, sl2.eq_2, sl3.eq_1, sl3.eq_2, optA.eq_1, bdyA.eq_1, bdyA.eq_2, iPA.eq_1, iPA.eq_2, iPA.eq_3, iPA.eq_5, iPA.eq_6, rg1A.eq_3, rg1A.eq_4, rg2A.eq_3, rg2A.eq_4, rg3A.eq_3, rg3A.eq_4, enA.eq_1, enA.eq_3, enA.eq_4, zpA.eq_1, zpA.eq_3, zpA.eq_4, rvA.eq_1, rvA.eq_3, rvA.eq_4, ch1.eq_1, ch1.eq_2, ch1.eq_3, ch2.eq_1, ch2.eq_2, ch2.eq_3, chA.eq_1, chB.eq_1, chB.eq_2, chB.eq_3, chC.eq_1, chC.eq_2, lc0.eq_2, lc0.eq_3, lcA.eq_1, lcA.eq_2, augA.eq_1, augB.eq_1, augB.eq_3, augB.eq_4, appA.eq_1, appB.eq_1, appB.eq_2, appB.eq_3, putA.eq_1, putA.eq_2, putA.eq_3, putA2.eq_1, putA2.eq_2, putB.eq_1, putC.eq_1, putD.eq_1, pixA.eq_1, pixA2.eq_1, pixB.eq_1, tryA.eq_1, tryB.eq_1, tryB.eq_2, tryB.eq_3, noEr.eq_1, repA.eq_1, repA2.eq_1, repA2.eq_2, repB.eq_1, rdT.eq_1, rdT.eq_2, toV.eq_1, toV.eq_2, toV.eq_3, toV.eq_4, toV.eq_5, toV.eq_6, ofV.eq_1, ofV.eq_2, ofV.eq_4, ofV.eq_5, tOf.eq_1, tOf.eq_2, isL.eq_1, getE.eq_1, getT.eq_1, getT.eq_2, getT.eq_3, setE.eq_1, setT.eq_1, setT.eq_2, setT.eq_3, T.data.eq_1, T.data.eq_2, finW.eq_1, finW.eq_2, finW.eq_3, finW.eq_4, finW.eq_6, fin.eq_1, fin.eq_2, fin.eq_3, tgS.eq_1, wipeE.eq_1, wipeE.eq_2, fAdd.eq_1, fAdd.eq_2, fI2.eq_1, fB2.eq_1, fU.eq_1, fLen.eq_1, fLen.eq_2, fLen.eq_3, fIx.eq_1, fIx.eq_2, fIx.eq_3, fIsN.eq_1, fNotN.eq_1, isNone.eq_1, fInt.eq_1, fInt.eq_2, fInt.eq_3, fLs.eq_1, fLs.eq_2, fTp.eq_1, fTp.eq_2, fSlP.eq_3, wOf_l, wOf_o, tryA_nx, tryA_rt, tryA_bk, tryA_ct, noEr_nx, noEr_rt, noEr_bk, noEr_ct, isNone_i, isNone_b, isNone_s, isNone_l, isNone_t, iL_app, iL_len, iL_rep, iL_rev, allD_iL, dataL_iL, q_int, q_t, q_l, n_t, n_l, n_int, q_self, n_self, s_to, s_from, s_mid, sl_to, sl_from, sl_mid, add_t, add_l, cat_l, isi_t, isi_b, isi_i, isi_l, isi_s, at_0, at_1, at_2, at_3, at_4, at_5, at_6, ai_0, ai_1, ai_2, ai_3, ai_4, ai_5, ai_6, tgN_a, tgT_a, apd_ok, lc_ok, rg1_ok, rg2_ok, iL_snoc, iL_mapd, lc_const, rngD_len, iL_take, iL_drop, Int.toNat_natCast, dataL_nil, dataL_cons, allD.eq_1, allD.eq_2, ixN_ok, rep_l, tgS_nil, rep_none, rep_none0, List.take_left, List.drop_left, any_false, all_true, eq_self, set_iL, at_last, List.drop_succ_cons, List.drop_zero, List.take_succ_cons, List.take_zero, List.getLast?_cons_cons, List.getLast?_singleton, Int.cast_ofNat_Int, rg3_ok, rngC_len, fRv_l, hq]
    exact ⟨_, rfl, _, _, _, rfl⟩
  · intro e ⟨a, b, c, he⟩
    subst he
    rw [iL_len, List.take_length]
    have hP := PB_len row s
    change (PB row s).length = _ at hP
    have e0 : List.replicate s 0 ++ (row.map (bitsOf 7)).flatten = PB row s := rfl
    rw [e0]
    have en : (((PB row s).length : Int) - 0 + 8 - 1) / 8 = ((((PB row s).length + 7) / 8 : Nat) : Int) := by omega
    simp (disch := (first | with_reducible assumption | omega | (simp only [iL_len, rngD_len, rngC_len, List.length_append, List.length_replicate, List.length_cons, List.length_nil, List.length_map, List.length_take, List.length_drop, List.length_range, SZ] <;> omega) | (simp only [iL_len, rngD_len, rngC_len, List.length_append, List.length_replicate, List.length_cons, List.length_nil, List.length_map, List.length_take, List.length_drop, List.length_range, SZ] at * <;> omega) | fail)) only [↓x_seq, ↓x_nil, ↓x_if, ↓x_set, ↓x_setV, ↓x_asg, ↓x_exp, ↓x_ret, ↓x_retV, ↓x_retN, ↓x_brk, ↓x_cnt, ↓x_for, ↓x_bdy, ↓x_C, ↓x_var, ↓x_dvar, ↓x_v1, ↓x_v2, ↓x_d1L, ↓x_d2L, ↓x_and, ↓x_or, ↓x_not, ↓x_ifx, ↓x_args0, ↓x_args1, ↓x_tup, ↓x_lst, ↓x_call, ↓x_vD, ↓x_dV, ↓x_slP, ↓x_opt0, ↓x_opt1, ↓x_iP, ↓x_rg1, ↓x_rg2, ↓x_rg3, ↓x_en, ↓x_zp, ↓x_rv, ↓x_ch, ↓x_lc, ↓x_aug, ↓x_app, ↓x_put, ↓x_pix, ↓x_try, ↓x_rep, ↓x_raise0, y_sq, y_sif, y_retV, y_setV, y_toV, y_ofV, y_orw, y_and, y_or, y_not, y_v1, y_v2a, y_v2b, y_finW, y_calB, sq_nx, sq_rt, sq_bk, sq_ct, sq_er, sq_no, dataL_d, allD_d, fnD, SZ, List.getElem?_cons_zero, List.getElem?_cons_succ, List.getElem?_nil, List.set_cons_zero, List.set_cons_succ, List.map_cons, List.map_nil, List.length_cons, List.length_nil, List.length_map, List.length_append, List.cons_append, List.nil_append, List.append_nil, Nat.reduceAdd, Nat.reduceSub, Nat.zero_add, Nat.add_zero, Option.map_some, Option.map_none, Option.getD_some, Option.getD_none, Bool.false_eq_true, Bool.true_eq_false, Bool.and_false, Bool.false_and, Bool.and_true, Bool.true_and, Bool.or_false, Bool.false_or, Bool.or_true, Bool.true_or, Bool.not_true, Bool.not_false, if_true, if_false, ite_true, ite_false, decide_eq_true_eq, Bool.and_eq_true, Bool.or_eq_true, Bool.not_eq_true', decide_eq_false_iff_not, decide_true, decide_false, true_and, and_true, reduceCtorEq, Int.reduceNeg, Int.reduceLT, Int.reduceLE, Int.reduceToNat, Nat.reduceLeDiff, Int.reduceAbs, Int.reduceSub, Int.reduceAdd, Int.reduceMul, Int.reduceEq, Nat.reduceMul, Nat.reduceEqDiff, Nat.reduceLT, Nat.reducePow, Int.reducePow, ↓reduceIte, ite_not, sif.eq_1, sif.eq_3, sif.eq_4, andA.eq_1, andA.eq_3, andA.eq_4, orA.eq_1, orA.eq_3, orA.eq_4, notA.eq_1, notA.eq_3, notA.eq_4, ifA.eq_1, ifA.eq_3, ifA.eq_4, orw.eq_1, orw.eq_2, orw.eq_3, v1r.eq_1, v1r.eq_2, v1a.eq_1, v1a.eq_2, v1a.eq_3, v2a.eq_1, v2a.eq_2, v2a.eq_3, v2b.eq_1, v2b.eq_2, v2b.eq_3, dlr.eq_1, dlr.eq_2, d1a.eq_1, d1a.eq_2, d1a.eq_3, d2a.eq_1, d2a.eq_2, d2a.eq_3, d2b.eq_1, d2b.eq_2, d2b.eq_3, ar1.eq_1, ar1.eq_2, ar1.eq_3, ar1.eq_4, ar2.eq_1, ar2.eq_2, ar2.eq_3, tupA.eq_1, tupA.eq_2, tupA.eq_3, lstA.eq_1, lstA.eq_2, lstA.eq_3, calA.eq_1, calA.eq_2, calA.eq_3, calB.eq_1, calB.eq_2, calB.eq_3, wOf.eq_1, varV.eq_1, varR.eq_1, varR.eq_2, varD.eq_1, setA.eq_1, setA.eq_2, setA.eq_4, setA.eq_5, setVA.eq_1, setVA.eq_2, setVA.eq_3, setVA.eq_4, asgA.eq_1, asgA.eq_2, asgA.eq_3, asgA.eq_4, asgB.eq_1, asgB.eq_2, expA.eq_1, expA.eq_2, expA.eq_3, retA.eq_1, retA.eq_2, retA.eq_3, retVA.eq_1, retVA.eq_2, retVA.eq_3, retVA.eq_4, forA.eq_1, forA.eq_2, forA.eq_3, sl0.eq_1, sl0.eq_2, sl0.eq_3, sl1.eq_1, sl1.eq_2, sl2.eq_1, sl2.eq_2, sl3.eq_1, sl3.eq_2, optA.eq_1, bdyA.eq_1, bdyA.eq_2, iPA.eq_1, iPA.eq_2, iPA.eq_3, iPA.eq_5, iPA.eq_6, rg1A.eq_3, rg1A.eq_4, rg2A.eq_3, rg2A.eq_4, rg3A.eq_3, rg3A.eq_4, enA.eq_1, enA.eq_3, enA.eq_4, zpA.eq_1, zpA.eq_3, zpA.eq_4, rvA.eq_1, rvA.eq_3, rvA.eq_4, ch1.eq_1, ch1.eq_2, ch1.eq_3, ch2.eq_1, ch2.eq_2, ch2.eq_3, chA.eq_1, chB.eq_1, chB.eq_2, chB.eq_3, chC.eq_1, chC.eq_2, lc0.eq_2, lc0.eq_3, lcA.eq_1, lcA.eq_2, augA.eq_1, augB.eq_1, augB.eq_3, augB.eq_4, appA.eq_1, appB.eq_1, appB.eq_2, appB.eq_3, putA.eq_1, putA.eq_2, putA.eq_3, putA2.eq_1, putA2.eq_2, putB.eq_1, putC.eq_1, putD.eq_1, pixA.eq_1, pixA2.eq_1, pixB.eq_1, tryA.eq_1, tryB.eq_1, tryB.eq_2, tryB.eq_3, noEr.eq_1, repA.eq_1, repA2.eq_1, repA2.eq_2, repB.eq_1, rdT.eq_1, rdT.eq_2, toV.eq_1, toV.eq_2, toV.eq_3, toV.eq_4, toV.eq_5, toV.eq_6, ofV.eq_1, ofV.eq_2, ofV.eq_4, ofV.eq_5, tOf.eq_1, tOf.eq_2, isL.eq_1, getE.eq_1, getT.eq_1, getT.eq_2, getT.eq_3, setE.eq_1, setT.eq_1, setT.eq_2, setT.eq_3, T.data.eq_1, T.data.eq_2, finW.eq_1, finW.eq_2, finW.eq_3, finW.eq_4, finW.eq_6, fin.eq_1, fin.eq_2, fin.eq_3, tgS.eq_1, wipeE.eq_1, wipeE.eq_2, fAdd.eq_1, fAdd.eq_2, fI2.eq_1, fB2.eq_1, fU.eq_1, fLen.eq_1, fLen.eq_2, fLen.eq_3, fIx.eq_1, fIx.eq_2, fIx.eq_3, fIsN.eq_1, fNotN.eq_1, isNone.eq_1, fInt.eq_1, fInt.eq_2, fInt.eq_3, fLs.eq_1, fLs.eq_2, fTp.eq_1, fTp.eq_2, fSlP.eq_3, wOf_l, wOf_o, tryA_nx, tryA_rt, tryA_bk, tryA_ct, noEr_nx, noEr_rt, noEr_bk, noEr_ct, isNone_i, isNone_b, isNone_s, isNone_l, isNone_t, iL_app, iL_len, iL_rep, iL_rev, allD_iL, dataL_iL, q_int, q_t, q_l, n_t, n_l, n_int, q_self, n_self, s_to, s_from, s_mid, sl_to, sl_from, sl_mid, add_t, add_l, cat_l, isi_t, isi_b, isi_i, isi_l, isi_s, at_0, at_1, at_2, at_3, at_4, at_5, at_6, ai_0, ai_1, ai_2, ai_3, ai_4, ai_5, ai_6, tgN_a, tgT_a, apd_ok, lc_ok, rg1_ok, rg2_ok, iL_snoc, iL_mapd, lc_const, rngD_len, iL_take, iL_drop, Int.toNat_natCast, dataL_nil, dataL_cons, allD.eq_1, allD.eq_2, ixN_ok, rep_l, tgS_nil, rep_none, rep_none0, List.take_left, List.drop_left, any_false, all_true, eq_self, set_iL, at_last, List.drop_succ_cons, List.drop_zero, List.take_succ_cons, List.take_zero, List.getLast?_cons_cons, List.getLast?_singleton, Int.cast_ofNat_Int, rg3_ok, rngC_len, fRv_l, en]
    refine for_fin (fun i e => ∃ x y z, e = [some (.d (.list (iL row))), some (.d (.int s)), some (.l ((iL (PB row s)).map T.d)), a, b, c, some (.l ((iL ((List.range i).map fun j => LB (((PB row s).drop (8 * j)).take 8))).map T.d)), x, y, z]) ⟨_, _, _, rfl⟩ ?_ ?_
    · intro i x e hx ⟨x1, y1, z1, he⟩
      have hx2 : i < ((PB row s).length + 7) / 8 ∧ x = .int (8 * i : Nat) := by
        rw [rngC_iL, iL_get] at hx
        obtain ⟨v, hv, rfl⟩ := Option.map_eq_some_iff.mp hx
        rw [List.getElem?_map] at hv
        obtain ⟨k, hk, rfl⟩ := Option.map_eq_some_iff.mp hv
        obtain ⟨h3, h4⟩ := List.getElem?_eq_some_iff.mp hk
        rw [List.getElem_range] at h4
        rw [List.length_range] at h3
        subst h4
        exact ⟨h3, by congr 1; omega⟩
      obtain ⟨hi, rfl⟩ := hx2
      subst he
      have z2 : ((8 * i : Nat) : Int) + 8 ≥ 0 := by omega
      have z3 : (((8 * i : Nat) : Int) + 8).toNat - ((8 * i : Nat) : Int).toNat = 8 := by omega
      obtain ⟨bt, hq⟩ := eight (some (.d (.list (iL row)))) (some (.d (.int s))) (some (.l ((iL (PB row s)).map T.d))) a b c (some (.l ((iL ((List.range i).map fun j => LB (((PB row s).drop (8 * j)).take 8))).map T.d))) (some (.d (.int (8 * i : Nat)))) z1 (((PB row s).drop (8 * i)).take 8)
      have z4 : (((8 * i : Nat) : Int) + 8).toNat - 8 * i = 8 := by omega
      simp (disch := (first | with_reducible assumption | omega | (simp only [iL_len, rngD_len, rngC_len, List.length_append, List.length_replicate, List.length_cons, List.length_nil, List.length_map, List.length_take, List.length_drop, List.length_range, SZ] <;> omega) | (simp only [iL_len, rngD_len, rngC_len, List.length_append, List.length_replicate, List.length_cons, List.length_nil, List.length_map, List.length_take, List.length_drop, List.length_range, SZ] at * <;> omega) | fail)) only [↓x_seq, ↓x_nil, ↓x_if, ↓x_set, ↓x_setV, ↓x_asg, ↓x_exp, ↓x_ret, ↓x_retV, ↓x_retN, ↓x_brk, ↓x_cnt, ↓x_for, ↓x_bdy, ↓x_C, ↓x_var, ↓x_dvar, ↓x_v1, ↓x_v2, ↓x_d1L, ↓x_d2L, ↓x_and, ↓x_or, ↓x_not, ↓x_ifx, ↓x_args0, ↓x_args1, ↓x_tup, ↓x_lst, ↓x_call, ↓x_vD, ↓x_dV, ↓x_slP, ↓x_opt0, ↓x_opt1, ↓x_iP, ↓x_rg1, ↓x_rg2, ↓x_rg3, ↓x_en, ↓x_zp, ↓x_rv, ↓x_ch, ↓x_lc, ↓x_aug, ↓x_app, ↓x_put, ↓x_pix, ↓x_try, ↓x_rep, ↓x_raise0, y_sq, y_sif, y_retV, y_setV, y_toV, y_ofV, y_orw, y_and, y_or, y_not, y_v1, y_v2a, y_v2b, y_finW, y_calB, sq_nx, sq_rt, sq_bk, sq_ct, sq_er, sq_no, dataL_d, allD_d, fnD, SZ, List.getElem?_cons_zero, List.getElem?_cons_succ, List.getElem?_nil, List.set_cons_zero, List.set_cons_succ, List.map_cons, List.map_nil, List.length_cons, List.length_nil, List.length_map, List.length_append, List.cons_append, List.nil_append, List.append_nil, Nat.reduceAdd, Nat.reduceSub, Nat.zero_add, Nat.add_zero, Option.map_some, Option.map_none, Option.getD_some, Option.getD_none, Bool.false_eq_true, Bool.true_eq_false, Bool.and_false, Bool.false_and, Bool.and_true, Bool.true_and, Bool.or_false, Bool.false_or, Bool.or_true, Bool.true_or, Bool.not_true, Bool.not_false, if_true, if_false, ite_true, ite_false, decide_eq_true_eq, Bool.and_eq_true, Bool.or_eq_true, Bool.not_eq_true', decide_eq_false_iff_not, decide_true, decide_false, true_and, and_true, reduceCtorEq, Int.reduceNeg, Int.reduceLT, Int.reduceLE, Int.reduceToNat, Nat.reduceLeDiff, Int.reduceAbs, Int.reduceSub, Int.reduceAdd, Int.reduceMul, Int.reduceEq, Nat.reduceMul, Nat.reduceEqDiff, Nat.reduceLT, Nat.reducePow, Int.reducePow, ↓reduceIte, ite_not, sif.eq_1, sif.eq_3, sif.eq_4, andA.eq_1, andA.eq_3, andA.eq_4, orA.eq_1, orA.eq_3, orA.eq_4, notA.eq_1, notA.eq_3, notA.eq_4, ifA.eq_1, ifA.eq_3, ifA.eq_4, orw.eq_1, orw.eq_2, orw.eq_3, v1r.eq_1, v1r.eq_2, v1a.eq_1, v1a.eq_2, v1a.eq_3, v2a.eq_1, v2a.eq_2, v2a.eq_3, v2b.eq_1, v2b.eq_2, v2b.eq_3, dlr.eq_1, dlr.eq_2, d1a.eq_1, d1a.eq_2, d1a.eq_3, d2a.eq_1, d2a.eq_2, d2a.eq_3, d2b.eq_1, d2b.eq_2, d2b.eq_3, ar1.eq_1, ar1.eq_2, ar1.eq_3, ar1.eq_4, ar2.eq_1, ar2.eq_2, ar2.eq_3, tupA.eq_1, tupA.eq_2, tupA.eq_3, lstA.eq_1, lstA.eq_2, lstA.eq_3, calA.eq_1, calA.eq_2, calA.eq_3, calB.eq_1, calB.eq_2, calB.eq_3, wOf.eq_1, varV.eq_1, varR.eq_1, varR.eq_2, varD.eq_1, setA.eq_1, setA.eq_2, setA.eq_4, setA.eq_5, setVA.eq_1, setVA.eq_2, setVA.eq_3, setVA.eq_4, asgA.eq_1, asgA.eq_2, asgA.eq_3, asgA.eq_4, asgB.eq_1, asgB.eq_2, expA.eq_1, expA.eq_2, expA.eq_3, retA.eq_1, retA.eq_2, retA.eq_3, retVA.eq_1, retVA.eq_2, retVA.eq_3, retVA.eq_4, forA.eq_1, forA.eq_2, forA.eq_3, sl0.eq_1, sl0.eq_2, sl0.eq_3, sl1.eq_1, sl1.eq_2, sl2.eq_1, sl2.eq_2, sl3.eq_1, sl3.eq_2, optA.eq_1, bdyA.eq_1, bdyA.eq_2, iPA.eq_1, iPA.eq_2, iPA.eq_3, iPA.eq_5, iPA.eq_6, rg1A.eq_3, rg1A.eq_4, rg2A.eq_3, rg2A.eq_4, rg3A.eq_3, rg3A.eq_4, enA.eq_1, enA.eq_3, enA.eq_4, zpA.eq_1, zpA.eq_3, zpA.eq_4, rvA.eq_1, rvA.eq_3, rvA.eq_4, ch1.eq_1, ch1.eq_2, ch1.eq_3, ch2.eq_1, ch2.eq_2, ch2.eq_3, chA.eq_1, chB.eq_1, chB.eq_2, chB.eq_3, chC.eq_1, chC.eq_2, lc0.eq_2, lc0.eq_3, lcA.eq_1, lcA.eq_2, augA.eq_1, augB.eq_1, augB.eq_3, augB.eq_4, appA.eq_1, appB.eq_1, appB.eq_2, appB.eq_3, putA.eq_1, putA.eq_2, putA.eq_3, putA2.eq_1, putA2.eq_2, putB.eq_1, putC.eq_1, putD.eq_1, pixA.eq_1, pixA2.eq_1, pixB.eq_1, tryA.eq_1, tryB.eq_1, tryB.eq_2, tryB.eq_3, noEr.eq_1, repA.eq_1, repA2.eq_1, repA2.eq_2, repB.eq_1, rdT.eq_1, rdT.eq_2, toV.eq_1, toV.eq_2, toV.eq_3, toV.eq_4, toV.eq_5, toV.eq_6, ofV.eq_1, ofV.eq_2, ofV.eq_4, ofV.eq_5, tOf.eq_1, tOf.eq_2, isL.eq_1, getE.eq_1, getT.eq_1, getT.eq_2, getT.eq_3, setE.eq_1, setT.eq_1, setT.eq_2, setT.eq_3, T.data.eq_1, T.data.eq_2, finW.eq_1, finW.eq_2, finW.eq_3, finW.eq_4, finW.eq_6, fin.eq_1, fin.eq_2, fin.eq_3, tgS.eq_1, wipeE.eq_1, wipeE.eq_2, fAdd.eq_1, fAdd.eq_2, fI2.eq_1, fB2.eq_1, fU.eq_1, fLen.eq_1, fLen.eq_2, fLen.eq_3, fIx.eq_1, fIx.eq_2, fIx.eq_3, fIsN.eq_1, fNotN.eq_1, isNone.eq_1, fInt.eq_1, fInt.eq_2, fInt.eq_3, fLs.eq_1, fLs.eq_2, fTp.eq_1, fTp.eq_2, fSlP.eq_3, wOf_l, wOf_o, tryA_nx, tryA_rt, tryA_bk, tryA_ct, noEr_nx, noEr_rt, noEr_bk, noEr_ct, isNone_i, isNone_b, isNone_s, isNone_l, isNone_t, iL_app, iL_len, iL_rep, iL_rev, allD_iL, dataL_iL, q_int, q_t, q_l, n_t, n_l, n_int, q_self, n_self, s_to, s_from, s_mid, sl_to, sl_from, sl_mid, add_t, add_l, cat_l, isi_t, isi_b, isi_i, isi_l, isi_s, at_0, at_1, at_2, at_3, at_4, at_5, at_6, ai_0, ai_1, ai_2, ai_3, ai_4, ai_5, ai_6, tgN_a, tgT_a, apd_ok, lc_ok, rg1_ok, rg2_ok, iL_snoc, iL_mapd, lc_const, rngD_len, iL_take, iL_drop, Int.toNat_natCast, dataL_nil, dataL_cons, allD.eq_1, allD.eq_2, ixN_ok, rep_l, tgS_nil, rep_none, rep_none0, List.take_left, List.drop_left, any_false, all_true, eq_self, set_iL, at_last, List.drop_succ_cons, List.drop_zero, List.take_succ_cons, List.take_zero, List.getLast?_cons_cons, List.getLast?_singleton, Int.cast_ofNat_Int, rg3_ok, rngC_len, fRv_l, z3, z4, hq]
      refine ⟨_, rfl, some (.d (.int (8 * i : Nat))), some (.d (.int (LB (((PB row s).drop (8 * i)).take 8)))), bt, ?_⟩
      rw [List.range_succ, List.map_append]
      rfl
    · intro e ⟨x1, y1, z1, he⟩
      subst he
      rw [rngC_len, CH_pad]
      simp (disch := (first | with_reducible assumption | omega | (simp only [iL_len, rngD_len, rngC_len, List.length_append, List.length_replicate, List.length_cons, List.length_nil, List.length_map, List.length_take, List.length_drop, List.length_range, SZ] <;> omega) | (simp only [iL_len, rngD_len, rngC_len, List.length_append, List.length_replicate, List.length_cons, List.length_nil, List.length_map, List.length_take, List.length_drop, List.length_range, SZ] at * <;> omega) | fail)) only [↓x_seq, ↓x_nil, ↓x_if, ↓x_set, ↓x_setV, ↓x_asg, ↓x_exp, ↓x_ret, ↓x_retV, ↓x_retN, ↓x_brk, ↓x_cnt, ↓x_for, ↓x_bdy, ↓x_C, ↓x_var, ↓x_dvar, ↓x_v1, ↓x_v2, ↓x_d1L, ↓x_d2L, ↓x_and, ↓x_or, ↓x_not, ↓x_ifx, ↓x_args0, ↓x_args1, ↓x_tup, ↓x_lst, ↓x_call, ↓x_vD, ↓x_dV, ↓x_slP, ↓x_opt0, ↓x_opt1, ↓x_iP, ↓x_rg1, ↓x_rg2, ↓x_rg3, ↓x_en, ↓x_zp, ↓x_rv, ↓x_ch, ↓x_lc, ↓x_aug, ↓x_app, ↓x_put, ↓x_pix, ↓x_try, ↓x_rep, ↓x_raise0, y_sq, y_sif, y_retV, y_setV, y_toV, y_ofV, y_orw, y_and, y_or, y_not, y_v1, y_v2a, y_v2b, y_finW, y_calB, sq_nx, sq_rt, sq_bk, sq_ct, sq_er, sq_no, dataL_d, allD_d, fnD, SZ, List.getElem?_cons_zero, List.getElem?_cons_succ, List.getElem?_nil, List.set_cons_zero, List.set_cons_succ, List.map_cons, List.map_nil, List.length_cons, List.length_nil, List.length_map, List.length_append, List.cons_append, List.nil_append, List.append_nil, Nat.reduceAdd, Nat.reduceSub, Nat.zero_add, Nat.add_zero, Option.map_some, Option.map_none, Option.getD_some, Option.getD_none, Bool.false_eq_true, Bool.true_eq_false, Bool.and_false, Bool.false_and, Bool.and_true, Bool.true_and, Bool.or_false, Bool.false_or, Bool.or_true, Bool.true_or, Bool.not_true, Bool.not_false, if_true, if_false, ite_true, ite_false, decide_eq_true_eq, Bool.and_eq_true, Bool.or_eq_true, Bool.not_eq_true', decide_eq_false_iff_not, decide_true, decide_false, true_and, and_true, reduceCtorEq, Int.reduceNeg, Int.reduceLT, Int.reduceLE, Int.reduceToNat, Nat.reduceLeDiff, Int.reduceAbs, Int.reduceSub, Int.reduceAdd, Int.reduceMul, Int.reduceEq, Nat.reduceMul, Nat.reduceEqDiff, Nat.reduceLT, Nat.reducePow, Int.reducePow, ↓reduceIte, ite_not, sif.eq_1, sif.eq_3, sif.eq_4, andA.eq_1, andA.eq_3, andA.eq_4, orA.eq_1, orA.eq_3, orA.eq_4, notA.eq_1, notA.eq_3, notA.eq_4, ifA.eq_1, ifA.eq_3, ifA.eq_4, orw.eq_1, orw.eq_2, orw.eq_3, v1r.eq_1, v1r.eq_2, v1a.eq_1, v1a.eq_2, v1a.eq_3, v2a.eq_1, v2a.eq_2, v2a.eq_3, v2b.eq_1, v2b.eq_2, v2b.eq_3, dlr.eq_1, dlr.eq_2, d1a.eq_1, d1a.eq_2, d1a.eq_3, d2a.eq_1, d2a.eq_2, d2a.eq_3, d2b.eq_1, d2b.eq_2, d2b.eq_3, ar1.eq_1, ar1.eq_2, ar1.eq_3, ar1.eq_4, ar2.eq_1, ar2.eq_2, ar2.eq_3, tupA.eq_1, tupA.eq_2, tupA.eq_3, lstA.eq_1, lstA.eq_2, lstA.eq_3, calA.eq_1, calA.eq_2, calA.eq_3, calB.eq_1, calB.eq_2, calB.eq_3, wOf.eq_1, varV.eq_1, varR.eq_1, varR.eq_2, varD.eq_1, setA.eq_1, setA.eq_2, setA.eq_4, setA.eq_5, setVA.eq_1, setVA.eq_2, setVA.eq_3, setVA.eq_4, asgA.eq_1, asgA.eq_2, asgA.eq_3, asgA.eq_4, asgB.eq_1, asgB.eq_2, expA.eq_1, expA.eq_2, expA.eq_3, retA.eq_1, retA.eq_2, retA.eq_3, retVA.eq_1, retVA.eq_2, retVA.eq_3, retVA.eq_4, forA.eq_1, forA.eq_2, forA.eq_3, sl0.eq_1, sl0.eq_2, sl0.eq_3, sl1.eq_1, sl1.eq_2, sl2.eq_1, sl2.eq_2, sl3.eq_1, sl3.eq_2, optA.eq_1, bdyA.eq_1, bdyA.eq_2, iPA.eq_1, iPA.eq_2, iPA.eq_3, iPA.eq_5, iPA.eq_6, rg1A.eq_3, rg1A.eq_4, rg2A.eq_3, rg2A.eq_4, rg3A.eq_3, rg3A.eq_4, enA.eq_1, enA.eq_3, enA.eq_4, zpA.eq_1, zpA.eq_3, zpA.eq_4, rvA.eq_1, rvA.eq_3, rvA.eq_4, ch1.eq_1, ch1.eq_2, ch1.eq_3, ch2.eq_1, ch2.eq_2, ch2.eq_3, chA.eq_1, chB.eq_1, chB.eq_2, chB.eq_3, chC.eq_1, chC.eq_2, lc0.eq_2, lc0.eq_3, lcA.eq_1, lcA.eq_2, augA.eq_1, augB.eq_1, augB.eq_3, augB.eq_4, appA.eq_1, appB.eq_1, appB.eq_2, appB.eq_3, putA.eq_1, putA.eq_2, putA.eq_3, putA2.eq_1, putA2.eq_2, putB.eq_1, putC.eq_1, putD.eq_1, pixA.eq_1, pixA2.eq_1, pixB.eq_1, tryA.eq_1, tryB.eq_1, tryB.eq_2, tryB.eq_3, noEr.eq_1, repA.eq_1, repA2.eq_1, repA2.eq_2, repB.eq_1, rdT.eq_1, rdT.eq_2, toV.eq_1, toV.eq_2, toV.eq_3, toV.eq_4, toV.eq_5, toV.eq_6, ofV.eq_1, ofV.eq_2, ofV.eq_4, ofV.eq_5, tOf.eq_1, tOf.eq_2, isL.eq_1, getE.eq_1, getT.eq_1, getT.eq_2, getT.eq_3, setE.eq_1, setT.eq_1, setT.eq_2, setT.eq_3, T.data.eq_1, T.data.eq_2, finW.eq_1, finW.eq_2, finW.eq_3, finW.eq_4, finW.eq_6, fin.eq_1, fin.eq_2, fin.eq_3, tgS.eq_1, wipeE.eq_1, wipeE.eq_2, fAdd.eq_1, fAdd.eq_2, fI2.eq_1, fB2.eq_1, fU.eq_1, fLen.eq_1, fLen.eq_2, fLen.eq_3, fIx.eq_1, fIx.eq_2, fIx.eq_3, fIsN.eq_1, fNotN.eq_1, isNone.eq_1, fInt.eq_1, fInt.eq_2, fInt.eq_3, fLs.eq_1, fLs.eq_2, fTp.eq_1, fTp.eq_2, fSlP.eq_3, wOf_l, wOf_o, tryA_nx, tryA_rt, tryA_bk, tryA_ct, noEr_nx, noEr_rt, noEr_bk, noEr_ct, isNone_i, isNone_b, isNone_s, isNone_l, isNone_t, iL_app, iL_len, iL_rep, iL_rev, allD_iL, dataL_iL, q_int, q_t, q_l, n_t, n_l, n_int, q_self, n_self, s_to, s_from, s_mid, sl_to, sl_from, sl_mid, add_t, add_l, cat_l, isi_t, isi_b, isi_i, isi_l, isi_s, at_0, at_1, at_2, at_3, at_4, at_5, at_6, ai_0, ai_1, ai_2, ai_3, ai_4, ai_5, ai_6, tgN_a, tgT_a, apd_ok, lc_ok, rg1_ok, rg2_ok, iL_snoc, iL_mapd, lc_const, rngD_len, iL_take, iL_drop, Int.toNat_natCast, dataL_nil, dataL_cons, allD.eq_1, allD.eq_2, ixN_ok, rep_l, tgS_nil, rep_none, rep_none0, List.take_left, List.drop_left, any_false, all_true, eq_self, set_iL, at_last, List.drop_succ_cons, List.drop_zero, List.take_succ_cons, List.take_zero, List.getLast?_cons_cons, List.getLast?_singleton, Int.cast_ofNat_Int, rg3_ok, rngC_len, fRv_l]
def partI (mark many number : Int) (row : List Int) : List Int := if many = 1 then 0 :: row.length :: CH (PP row 0) else 1 :: (row.length + 7 : Int) :: 5 :: 0 :: 3 :: mark :: many :: number :: CH (PP row 1)
theorem law_part_ok (mark many number : Int) (row : List Int) (hl : row.length < 1000) : f__law_part [.d (.int mark), .d (.int many), .d (.int number), .d (.list (iL row))] = .rt (.d (.list (iL (partI mark many number row)))) [.d (.int mark), .d (.int many), .d (.int number), .d (.list (iL row))] := by
  have h0 := law_packed_ok row 0 hl (by omega)
  have h1 := law_packed_ok row 1 hl (by omega)
  have k0 := CHP_len row 0
  have k1 := CHP_len row 1
  unfold f__law_part
  have hc0 : f__law_packed [.d (.list (iL row)), .d (.int 0)] = .rt (.l ((iL (CH (PP row 0))).map T.d)) [.d (.list (iL row)), .d (.int 0)] := h0
  have hc1 : f__law_packed [.d (.list (iL row)), .d (.int 1)] = .rt (.l ((iL (CH (PP row 1))).map T.d)) [.d (.list (iL row)), .d (.int 1)] := h1
  unfold partI
  by_cases c : many = 1
  · rw [if_pos c]
    simp (disch := (first | with_reducible assumption | omega | (simp only [iL_len, rngD_len, rngC_len, List.length_append, List.length_replicate, List.length_cons, List.length_nil, List.length_map, List.length_take, List.length_drop, List.length_range, SZ] <;> omega) | (simp only [iL_len, rngD_len, rngC_len, List.length_append, List.length_replicate, List.length_cons, List.length_nil, List.length_map, List.length_take, List.length_drop, List.length_range, SZ] at * <;> omega) | fail)) only [↓x_seq, ↓x_nil, ↓x_if, ↓x_set, ↓x_setV, ↓x_asg, ↓x_exp, ↓x_ret, ↓x_retV, ↓x_retN, ↓x_brk, ↓x_cnt, ↓x_for, ↓x_bdy, ↓x_C, ↓x_var, ↓x_dvar, ↓x_v1, ↓x_v2, ↓x_d1L, ↓x_d2L, ↓x_and, ↓x_or, ↓x_not, ↓x_ifx, ↓x_args0, ↓x_args1, ↓x_tup, ↓x_lst, ↓x_call, ↓x_vD, ↓x_dV, ↓x_slP, ↓x_opt0, ↓x_opt1, ↓x_iP, ↓x_rg1, ↓x_rg2, ↓x_rg3, ↓x_en, ↓x_zp, ↓x_rv, ↓x_ch, ↓x_lc, ↓x_aug, ↓x_app, ↓x_put, ↓x_pix, ↓x_try, ↓x_rep, ↓x_raise0, y_sq, y_sif, y_retV, y_setV, y_toV, y_ofV, y_orw, y_and, y_or, y_not, y_v1, y_v2a, y_v2b, y_finW, y_calB, sq_nx, sq_rt, sq_bk, sq_ct, sq_er, sq_no, dataL_d, allD_d, fnD, SZ, List.getElem?_cons_zero, List.getElem?_cons_succ, List.getElem?_nil, List.set_cons_zero, List.set_cons_succ, List.map_cons, List.map_nil, List.length_cons, List.length_nil, List.length_map, List.length_append, List.cons_append, List.nil_append, List.append_nil, Nat.reduceAdd, Nat.reduceSub, Nat.zero_add, Nat.add_zero, Option.map_some, Option.map_none, Option.getD_some, Option.getD_none, Bool.false_eq_true, Bool.true_eq_false, Bool.and_false, Bool.false_and, Bool.and_true, Bool.true_and, Bool.or_false, Bool.false_or, Bool.or_true, Bool.true_or, Bool.not_true, Bool.not_false, if_true, if_false, ite_true, ite_false, decide_eq_true_eq, Bool.and_eq_true, Bool.or_eq_true, Bool.not_eq_true', decide_eq_false_iff_not, decide_true, decide_false, true_and, and_true, reduceCtorEq, Int.reduceNeg, Int.reduceLT, Int.reduceLE, Int.reduceToNat, Nat.reduceLeDiff, Int.reduceAbs, Int.reduceSub, Int.reduceAdd, Int.reduceMul, Int.reduceEq, Nat.reduceMul, Nat.reduceEqDiff, Nat.reduceLT, Nat.reducePow, Int.reducePow, ↓reduceIte, ite_not, sif.eq_1, sif.eq_3, sif.eq_4, andA.eq_1, andA.eq_3, andA.eq_4, orA.eq_1, orA.eq_3, orA.eq_4, notA.eq_1, notA.eq_3, notA.eq_4, ifA.eq_1, ifA.eq_3, ifA.eq_4, orw.eq_1, orw.eq_2, orw.eq_3, v1r.eq_1, v1r.eq_2, v1a.eq_1, v1a.eq_2, v1a.eq_3, v2a.eq_1, v2a.eq_2, v2a.eq_3, v2b.eq_1, v2b.eq_2, v2b.eq_3, dlr.eq_1, dlr.eq_2, d1a.eq_1, d1a.eq_2, d1a.eq_3, d2a.eq_1, d2a.eq_2, d2a.eq_3, d2b.eq_1, d2b.eq_2, d2b.eq_3, ar1.eq_1, ar1.eq_2, ar1.eq_3, ar1.eq_4, ar2.eq_1, ar2.eq_2, ar2.eq_3, tupA.eq_1, tupA.eq_2, tupA.eq_3, lstA.eq_1, lstA.eq_2, lstA.eq_3, calA.eq_1, calA.eq_2, calA.eq_3, calB.eq_1, calB.eq_2, calB.eq_3, wOf.eq_1, varV.eq_1, varR.eq_1, varR.eq_2, varD.eq_1, setA.eq_1, setA.eq_2, setA.eq_4, setA.eq_5, setVA.eq_1, setVA.eq_2, setVA.eq_3, setVA.eq_4, asgA.eq_1, asgA.eq_2, asgA.eq_3, asgA.eq_4, asgB.eq_1, asgB.eq_2, expA.eq_1, expA.eq_2, expA.eq_3, retA.eq_1, retA.eq_2, retA.eq_3, retVA.eq_1, retVA.eq_2, retVA.eq_3, retVA.eq_4, forA.eq_1, forA.eq_2, forA.eq_3, sl0.eq_1, sl0.eq_2, sl0.eq_3, sl1.eq_1, sl1.eq_2, sl2.eq_1, sl2.eq_2, sl3.eq_1, sl3.eq_2, optA.eq_1, bdyA.eq_1, bdyA.eq_2, iPA.eq_1, iPA.eq_2, iPA.eq_3, iPA.eq_5, iPA.eq_6, rg1A.eq_3, rg1A.eq_4, rg2A.eq_3, rg2A.eq_4, rg3A.eq_3, rg3A.eq_4, enA.eq_1, enA.eq_3, enA.eq_4, zpA.eq_1, zpA.eq_3, zpA.eq_4, rvA.eq_1, rvA.eq_3, rvA.eq_4, ch1.eq_1, ch1.eq_2, ch1.eq_3, ch2.eq_1, ch2.eq_2, ch2.eq_3, chA.eq_1, chB.eq_1, chB.eq_2, chB.eq_3, chC.eq_1, chC.eq_2, lc0.eq_2, lc0.eq_3, lcA.eq_1, lcA.eq_2, augA.eq_1, augB.eq_1, augB.eq_3, augB.eq_4, appA.eq_1, appB.eq_1, appB.eq_2, appB.eq_3, putA.eq_1, putA.eq_2, putA.eq_3, putA2.eq_1, putA2.eq_2, putB.eq_1, putC.eq_1, putD.eq_1, pixA.eq_1, pixA2.eq_1, pixB.eq_1, tryA.eq_1, tryB.eq_1, tryB.eq_2, tryB.eq_3, noEr.eq_1, repA.eq_1, repA2.eq_1, repA2.eq_2, repB.eq_1, rdT.eq_1, rdT.eq_2, toV.eq_1, toV.eq_2, toV.eq_3, toV.eq_4, toV.eq_5, toV.eq_6, ofV.eq_1, ofV.eq_2, ofV.eq_4, ofV.eq_5, tOf.eq_1, tOf.eq_2, isL.eq_1, getE.eq_1, getT.eq_1, getT.eq_2, getT.eq_3, setE.eq_1, setT.eq_1, setT.eq_2, setT.eq_3, T.data.eq_1, T.data.eq_2, finW.eq_1, finW.eq_2, finW.eq_3, finW.eq_4, finW.eq_6, fin.eq_1, fin.eq_2, fin.eq_3, tgS.eq_1, wipeE.eq_1, wipeE.eq_2, fAdd.eq_1, fAdd.eq_2, fI2.eq_1, fB2.eq_1, fU.eq_1, fLen.eq_1, fLen.eq_2, fLen.eq_3, fIx.eq_1, fIx.eq_2, fIx.eq_3, fIsN.eq_1, fNotN.eq_1, isNone.eq_1, fInt.eq_1, fInt.eq_2, fInt.eq_3, fLs.eq_1, fLs.eq_2, fTp.eq_1, fTp.eq_2, fSlP.eq_3, wOf_l, wOf_o, tryA_nx, tryA_rt, tryA_bk, tryA_ct, noEr_nx, noEr_rt, noEr_bk, noEr_ct, isNone_i, isNone_b, isNone_s, isNone_l, isNone_t, iL_app, iL_len, iL_rep, iL_rev, allD_iL, dataL_iL, q_int, q_t, q_l, n_t, n_l, n_int, q_self, n_self, s_to, s_from, s_mid, sl_to, sl_from, sl_mid, add_t, add_l, cat_l, isi_t, isi_b, isi_i, isi_l, isi_s, at_0, at_1, at_2, at_3, at_4, at_5, at_6, ai_0, ai_1, ai_2, ai_3, ai_4, ai_5, ai_6, tgN_a, tgT_a, apd_ok, lc_ok, rg1_ok, rg2_ok, iL_snoc, iL_mapd, lc_const, rngD_len, iL_take, iL_drop, Int.toNat_natCast, dataL_nil, dataL_cons, allD.eq_1, allD.eq_2, ixN_ok, rep_l, tgS_nil, rep_none, rep_none0, List.take_left, List.drop_left, any_false, all_true, eq_self, set_iL, at_last, List.drop_succ_cons, List.drop_zero, List.take_succ_cons, List.take_zero, List.getLast?_cons_cons, List.getLast?_singleton, Int.cast_ofNat_Int, rg3_ok, rngC_len, fRv_l, b__law_part, c, hc0, ll2, iL_app]
  · rw [if_neg c]
    simp (disch := (first | with_reducible assumption | omega | (simp only [iL_len, rngD_len, rngC_len, List.length_append, List.length_replicate, List.length_cons, List.length_nil, List.length_map, List.length_take, List.length_drop, List.length_range, SZ] <;> omega) | (simp only [iL_len, rngD_len, rngC_len, List.length_append, List.length_replicate, List.length_cons, List.length_nil, List.length_map, List.length_take, List.length_drop, List.length_range, SZ] at * <;> omega) | fail)) only [↓x_seq, ↓x_nil, ↓x_if, ↓x_set, ↓x_setV, ↓x_asg, ↓x_exp, ↓x_ret, ↓x_retV, ↓x_retN, ↓x_brk, ↓x_cnt, ↓x_for, ↓x_bdy, ↓x_C, ↓x_var, ↓x_dvar, ↓x_v1, ↓x_v2, ↓x_d1L, ↓x_d2L, ↓x_and, ↓x_or, ↓x_not, ↓x_ifx, ↓x_args0, ↓x_args1, ↓x_tup, ↓x_lst, ↓x_call, ↓x_vD, ↓x_dV, ↓x_slP, ↓x_opt0, ↓x_opt1, ↓x_iP, ↓x_rg1, ↓x_rg2, ↓x_rg3, ↓x_en, ↓x_zp, ↓x_rv, ↓x_ch, ↓x_lc, ↓x_aug, ↓x_app, ↓x_put, ↓x_pix, ↓x_try, ↓x_rep, ↓x_raise0, y_sq, y_sif, y_retV, y_setV, y_toV, y_ofV, y_orw, y_and, y_or, y_not, y_v1, y_v2a, y_v2b, y_finW, y_calB, sq_nx, sq_rt, sq_bk, sq_ct, sq_er, sq_no, dataL_d, allD_d, fnD, SZ, List.getElem?_cons_zero, List.getElem?_cons_succ, List.getElem?_nil, List.set_cons_zero, List.set_cons_succ, List.map_cons, List.map_nil, List.length_cons, List.length_nil, List.length_map, List.length_append, List.cons_append, List.nil_append, List.append_nil, Nat.reduceAdd, Nat.reduceSub, Nat.zero_add, Nat.add_zero, Option.map_some, Option.map_none, Option.getD_some, Option.getD_none, Bool.false_eq_true, Bool.true_eq_false, Bool.and_false, Bool.false_and, Bool.and_true, Bool.true_and, Bool.or_false, Bool.false_or, Bool.or_true, Bool.true_or, Bool.not_true, Bool.not_false, if_true, if_false, ite_true, ite_false, decide_eq_true_eq, Bool.and_eq_true, Bool.or_eq_true, Bool.not_eq_true', decide_eq_false_iff_not, decide_true, decide_false, true_and, and_true, reduceCtorEq, Int.reduceNeg, Int.reduceLT, Int.reduceLE, Int.reduceToNat, Nat.reduceLeDiff, Int.reduceAbs, Int.reduceSub, Int.reduceAdd, Int.reduceMul, Int.reduceEq, Nat.reduceMul, Nat.reduceEqDiff, Nat.reduceLT, Nat.reducePow, Int.reducePow, ↓reduceIte, ite_not, sif.eq_1, sif.eq_3, sif.eq_4, andA.eq_1, andA.eq_3, andA.eq_4, orA.eq_1, orA.eq_3, orA.eq_4, notA.eq_1, notA.eq_3, notA.eq_4, ifA.eq_1, ifA.eq_3, ifA.eq_4, orw.eq_1, orw.eq_2, orw.eq_3, v1r.eq_1, v1r.eq_2, v1a.eq_1, v1a.eq_2, v1a.eq_3, v2a.eq_1, v2a.eq_2, v2a.eq_3, v2b.eq_1, v2b.eq_2, v2b.eq_3, dlr.eq_1, dlr.eq_2, d1a.eq_1, d1a.eq_2, d1a.eq_3, d2a.eq_1, d2a.eq_2, d2a.eq_3, d2b.eq_1, d2b.eq_2, d2b.eq_3, ar1.eq_1, ar1.eq_2, ar1.eq_3, ar1.eq_4, ar2.eq_1, ar2.eq_2, ar2.eq_3, tupA.eq_1, tupA.eq_2, tupA.eq_3, lstA.eq_1, lstA.eq_2, lstA.eq_3, calA.eq_1, calA.eq_2, calA.eq_3, calB.eq_1, calB.eq_2, calB.eq_3, wOf.eq_1, varV.eq_1, varR.eq_1, varR.eq_2, varD.eq_1, setA.eq_1, setA.eq_2, setA.eq_4, setA.eq_5, setVA.eq_1, setVA.eq_2, setVA.eq_3, setVA.eq_4, asgA.eq_1, asgA.eq_2, asgA.eq_3, asgA.eq_4, asgB.eq_1, asgB.eq_2, expA.eq_1, expA.eq_2, expA.eq_3, retA.eq_1, retA.eq_2, retA.eq_3, retVA.eq_1, retVA.eq_2, retVA.eq_3, retVA.eq_4, forA.eq_1, forA.eq_2, forA.eq_3, sl0.eq_1, sl0.eq_2, sl0.eq_3, sl1.eq_1, sl1.eq_2, sl2.eq_1, sl2.eq_2, sl3.eq_1, sl3.eq_2, optA.eq_1, bdyA.eq_1, bdyA.eq_2, iPA.eq_1, iPA.eq_2, iPA.eq_3, iPA.eq_5, iPA.eq_6, rg1A.eq_3, rg1A.eq_4, rg2A.eq_3, rg2A.eq_4, rg3A.eq_3, rg3A.eq_4, enA.eq_1, enA.eq_3, enA.eq_4, zpA.eq_1, zpA.eq_3, zpA.eq_4, rvA.eq_1, rvA.eq_3, rvA.eq_4, ch1.eq_1, ch1.eq_2, ch1.eq_3, ch2.eq_1, ch2.eq_2, ch2.eq_3, chA.eq_1, chB.eq_1, chB.eq_2, chB.eq_3, chC.eq_1, chC.eq_2, lc0.eq_2, lc0.eq_3, lcA.eq_1, lcA.eq_2, augA.eq_1, augB.eq_1, augB.eq_3, augB.eq_4, appA.eq_1, appB.eq_1, appB.eq_2, appB.eq_3, putA.eq_1, putA.eq_2, putA.eq_3, putA2.eq_1, putA2.eq_2, putB.eq_1, putC.eq_1, putD.eq_1, pixA.eq_1, pixA2.eq_1, pixB.eq_1, tryA.eq_1, tryB.eq_1, tryB.eq_2, tryB.eq_3, noEr.eq_1, repA.eq_1, repA2.eq_1, repA2.eq_2, repB.eq_1, rdT.eq_1, rdT.eq_2, toV.eq_1, toV.eq_2, toV.eq_3, toV.eq_4, toV.eq_5, toV.eq_6, ofV.eq_1, ofV.eq_2, ofV.eq_4, ofV.eq_5, tOf.eq_1, tOf.eq_2, isL.eq_1, getE.eq_1, getT.eq_1, getT.eq_2, getT.eq_3, setE.eq_1, setT.eq_1, setT.eq_2, setT.eq_3, T.data.eq_1, T.data.eq_2, finW.eq_1, finW.eq_2, finW.eq_3, finW.eq_4, finW.eq_6, fin.eq_1, fin.eq_2, fin.eq_3, tgS.eq_1, wipeE.eq_1, wipeE.eq_2, fAdd.eq_1, fAdd.eq_2, fI2.eq_1, fB2.eq_1, fU.eq_1, fLen.eq_1, fLen.eq_2, fLen.eq_3, fIx.eq_1, fIx.eq_2, fIx.eq_3, fIsN.eq_1, fNotN.eq_1, isNone.eq_1, fInt.eq_1, fInt.eq_2, fInt.eq_3, fLs.eq_1, fLs.eq_2, fTp.eq_1, fTp.eq_2, fSlP.eq_3, wOf_l, wOf_o, tryA_nx, tryA_rt, tryA_bk, tryA_ct, noEr_nx, noEr_rt, noEr_bk, noEr_ct, isNone_i, isNone_b, isNone_s, isNone_l, isNone_t, iL_app, iL_len, iL_rep, iL_rev, allD_iL, dataL_iL, q_int, q_t, q_l, n_t, n_l, n_int, q_self, n_self, s_to, s_from, s_mid, sl_to, sl_from, sl_mid, add_t, add_l, cat_l, isi_t, isi_b, isi_i, isi_l, isi_s, at_0, at_1, at_2, at_3, at_4, at_5, at_6, ai_0, ai_1, ai_2, ai_3, ai_4, ai_5, ai_6, tgN_a, tgT_a, apd_ok, lc_ok, rg1_ok, rg2_ok, iL_snoc, iL_mapd, lc_const, rngD_len, iL_take, iL_drop, Int.toNat_natCast, dataL_nil, dataL_cons, allD.eq_1, allD.eq_2, ixN_ok, rep_l, tgS_nil, rep_none, rep_none0, List.take_left, List.drop_left, any_false, all_true, eq_self, set_iL, at_last, List.drop_succ_cons, List.drop_zero, List.take_succ_cons, List.take_zero, List.getLast?_cons_cons, List.getLast?_singleton, Int.cast_ofNat_Int, rg3_ok, rngC_len, fRv_l, b__law_part, c, hc1, ll8, iL_app]
/-! ## what is read -/
theorem packed_septets_ok (P : List Int) (s n : Nat) (hl : P.length < 100000) (hs : s < 8) (hn : n < 1000) : (s + 7 * n ≤ 8 * P.length ∧ CH (PP (UN (OB P) s n) s) = P ∧ f__packed_septets [.d (.tuple (iL P)), .d (.int s), .d (.int n)] = .rt (.d (.list (iL (UN (OB P) s n)))) [.d (.tuple (iL P)), .d (.int s), .d (.int n)]) ∨ (¬ (s + 7 * n ≤ 8 * P.length ∧ CH (PP (UN (OB P) s n) s) = P) ∧ f__packed_septets [.d (.tuple (iL P)), .d (.int s), .d (.int n)] = .er "BadText" none [.d (.tuple (iL P)), .d (.int s), .d (.int n)]) := by
  by_cases c : s + 7 * n ≤ 8 * P.length
  · have h1 := unpack_ok P s n hl (by omega) (by omega) c
    have hu : (UN (OB P) s n).length = n := by simp [UN]
    have h2 := pack_ok (UN (OB P) s n) s (by omega) (by omega)
    by_cases c2 : CH (PP (UN (OB P) s n) s) = P
    · left
      refine ⟨c, c2, ?_⟩
      unfold f__packed_septets
      simp (disch := (first | with_reducible assumption | omega | (simp only [iL_len, rngD_len, rngC_len, List.length_append, List.length_replicate, List.length_cons, List.length_nil, List.length_map, List.length_take, List.length_drop, List.length_range, SZ] <;> omega) | (simp only [iL_len, rngD_len, rngC_len, List.length_append, List.length_replicate, List.length_cons, List.length_nil, List.length_map, List.length_take, List.length_drop, List.length_range, SZ] at * <;> omega) | fail)) only [↓x_seq, ↓x_nil, ↓x_if, ↓x_set, ↓x_setV, ↓x_asg, ↓x_exp, ↓x_ret, ↓x_retV, ↓x_retN, ↓x_brk, ↓x_cnt, ↓x_for, ↓x_bdy, ↓x_C, ↓x_var, ↓x_dvar, ↓x_v1, ↓x_v2, ↓x_d1L, ↓x_d2L, ↓x_and, ↓x_or, ↓x_not, ↓x_ifx, ↓x_args0, ↓x_args1, ↓x_tup, ↓x_lst, ↓x_call, ↓x_vD, ↓x_dV, ↓x_slP, ↓x_opt0, ↓x_opt1, ↓x_iP, ↓x_rg1, ↓x_rg2, ↓x_rg3, ↓x_en, ↓x_zp, ↓x_rv, ↓x_ch, ↓x_lc, ↓x_aug, ↓x_app, ↓x_put, ↓x_pix, ↓x_try, ↓x_rep, ↓x_raise0, y_sq, y_sif, y_retV, y_setV, y_toV, y_ofV, y_orw, y_and, y_or, y_not, y_v1, y_v2a, y_v2b, y_finW, y_calB, sq_nx, sq_rt, sq_bk, sq_ct, sq_er, sq_no, dataL_d, allD_d, fnD, SZ, List.getElem?_cons_zero, List.getElem?_cons_succ, List.getElem?_nil, List.set_cons_zero, List.set_cons_succ, List.map_cons, List.map_nil, List.length_cons, List.length_nil, List.length_map, List.length_append, List.cons_append, List.nil_append, List.append_nil, Nat.reduceAdd, Nat.reduceSub, Nat.zero_add, Nat.add_zero, Option.map_some, Option.map_none, Option.getD_some, Option.getD_none, Bool.false_eq_true, Bool.true_eq_false, Bool.and_false, Bool.false_and, Bool.and_true, Bool.true_and, Bool.or_false, Bool.false_or, Bool.or_true, Bool.true_or, Bool.not_true, Bool.not_false, if_true, if_false, ite_true, ite_false, decide_eq_true_eq, Bool.and_eq_true, Bool.or_eq_true, Bool.not_eq_true', decide_eq_false_iff_not, decide_true, decide_false, true_and, and_true, reduceCtorEq, Int.reduceNeg, Int.reduceLT, Int.reduceLE, Int.reduceToNat, Nat.reduceLeDiff, Int.reduceAbs, Int.reduceSub, Int.reduceAdd, Int.reduceMul, Int.reduceEq, Nat.reduceMul, Nat.reduceEqDiff, Nat.reduceLT, Nat.reducePow, Int.reducePow, ↓reduceIte, ite_not, sif.eq_1, sif.eq_3, sif.eq_4, andA.eq_1, andA.eq_3, andA.eq_4, orA.eq_1, orA.eq_3, orA.eq_4, notA.eq_1, notA.eq_3, notA.eq_4, ifA.eq_1, ifA.eq_3, ifA.eq_4, orw.eq_1, orw.eq_2, orw.eq_3, v1r.eq_1, v1r.eq_2, v1a.eq_1, v1a.eq_2, v1a.eq_3, v2a.eq_1, v2a.eq_2, v2a.eq_3, v2b.eq_1, v2b.eq_2, v2b.eq_3, dlr.eq_1, dlr.eq_2, d1a.eq_1, d1a.eq_2, d1a.eq_3, d2a.eq_1, d2a.eq_2, d2a.eq_3, d2b.eq_1, d2b.eq_2, d2b.eq_3, ar1.eq_1, ar1.eq_2, ar1.eq_3, ar1.eq_4, ar2.eq_1, ar2.eq_2, ar2.eq_3, tupA.eq_1, tupA.eq_2, tupA.eq_3, lstA.eq_1, lstA.eq_2, lstA.eq_3, calA.eq_1, calA.eq_2, calA.eq_3, calB.eq_1, calB.eq_2, calB.eq_3, wOf.eq_1, varV.eq_1, varR.eq_1, varR.eq_2, varD.eq_1, setA.eq_1, setA.eq_2, setA.eq_4, setA.eq_5, setVA.eq_1, setVA.eq_2, setVA.eq_3, setVA.eq_4, asgA.eq_1, asgA.eq_2, asgA.eq_3, asgA.eq_4, asgB.eq_1, asgB.eq_2, expA.eq_1, expA.eq_2, expA.eq_3, retA.eq_1, retA.eq_2, retA.eq_3, retVA.eq_1, retVA.eq_2, retVA.eq_3, retVA.eq_4, forA.eq_1, forA.eq_2, forA.eq_3, sl0.eq_1, sl0.eq_2, sl0.eq_3, sl1.eq_1, sl1.eq_2, sl2.eq_1, sl2.eq_2, sl3.eq_1, sl3.eq_2, optA.eq_1, bdyA.eq_1, bdyA.eq_2, iPA.eq_1, iPA.eq_2, iPA.eq_3, iPA.eq_5, iPA.eq_6, rg1A.eq_3, rg1A.eq_4, rg2A.eq_3, rg2A.eq_4, rg3A.eq_3, rg3A.eq_4, enA.eq_1, enA.eq_3, enA.eq_4, zpA.eq_1, zpA.eq_3, zpA.eq_4, rvA.eq_1, rvA.eq_3, rvA.eq_4, ch1.eq_1, ch1.eq_2, ch1.eq_3, ch2.eq_1, ch2.eq_2, ch2.eq_3, chA.eq_1, chB.eq_1, chB.eq_2, chB.eq_3, chC.eq_1, chC.eq_2, lc0.eq_2, lc0.eq_3, lcA.eq_1, lcA.eq_2, augA.eq_1, augB.eq_1, augB.eq_3, augB.eq_4, appA.eq_1, appB.eq_1, appB.eq_2, appB.eq_3, putA.eq_1, putA.eq_2, putA.eq_3, putA2.eq_1, putA2.eq_2, putB.eq_1, putC.eq_1, putD.eq_1, pixA.eq_1, pixA2.eq_1, pixB.eq_1, tryA.eq_1, tryB.eq_1, tryB.eq_2, tryB.eq_3, noEr.eq_1, repA.eq_1, repA2.eq_1, repA2.eq_2, repB.eq_1, rdT.eq_1, rdT.eq_2, toV.eq_1, toV.eq_2, toV.eq_3, toV.eq_4, toV.eq_5, toV.eq_6, ofV.eq_1, ofV.eq_2, ofV.eq_4, ofV.eq_5, tOf.eq_1, tOf.eq_2, isL.eq_1, getE.eq_1, getT.eq_1, getT.eq_2, getT.eq_3, setE.eq_1, setT.eq_1, setT.eq_2, setT.eq_3, T.data.eq_1, T.data.eq_2, finW.eq_1, finW.eq_2, finW.eq_3, finW.eq_4, finW.eq_6, fin.eq_1, fin.eq_2, fin.eq_3, tgS.eq_1, wipeE.eq_1, wipeE.eq_2, fAdd.eq_1, fAdd.eq_2, fI2.eq_1, fB2.eq_1, fU.eq_1, fLen.eq_1, fLen.eq_2, fLen.eq_3, fIx.eq_1, fIx.eq_2, fIx.eq_3, fIsN.eq_1, fNotN.eq_1, isNone.eq_1, fInt.eq_1, fInt.eq_2, fInt.eq_3, fLs.eq_1, fLs.eq_2, fTp.eq_1, fTp.eq_2, fSlP.eq_3, wOf_l, wOf_o, tryA_nx, tryA_rt, tryA_bk, tryA_ct, noEr_nx, noEr_rt, noEr_bk, noEr_ct, isNone_i, isNone_b, isNone_s, isNone_l, isNone_t, iL_app, iL_len, iL_rep, iL_rev, allD_iL, dataL_iL, q_int, q_t, q_l, n_t, n_l, n_int, q_self, n_self, s_to, s_from, s_mid, sl_to, sl_from, sl_mid, add_t, add_l, cat_l, isi_t, isi_b, isi_i, isi_l, isi_s, at_0, at_1, at_2, at_3, at_4, at_5, at_6, ai_0, ai_1, ai_2, ai_3, ai_4, ai_5, ai_6, tgN_a, tgT_a, apd_ok, lc_ok, rg1_ok, rg2_ok, iL_snoc, iL_mapd, lc_const, rngD_len, iL_take, iL_drop, Int.toNat_natCast, dataL_nil, dataL_cons, allD.eq_1, allD.eq_2, ixN_ok, rep_l, tgS_nil, rep_none, rep_none0, List.take_left, List.drop_left, any_false, all_true, eq_self, set_iL, at_last, List.drop_succ_cons, List.drop_zero, List.take_succ_cons, List.take_zero, List.getLast?_cons_cons, List.getLast?_singleton, Int.cast_ofNat_Int, rg3_ok, rngC_len, fRv_l, b__packed_septets, h1, h2, c2]
    · right
      refine ⟨fun h => c2 h.2, ?_⟩
      unfold f__packed_septets
      simp (disch := (first | with_reducible assumption | omega | (simp only [iL_len, rngD_len, rngC_len, List.length_append, List.length_replicate, List.length_cons, List.length_nil, List.length_map, List.length_take, List.length_drop, List.length_range, SZ] <;> omega) | (simp only [iL_len, rngD_len, rngC_len, List.length_append, List.length_replicate, List.length_cons, List.length_nil, List.length_map, List.length_take, List.length_drop, List.length_range, SZ] at * <;> omega) | fail)) only [↓x_seq, ↓x_nil, ↓x_if, ↓x_set, ↓x_setV, ↓x_asg, ↓x_exp, ↓x_ret, ↓x_retV, ↓x_retN, ↓x_brk, ↓x_cnt, ↓x_for, ↓x_bdy, ↓x_C, ↓x_var, ↓x_dvar, ↓x_v1, ↓x_v2, ↓x_d1L, ↓x_d2L, ↓x_and, ↓x_or, ↓x_not, ↓x_ifx, ↓x_args0, ↓x_args1, ↓x_tup, ↓x_lst, ↓x_call, ↓x_vD, ↓x_dV, ↓x_slP, ↓x_opt0, ↓x_opt1, ↓x_iP, ↓x_rg1, ↓x_rg2, ↓x_rg3, ↓x_en, ↓x_zp, ↓x_rv, ↓x_ch, ↓x_lc, ↓x_aug, ↓x_app, ↓x_put, ↓x_pix, ↓x_try, ↓x_rep, ↓x_raise0, y_sq, y_sif, y_retV, y_setV, y_toV, y_ofV, y_orw, y_and, y_or, y_not, y_v1, y_v2a, y_v2b, y_finW, y_calB, sq_nx, sq_rt, sq_bk, sq_ct, sq_er, sq_no, dataL_d, allD_d, fnD, SZ, List.getElem?_cons_zero, List.getElem?_cons_succ, List.getElem?_nil, List.set_cons_zero, List.set_cons_succ, List.map_cons, List.map_nil, List.length_cons, List.length_nil, List.length_map, List.length_append, List.cons_append, List.nil_append, List.append_nil, Nat.reduceAdd, Nat.reduceSub, Nat.zero_add, Nat.add_zero, Option.map_some, Option.map_none, Option.getD_some, Option.getD_none, Bool.false_eq_true, Bool.true_eq_false, Bool.and_false, Bool.false_and, Bool.and_true, Bool.true_and, Bool.or_false, Bool.false_or, Bool.or_true, Bool.true_or, Bool.not_true, Bool.not_false, if_true, if_false, ite_true, ite_false, decide_eq_true_eq, Bool.and_eq_true, Bool.or_eq_true, Bool.not_eq_true', decide_eq_false_iff_not, decide_true, decide_false, true_and, and_true, reduceCtorEq, Int.reduceNeg, Int.reduceLT, Int.reduceLE, Int.reduceToNat, Nat.reduceLeDiff, Int.reduceAbs, Int.reduceSub, Int.reduceAdd, Int.reduceMul, Int.reduceEq, Nat.reduceMul, Nat.reduceEqDiff, Nat.reduceLT, Nat.reducePow, Int.reducePow, ↓reduceIte, ite_not, sif.eq_1, sif.eq_3, sif.eq_4, andA.eq_1, andA.eq_3, andA.eq_4, orA.eq_1, orA.eq_3, orA.eq_4, notA.eq_1, notA.eq_3, notA.eq_4, ifA.eq_1, ifA.eq_3, ifA.eq_4, orw.eq_1, orw.eq_2, orw.eq_3, v1r.eq_1, v1r.eq_2, v1a.eq_1, v1a.eq_2, v1a.eq_3, v2a.eq_1, v2a.eq_2, v2a.eq_3, v2b.eq_1, v2b.eq_2, v2b.eq_3, dlr.eq_1, dlr.eq_2, d1a.eq_1, d1a.eq_2, d1a.eq_3, d2a.eq_1, d2a.eq_2, d2a.eq_3, d2b.eq_1, d2b.eq_2, d2b.eq_3, ar1.eq_1, ar1.eq_2, ar1.eq_3, ar1.eq_4, ar2.eq_1, ar2.eq_2, ar2.eq_3, tupA.eq_1, tupA.eq_2, tupA.eq_3, lstA.eq_1, lstA.eq_2, lstA.eq_3, calA.eq_1, calA.eq_2, calA.eq_3, calB.eq_1, calB.eq_2, calB.eq_3, wOf.eq_1, varV.eq_1, varR.eq_1, varR.eq_2, varD.eq_1, setA.eq_1, setA.eq_2, setA.eq_4, setA.eq_5, setVA.eq_1, setVA.eq_2, setVA.eq_3, setVA.eq_4, asgA.eq_1, asgA.eq_2, asgA.eq_3, asgA.eq_4, asgB.eq_1, asgB.eq_2, expA.eq_1, expA.eq_2, expA.eq_3, retA.eq_1, retA.eq_2, retA.eq_3, retVA.eq_1, retVA.eq_2, retVA.eq_3, retVA.eq_4, forA.eq_1, forA.eq_2, forA.eq_3, sl0.eq_1, sl0.eq_2, sl0.eq_3, sl1.eq_1, sl1.eq_2, sl2.eq_1, sl2.eq_2, sl3.eq_1, sl3.eq_2, optA.eq_1, bdyA.eq_1, bdyA.eq_2, iPA.eq_1, iPA.eq_2, iPA.eq_3, iPA.eq_5, iPA.eq_6, rg1A.eq_3, rg1A.eq_4, rg2A.eq_3, rg2A.eq_4, rg3A.eq_3, rg3A.eq_4, enA.eq_1, enA.eq_3, enA.eq_4, zpA.eq_1, zpA.eq_3, zpA.eq_4, rvA.eq_1, rvA.eq_3, rvA.eq_4, ch1.eq_1, ch1.eq_2, ch1.eq_3, ch2.eq_1, ch2.eq_2, ch2.eq_3, chA.eq_1, chB.eq_1, chB.eq_2, chB.eq_3, chC.eq_1, chC.eq_2, lc0.eq_2, lc0.eq_3, lcA.eq_1, lcA.eq_2, augA.eq_1, augB.eq_1, augB.eq_3, augB.eq_4, appA.eq_1, appB.eq_1, appB.eq_2, appB.eq_3, putA.eq_1, putA.eq_2, putA.eq_3, putA2.eq_1, putA2.eq_2, putB.eq_1, putC.eq_1, putD.eq_1, pixA.eq_1, pixA2.eq_1, pixB.eq_1, tryA.eq_1, tryB.eq_1, tryB.eq_2, tryB.eq_3, noEr.eq_1, repA.eq_1, repA2.eq_1, repA2.eq_2, repB.eq_1, rdT.eq_1, rdT.eq_2, toV.eq_1, toV.eq_2, toV.eq_3, toV.eq_4, toV.eq_5, toV.eq_6, ofV.eq_1, ofV.eq_2, ofV.eq_4, ofV.eq_5, tOf.eq_1, tOf.eq_2, isL.eq_1, getE.eq_1, getT.eq_1, getT.eq_2, getT.eq_3, setE.eq_1, setT.eq_1, setT.eq_2, setT.eq_3, T.data.eq_1, T.data.eq_2, finW.eq_1, finW.eq_2, finW.eq_3, finW.eq_4, finW.eq_6, fin.eq_1, fin.eq_2, fin.eq_3, tgS.eq_1, wipeE.eq_1, wipeE.eq_2, fAdd.eq_1, fAdd.eq_2, fI2.eq_1, fB2.eq_1, fU.eq_1, fLen.eq_1, fLen.eq_2, fLen.eq_3, fIx.eq_1, fIx.eq_2, fIx.eq_3, fIsN.eq_1, fNotN.eq_1, isNone.eq_1, fInt.eq_1, fInt.eq_2, fInt.eq_3, fLs.eq_1, fLs.eq_2, fTp.eq_1, fTp.eq_2, fSlP.eq_3, wOf_l, wOf_o, tryA_nx, tryA_rt, tryA_bk, tryA_ct, noEr_nx, noEr_rt, noEr_bk, noEr_ct, isNone_i, isNone_b, isNone_s, isNone_l, isNone_t, iL_app, iL_len, iL_rep, iL_rev, allD_iL, dataL_iL, q_int, q_t, q_l, n_t, n_l, n_int, q_self, n_self, s_to, s_from, s_mid, sl_to, sl_from, sl_mid, add_t, add_l, cat_l, isi_t, isi_b, isi_i, isi_l, isi_s, at_0, at_1, at_2, at_3, at_4, at_5, at_6, ai_0, ai_1, ai_2, ai_3, ai_4, ai_5, ai_6, tgN_a, tgT_a, apd_ok, lc_ok, rg1_ok, rg2_ok, iL_snoc, iL_mapd, lc_const, rngD_len, iL_take, iL_drop, Int.toNat_natCast, dataL_nil, dataL_cons, allD.eq_1, allD.eq_2, ixN_ok, rep_l, tgS_nil, rep_none, rep_none0, List.take_left, List.drop_left, any_false, all_true, eq_self, set_iL, at_last, List.drop_succ_cons, List.drop_zero, List.take_succ_cons, List.take_zero, List.getLast?_cons_cons, List.getLast?_singleton, Int.cast_ofNat_Int, rg3_ok, rngC_len, fRv_l, b__packed_septets, h1, h2, c2]
  · right
    refine ⟨fun h => c h.1, ?_⟩
    have h1 := unpack_er P s n hl (by omega) (by omega) (by omega)
    unfold f__packed_septets
    simp (disch := (first | with_reducible assumption | omega | (simp only [iL_len, rngD_len, rngC_len, List.length_append, List.length_replicate, List.length_cons, List.length_nil, List.length_map, List.length_take, List.length_drop, List.length_range, SZ] <;> omega) | (simp only [iL_len, rngD_len, rngC_len, List.length_append, List.length_replicate, List.length_cons, List.length_nil, List.length_map, List.length_take, List.length_drop, List.length_range, SZ] at * <;> omega) | fail)) only [↓x_seq, ↓x_nil, ↓x_if, ↓x_set, ↓x_setV, ↓x_asg, ↓x_exp, ↓x_ret, ↓x_retV, ↓x_retN, ↓x_brk, ↓x_cnt, ↓x_for, ↓x_bdy, ↓x_C, ↓x_var, ↓x_dvar, ↓x_v1, ↓x_v2, ↓x_d1L, ↓x_d2L, ↓x_and, ↓x_or, ↓x_not, ↓x_ifx, ↓x_args0, ↓x_args1, ↓x_tup, ↓x_lst, ↓x_call, ↓x_vD, ↓x_dV, ↓x_slP, ↓x_opt0, ↓x_opt1, ↓x_iP, ↓x_rg1, ↓x_rg2, ↓x_rg3, ↓x_en, ↓x_zp, ↓x_rv, ↓x_ch, ↓x_lc, ↓x_aug, ↓x_app, ↓x_put, ↓x_pix, ↓x_try, ↓x_rep, ↓x_raise0, y_sq, y_sif, y_retV, y_setV, y_toV, y_ofV, y_orw, y_and, y_or, y_not, y_v1, y_v2a, y_v2b, y_finW, y_calB, sq_nx, sq_rt, sq_bk, sq_ct, sq_er, sq_no, dataL_d, allD_d, fnD, SZ, List.getElem?_cons_zero, List.getElem?_cons_succ, List.getElem?_nil, List.set_cons_zero, List.set_cons_succ, List.map_cons, List.map_nil, List.length_cons, List.length_nil, List.length_map, List.length_append, List.cons_append, List.nil_append, List.append_nil, Nat.reduceAdd, Nat.reduceSub, Nat.zero_add, Nat.add_zero, Option.map_some, Option.map_none, Option.getD_some, Option.getD_none, Bool.false_eq_true, Bool.true_eq_false, Bool.and_false, Bool.false_and, Bool.and_true, Bool.true_and, Bool.or_false, Bool.false_or, Bool.or_true, Bool.true_or, Bool.not_true, Bool.not_false, if_true, if_false, ite_true, ite_false, decide_eq_true_eq, Bool.and_eq_true, Bool.or_eq_true, Bool.not_eq_true', decide_eq_false_iff_not, decide_true, decide_false, true_and, and_true, reduceCtorEq, Int.reduceNeg, Int.reduceLT, Int.reduceLE, Int.reduceToNat, Nat.reduceLeDiff, Int.reduceAbs, Int.reduceSub, Int.reduceAdd, Int.reduceMul, Int.reduceEq, Nat.reduceMul, Nat.reduceEqDiff, Nat.reduceLT, Nat.reducePow, Int.reducePow, ↓reduceIte, ite_not, sif.eq_1, sif.eq_3, sif.eq_4, andA.eq_1, andA.eq_3, andA.eq_4, orA.eq_1, orA.eq_3, orA.eq_4, notA.eq_1, notA.eq_3, notA.eq_4, ifA.eq_1, ifA.eq_3, ifA.eq_4, orw.eq_1, orw.eq_2, orw.eq_3, v1r.eq_1, v1r.eq_2, v1a.eq_1, v1a.eq_2, v1a.eq_3, v2a.eq_1, v2a.eq_2, v2a.eq_3, v2b.eq_1, v2b.eq_2, v2b.eq_3, dlr.eq_1, dlr.eq_2, d1a.eq_1, d1a.eq_2, d1a.eq_3, d2a.eq_1, d2a.eq_2, d2a.eq_3, d2b.eq_1, d2b.eq_2, d2b.eq_3, ar1.eq_1, ar1.eq_2, ar1.eq_3, ar1.eq_4, ar2.eq_1, ar2.eq_2, ar2.eq_3, tupA.eq_1, tupA.eq_2, tupA.eq_3, lstA.eq_1, lstA.eq_2, lstA.eq_3, calA.eq_1, calA.eq_2, calA.eq_3, calB.eq_1, calB.eq_2, calB.eq_3, wOf.eq_1, varV.eq_1, varR.eq_1, varR.eq_2, varD.eq_1, setA.eq_1, setA.eq_2, setA.eq_4, setA.eq_5, setVA.eq_1, setVA.eq_2, setVA.eq_3, setVA.eq_4, asgA.eq_1, asgA.eq_2, asgA.eq_3, asgA.eq_4, asgB.eq_1, asgB.eq_2, expA.eq_1, expA.eq_2, expA.eq_3, retA.eq_1, retA.eq_2, retA.eq_3, retVA.eq_1, retVA.eq_2, retVA.eq_3, retVA.eq_4, forA.eq_1, forA.eq_2, forA.eq_3, sl0.eq_1, sl0.eq_2, sl0.eq_3, sl1.eq_1, sl1.eq_2, sl2.eq_1, sl2.eq_2, sl3.eq_1, sl3.eq_2, optA.eq_1, bdyA.eq_1, bdyA.eq_2, iPA.eq_1, iPA.eq_2, iPA.eq_3, iPA.eq_5, iPA.eq_6, rg1A.eq_3, rg1A.eq_4, rg2A.eq_3, rg2A.eq_4, rg3A.eq_3, rg3A.eq_4, enA.eq_1, enA.eq_3, enA.eq_4, zpA.eq_1, zpA.eq_3, zpA.eq_4, rvA.eq_1, rvA.eq_3, rvA.eq_4, ch1.eq_1, ch1.eq_2, ch1.eq_3, ch2.eq_1, ch2.eq_2, ch2.eq_3, chA.eq_1, chB.eq_1, chB.eq_2, chB.eq_3, chC.eq_1, chC.eq_2, lc0.eq_2, lc0.eq_3, lcA.eq_1, lcA.eq_2, augA.eq_1, augB.eq_1, augB.eq_3, augB.eq_4, appA.eq_1, appB.eq_1, appB.eq_2, appB.eq_3, putA.eq_1, putA.eq_2, putA.eq_3, putA2.eq_1, putA2.eq_2, putB.eq_1, putC.eq_1, putD.eq_1, pixA.eq_1, pixA2.eq_1, pixB.eq_1, tryA.eq_1, tryB.eq_1, tryB.eq_2, tryB.eq_3, noEr.eq_1, repA.eq_1, repA2.eq_1, repA2.eq_2, repB.eq_1, rdT.eq_1, rdT.eq_2, toV.eq_1, toV.eq_2, toV.eq_3, toV.eq_4, toV.eq_5, toV.eq_6, ofV.eq_1, ofV.eq_2, ofV.eq_4, ofV.eq_5, tOf.eq_1, tOf.eq_2, isL.eq_1, getE.eq_1, getT.eq_1, getT.eq_2, getT.eq_3, setE.eq_1, setT.eq_1, setT.eq_2, setT.eq_3, T.data.eq_1, T.data.eq_2, finW.eq_1, finW.eq_2, finW.eq_3, finW.eq_4, finW.eq_6, fin.eq_1, fin.eq_2, fin.eq_3, tgS.eq_1, wipeE.eq_1, wipeE.eq_2, fAdd.eq_1, fAdd.eq_2, fI2.eq_1, fB2.eq_1, fU.eq_1, fLen.eq_1, fLen.eq_2, fLen.eq_3, fIx.eq_1, fIx.eq_2, fIx.eq_3, fIsN.eq_1, fNotN.eq_1, isNone.eq_1, fInt.eq_1, fInt.eq_2, fInt.eq_3, fLs.eq_1, fLs.eq_2, fTp.eq_1, fTp.eq_2, fSlP.eq_3, wOf_l, wOf_o, tryA_nx, tryA_rt, tryA_bk, tryA_ct, noEr_nx, noEr_rt, noEr_bk, noEr_ct, isNone_i, isNone_b, isNone_s, isNone_l, isNone_t, iL_app, iL_len, iL_rep, iL_rev, allD_iL, dataL_iL, q_int, q_t, q_l, n_t, n_l, n_int, q_self, n_self, s_to, s_from, s_mid, sl_to, sl_from, sl_mid, add_t, add_l, cat_l, isi_t, isi_b, isi_i, isi_l, isi_s, at_0, at_1, at_2, at_3, at_4, at_5, at_6, ai_0, ai_1, ai_2, ai_3, ai_4, ai_5, ai_6, tgN_a, tgT_a, apd_ok, lc_ok, rg1_ok, rg2_ok, iL_snoc, iL_mapd, lc_const, rngD_len, iL_take, iL_drop, Int.toNat_natCast, dataL_nil, dataL_cons, allD.eq_1, allD.eq_2, ixN_ok, rep_l, tgS_nil, rep_none, rep_none0, List.take_left, List.drop_left, any_false, all_true, eq_self, set_iL, at_last, List.drop_succ_cons, List.drop_zero, List.take_succ_cons, List.take_zero, List.getLast?_cons_cons, List.getLast?_singleton, Int.cast_ofNat_Int, rg3_ok, rngC_len, fRv_l, b__packed_septets, h1]
theorem packed_good (row : List Int) (s : Nat) (hs : s < 8) (hl : row.length < 1000) (hr : ∀ x ∈ row, 0 ≤ x ∧ x < 128) : f__packed_septets [.d (.tuple (iL (CH (PP row s)))), .d (.int s), .d (.int row.length)] = .rt (.d (.list (iL row))) [.d (.tuple (iL (CH (PP row s)))), .d (.int s), .d (.int row.length)] := by
  have k := CHP_len row s
  have hu : UN (OB (CH (PP row s))) s row.length = row := by rw [OBP, UN_row row s row.length (Nat.le_refl _) hr, List.take_length]
  rcases packed_septets_ok (CH (PP row s)) s row.length (by omega) hs hl with ⟨_, _, h⟩ | ⟨h, _⟩
  · rw [hu] at h; exact h
  · exact absurd ⟨by omega, by rw [hu]⟩ h


theorem tgS_iL {i : Nat} {is : List Nat} {x : Int} {xs : List Int} {e : Dn.Env} : tgS (i :: is) (iL (x :: xs)) e = tgS is (iL xs) (e.set i (some (.d (.int x)))) := rfl
theorem tgS_iL0 {e : Dn.Env} : tgS [] (iL []) e = e := rfl
/-- what is told of a part -/
def RdOk (O : List Int) : Prop := f_read_part [.d (.tuple (iL O))] = .er "BadText" none [.d (.tuple (iL O))] ∨ ∃ (m n k : Int) (row : List Int), row.length ≤ 160 ∧ (n = 1 → m = -1 ∧ k = 1) ∧ (n ≠ 1 → 2 ≤ n ∧ n ≤ 4 ∧ 1 ≤ k ∧ k ≤ n ∧ 1 ≤ row.length ∧ row.length ≤ 153) ∧ partI m n k row = O ∧ f_read_part [.d (.tuple (iL O))] = .rt (.d (.tuple [.int m, .int n, .int k, .list (iL row)])) [.d (.tuple (iL O))]
theorem UN_len (bs : List Int) (s n : Nat) : (UN bs s n).length = n := by simp [UN]
theorem alone_er1 (a : Int) : f__alone_septets [.d (.tuple (iL [a]))] = .er "BadText" none [.d (.tuple (iL [a]))] := by
  unfold f__alone_septets
  simp (disch := (first | with_reducible assumption | omega | (simp only [iL_len, rngD_len, rngC_len, List.length_append, List.length_replicate, List.length_cons, List.length_nil, List.length_map, List.length_take, List.length_drop, List.length_range, SZ] <;> omega) | (simp only [iL_len, rngD_len, rngC_len, List.length_append, List.length_replicate, List.length_cons, List.length_nil, List.length_map, List.length_take, List.length_drop, List.length_range, SZ] at * <;> omega) | fail)) only [↓x_seq, ↓x_nil, ↓x_if, ↓x_set, ↓x_setV, ↓x_asg, ↓x_exp, ↓x_ret, ↓x_retV, ↓x_retN, ↓x_brk, ↓x_cnt, ↓x_for, ↓x_bdy, ↓x_C, ↓x_var, ↓x_dvar, ↓x_v1, ↓x_v2, ↓x_d1L, ↓x_d2L, ↓x_and, ↓x_or, ↓x_not, ↓x_ifx, ↓x_args0, ↓x_args1, ↓x_tup, ↓x_lst, ↓x_call, ↓x_vD, ↓x_dV, ↓x_slP, ↓x_opt0, ↓x_opt1, ↓x_iP, ↓x_rg1, ↓x_rg2, ↓x_rg3, ↓x_en, ↓x_zp, ↓x_rv, ↓x_ch, ↓x_lc, ↓x_aug, ↓x_app, ↓x_put, ↓x_pix, ↓x_try, ↓x_rep, ↓x_raise0, y_sq, y_sif, y_retV, y_setV, y_toV, y_ofV, y_orw, y_and, y_or, y_not, y_v1, y_v2a, y_v2b, y_finW, y_calB, sq_nx, sq_rt, sq_bk, sq_ct, sq_er, sq_no, dataL_d, allD_d, fnD, SZ, List.getElem?_cons_zero, List.getElem?_cons_succ, List.getElem?_nil, List.set_cons_zero, List.set_cons_succ, List.map_cons, List.map_nil, List.length_cons, List.length_nil, List.length_map, List.length_append, List.cons_append, List.nil_append, List.append_nil, Nat.reduceAdd, Nat.reduceSub, Nat.zero_add, Nat.add_zero, Option.map_some, Option.map_none, Option.getD_some, Option.getD_none, Bool.false_eq_true, Bool.true_eq_false, Bool.and_false, Bool.false_and, Bool.and_true, Bool.true_and, Bool.or_false, Bool.false_or, Bool.or_true, Bool.true_or, Bool.not_true, Bool.not_false, if_true, if_false, ite_true, ite_false, decide_eq_true_eq, Bool.and_eq_true, Bool.or_eq_true, Bool.not_eq_true', decide_eq_false_iff_not, decide_true, decide_false, true_and, and_true, reduceCtorEq, Int.reduceNeg, Int.reduceLT, Int.reduceLE, Int.reduceToNat, Nat.reduceLeDiff, Int.reduceAbs, Int.reduceSub, Int.reduceAdd, Int.reduceMul, Int.reduceEq, Nat.reduceMul, Nat.reduceEqDiff, Nat.reduceLT, Nat.reducePow, Int.reducePow, ↓reduceIte, ite_not, sif.eq_1, sif.eq_3, sif.eq_4, andA.eq_1, andA.eq_3, andA.eq_4, orA.eq_1, orA.eq_3, orA.eq_4, notA.eq_1, notA.eq_3, notA.eq_4, ifA.eq_1, ifA.eq_3, ifA.eq_4, orw.eq_1, orw.eq_2, orw.eq_3, v1r.eq_1, v1r.eq_2, v1a.eq_1, v1a.eq_2, v1a.eq_3, v2a.eq_1, v2a.eq_2, v2a.eq_3, v2b.eq_1, v2b.eq_2, v2b.eq_3, dlr.eq_1, dlr.eq_2, d1a.eq_1, d1a.eq_2, d1a.eq_3, d2a.eq_1, d2a.eq_2, d2a.eq_3, d2b.eq_1, d2b.eq_2, d2b.eq_3, ar1.eq_1, ar1.eq_2, ar1.eq_3, ar1.eq_4, ar2.eq_1, ar2.eq_2, ar2.eq_3, tupA.eq_1, tupA.eq_2, tupA.eq_3, lstA.eq_1, lstA.eq_2, lstA.eq_3, calA.eq_1, calA.eq_2, calA.eq_3, calB.eq_1, calB.eq_2, calB.eq_3, wOf.eq_1, varV.eq_1, varR.eq_1, varR.eq_2, varD.eq_1, setA.eq_1, setA.eq_2, setA.eq_4, setA.eq_5, setVA.eq_1, setVA.eq_2, setVA.eq_3, setVA.eq_4, asgA.eq_1, asgA.eq_2, asgA.eq_3, asgA.eq_4, asgB.eq_1, asgB.eq_2, expA.eq_1, expA.eq_2, expA.eq_3, retA.eq_1, retA.eq_2, retA.eq_3, retVA.eq_1, retVA.eq_2, retVA.eq_3, retVA.eq_4, forA.eq_1, forA.eq_2, forA.eq_3, sl0.eq_1, sl0.eq_2, sl0.eq_3, sl1.eq_1, sl1.eq_2, sl2.eq_1, sl2.eq_2, sl3.eq_1, sl3.eq_2, optA.eq_1, bdyA.eq_1, bdyA.eq_2, iPA.eq_1, iPA.eq_2, iPA.eq_3, iPA.eq_5, iPA.eq_6, rg1A.eq_3, rg1A.eq_4, rg2A.eq_3, rg2A.eq_4, rg3A.eq_3, rg3A.eq_4, enA.eq_1, enA.eq_3, enA.eq_4, zpA.eq_1, zpA.eq_3, zpA.eq_4, rvA.eq_1, rvA.eq_3, rvA.eq_4, ch1.eq_1, ch1.eq_2, ch1.eq_3, ch2.eq_1, ch2.eq_2, ch2.eq_3, chA.eq_1, chB.eq_1, chB.eq_2, chB.eq_3, chC.eq_1, chC.eq_2, lc0.eq_2, lc0.eq_3, lcA.eq_1, lcA.eq_2, augA.eq_1, augB.eq_1, augB.eq_3, augB.eq_4, appA.eq_1, appB.eq_1, appB.eq_2, appB.eq_3, putA.eq_1, putA.eq_2, putA.eq_3, putA2.eq_1, putA2.eq_2, putB.eq_1, putC.eq_1, putD.eq_1, pixA.eq_1, pixA2.eq_1, pixB.eq_1, tryA.eq_1, tryB.eq_1, tryB.eq_2, tryB.eq_3, noEr.eq_1, repA.eq_1, repA2.eq_1, repA2.eq_2, repB.eq_1, rdT.eq_1, rdT.eq_2, toV.eq_1, toV.eq_2, toV.eq_3, toV.eq_4, toV.eq_5, toV.eq_6, ofV.eq_1, ofV.eq_2, ofV.eq_4, ofV.eq_5, tOf.eq_1, tOf.eq_2, isL.eq_1, getE.eq_1, getT.eq_1, getT.eq_2, getT.eq_3, setE.eq_1, setT.eq_1, setT.eq_2, setT.eq_3, T.data.eq_1, T.data.eq_2, finW.eq_1, finW.eq_2, finW.eq_3, finW.eq_4, finW.eq_6, fin.eq_1, fin.eq_2, fin.eq_3, tgS.eq_1, wipeE.eq_1, wipeE.eq_2, fAdd.eq_1, fAdd.eq_2, fI2.eq_1, fB2.eq_1, fU.eq_1, fLen.eq_1, fLen.eq_2, fLen.eq_3, fIx.eq_1, fIx.eq_2, fIx.eq_3, fIsN.eq_1, fNotN.eq_1, isNone.eq_1, fInt.eq_1, fInt.eq_2, fInt.eq_3, fLs.eq_1, fLs.eq_2, fTp.eq_1, fTp.eq_2, fSlP.eq_3, wOf_l, wOf_o, tryA_nx, tryA_rt, tryA_bk, tryA_ct, noEr_nx, noEr_rt, noEr_bk, noEr_ct, isNone_i, isNone_b, isNone_s, isNone_l, isNone_t, iL_app, iL_len, iL_rep, iL_rev, allD_iL, dataL_iL, q_int, q_t, q_l, n_t, n_l, n_int, q_self, n_self, s_to, s_from, s_mid, sl_to, sl_from, sl_mid, add_t, add_l, cat_l, isi_t, isi_b, isi_i, isi_l, isi_s, at_0, at_1, at_2, at_3, at_4, at_5, at_6, ai_0, ai_1, ai_2, ai_3, ai_4, ai_5, ai_6, tgN_a, tgT_a, apd_ok, lc_ok, rg1_ok, rg2_ok, iL_snoc, iL_mapd, lc_const, rngD_len, iL_take, iL_drop, Int.toNat_natCast, dataL_nil, dataL_cons, allD.eq_1, allD.eq_2, ixN_ok, rep_l, tgS_nil, rep_none, rep_none0, List.take_left, List.drop_left, any_false, all_true, eq_self, set_iL, at_last, List.drop_succ_cons, List.drop_zero, List.take_succ_cons, List.take_zero, List.getLast?_cons_cons, List.getLast?_singleton, Int.cast_ofNat_Int, rg3_ok, rngC_len, fRv_l, b__alone_septets]
theorem alone_er2 (a c : Int) (P : List Int) (h : ¬ (0 ≤ c ∧ c ≤ 160)) : f__alone_septets [.d (.tuple (iL (a :: c :: P)))] = .er "BadText" none [.d (.tuple (iL (a :: c :: P)))] := by
  have e0 : (((P.length + 1 + 1 : Nat) : Int) < 2) = False := by apply eq_false; omega
  unfold f__alone_septets
  by_cases c1 : 0 ≤ c
  · have c2 : (c ≤ 160) = False := by apply eq_false; omega
    simp (disch := (first | with_reducible assumption | omega | (simp only [iL_len, rngD_len, rngC_len, List.length_append, List.length_replicate, List.length_cons, List.length_nil, List.length_map, List.length_take, List.length_drop, List.length_range, SZ] <;> omega) | (simp only [iL_len, rngD_len, rngC_len, List.length_append, List.length_replicate, List.length_cons, List.length_nil, List.length_map, List.length_take, List.length_drop, List.length_range, SZ] at * <;> omega) | fail)) only [↓x_seq, ↓x_nil, ↓x_if, ↓x_set, ↓x_setV, ↓x_asg, ↓x_exp, ↓x_ret, ↓x_retV, ↓x_retN, ↓x_brk, ↓x_cnt, ↓x_for, ↓x_bdy, ↓x_C, ↓x_var, ↓x_dvar, ↓x_v1, ↓x_v2, ↓x_d1L, ↓x_d2L, ↓x_and, ↓x_or, ↓x_not, ↓x_ifx, ↓x_args0, ↓x_args1, ↓x_tup, ↓x_lst, ↓x_call, ↓x_vD, ↓x_dV, ↓x_slP, ↓x_opt0, ↓x_opt1, ↓x_iP, ↓x_rg1, ↓x_rg2, ↓x_rg3, ↓x_en, ↓x_zp, ↓x_rv, ↓x_ch, ↓x_lc, ↓x_aug, ↓x_app, ↓x_put, ↓x_pix, ↓x_try, ↓x_rep, ↓x_raise0, y_sq, y_sif, y_retV, y_setV, y_toV, y_ofV, y_orw, y_and, y_or, y_not, y_v1, y_v2a, y_v2b, y_finW, y_calB, sq_nx, sq_rt, sq_bk, sq_ct, sq_er, sq_no, dataL_d, allD_d, fnD, SZ, List.getElem?_cons_zero, List.getElem?_cons_succ, List.getElem?_nil, List.set_cons_zero, List.set_cons_succ, List.map_cons, List.map_nil, List.length_cons, List.length_nil, List.length_map, List.length_append, List.cons_append, List.nil_append, List.append_nil, Nat.reduceAdd, Nat.reduceSub, Nat.zero_add, Nat.add_zero, Option.map_some, Option.map_none, Option.getD_some, Option.getD_none, Bool.false_eq_true, Bool.true_eq_false, Bool.and_false, Bool.false_and, Bool.and_true, Bool.true_and, Bool.or_false, Bool.false_or, Bool.or_true, Bool.true_or, Bool.not_true, Bool.not_false, if_true, if_false, ite_true, ite_false, decide_eq_true_eq, Bool.and_eq_true, Bool.or_eq_true, Bool.not_eq_true', decide_eq_false_iff_not, decide_true, decide_false, true_and, and_true, reduceCtorEq, Int.reduceNeg, Int.reduceLT, Int.reduceLE, Int.reduceToNat, Nat.reduceLeDiff, Int.reduceAbs, Int.reduceSub, Int.reduceAdd, Int.reduceMul, Int.reduceEq, Nat.reduceMul, Nat.reduceEqDiff, Nat.reduceLT, Nat.reducePow, Int.reducePow, ↓reduceIte, ite_not, sif.eq_1, sif.eq_3, sif.eq_4, andA.eq_1, andA.eq_3, andA.eq_4, orA.eq_1, orA.eq_3, orA.eq_4, notA.eq_1, notA.eq_3, notA.eq_4, ifA.eq_1, ifA.eq_3, ifA.eq_4, orw.eq_1, orw.eq_2, orw.eq_3, v1r.eq_1, v1r.eq_2, v1a.eq_1, v1a.eq_2, v1a.eq_3, v2a.eq_1, v2a.eq_2, v2a.eq_3, v2b.eq_1, v2b.eq_2, v2b.eq_3, dlr.eq_1, dlr.eq_2, d1a.eq_1, d1a.eq_2, d1a.eq_3, d2a.eq_1, d2a.eq_2, d2a.eq_3, d2b.eq_1, d2b.eq_2, d2b.eq_3, ar1.eq_1, ar1.eq_2, ar1.eq_3, ar1.eq_4, ar2.eq_1, ar2.eq_2, ar2.eq_3, tupA.eq_1, tupA.eq_2, tupA.eq_3, lstA.eq_1, lstA.eq_2, lstA.eq_3, calA.eq_1, calA.eq_2, calA.eq_3, calB.eq_1, calB.eq_2, calB.eq_3, wOf.eq_1, varV.eq_1, varR.eq_1, varR.eq_2, varD.eq_1, setA.eq_1, setA.eq_2, setA.eq_4, setA.eq_5, setVA.eq_1, setVA.eq_2, setVA.eq_3, setVA.eq_4, asgA.eq_1, asgA.eq_2, asgA.eq_3, asgA.eq_4, asgB.eq_1, asgB.eq_2, expA.eq_1, expA.eq_2, expA.eq_3, retA.eq_1, retA.eq_2, retA.eq_3, retVA.eq_1, retVA.eq_2, retVA.eq_3, retVA.eq_4, forA.eq_1, forA.eq_2, forA.eq_3, sl0.eq_1, sl0.eq_2, sl0.eq_3, sl1.eq_1, sl1.eq_2, sl2.eq_1, sl2.eq_2, sl3.eq_1, sl3.eq_2, optA.eq_1, bdyA.eq_1, bdyA.eq_2, iPA.eq_1, iPA.eq_2, iPA.eq_3, iPA.eq_5, iPA.eq_6, rg1A.eq_3, rg1A.eq_4, rg2A.eq_3, rg2A.eq_4, rg3A.eq_3, rg3A.eq_4, enA.eq_1, enA.eq_3, enA.eq_4, zpA.eq_1, zpA.eq_3, zpA.eq_4, rvA.eq_1, rvA.eq_3, rvA.eq_4, ch1.eq_1, ch1.eq_2, ch1.eq_3, ch2.eq_1, ch2.eq_2, ch2.eq_3, chA.eq_1, chB.eq_1, chB.eq_2, chB.eq_3, chC.eq_1, chC.eq_2, lc0.eq_2, lc0.eq_3, lcA.eq_1, lcA.eq_2, augA.eq_1, augB.eq_1, augB.eq_3, augB.eq_4, appA.eq_1, appB.eq_1, appB.eq_2, appB.eq_3, putA.eq_1, putA.eq_2, putA.eq_3, putA2.eq_1, putA2.eq_2, putB.eq_1, putC.eq_1, putD.eq_1, pixA.eq_1, pixA2.eq_1, pixB.eq_1, tryA.eq_1, tryB.eq_1, tryB.eq_2, tryB.eq_3, noEr.eq_1, repA.eq_1, repA2.eq_1, repA2.eq_2, repB.eq_1, rdT.eq_1, rdT.eq_2, toV.eq_1, toV.eq_2, toV.eq_3, toV.eq_4, toV.eq_5, toV.eq_6, ofV.eq_1, ofV.eq_2, ofV.eq_4, ofV.eq_5, tOf.eq_1, tOf.eq_2, isL.eq_1, getE.eq_1, getT.eq_1, getT.eq_2, getT.eq_3, setE.eq_1, setT.eq_1, setT.eq_2, setT.eq_3, T.data.eq_1, T.data.eq_2, finW.eq_1, finW.eq_2, finW.eq_3, finW.eq_4, finW.eq_6, fin.eq_1, fin.eq_2, fin.eq_3, tgS.eq_1, wipeE.eq_1, wipeE.eq_2, fAdd.eq_1, fAdd.eq_2, fI2.eq_1, fB2.eq_1, fU.eq_1, fLen.eq_1, fLen.eq_2, fLen.eq_3, fIx.eq_1, fIx.eq_2, fIx.eq_3, fIsN.eq_1, fNotN.eq_1, isNone.eq_1, fInt.eq_1, fInt.eq_2, fInt.eq_3, fLs.eq_1, fLs.eq_2, fTp.eq_1, fTp.eq_2, fSlP.eq_3, wOf_l, wOf_o, tryA_nx, tryA_rt, tryA_bk, tryA_ct, noEr_nx, noEr_rt, noEr_bk, noEr_ct, isNone_i, isNone_b, isNone_s, isNone_l, isNone_t, iL_app, iL_len, iL_rep, iL_rev, allD_iL, dataL_iL, q_int, q_t, q_l, n_t, n_l, n_int, q_self, n_self, s_to, s_from, s_mid, sl_to, sl_from, sl_mid, add_t, add_l, cat_l, isi_t, isi_b, isi_i, isi_l, isi_s, at_0, at_1, at_2, at_3, at_4, at_5, at_6, ai_0, ai_1, ai_2, ai_3, ai_4, ai_5, ai_6, tgN_a, tgT_a, apd_ok, lc_ok, rg1_ok, rg2_ok, iL_snoc, iL_mapd, lc_const, rngD_len, iL_take, iL_drop, Int.toNat_natCast, dataL_nil, dataL_cons, allD.eq_1, allD.eq_2, ixN_ok, rep_l, tgS_nil, rep_none, rep_none0, List.take_left, List.drop_left, any_false, all_true, eq_self, set_iL, at_last, List.drop_succ_cons, List.drop_zero, List.take_succ_cons, List.take_zero, List.getLast?_cons_cons, List.getLast?_singleton, Int.cast_ofNat_Int, rg3_ok, rngC_len, fRv_l, b__alone_septets, e0, c1, c2]
  · simp (disch := (first | with_reducible assumption | omega | (simp only [iL_len, rngD_len, rngC_len, List.length_append, List.length_replicate, List.length_cons, List.length_nil, List.length_map, List.length_take, List.length_drop, List.length_range, SZ] <;> omega) | (simp only [iL_len, rngD_len, rngC_len, List.length_append, List.length_replicate, List.length_cons, List.length_nil, List.length_map, List.length_take, List.length_drop, List.length_range, SZ] at * <;> omega) | fail)) only [↓x_seq, ↓x_nil, ↓x_if, ↓x_set, ↓x_setV, ↓x_asg, ↓x_exp, ↓x_ret, ↓x_retV, ↓x_retN, ↓x_brk, ↓x_cnt, ↓x_for, ↓x_bdy, ↓x_C, ↓x_var, ↓x_dvar, ↓x_v1, ↓x_v2, ↓x_d1L, ↓x_d2L, ↓x_and, ↓x_or, ↓x_not, ↓x_ifx, ↓x_args0, ↓x_args1, ↓x_tup, ↓x_lst, ↓x_call, ↓x_vD, ↓x_dV, ↓x_slP, ↓x_opt0, ↓x_opt1, ↓x_iP, ↓x_rg1, ↓x_rg2, ↓x_rg3, ↓x_en, ↓x_zp, ↓x_rv, ↓x_ch, ↓x_lc, ↓x_aug, ↓x_app, ↓x_put, ↓x_pix, ↓x_try, ↓x_rep, ↓x_raise0, y_sq, y_sif, y_retV, y_setV, y_toV, y_ofV, y_orw, y_and, y_or, y_not, y_v1, y_v2a, y_v2b, y_finW, y_calB, sq_nx, sq_rt, sq_bk, sq_ct, sq_er, sq_no, dataL_d, allD_d, fnD, SZ, List.getElem?_cons_zero, List.getElem?_cons_succ, List.getElem?_nil, List.set_cons_zero, List.set_cons_succ, List.map_cons, List.map_nil, List.length_cons, List.length_nil, List.length_map, List.length_append, List.cons_append, List.nil_append, List.append_nil, Nat.reduceAdd, Nat.reduceSub, Nat.zero_add, Nat.add_zero, Option.map_some, Option.map_none, Option.getD_some, Option.getD_none, Bool.false_eq_true, Bool.true_eq_false, Bool.and_false, Bool.false_and, Bool.and_true, Bool.true_and, Bool.or_false, Bool.false_or, Bool.or_true, Bool.true_or, Bool.not_true, Bool.not_false, if_true, if_false, ite_true, ite_false, decide_eq_true_eq, Bool.and_eq_true, Bool.or_eq_true, Bool.not_eq_true', decide_eq_false_iff_not, decide_true, decide_false, true_and, and_true, reduceCtorEq, Int.reduceNeg, Int.reduceLT, Int.reduceLE, Int.reduceToNat, Nat.reduceLeDiff, Int.reduceAbs, Int.reduceSub, Int.reduceAdd, Int.reduceMul, Int.reduceEq, Nat.reduceMul, Nat.reduceEqDiff, Nat.reduceLT, Nat.reducePow, Int.reducePow, ↓reduceIte, ite_not, sif.eq_1, sif.eq_3, sif.eq_4, andA.eq_1, andA.eq_3, andA.eq_4, orA.eq_1, orA.eq_3, orA.eq_4, notA.eq_1, notA.eq_3, notA.eq_4, ifA.eq_1, ifA.eq_3, ifA.eq_4, orw.eq_1, orw.eq_2, orw.eq_3, v1r.eq_1, v1r.eq_2, v1a.eq_1, v1a.eq_2, v1a.eq_3, v2a.eq_1, v2a.eq_2, v2a.eq_3, v2b.eq_1, v2b.eq_2, v2b.eq_3, dlr.eq_1, dlr.eq_2, d1a.eq_1, d1a.eq_2, d1a.eq_3, d2a.eq_1, d2a.eq_2, d2a.eq_3, d2b.eq_1, d2b.eq_2, d2b.eq_3, ar1.eq_1, ar1.eq_2, ar1.eq_3, ar1.eq_4, ar2.eq_1, ar2.eq_2, ar2.eq_3, tupA.eq_1, tupA.eq_2, tupA.eq_3, lstA.eq_1, lstA.eq_2, lstA.eq_3, calA.eq_1, calA.eq_2, calA.eq_3, calB.eq_1, calB.eq_2, calB.eq_3, wOf.eq_1, varV.eq_1, varR.eq_1, varR.eq_2, varD.eq_1, setA.eq_1, setA.eq_2, setA.eq_4, setA.eq_5, setVA.eq_1, setVA.eq_2, setVA.eq_3, setVA.eq_4, asgA.eq_1, asgA.eq_2, asgA.eq_3, asgA.eq_4, asgB.eq_1, asgB.eq_2, expA.eq_1, expA.eq_2, expA.eq_3, retA.eq_1, retA.eq_2, retA.eq_3, retVA.eq_1, retVA.eq_2, retVA.eq_3, retVA.eq_4, forA.eq_1, forA.eq_2, forA.eq_3, sl0.eq_1, sl0.eq_2, sl0.eq_3, sl1.eq_1, sl1.eq_2, sl2.eq_1, sl2.eq_2, sl3.eq_1, sl3.eq_2, optA.eq_1, bdyA.eq_1, bdyA.eq_2, iPA.eq_1, iPA.eq_2, iPA.eq_3, iPA.eq_5, iPA.eq_6, rg1A.eq_3, rg1A.eq_4, rg2A.eq_3, rg2A.eq_4, rg3A.eq_3, rg3A.eq_4, enA.eq_1, enA.eq_3, enA.eq_4, zpA.eq_1, zpA.eq_3, zpA.eq_4, rvA.eq_1, rvA.eq_3, rvA.eq_4, ch1.eq_1, ch1.eq_2, ch1.eq_3, ch2.eq_1, ch2.eq_2, ch2.eq_3, chA.eq_1, chB.eq_1, chB.eq_2, chB.eq_3, chC.eq_1, chC.eq_2, lc0.eq_2, lc0.eq_3, lcA.eq_1, lcA.eq_2, augA.eq_1, augB.eq_1, augB.eq_3, augB.eq_4, appA.eq_1, appB.eq_1, appB.eq_2, appB.eq_3, putA.eq_1, putA.eq_2, putA.eq_3, putA2.eq_1, putA2.eq_2, putB.eq_1, putC.eq_1, putD.eq_1, pixA.eq_1, pixA2.eq_1, pixB.eq_1, tryA.eq_1, tryB.eq_1, tryB.eq_2, tryB.eq_3, noEr.eq_1, repA.eq_1, repA2.eq_1, repA2.eq_2, repB.eq_1, rdT.eq_1, rdT.eq_2, toV.eq_1, toV.eq_2, toV.eq_3, toV.eq_4, toV.eq_5, toV.eq_6, ofV.eq_1, ofV.eq_2, ofV.eq_4, ofV.eq_5, tOf.eq_1, tOf.eq_2, isL.eq_1, getE.eq_1, getT.eq_1, getT.eq_2, getT.eq_3, setE.eq_1, setT.eq_1, setT.eq_2, setT.eq_3, T.data.eq_1, T.data.eq_2, finW.eq_1, finW.eq_2, finW.eq_3, finW.eq_4, finW.eq_6, fin.eq_1, fin.eq_2, fin.eq_3, tgS.eq_1, wipeE.eq_1, wipeE.eq_2, fAdd.eq_1, fAdd.eq_2, fI2.eq_1, fB2.eq_1, fU.eq_1, fLen.eq_1, fLen.eq_2, fLen.eq_3, fIx.eq_1, fIx.eq_2, fIx.eq_3, fIsN.eq_1, fNotN.eq_1, isNone.eq_1, fInt.eq_1, fInt.eq_2, fInt.eq_3, fLs.eq_1, fLs.eq_2, fTp.eq_1, fTp.eq_2, fSlP.eq_3, wOf_l, wOf_o, tryA_nx, tryA_rt, tryA_bk, tryA_ct, noEr_nx, noEr_rt, noEr_bk, noEr_ct, isNone_i, isNone_b, isNone_s, isNone_l, isNone_t, iL_app, iL_len, iL_rep, iL_rev, allD_iL, dataL_iL, q_int, q_t, q_l, n_t, n_l, n_int, q_self, n_self, s_to, s_from, s_mid, sl_to, sl_from, sl_mid, add_t, add_l, cat_l, isi_t, isi_b, isi_i, isi_l, isi_s, at_0, at_1, at_2, at_3, at_4, at_5, at_6, ai_0, ai_1, ai_2, ai_3, ai_4, ai_5, ai_6, tgN_a, tgT_a, apd_ok, lc_ok, rg1_ok, rg2_ok, iL_snoc, iL_mapd, lc_const, rngD_len, iL_take, iL_drop, Int.toNat_natCast, dataL_nil, dataL_cons, allD.eq_1, allD.eq_2, ixN_ok, rep_l, tgS_nil, rep_none, rep_none0, List.take_left, List.drop_left, any_false, all_true, eq_self, set_iL, at_last, List.drop_succ_cons, List.drop_zero, List.take_succ_cons, List.take_zero, List.getLast?_cons_cons, List.getLast?_singleton, Int.cast_ofNat_Int, rg3_ok, rngC_len, fRv_l, b__alone_septets, e0, c1]
theorem alone_to (a : Int) (n : Nat) (P : List Int) (h : n ≤ 160) {r : FO} (hr : f__packed_septets [.d (.tuple (iL P)), .d (.int 0), .d (.int n)] = r) : f__alone_septets [.d (.tuple (iL (a :: (n : Int) :: P)))] = match r with
    | .rt (.d x) _ => .rt (.d x) [.d (.tuple (iL (a :: (n : Int) :: P)))]
    | .er C fs _ => .er C fs [.d (.tuple (iL (a :: (n : Int) :: P)))]
    | _ => f__alone_septets [.d (.tuple (iL (a :: (n : Int) :: P)))] := by
  have e0 : (((P.length + 1 + 1 : Nat) : Int) < 2) = False := by apply eq_false; omega
  have c1 : (0 ≤ (n : Int)) = True := by apply eq_true; omega
  have c2 : ((n : Int) ≤ 160) = True := by apply eq_true; omega
  cases r with
  | rt t ts =>
    cases t with
    | d x =>
      unfold f__alone_septets
      simp (disch := (first | with_reducible assumption | omega | (simp only [iL_len, rngD_len, rngC_len, List.length_append, List.length_replicate, List.length_cons, List.length_nil, List.length_map, List.length_take, List.length_drop, List.length_range, SZ] <;> omega) | (simp only [iL_len, rngD_len, rngC_len, List.length_append, List.length_replicate, List.length_cons, List.length_nil, List.length_map, List.length_take, List.length_drop, List.length_range, SZ] at * <;> omega) | fail)) only [↓x_seq, ↓x_nil, ↓x_if, ↓x_set, ↓x_setV, ↓x_asg, ↓x_exp, ↓x_ret, ↓x_retV, ↓x_retN, ↓x_brk, ↓x_cnt, ↓x_for, ↓x_bdy, ↓x_C, ↓x_var, ↓x_dvar, ↓x_v1, ↓x_v2, ↓x_d1L, ↓x_d2L, ↓x_and, ↓x_or, ↓x_not, ↓x_ifx, ↓x_args0, ↓x_args1, ↓x_tup, ↓x_lst, ↓x_call, ↓x_vD, ↓x_dV, ↓x_slP, ↓x_opt0, ↓x_opt1, ↓x_iP, ↓x_rg1, ↓x_rg2, ↓x_rg3, ↓x_en, ↓x_zp, ↓x_rv, ↓x_ch, ↓x_lc, ↓x_aug, ↓x_app, ↓x_put, ↓x_pix, ↓x_try, ↓x_rep, ↓x_raise0, y_sq, y_sif, y_retV, y_setV, y_toV, y_ofV, y_orw, y_and, y_or, y_not, y_v1, y_v2a, y_v2b, y_finW, y_calB, sq_nx, sq_rt, sq_bk, sq_ct, sq_er, sq_no, dataL_d, allD_d, fnD, SZ, List.getElem?_cons_zero, List.getElem?_cons_succ, List.getElem?_nil, List.set_cons_zero, List.set_cons_succ, List.map_cons, List.map_nil, List.length_cons, List.length_nil, List.length_map, List.length_append, List.cons_append, List.nil_append, List.append_nil, Nat.reduceAdd, Nat.reduceSub, Nat.zero_add, Nat.add_zero, Option.map_some, Option.map_none, Option.getD_some, Option.getD_none, Bool.false_eq_true, Bool.true_eq_false, Bool.and_false, Bool.false_and, Bool.and_true, Bool.true_and, Bool.or_false, Bool.false_or, Bool.or_true, Bool.true_or, Bool.not_true, Bool.not_false, if_true, if_false, ite_true, ite_false, decide_eq_true_eq, Bool.and_eq_true, Bool.or_eq_true, Bool.not_eq_true', decide_eq_false_iff_not, decide_true, decide_false, true_and, and_true, reduceCtorEq, Int.reduceNeg, Int.reduceLT, Int.reduceLE, Int.reduceToNat, Nat.reduceLeDiff, Int.reduceAbs, Int.reduceSub, Int.reduceAdd, Int.reduceMul, Int.reduceEq, Nat.reduceMul, Nat.reduceEqDiff, Nat.reduceLT, Nat.reducePow, Int.reducePow, ↓reduceIte, ite_not, sif.eq_1, sif.eq_3, sif.eq_4, andA.eq_1, andA.eq_3, andA.eq_4, orA.eq_1, orA.eq_3, orA.eq_4, notA.eq_1, notA.eq_3, notA.eq_4, ifA.eq_1, ifA.eq_3, ifA.eq_4, orw.eq_1, orw.eq_2, orw.eq_3, v1r.eq_1, v1r.eq_2, v1a.eq_1, v1a.eq_2, v1a.eq_3, v2a.eq_1, v2a.eq_2, v2a.eq_3, v2b.eq_1, v2b.eq_2, v2b.eq_3, dlr.eq_1, dlr.eq_2, d1a.eq_1, d1a.eq_2, d1a.eq_3, d2a.eq_1, d2a.eq_2, d2a.eq_3, d2b.eq_1, d2b.eq_2, d2b.eq_3, ar1.eq_1, ar1.eq_2, ar1.eq_3, ar1.eq_4, ar2.eq_1, ar2.eq_2, ar2.eq_3, tupA.eq_1, tupA.eq_2, tupA.eq_3, lstA.eq_1, lstA.eq_2, lstA.eq_3, calA.eq_1, calA.eq_2, calA.eq_3, calB.eq_1, calB.eq_2, calB.eq_3, wOf.eq_1, varV.eq_1, varR.eq_1, varR.eq_2, varD.eq_1, setA.eq_1, setA.eq_2, setA.eq_4, setA.eq_5, setVA.eq_1, setVA.eq_2, setVA.eq_3, setVA.eq_4, asgA.eq_1, asgA.eq_2, asgA.eq_3, asgA.eq_4, asgB.eq_1, asgB.eq_2, expA.eq_1, expA.eq_2, expA.eq_3, retA.eq_1, retA.eq_2, retA.eq_3, retVA.eq_1, retVA.eq_2, retVA.eq_3, retVA.eq_4, forA.eq_1, forA.eq_2, forA.eq_3, sl0.eq_1, sl0.eq_2, sl0.eq_3, sl1.eq_1, sl1.eq_2, sl2.eq_1, sl2.eq_2, sl3.eq_1, sl3.eq_2, optA.eq_1, bdyA.eq_1, bdyA.eq_2, iPA.eq_1, iPA.eq_2, iPA.eq_3, iPA.eq_5, iPA.eq_6, rg1A.eq_3, rg1A.eq_4, rg2A.eq_3, rg2A.eq_4, rg3A.eq_3, rg3A.eq_4, enA.eq_1, enA.eq_3, enA.eq_4, zpA.eq_1, zpA.eq_3, zpA.eq_4, rvA.eq_1, rvA.eq_3, rvA.eq_4, ch1.eq_1, ch1.eq_2, ch1.eq_3, ch2.eq_1, ch2.eq_2, ch2.eq_3, chA.eq_1, chB.eq_1, chB.eq_2, chB.eq_3, chC.eq_1, chC.eq_2, lc0.eq_2, lc0.eq_3, lcA.eq_1, lcA.eq_2, augA.eq_1, augB.eq_1, augB.eq_3, augB.eq_4, appA.eq_1, appB.eq_1, appB.eq_2, appB.eq_3, putA.eq_1, putA.eq_2, putA.eq_3, putA2.eq_1, putA2.eq_2, putB.eq_1, putC.eq_1, putD.eq_1, pixA.eq_1, pixA2.eq_1, pixB.eq_1, tryA.eq_1, tryB.eq_1, tryB.eq_2, tryB.eq_3, noEr.eq_1, repA.eq_1, repA2.eq_1, repA2.eq_2, repB.eq_1, rdT.eq_1, rdT.eq_2, toV.eq_1, toV.eq_2, toV.eq_3, toV.eq_4, toV.eq_5, toV.eq_6, ofV.eq_1, ofV.eq_2, ofV.eq_4, ofV.eq_5, tOf.eq_1, tOf.eq_2, isL.eq_1, getE.eq_1, getT.eq_1, getT.eq_2, getT.eq_3, setE.eq_1, setT.eq_1, setT.eq_2, setT.eq_3, T.data.eq_1, T.data.eq_2, finW.eq_1, finW.eq_2, finW.eq_3, finW.eq_4, finW.eq_6, fin.eq_1, fin.eq_2, fin.eq_3, tgS.eq_1, wipeE.eq_1, wipeE.eq_2, fAdd.eq_1, fAdd.eq_2, fI2.eq_1, fB2.eq_1, fU.eq_1, fLen.eq_1, fLen.eq_2, fLen.eq_3, fIx.eq_1, fIx.eq_2, fIx.eq_3, fIsN.eq_1, fNotN.eq_1, isNone.eq_1, fInt.eq_1, fInt.eq_2, fInt.eq_3, fLs.eq_1, fLs.eq_2, fTp.eq_1, fTp.eq_2, fSlP.eq_3, wOf_l, wOf_o, tryA_nx, tryA_rt, tryA_bk, tryA_ct, noEr_nx, noEr_rt, noEr_bk, noEr_ct, isNone_i, isNone_b, isNone_s, isNone_l, isNone_t, iL_app, iL_len, iL_rep, iL_rev, allD_iL, dataL_iL, q_int, q_t, q_l, n_t, n_l, n_int, q_self, n_self, s_to, s_from, s_mid, sl_to, sl_from, sl_mid, add_t, add_l, cat_l, isi_t, isi_b, isi_i, isi_l, isi_s, at_0, at_1, at_2, at_3, at_4, at_5, at_6, ai_0, ai_1, ai_2, ai_3, ai_4, ai_5, ai_6, tgN_a, tgT_a, apd_ok, lc_ok, rg1_ok, rg2_ok, iL_snoc, iL_mapd, lc_const, rngD_len, iL_take, iL_drop, Int.toNat_natCast, dataL_nil, dataL_cons, allD.eq_1, allD.eq_2, ixN_ok, rep_l, tgS_nil, rep_none, rep_none0, List.take_left, List.drop_left, any_false, all_true, eq_self, set_iL, at_last, List.drop_succ_cons, List.drop_zero, List.take_succ_cons, List.take_zero, List.getLast?_cons_cons, List.getLast?_singleton, Int.cast_ofNat_Int, rg3_ok, rngC_len, fRv_l, b__alone_septets, e0, c1, c2, hr]
    | _ => rfl
  | er C fs ts =>
    unfold f__alone_septets
    simp (disch := (first | with_reducible assumption | omega | (simp only [iL_len, rngD_len, rngC_len, List.length_append, List.length_replicate, List.length_cons, List.length_nil, List.length_map, List.length_take, List.length_drop, List.length_range, SZ] <;> omega) | (simp only [iL_len, rngD_len, rngC_len, List.length_append, List.length_replicate, List.length_cons, List.length_nil, List.length_map, List.length_take, List.length_drop, List.length_range, SZ] at * <;> omega) | fail)) only [↓x_seq, ↓x_nil, ↓x_if, ↓x_set, ↓x_setV, ↓x_asg, ↓x_exp, ↓x_ret, ↓x_retV, ↓x_retN, ↓x_brk, ↓x_cnt, ↓x_for, ↓x_bdy, ↓x_C, ↓x_var, ↓x_dvar, ↓x_v1, ↓x_v2, ↓x_d1L, ↓x_d2L, ↓x_and, ↓x_or, ↓x_not, ↓x_ifx, ↓x_args0, ↓x_args1, ↓x_tup, ↓x_lst, ↓x_call, ↓x_vD, ↓x_dV, ↓x_slP, ↓x_opt0, ↓x_opt1, ↓x_iP, ↓x_rg1, ↓x_rg2, ↓x_rg3, ↓x_en, ↓x_zp, ↓x_rv, ↓x_ch, ↓x_lc, ↓x_aug, ↓x_app, ↓x_put, ↓x_pix, ↓x_try, ↓x_rep, ↓x_raise0, y_sq, y_sif, y_retV, y_setV, y_toV, y_ofV, y_orw, y_and, y_or, y_not, y_v1, y_v2a, y_v2b, y_finW, y_calB, sq_nx, sq_rt, sq_bk, sq_ct, sq_er, sq_no, dataL_d, allD_d, fnD, SZ, List.getElem?_cons_zero, List.getElem?_cons_succ, List.getElem?_nil, List.set_cons_zero, List.set_cons_succ, List.map_cons, List.map_nil, List.length_cons, List.length_nil, List.length_map, List.length_append, List.cons_append, List.nil_append, List.append_nil, Nat.reduceAdd, Nat.reduceSub, Nat.zero_add, Nat.add_zero, Option.map_some, Option.map_none, Option.getD_some, Option.getD_none, Bool.false_eq_true, Bool.true_eq_false, Bool.and_false, Bool.false_and, Bool.and_true, Bool.true_and, Bool.or_false, Bool.false_or, Bool.or_true, Bool.true_or, Bool.not_true, Bool.not_false, if_true, if_false, ite_true, ite_false, decide_eq_true_eq, Bool.and_eq_true, Bool.or_eq_true, Bool.not_eq_true', decide_eq_false_iff_not, decide_true, decide_false, true_and, and_true, reduceCtorEq, Int.reduceNeg, Int.reduceLT, Int.reduceLE, Int.reduceToNat, Nat.reduceLeDiff, Int.reduceAbs, Int.reduceSub, Int.reduceAdd, Int.reduceMul, Int.reduceEq, Nat.reduceMul, Nat.reduceEqDiff, Nat.reduceLT, Nat.reducePow, Int.reducePow, ↓reduceIte, ite_not, sif.eq_1, sif.eq_3, sif.eq_4, andA.eq_1, andA.eq_3, andA.eq_4, orA.eq_1, orA.eq_3, orA.eq_4, notA.eq_1, notA.eq_3, notA.eq_4, ifA.eq_1, ifA.eq_3, ifA.eq_4, orw.eq_1, orw.eq_2, orw.eq_3, v1r.eq_1, v1r.eq_2, v1a.eq_1, v1a.eq_2, v1a.eq_3, v2a.eq_1, v2a.eq_2, v2a.eq_3, v2b.eq_1, v2b.eq_2, v2b.eq_3, dlr.eq_1, dlr.eq_2, d1a.eq_1, d1a.eq_2, d1a.eq_3, d2a.eq_1, d2a.eq_2, d2a.eq_3, d2b.eq_1, d2b.eq_2, d2b.eq_3, ar1.eq_1, ar1.eq_2, ar1.eq_3, ar1.eq_4, ar2.eq_1, ar2.eq_2, ar2.eq_3, tupA.eq_1, tupA.eq_2, tupA.eq_3, lstA.eq_1, lstA.eq_2, lstA.eq_3, calA.eq_1, calA.eq_2, calA.eq_3, calB.eq_1, calB.eq_2, calB.eq_3, wOf.eq_1, varV.eq_1, varR.eq_1, varR.eq_2, varD.eq_1, setA.eq_1, setA.eq_2, setA.eq_4, setA.eq_5, setVA.eq_1, setVA.eq_2, setVA.eq_3, setVA.eq_4, asgA.eq_1, asgA.eq_2, asgA.eq_3, asgA.eq_4, asgB.eq_1, asgB.eq_2, expA.eq_1, expA.eq_2, expA.eq_3, retA.eq_1, retA.eq_2, retA.eq_3, retVA.eq_1, retVA.eq_2, retVA.eq_3, retVA.eq_4, forA.eq_1, forA.eq_2, forA.eq_3, sl0.eq_1, sl0.eq_2, sl0.eq_3, sl1.eq_1, sl1.eq_2, sl2.eq_1, sl2.eq_2, sl3.eq_1, sl3.eq_2, optA.eq_1, bdyA.eq_1, bdyA.eq_2, iPA.eq_1, iPA.eq_2, iPA.eq_3, iPA.eq_5, iPA.eq_6, rg1A.eq_3, rg1A.eq_4, rg2A.eq_3, rg2A.eq_4, rg3A.eq_3, rg3A.eq_4, enA.eq_1, enA.eq_3, enA.eq_4, zpA.eq_1, zpA.eq_3, zpA.eq_4, rvA.eq_1, rvA.eq_3, rvA.eq_4, ch1.eq_1, ch1.eq_2, ch1.eq_3, ch2.eq_1, ch2.eq_2, ch2.eq_3, chA.eq_1, chB.eq_1, chB.eq_2, chB.eq_3, chC.eq_1, chC.eq_2, lc0.eq_2, lc0.eq_3, lcA.eq_1, lcA.eq_2, augA.eq_1, augB.eq_1, augB.eq_3, augB.eq_4, appA.eq_1, appB.eq_1, appB.eq_2, appB.eq_3, putA.eq_1, putA.eq_2, putA.eq_3, putA2.eq_1, putA2.eq_2, putB.eq_1, putC.eq_1, putD.eq_1, pixA.eq_1, pixA2.eq_1, pixB.eq_1, tryA.eq_1, tryB.eq_1, tryB.eq_2, tryB.eq_3, noEr.eq_1, repA.eq_1, repA2.eq_1, repA2.eq_2, repB.eq_1, rdT.eq_1, rdT.eq_2, toV.eq_1, toV.eq_2, toV.eq_3, toV.eq_4, toV.eq_5, toV.eq_6, ofV.eq_1, ofV.eq_2, ofV.eq_4, ofV.eq_5, tOf.eq_1, tOf.eq_2, isL.eq_1, getE.eq_1, getT.eq_1, getT.eq_2, getT.eq_3, setE.eq_1, setT.eq_1, setT.eq_2, setT.eq_3, T.data.eq_1, T.data.eq_2, finW.eq_1, finW.eq_2, finW.eq_3, finW.eq_4, finW.eq_6, fin.eq_1, fin.eq_2, fin.eq_3, tgS.eq_1, wipeE.eq_1, wipeE.eq_2, fAdd.eq_1, fAdd.eq_2, fI2.eq_1, fB2.eq_1, fU.eq_1, fLen.eq_1, fLen.eq_2, fLen.eq_3, fIx.eq_1, fIx.eq_2, fIx.eq_3, fIsN.eq_1, fNotN.eq_1, isNone.eq_1, fInt.eq_1, fInt.eq_2, fInt.eq_3, fLs.eq_1, fLs.eq_2, fTp.eq_1, fTp.eq_2, fSlP.eq_3, wOf_l, wOf_o, tryA_nx, tryA_rt, tryA_bk, tryA_ct, noEr_nx, noEr_rt, noEr_bk, noEr_ct, isNone_i, isNone_b, isNone_s, isNone_l, isNone_t, iL_app, iL_len, iL_rep, iL_rev, allD_iL, dataL_iL, q_int, q_t, q_l, n_t, n_l, n_int, q_self, n_self, s_to, s_from, s_mid, sl_to, sl_from, sl_mid, add_t, add_l, cat_l, isi_t, isi_b, isi_i, isi_l, isi_s, at_0, at_1, at_2, at_3, at_4, at_5, at_6, ai_0, ai_1, ai_2, ai_3, ai_4, ai_5, ai_6, tgN_a, tgT_a, apd_ok, lc_ok, rg1_ok, rg2_ok, iL_snoc, iL_mapd, lc_const, rngD_len, iL_take, iL_drop, Int.toNat_natCast, dataL_nil, dataL_cons, allD.eq_1, allD.eq_2, ixN_ok, rep_l, tgS_nil, rep_none, rep_none0, List.take_left, List.drop_left, any_false, all_true, eq_self, set_iL, at_last, List.drop_succ_cons, List.drop_zero, List.take_succ_cons, List.take_zero, List.getLast?_cons_cons, List.getLast?_singleton, Int.cast_ofNat_Int, rg3_ok, rngC_len, fRv_l, b__alone_septets, e0, c1, c2, hr]
  | no => rfl
theorem read_zero (r : List Int) (hl : r.length < 50000) : RdOk (0 :: r) := by
  have q : ([(0 : Int)] = [0]) = True := eq_true rfl
  cases r with
  | nil =>
    left
    unfold f_read_part
    simp (disch := (first | with_reducible assumption | omega | (simp only [iL_len, rngD_len, rngC_len, List.length_append, List.length_replicate, List.length_cons, List.length_nil, List.length_map, List.length_take, List.length_drop, List.length_range, SZ] <;> omega) | (simp only [iL_len, rngD_len, rngC_len, List.length_append, List.length_replicate, List.length_cons, List.length_nil, List.length_map, List.length_take, List.length_drop, List.length_range, SZ] at * <;> omega) | fail)) only [↓x_seq, ↓x_nil, ↓x_if, ↓x_set, ↓x_setV, ↓x_asg, ↓x_exp, ↓x_ret, ↓x_retV, ↓x_retN, ↓x_brk, ↓x_cnt, ↓x_for, ↓x_bdy, ↓x_C, ↓x_var, ↓x_dvar, ↓x_v1, ↓x_v2, ↓x_d1L, ↓x_d2L, ↓x_and, ↓x_or, ↓x_not, ↓x_ifx, ↓x_args0, ↓x_args1, ↓x_tup, ↓x_lst, ↓x_call, ↓x_vD, ↓x_dV, ↓x_slP, ↓x_opt0, ↓x_opt1, ↓x_iP, ↓x_rg1, ↓x_rg2, ↓x_rg3, ↓x_en, ↓x_zp, ↓x_rv, ↓x_ch, ↓x_lc, ↓x_aug, ↓x_app, ↓x_put, ↓x_pix, ↓x_try, ↓x_rep, ↓x_raise0, y_sq, y_sif, y_retV, y_setV, y_toV, y_ofV, y_orw, y_and, y_or, y_not, y_v1, y_v2a, y_v2b, y_finW, y_calB, sq_nx, sq_rt, sq_bk, sq_ct, sq_er, sq_no, dataL_d, allD_d, fnD, SZ, List.getElem?_cons_zero, List.getElem?_cons_succ, List.getElem?_nil, List.set_cons_zero, List.set_cons_succ, List.map_cons, List.map_nil, List.length_cons, List.length_nil, List.length_map, List.length_append, List.cons_append, List.nil_append, List.append_nil, Nat.reduceAdd, Nat.reduceSub, Nat.zero_add, Nat.add_zero, Option.map_some, Option.map_none, Option.getD_some, Option.getD_none, Bool.false_eq_true, Bool.true_eq_false, Bool.and_false, Bool.false_and, Bool.and_true, Bool.true_and, Bool.or_false, Bool.false_or, Bool.or_true, Bool.true_or, Bool.not_true, Bool.not_false, if_true, if_false, ite_true, ite_false, decide_eq_true_eq, Bool.and_eq_true, Bool.or_eq_true, Bool.not_eq_true', decide_eq_false_iff_not, decide_true, decide_false, true_and, and_true, reduceCtorEq, Int.reduceNeg, Int.reduceLT, Int.reduceLE, Int.reduceToNat, Nat.reduceLeDiff, Int.reduceAbs, Int.reduceSub, Int.reduceAdd, Int.reduceMul, Int.reduceEq, Nat.reduceMul, Nat.reduceEqDiff, Nat.reduceLT, Nat.reducePow, Int.reducePow, ↓reduceIte, ite_not, sif.eq_1, sif.eq_3, sif.eq_4, andA.eq_1, andA.eq_3, andA.eq_4, orA.eq_1, orA.eq_3, orA.eq_4, notA.eq_1, notA.eq_3, notA.eq_4, ifA.eq_1, ifA.eq_3, ifA.eq_4, orw.eq_1, orw.eq_2, orw.eq_3, v1r.eq_1, v1r.eq_2, v1a.eq_1, v1a.eq_2, v1a.eq_3, v2a.eq_1, v2a.eq_2, v2a.eq_3, v2b.eq_1, v2b.eq_2, v2b.eq_3, dlr.eq_1, dlr.eq_2, d1a.eq_1, d1a.eq_2, d1a.eq_3, d2a.eq_1, d2a.eq_2, d2a.eq_3, d2b.eq_1, d2b.eq_2, d2b.eq_3, ar1.eq_1, ar1.eq_2, ar1.eq_3, ar1.eq_4, ar2.eq_1, ar2.eq_2, ar2.eq_3, tupA.eq_1, tupA.eq_2, tupA.eq_3, lstA.eq_1, lstA.eq_2, lstA.eq_3, calA.eq_1, calA.eq_2, calA.eq_3, calB.eq_1, calB.eq_2, calB.eq_3, wOf.eq_1, varV.eq_1, varR.eq_1, varR.eq_2, varD.eq_1, setA.eq_1, setA.eq_2, setA.eq_4, setA.eq_5, setVA.eq_1, setVA.eq_2, setVA.eq_3, setVA.eq_4, asgA.eq_1, asgA.eq_2, asgA.eq_3, asgA.eq_4, asgB.eq_1, asgB.eq_2, expA.eq_1, expA.eq_2, expA.eq_3, retA.eq_1, retA.eq_2, retA.eq_3, retVA.eq_1, retVA.eq_2, retVA.eq_3, retVA.eq_4, forA.eq_1, forA.eq_2, forA.eq_3, sl0.eq_1, sl0.eq_2, sl0.eq_3, sl1.eq_1, sl1.eq_2, sl2.eq_1, sl2.eq_2, sl3.eq_1, sl3.eq_2, optA.eq_1, bdyA.eq_1, bdyA.eq_2, iPA.eq_1, iPA.eq_2, iPA.eq_3, iPA.eq_5, iPA.eq_6, rg1A.eq_3, rg1A.eq_4, rg2A.eq_3, rg2A.eq_4, rg3A.eq_3, rg3A.eq_4, enA.eq_1, enA.eq_3, enA.eq_4, zpA.eq_1, zpA.eq_3, zpA.eq_4, rvA.eq_1, rvA.eq_3, rvA.eq_4, ch1.eq_1, ch1.eq_2, ch1.eq_3, ch2.eq_1, ch2.eq_2, ch2.eq_3, chA.eq_1, chB.eq_1, chB.eq_2, chB.eq_3, chC.eq_1, chC.eq_2, lc0.eq_2, lc0.eq_3, lcA.eq_1, lcA.eq_2, augA.eq_1, augB.eq_1, augB.eq_3, augB.eq_4, appA.eq_1, appB.eq_1, appB.eq_2, appB.eq_3, putA.eq_1, putA.eq_2, putA.eq_3, putA2.eq_1, putA2.eq_2, putB.eq_1, putC.eq_1, putD.eq_1, pixA.eq_1, pixA2.eq_1, pixB.eq_1, tryA.eq_1, tryB.eq_1, tryB.eq_2, tryB.eq_3, noEr.eq_1, repA.eq_1, repA2.eq_1, repA2.eq_2, repB.eq_1, rdT.eq_1, rdT.eq_2, toV.eq_1, toV.eq_2, toV.eq_3, toV.eq_4, toV.eq_5, toV.eq_6, ofV.eq_1, ofV.eq_2, ofV.eq_4, ofV.eq_5, tOf.eq_1, tOf.eq_2, isL.eq_1, getE.eq_1, getT.eq_1, getT.eq_2, getT.eq_3, setE.eq_1, setT.eq_1, setT.eq_2, setT.eq_3, T.data.eq_1, T.data.eq_2, finW.eq_1, finW.eq_2, finW.eq_3, finW.eq_4, finW.eq_6, fin.eq_1, fin.eq_2, fin.eq_3, tgS.eq_1, wipeE.eq_1, wipeE.eq_2, fAdd.eq_1, fAdd.eq_2, fI2.eq_1, fB2.eq_1, fU.eq_1, fLen.eq_1, fLen.eq_2, fLen.eq_3, fIx.eq_1, fIx.eq_2, fIx.eq_3, fIsN.eq_1, fNotN.eq_1, isNone.eq_1, fInt.eq_1, fInt.eq_2, fInt.eq_3, fLs.eq_1, fLs.eq_2, fTp.eq_1, fTp.eq_2, fSlP.eq_3, wOf_l, wOf_o, tryA_nx, tryA_rt, tryA_bk, tryA_ct, noEr_nx, noEr_rt, noEr_bk, noEr_ct, isNone_i, isNone_b, isNone_s, isNone_l, isNone_t, iL_app, iL_len, iL_rep, iL_rev, allD_iL, dataL_iL, q_int, q_t, q_l, n_t, n_l, n_int, q_self, n_self, s_to, s_from, s_mid, sl_to, sl_from, sl_mid, add_t, add_l, cat_l, isi_t, isi_b, isi_i, isi_l, isi_s, at_0, at_1, at_2, at_3, at_4, at_5, at_6, ai_0, ai_1, ai_2, ai_3, ai_4, ai_5, ai_6, tgN_a, tgT_a, apd_ok, lc_ok, rg1_ok, rg2_ok, iL_snoc, iL_mapd, lc_const, rngD_len, iL_take, iL_drop, Int.toNat_natCast, dataL_nil, dataL_cons, allD.eq_1, allD.eq_2, ixN_ok, rep_l, tgS_nil, rep_none, rep_none0, List.take_left, List.drop_left, any_false, all_true, eq_self, set_iL, at_last, List.drop_succ_cons, List.drop_zero, List.take_succ_cons, List.take_zero, List.getLast?_cons_cons, List.getLast?_singleton, Int.cast_ofNat_Int, rg3_ok, rngC_len, fRv_l, b_read_part, lt1, q, alone_er1]
  | cons c P =>
    by_cases h : 0 ≤ c ∧ c ≤ 160
    · obtain ⟨n, rfl⟩ := Int.eq_ofNat_of_zero_le h.1
      simp only [List.length_cons] at hl
      rcases packed_septets_ok P 0 n (by omega) (by omega) (by omega) with ⟨h1, h2, h3⟩ | ⟨_, h3⟩
      · right
        have ha := alone_to 0 n P (by omega) h3
        refine ⟨-1, 1, 1, UN (OB P) 0 n, by rw [UN_len]; omega, fun _ => ⟨rfl, rfl⟩, fun h => absurd rfl h, ?_, ?_⟩
        · unfold partI
          rw [if_pos rfl, h2, UN_len]
        · unfold f_read_part
          simp (disch := (first | with_reducible assumption | omega | (simp only [iL_len, rngD_len, rngC_len, List.length_append, List.length_replicate, List.length_cons, List.length_nil, List.length_map, List.length_take, List.length_drop, List.length_range, SZ] <;> omega) | (simp only [iL_len, rngD_len, rngC_len, List.length_append, List.length_replicate, List.length_cons, List.length_nil, List.length_map, List.length_take, List.length_drop, List.length_range, SZ] at * <;> omega) | fail)) only [↓x_seq, ↓x_nil, ↓x_if, ↓x_set, ↓x_setV, ↓x_asg, ↓x_exp, ↓x_ret, ↓x_retV, ↓x_retN, ↓x_brk, ↓x_cnt, ↓x_for, ↓x_bdy, ↓x_C, ↓x_var, ↓x_dvar, ↓x_v1, ↓x_v2, ↓x_d1L, ↓x_d2L, ↓x_and, ↓x_or, ↓x_not, ↓x_ifx, ↓x_args0, ↓x_args1, ↓x_tup, ↓x_lst, ↓x_call, ↓x_vD, ↓x_dV, ↓x_slP, ↓x_opt0, ↓x_opt1, ↓x_iP, ↓x_rg1, ↓x_rg2, ↓x_rg3, ↓x_en, ↓x_zp, ↓x_rv, ↓x_ch, ↓x_lc, ↓x_aug, ↓x_app, ↓x_put, ↓x_pix, ↓x_try, ↓x_rep, ↓x_raise0, y_sq, y_sif, y_retV, y_setV, y_toV, y_ofV, y_orw, y_and, y_or, y_not, y_v1, y_v2a, y_v2b, y_finW, y_calB, sq_nx, sq_rt, sq_bk, sq_ct, sq_er, sq_no, dataL_d, allD_d, fnD, SZ, List.getElem?_cons_zero, List.getElem?_cons_succ, List.getElem?_nil, List.set_cons_zero, List.set_cons_succ, List.map_cons, List.map_nil, List.length_cons, List.length_nil, List.length_map, List.length_append, List.cons_append, List.nil_append, List.append_nil, Nat.reduceAdd, Nat.reduceSub, Nat.zero_add, Nat.add_zero, Option.map_some, Option.map_none, Option.getD_some, Option.getD_none, Bool.false_eq_true, Bool.true_eq_false, Bool.and_false, Bool.false_and, Bool.and_true, Bool.true_and, Bool.or_false, Bool.false_or, Bool.or_true, Bool.true_or, Bool.not_true, Bool.not_false, if_true, if_false, ite_true, ite_false, decide_eq_true_eq, Bool.and_eq_true, Bool.or_eq_true, Bool.not_eq_true', decide_eq_false_iff_not, decide_true, decide_false, true_and, and_true, reduceCtorEq, Int.reduceNeg, Int.reduceLT, Int.reduceLE, Int.reduceToNat, Nat.reduceLeDiff, Int.reduceAbs, Int.reduceSub, Int.reduceAdd, Int.reduceMul, Int.reduceEq, Nat.reduceMul, Nat.reduceEqDiff, Nat.reduceLT, Nat.reducePow, Int.reducePow, ↓reduceIte, ite_not, sif.eq_1, sif.eq_3, sif.eq_4, andA.eq_1, andA.eq_3, andA.eq_4, orA.eq_1, orA.eq_3, orA.eq_4, notA.eq_1, notA.eq_3, notA.eq_4, ifA.eq_1, ifA.eq_3, ifA.eq_4, orw.eq_1, orw.eq_2, orw.eq_3, v1r.eq_1, v1r.eq_2, v1a.eq_1, v1a.eq_2, v1a.eq_3, v2a.eq_1, v2a.eq_2, v2a.eq_3, v2b.eq_1, v2b.eq_2, v2b.eq_3, dlr.eq_1, dlr.eq_2, d1a.eq_1, d1a.eq_2, d1a.eq_3, d2a.eq_1, d2a.eq_2, d2a.eq_3, d2b.eq_1, d2b.eq_2, d2b.eq_3, ar1.eq_1, ar1.eq_2, ar1.eq_3, ar1.eq_4, ar2.eq_1, ar2.eq_2, ar2.eq_3, tupA.eq_1, tupA.eq_2, tupA.eq_3, lstA.eq_1, lstA.eq_2, lstA.eq_3, calA.eq_1, calA.eq_2, calA.eq_3, calB.eq_1, calB.eq_2, calB.eq_3, wOf.eq_1, varV.eq_1, varR.eq_1, varR.eq_2, varD.eq_1, setA.eq_1, setA.eq_2, setA.eq_4, setA.eq_5, setVA.eq_1, setVA.eq_2, setVA.eq_3, setVA.eq_4, asgA.eq_1, asgA.eq_2, asgA.eq_3, asgA.eq_4, asgB.eq_1, asgB.eq_2, expA.eq_1, expA.eq_2, expA.eq_3, retA.eq_1, retA.eq_2, retA.eq_3, retVA.eq_1, retVA.eq_2, retVA.eq_3, retVA.eq_4, forA.eq_1, forA.eq_2, forA.eq_3, sl0.eq_1, sl0.eq_2, sl0.eq_3, sl1.eq_1, sl1.eq_2, sl2.eq_1, sl2.eq_2, sl3.eq_1, sl3.eq_2, optA.eq_1, bdyA.eq_1, bdyA.eq_2, iPA.eq_1, iPA.eq_2, iPA.eq_3, iPA.eq_5, iPA.eq_6, rg1A.eq_3, rg1A.eq_4, rg2A.eq_3, rg2A.eq_4, rg3A.eq_3, rg3A.eq_4, enA.eq_1, enA.eq_3, enA.eq_4, zpA.eq_1, zpA.eq_3, zpA.eq_4, rvA.eq_1, rvA.eq_3, rvA.eq_4, ch1.eq_1, ch1.eq_2, ch1.eq_3, ch2.eq_1, ch2.eq_2, ch2.eq_3, chA.eq_1, chB.eq_1, chB.eq_2, chB.eq_3, chC.eq_1, chC.eq_2, lc0.eq_2, lc0.eq_3, lcA.eq_1, lcA.eq_2, augA.eq_1, augB.eq_1, augB.eq_3, augB.eq_4, appA.eq_1, appB.eq_1, appB.eq_2, appB.eq_3, putA.eq_1, putA.eq_2, putA.eq_3, putA2.eq_1, putA2.eq_2, putB.eq_1, putC.eq_1, putD.eq_1, pixA.eq_1, pixA2.eq_1, pixB.eq_1, tryA.eq_1, tryB.eq_1, tryB.eq_2, tryB.eq_3, noEr.eq_1, repA.eq_1, repA2.eq_1, repA2.eq_2, repB.eq_1, rdT.eq_1, rdT.eq_2, toV.eq_1, toV.eq_2, toV.eq_3, toV.eq_4, toV.eq_5, toV.eq_6, ofV.eq_1, ofV.eq_2, ofV.eq_4, ofV.eq_5, tOf.eq_1, tOf.eq_2, isL.eq_1, getE.eq_1, getT.eq_1, getT.eq_2, getT.eq_3, setE.eq_1, setT.eq_1, setT.eq_2, setT.eq_3, T.data.eq_1, T.data.eq_2, finW.eq_1, finW.eq_2, finW.eq_3, finW.eq_4, finW.eq_6, fin.eq_1, fin.eq_2, fin.eq_3, tgS.eq_1, wipeE.eq_1, wipeE.eq_2, fAdd.eq_1, fAdd.eq_2, fI2.eq_1, fB2.eq_1, fU.eq_1, fLen.eq_1, fLen.eq_2, fLen.eq_3, fIx.eq_1, fIx.eq_2, fIx.eq_3, fIsN.eq_1, fNotN.eq_1, isNone.eq_1, fInt.eq_1, fInt.eq_2, fInt.eq_3, fLs.eq_1, fLs.eq_2, fTp.eq_1, fTp.eq_2, fSlP.eq_3, wOf_l, wOf_o, tryA_nx, tryA_rt, tryA_bk, tryA_ct, noEr_nx, noEr_rt, noEr_bk, noEr_ct, isNone_i, isNone_b, isNone_s, isNone_l, isNone_t, iL_app, iL_len, iL_rep, iL_rev, allD_iL, dataL_iL, q_int, q_t, q_l, n_t, n_l, n_int, q_self, n_self, s_to, s_from, s_mid, sl_to, sl_from, sl_mid, add_t, add_l, cat_l, isi_t, isi_b, isi_i, isi_l, isi_s, at_0, at_1, at_2, at_3, at_4, at_5, at_6, ai_0, ai_1, ai_2, ai_3, ai_4, ai_5, ai_6, tgN_a, tgT_a, apd_ok, lc_ok, rg1_ok, rg2_ok, iL_snoc, iL_mapd, lc_const, rngD_len, iL_take, iL_drop, Int.toNat_natCast, dataL_nil, dataL_cons, allD.eq_1, allD.eq_2, ixN_ok, rep_l, tgS_nil, rep_none, rep_none0, List.take_left, List.drop_left, any_false, all_true, eq_self, set_iL, at_last, List.drop_succ_cons, List.drop_zero, List.take_succ_cons, List.take_zero, List.getLast?_cons_cons, List.getLast?_singleton, Int.cast_ofNat_Int, rg3_ok, rngC_len, fRv_l, b_read_part, lt1, q, ha]
      · left
        have ha := alone_to 0 n P (by omega) h3
        unfold f_read_part
        simp (disch := (first | with_reducible assumption | omega | (simp only [iL_len, rngD_len, rngC_len, List.length_append, List.length_replicate, List.length_cons, List.length_nil, List.length_map, List.length_take, List.length_drop, List.length_range, SZ] <;> omega) | (simp only [iL_len, rngD_len, rngC_len, List.length_append, List.length_replicate, List.length_cons, List.length_nil, List.length_map, List.length_take, List.length_drop, List.length_range, SZ] at * <;> omega) | fail)) only [↓x_seq, ↓x_nil, ↓x_if, ↓x_set, ↓x_setV, ↓x_asg, ↓x_exp, ↓x_ret, ↓x_retV, ↓x_retN, ↓x_brk, ↓x_cnt, ↓x_for, ↓x_bdy, ↓x_C, ↓x_var, ↓x_dvar, ↓x_v1, ↓x_v2, ↓x_d1L, ↓x_d2L, ↓x_and, ↓x_or, ↓x_not, ↓x_ifx, ↓x_args0, ↓x_args1, ↓x_tup, ↓x_lst, ↓x_call, ↓x_vD, ↓x_dV, ↓x_slP, ↓x_opt0, ↓x_opt1, ↓x_iP, ↓x_rg1, ↓x_rg2, ↓x_rg3, ↓x_en, ↓x_zp, ↓x_rv, ↓x_ch, ↓x_lc, ↓x_aug, ↓x_app, ↓x_put, ↓x_pix, ↓x_try, ↓x_rep, ↓x_raise0, y_sq, y_sif, y_retV, y_setV, y_toV, y_ofV, y_orw, y_and, y_or, y_not, y_v1, y_v2a, y_v2b, y_finW, y_calB, sq_nx, sq_rt, sq_bk, sq_ct, sq_er, sq_no, dataL_d, allD_d, fnD, SZ, List.getElem?_cons_zero, List.getElem?_cons_succ, List.getElem?_nil, List.set_cons_zero, List.set_cons_succ, List.map_cons, List.map_nil, List.length_cons, List.length_nil, List.length_map, List.length_append, List.cons_append, List.nil_append, List.append_nil, Nat.reduceAdd, Nat.reduceSub, Nat.zero_add, Nat.add_zero, Option.map_some, Option.map_none, Option.getD_some, Option.getD_none, Bool.false_eq_true, Bool.true_eq_false, Bool.and_false, Bool.false_and, Bool.and_true, Bool.true_and, Bool.or_false, Bool.false_or, Bool.or_true, Bool.true_or, Bool.not_true, Bool.not_false, if_true, if_false, ite_true, ite_false, decide_eq_true_eq, Bool.and_eq_true, Bool.or_eq_true, Bool.not_eq_true', decide_eq_false_iff_not, decide_true, decide_false, true_and, and_true, reduceCtorEq, Int.reduceNeg, Int.reduceLT, Int.reduceLE, Int.reduceToNat, Nat.reduceLeDiff, Int.reduceAbs, Int.reduceSub, Int.reduceAdd, Int.reduceMul, Int.reduceEq, Nat.reduceMul, Nat.reduceEqDiff, Nat.reduceLT, Nat.reducePow, Int.reducePow, ↓reduceIte, ite_not, sif.eq_1, sif.eq_3, sif.eq_4, andA.eq_1, andA.eq_3, andA.eq_4, orA.eq_1, orA.eq_3, orA.eq_4, notA.eq_1, notA.eq_3, notA.eq_4, ifA.eq_1, ifA.eq_3, ifA.eq_4, orw.eq_1, orw.eq_2, orw.eq_3, v1r.eq_1, v1r.eq_2, v1a.eq_1, v1a.eq_2, v1a.eq_3, v2a.eq_1, v2a.eq_2, v2a.eq_3, v2b.eq_1, v2b.eq_2, v2b.eq_3, dlr.eq_1, dlr.eq_2, d1a.eq_1, d1a.eq_2, d1a.eq_3, d2a.eq_1, d2a.eq_2, d2a.eq_3, d2b.eq_1, d2b.eq_2, d2b.eq_3, ar1.eq_1, ar1.eq_2, ar1.eq_3, ar1.eq_4, ar2.eq_1, ar2.eq_2, ar2.eq_3, tupA.eq_1, tupA.eq_2, tupA.eq_3, lstA.eq_1, lstA.eq_2, lstA.eq_3, calA.eq_1, calA.eq_2, calA.eq_3, calB.eq_1, calB.eq_2, calB.eq_3, wOf.eq_1, varV.eq_1, varR.eq_1, varR.eq_2, varD.eq_1, setA.eq_1, setA.eq_2, setA.eq_4, setA.eq_5, setVA.eq_1, setVA.eq_2, setVA.eq_3, setVA.eq_4, asgA.eq_1, asgA.eq_2, asgA.eq_3, asgA.eq_4, asgB.eq_1, asgB.eq_2, expA.eq_1, expA.eq_2, expA.eq_3, retA.eq_1, retA.eq_2, retA.eq_3, retVA.eq_1, retVA.eq_2, retVA.eq_3, retVA.eq_4, forA.eq_1, forA.eq_2, forA.eq_3, sl0.eq_1, sl0.eq_2, sl0.eq_3, sl1.eq_1, sl1.eq_2, sl2.eq_1, sl2.eq_2, sl3.eq_1, sl3.eq_2, optA.eq_1, bdyA.eq_1, bdyA.eq_2, iPA.eq_1, iPA.eq_2, iPA.eq_3, iPA.eq_5, iPA.eq_6, rg1A.eq_3, rg1A.eq_4, rg2A.eq_3, rg2A.eq_4, rg3A.eq_3, rg3A.eq_4, enA.eq_1, enA.eq_3, enA.eq_4, zpA.eq_1, zpA.eq_3, zpA.eq_4, rvA.eq_1, rvA.eq_3, rvA.eq_4, ch1.eq_1, ch1.eq_2, ch1.eq_3, ch2.eq_1, ch2.eq_2, ch2.eq_3, chA.eq_1, chB.eq_1, chB.eq_2, chB.eq_3, chC.eq_1, chC.eq_2, lc0.eq_2, lc0.eq_3, lcA.eq_1, lcA.eq_2, augA.eq_1, augB.eq_1, augB.eq_3, augB.eq_4, appA.eq_1, appB.eq_1, appB.eq_2, appB.eq_3, putA.eq_1, putA.eq_2, putA.eq_3, putA2.eq_1, putA2.eq_2, putB.eq_1, putC.eq_1, putD.eq_1, pixA.eq_1, pixA2.eq_1, pixB.eq_1, tryA.eq_1, tryB.eq_1, tryB.eq_2, tryB.eq_3, noEr.eq_1, repA.eq_1, repA2.eq_1, repA2.eq_2, repB.eq_1, rdT.eq_1, rdT.eq_2, toV.eq_1, toV.eq_2, toV.eq_3, toV.eq_4, toV.eq_5, toV.eq_6, ofV.eq_1, ofV.eq_2, ofV.eq_4, ofV.eq_5, tOf.eq_1, tOf.eq_2, isL.eq_1, getE.eq_1, getT.eq_1, getT.eq_2, getT.eq_3, setE.eq_1, setT.eq_1, setT.eq_2, setT.eq_3, T.data.eq_1, T.data.eq_2, finW.eq_1, finW.eq_2, finW.eq_3, finW.eq_4, finW.eq_6, fin.eq_1, fin.eq_2, fin.eq_3, tgS.eq_1, wipeE.eq_1, wipeE.eq_2, fAdd.eq_1, fAdd.eq_2, fI2.eq_1, fB2.eq_1, fU.eq_1, fLen.eq_1, fLen.eq_2, fLen.eq_3, fIx.eq_1, fIx.eq_2, fIx.eq_3, fIsN.eq_1, fNotN.eq_1, isNone.eq_1, fInt.eq_1, fInt.eq_2, fInt.eq_3, fLs.eq_1, fLs.eq_2, fTp.eq_1, fTp.eq_2, fSlP.eq_3, wOf_l, wOf_o, tryA_nx, tryA_rt, tryA_bk, tryA_ct, noEr_nx, noEr_rt, noEr_bk, noEr_ct, isNone_i, isNone_b, isNone_s, isNone_l, isNone_t, iL_app, iL_len, iL_rep, iL_rev, allD_iL, dataL_iL, q_int, q_t, q_l, n_t, n_l, n_int, q_self, n_self, s_to, s_from, s_mid, sl_to, sl_from, sl_mid, add_t, add_l, cat_l, isi_t, isi_b, isi_i, isi_l, isi_s, at_0, at_1, at_2, at_3, at_4, at_5, at_6, ai_0, ai_1, ai_2, ai_3, ai_4, ai_5, ai_6, tgN_a, tgT_a, apd_ok, lc_ok, rg1_ok, rg2_ok, iL_snoc, iL_mapd, lc_const, rngD_len, iL_take, iL_drop, Int.toNat_natCast, dataL_nil, dataL_cons, allD.eq_1, allD.eq_2, ixN_ok, rep_l, tgS_nil, rep_none, rep_none0, List.take_left, List.drop_left, any_false, all_true, eq_self, set_iL, at_last, List.drop_succ_cons, List.drop_zero, List.take_succ_cons, List.take_zero, List.getLast?_cons_cons, List.getLast?_singleton, Int.cast_ofNat_Int, rg3_ok, rngC_len, fRv_l, b_read_part, lt1, q, ha]
    · left
      unfold f_read_part
      simp (disch := (first | with_reducible assumption | omega | (simp only [iL_len, rngD_len, rngC_len, List.length_append, List.length_replicate, List.length_cons, List.length_nil, List.length_map, List.length_take, List.length_drop, List.length_range, SZ] <;> omega) | (simp only [iL_len, rngD_len, rngC_len, List.length_append, List.length_replicate, List.length_cons, List.length_nil, List.length_map, List.length_take, List.length_drop, List.length_range, SZ] at * <;> omega) | fail)) only [↓x_seq, ↓x_nil, ↓x_if, ↓x_set, ↓x_setV, ↓x_asg, ↓x_exp, ↓x_ret, ↓x_retV, ↓x_retN, ↓x_brk, ↓x_cnt, ↓x_for, ↓x_bdy, ↓x_C, ↓x_var, ↓x_dvar, ↓x_v1, ↓x_v2, ↓x_d1L, ↓x_d2L, ↓x_and, ↓x_or, ↓x_not, ↓x_ifx, ↓x_args0, ↓x_args1, ↓x_tup, ↓x_lst, ↓x_call, ↓x_vD, ↓x_dV, ↓x_slP, ↓x_opt0, ↓x_opt1, ↓x_iP, ↓x_rg1, ↓x_rg2, ↓x_rg3, ↓x_en, ↓x_zp, ↓x_rv, ↓x_ch, ↓x_lc, ↓x_aug, ↓x_app, ↓x_put, ↓x_pix, ↓x_try, ↓x_rep, ↓x_raise0, y_sq, y_sif, y_retV, y_setV, y_toV, y_ofV, y_orw, y_and, y_or, y_not, y_v1, y_v2a, y_v2b, y_finW, y_calB, sq_nx, sq_rt, sq_bk, sq_ct, sq_er, sq_no, dataL_d, allD_d, fnD, SZ, List.getElem?_cons_zero, List.getElem?_cons_succ, List.getElem?_nil, List.set_cons_zero, List.set_cons_succ, List.map_cons, List.map_nil, List.length_cons, List.length_nil, List.length_map, List.length_append, List.cons_append, List.nil_append, List.append_nil, Nat.reduceAdd, Nat.reduceSub, Nat.zero_add, Nat.add_zero, Option.map_some, Option.map_none, Option.getD_some, Option.getD_none, Bool.false_eq_true, Bool.true_eq_false, Bool.and_false, Bool.false_and, Bool.and_true, Bool.true_and, Bool.or_false, Bool.false_or, Bool.or_true, Bool.true_or, Bool.not_true, Bool.not_false, if_true, if_false, ite_true, ite_false, decide_eq_true_eq, Bool.and_eq_true, Bool.or_eq_true, Bool.not_eq_true', decide_eq_false_iff_not, decide_true, decide_false, true_and, and_true, reduceCtorEq, Int.reduceNeg, Int.reduceLT, Int.reduceLE, Int.reduceToNat, Nat.reduceLeDiff, Int.reduceAbs, Int.reduceSub, Int.reduceAdd, Int.reduceMul, Int.reduceEq, Nat.reduceMul, Nat.reduceEqDiff, Nat.reduceLT, Nat.reducePow, Int.reducePow, ↓reduceIte, ite_not, sif.eq_1, sif.eq_3, sif.eq_4, andA.eq_1, andA.eq_3, andA.eq_4, orA.eq_1, orA.eq_3, orA.eq_4, notA.eq_1, notA.eq_3, notA.eq_4, ifA.eq_1, ifA.eq_3, ifA.eq_4, orw.eq_1, orw.eq_2, orw.eq_3, v1r.eq_1, v1r.eq_2, v1a.eq_1, v1a.eq_2, v1a.eq_3, v2a.eq_1, v2a.eq_2, v2a.eq_3, v2b.eq_1, v2b.eq_2, v2b.eq_3, dlr.eq_1, dlr.eq_2, d1a.eq_1, d1a.eq_2, d1a.eq_3, d2a.eq_1, d2a.eq_2, d2a.eq_3, d2b.eq_1, d2b.eq_2, d2b.eq_3, ar1.eq_1, ar1.eq_2, ar1.eq_3, ar1.eq_4, ar2.eq_1, ar2.eq_2, ar2.eq_3, tupA.eq_1, tupA.eq_2, tupA.eq_3, lstA.eq_1, lstA.eq_2, lstA.eq_3, calA.eq_1, calA.eq_2, calA.eq_3, calB.eq_1, calB.eq_2, calB.eq_3, wOf.eq_1, varV.eq_1, varR.eq_1, varR.eq_2, varD.eq_1, setA.eq_1, setA.eq_2, setA.eq_4, setA.eq_5, setVA.eq_1, setVA.eq_2, setVA.eq_3, setVA.eq_4, asgA.eq_1, asgA.eq_2, asgA.eq_3, asgA.eq_4, asgB.eq_1, asgB.eq_2, expA.eq_1, expA.eq_2, expA.eq_3, retA.eq_1, retA.eq_2, retA.eq_3, retVA.eq_1, retVA.eq_2, retVA.eq_3, retVA.eq_4, forA.eq_1, forA.eq_2, forA.eq_3, sl0.eq_1, sl0.eq_2, sl0.eq_3, sl1.eq_1, sl1.eq_2, sl2.eq_1, sl2.eq_2, sl3.eq_1, sl3.eq_2, optA.eq_1, bdyA.eq_1, bdyA.eq_2, iPA.eq_1, iPA.eq_2, iPA.eq_3, iPA.eq_5, iPA.eq_6, rg1A.eq_3, rg1A.eq_4, rg2A.eq_3, rg2A.eq_4, rg3A.eq_3, rg3A.eq_4, enA.eq_1, enA.eq_3, enA.eq_4, zpA.eq_1, zpA.eq_3, zpA.eq_4, rvA.eq_1, rvA.eq_3, rvA.eq_4, ch1.eq_1, ch1.eq_2, ch1.eq_3, ch2.eq_1, ch2.eq_2, ch2.eq_3, chA.eq_1, chB.eq_1, chB.eq_2, chB.eq_3, chC.eq_1, chC.eq_2, lc0.eq_2, lc0.eq_3, lcA.eq_1, lcA.eq_2, augA.eq_1, augB.eq_1, augB.eq_3, augB.eq_4, appA.eq_1, appB.eq_1, appB.eq_2, appB.eq_3, putA.eq_1, putA.eq_2, putA.eq_3, putA2.eq_1, putA2.eq_2, putB.eq_1, putC.eq_1, putD.eq_1, pixA.eq_1, pixA2.eq_1, pixB.eq_1, tryA.eq_1, tryB.eq_1, tryB.eq_2, tryB.eq_3, noEr.eq_1, repA.eq_1, repA2.eq_1, repA2.eq_2, repB.eq_1, rdT.eq_1, rdT.eq_2, toV.eq_1, toV.eq_2, toV.eq_3, toV.eq_4, toV.eq_5, toV.eq_6, ofV.eq_1, ofV.eq_2, ofV.eq_4, ofV.eq_5, tOf.eq_1, tOf.eq_2, isL.eq_1, getE.eq_1, getT.eq_1, getT.eq_2, getT.eq_3, setE.eq_1, setT.eq_1, setT.eq_2, setT.eq_3, T.data.eq_1, T.data.eq_2, finW.eq_1, finW.eq_2, finW.eq_3, finW.eq_4, finW.eq_6, fin.eq_1, fin.eq_2, fin.eq_3, tgS.eq_1, wipeE.eq_1, wipeE.eq_2, fAdd.eq_1, fAdd.eq_2, fI2.eq_1, fB2.eq_1, fU.eq_1, fLen.eq_1, fLen.eq_2, fLen.eq_3, fIx.eq_1, fIx.eq_2, fIx.eq_3, fIsN.eq_1, fNotN.eq_1, isNone.eq_1, fInt.eq_1, fInt.eq_2, fInt.eq_3, fLs.eq_1, fLs.eq_2, fTp.eq_1, fTp.eq_2, fSlP.eq_3, wOf_l, wOf_o, tryA_nx, tryA_rt, tryA_bk, tryA_ct, noEr_nx, noEr_rt, noEr_bk, noEr_ct, isNone_i, isNone_b, isNone_s, isNone_l, isNone_t, iL_app, iL_len, iL_rep, iL_rev, allD_iL, dataL_iL, q_int, q_t, q_l, n_t, n_l, n_int, q_self, n_self, s_to, s_from, s_mid, sl_to, sl_from, sl_mid, add_t, add_l, cat_l, isi_t, isi_b, isi_i, isi_l, isi_s, at_0, at_1, at_2, at_3, at_4, at_5, at_6, ai_0, ai_1, ai_2, ai_3, ai_4, ai_5, ai_6, tgN_a, tgT_a, apd_ok, lc_ok, rg1_ok, rg2_ok, iL_snoc, iL_mapd, lc_const, rngD_len, iL_take, iL_drop, Int.toNat_natCast, dataL_nil, dataL_cons, allD.eq_1, allD.eq_2, ixN_ok, rep_l, tgS_nil, rep_none, rep_none0, List.take_left, List.drop_left, any_false, all_true, eq_self, set_iL, at_last, List.drop_succ_cons, List.drop_zero, List.take_succ_cons, List.take_zero, List.getLast?_cons_cons, List.getLast?_singleton, Int.cast_ofNat_Int, rg3_ok, rngC_len, fRv_l, b_read_part, lt1, q, alone_er2 0 c P h]
theorem read_short (O : List Int) (h : O.length < 8) (h0 : O.take 1 ≠ [0]) : RdOk O := by
  left
  have q : (List.take 1 O = [0]) = False := eq_false h0
  have e : ((O.length : Int) < 8) = True := by apply eq_true; omega
  unfold f_read_part
  simp (disch := (first | with_reducible assumption | omega | (simp only [iL_len, rngD_len, rngC_len, List.length_append, List.length_replicate, List.length_cons, List.length_nil, List.length_map, List.length_take, List.length_drop, List.length_range, SZ] <;> omega) | (simp only [iL_len, rngD_len, rngC_len, List.length_append, List.length_replicate, List.length_cons, List.length_nil, List.length_map, List.length_take, List.length_drop, List.length_range, SZ] at * <;> omega) | fail)) only [↓x_seq, ↓x_nil, ↓x_if, ↓x_set, ↓x_setV, ↓x_asg, ↓x_exp, ↓x_ret, ↓x_retV, ↓x_retN, ↓x_brk, ↓x_cnt, ↓x_for, ↓x_bdy, ↓x_C, ↓x_var, ↓x_dvar, ↓x_v1, ↓x_v2, ↓x_d1L, ↓x_d2L, ↓x_and, ↓x_or, ↓x_not, ↓x_ifx, ↓x_args0, ↓x_args1, ↓x_tup, ↓x_lst, ↓x_call, ↓x_vD, ↓x_dV, ↓x_slP, ↓x_opt0, ↓x_opt1, ↓x_iP, ↓x_rg1, ↓x_rg2, ↓x_rg3, ↓x_en, ↓x_zp, ↓x_rv, ↓x_ch, ↓x_lc, ↓x_aug, ↓x_app, ↓x_put, ↓x_pix, ↓x_try, ↓x_rep, ↓x_raise0, y_sq, y_sif, y_retV, y_setV, y_toV, y_ofV, y_orw, y_and, y_or, y_not, y_v1, y_v2a, y_v2b, y_finW, y_calB, sq_nx, sq_rt, sq_bk, sq_ct, sq_er, sq_no, dataL_d, allD_d, fnD, SZ, List.getElem?_cons_zero, List.getElem?_cons_succ, List.getElem?_nil, List.set_cons_zero, List.set_cons_succ, List.map_cons, List.map_nil, List.length_cons, List.length_nil, List.length_map, List.length_append, List.cons_append, List.nil_append, List.append_nil, Nat.reduceAdd, Nat.reduceSub, Nat.zero_add, Nat.add_zero, Option.map_some, Option.map_none, Option.getD_some, Option.getD_none, Bool.false_eq_true, Bool.true_eq_false, Bool.and_false, Bool.false_and, Bool.and_true, Bool.true_and, Bool.or_false, Bool.false_or, Bool.or_true, Bool.true_or, Bool.not_true, Bool.not_false, if_true, if_false, ite_true, ite_false, decide_eq_true_eq, Bool.and_eq_true, Bool.or_eq_true, Bool.not_eq_true', decide_eq_false_iff_not, decide_true, decide_false, true_and, and_true, reduceCtorEq, Int.reduceNeg, Int.reduceLT, Int.reduceLE, Int.reduceToNat, Nat.reduceLeDiff, Int.reduceAbs, Int.reduceSub, Int.reduceAdd, Int.reduceMul, Int.reduceEq, Nat.reduceMul, Nat.reduceEqDiff, Nat.reduceLT, Nat.reducePow, Int.reducePow, ↓reduceIte, ite_not, sif.eq_1, sif.eq_3, sif.eq_4, andA.eq_1, andA.eq_3, andA.eq_4, orA.eq_1, orA.eq_3, orA.eq_4, notA.eq_1, notA.eq_3, notA.eq_4, ifA.eq_1, ifA.eq_3, ifA.eq_4, orw.eq_1, orw.eq_2, orw.eq_3, v1r.eq_1, v1r.eq_2, v1a.eq_1, v1a.eq_2, v1a.eq_3, v2a.eq_1, v2a.eq_2, v2a.eq_3, v2b.eq_1, v2b.eq_2, v2b.eq_3, dlr.eq_1, dlr.eq_2, d1a.eq_1, d1a.eq_2, d1a.eq_3, d2a.eq_1, d2a.eq_2, d2a.eq_3, d2b.eq_1, d2b.eq_2, d2b.eq_3, ar1.eq_1, ar1.eq_2, ar1.eq_3, ar1.eq_4, ar2.eq_1, ar2.eq_2, ar2.eq_3, tupA.eq_1, tupA.eq_2, tupA.eq_3, lstA.eq_1, lstA.eq_2, lstA.eq_3, calA.eq_1, calA.eq_2, calA.eq_3, calB.eq_1, calB.eq_2, calB.eq_3, wOf.eq_1, varV.eq_1, varR.eq_1, varR.eq_2, varD.eq_1, setA.eq_1, setA.eq_2, setA.eq_4, setA.eq_5, setVA.eq_1, setVA.eq_2, setVA.eq_3, setVA.eq_4, asgA.eq_1, asgA.eq_2, asgA.eq_3, asgA.eq_4, asgB.eq_1, asgB.eq_2, expA.eq_1, expA.eq_2, expA.eq_3, retA.eq_1, retA.eq_2, retA.eq_3, retVA.eq_1, retVA.eq_2, retVA.eq_3, retVA.eq_4, forA.eq_1, forA.eq_2, forA.eq_3, sl0.eq_1, sl0.eq_2, sl0.eq_3, sl1.eq_1, sl1.eq_2, sl2.eq_1, sl2.eq_2, sl3.eq_1, sl3.eq_2, optA.eq_1, bdyA.eq_1, bdyA.eq_2, iPA.eq_1, iPA.eq_2, iPA.eq_3, iPA.eq_5, iPA.eq_6, rg1A.eq_3, rg1A.eq_4, rg2A.eq_3, rg2A.eq_4, rg3A.eq_3, rg3A.eq_4, enA.eq_1, enA.eq_3, enA.eq_4, zpA.eq_1, zpA.eq_3, zpA.eq_4, rvA.eq_1, rvA.eq_3, rvA.eq_4, ch1.eq_1, ch1.eq_2, ch1.eq_3, ch2.eq_1, ch2.eq_2, ch2.eq_3, chA.eq_1, chB.eq_1, chB.eq_2, chB.eq_3, chC.eq_1, chC.eq_2, lc0.eq_2, lc0.eq_3, lcA.eq_1, lcA.eq_2, augA.eq_1, augB.eq_1, augB.eq_3, augB.eq_4, appA.eq_1, appB.eq_1, appB.eq_2, appB.eq_3, putA.eq_1, putA.eq_2, putA.eq_3, putA2.eq_1, putA2.eq_2, putB.eq_1, putC.eq_1, putD.eq_1, pixA.eq_1, pixA2.eq_1, pixB.eq_1, tryA.eq_1, tryB.eq_1, tryB.eq_2, tryB.eq_3, noEr.eq_1, repA.eq_1, repA2.eq_1, repA2.eq_2, repB.eq_1, rdT.eq_1, rdT.eq_2, toV.eq_1, toV.eq_2, toV.eq_3, toV.eq_4, toV.eq_5, toV.eq_6, ofV.eq_1, ofV.eq_2, ofV.eq_4, ofV.eq_5, tOf.eq_1, tOf.eq_2, isL.eq_1, getE.eq_1, getT.eq_1, getT.eq_2, getT.eq_3, setE.eq_1, setT.eq_1, setT.eq_2, setT.eq_3, T.data.eq_1, T.data.eq_2, finW.eq_1, finW.eq_2, finW.eq_3, finW.eq_4, finW.eq_6, fin.eq_1, fin.eq_2, fin.eq_3, tgS.eq_1, wipeE.eq_1, wipeE.eq_2, fAdd.eq_1, fAdd.eq_2, fI2.eq_1, fB2.eq_1, fU.eq_1, fLen.eq_1, fLen.eq_2, fLen.eq_3, fIx.eq_1, fIx.eq_2, fIx.eq_3, fIsN.eq_1, fNotN.eq_1, isNone.eq_1, fInt.eq_1, fInt.eq_2, fInt.eq_3, fLs.eq_1, fLs.eq_2, fTp.eq_1, fTp.eq_2, fSlP.eq_3, wOf_l, wOf_o, tryA_nx, tryA_rt, tryA_bk, tryA_ct, noEr_nx, noEr_rt, noEr_bk, noEr_ct, isNone_i, isNone_b, isNone_s, isNone_l, isNone_t, iL_app, iL_len, iL_rep, iL_rev, allD_iL, dataL_iL, q_int, q_t, q_l, n_t, n_l, n_int, q_self, n_self, s_to, s_from, s_mid, sl_to, sl_from, sl_mid, add_t, add_l, cat_l, isi_t, isi_b, isi_i, isi_l, isi_s, at_0, at_1, at_2, at_3, at_4, at_5, at_6, ai_0, ai_1, ai_2, ai_3, ai_4, ai_5, ai_6, tgN_a, tgT_a, apd_ok, lc_ok, rg1_ok, rg2_ok, iL_snoc, iL_mapd, lc_const, rngD_len, iL_take, iL_drop, Int.toNat_natCast, dataL_nil, dataL_cons, allD.eq_1, allD.eq_2, ixN_ok, rep_l, tgS_nil, rep_none, rep_none0, List.take_left, List.drop_left, any_false, all_true, eq_self, set_iL, at_last, List.drop_succ_cons, List.drop_zero, List.getLast?_cons_cons, List.getLast?_singleton, Int.cast_ofNat_Int, rg3_ok, rngC_len, fRv_l, b_read_part, lt1, q, e]
theorem read_long (b0 b1 b2 b3 b4 b5 b6 b7 : Int) (P : List Int) (hl : P.length < 50000) (h0 : b0 ≠ 0) : RdOk (b0 :: b1 :: b2 :: b3 :: b4 :: b5 :: b6 :: b7 :: P) := by
  have q : ([b0] = [(0 : Int)]) = False := eq_false (fun h => h0 (by injection h))
  have e : (((P.length + 1 + 1 + 1 + 1 + 1 + 1 + 1 + 1 : Nat) : Int) < 8) = False := by apply eq_false; omega
  by_cases c1 : b0 = 1
  · have ec1 := eq_true c1
    by_cases c2 : [b2, b3, b4] = [(5 : Int), 0, 3]
    · have ec2 := eq_true c2
      by_cases c3 : 0 ≤ b5
      · have ec3 := eq_true c3
        by_cases c4 : b5 ≤ 255
        · have ec4 := eq_true c4
          by_cases c5 : 2 ≤ b6
          · have ec5 := eq_true c5
            by_cases c6 : b6 ≤ 4
            · have ec6 := eq_true c6
              by_cases c7 : 1 ≤ b7
              · have ec7 := eq_true c7
                by_cases c8 : b7 ≤ b6
                · have ec8 := eq_true c8
                  by_cases c9 : 1 ≤ b1 - 7
                  · have ec9 := eq_true c9
                    by_cases ca : b1 - 7 ≤ 153
                    · have eca := eq_true ca
                      obtain ⟨N, hN⟩ := Int.eq_ofNat_of_zero_le (show 0 ≤ b1 - 7 by omega)
                      have n1 : (1 ≤ (N : Int)) = True := by apply eq_true; omega
                      have n2 : ((N : Int) ≤ 153) = True := by apply eq_true; omega
                      rcases packed_septets_ok P 1 N (by omega) (by omega) (by omega) with ⟨h1, h2, h3⟩ | ⟨_, h3⟩
                      · right
                        simp only [Int.cast_ofNat_Int] at h3
                        refine ⟨b5, b6, b7, UN (OB P) 1 N, by rw [UN_len]; omega, fun h => by omega, fun _ => ⟨c5, c6, c7, c8, by rw [UN_len]; omega, by rw [UN_len]; omega⟩, ?_, ?_⟩
                        · unfold partI
                          rw [if_neg (by omega), h2, UN_len]
                          injection c2 with d1 d2
                          injection d2 with d2 d3
                          injection d3 with d3 d4
                          rw [c1, d1, d2, d3, show (N : Int) + 7 = b1 by omega]
                        · unfold f_read_part
                          simp (disch := (first | with_reducible assumption | omega | (simp only [iL_len, rngD_len, rngC_len, List.length_append, List.length_replicate, List.length_cons, List.length_nil, List.length_map, List.length_take, List.length_drop, List.length_range, SZ] <;> omega) | (simp only [iL_len, rngD_len, rngC_len, List.length_append, List.length_replicate, List.length_cons, List.length_nil, List.length_map, List.length_take, List.length_drop, List.length_range, SZ] at * <;> omega) | fail)) only [↓x_seq, ↓x_nil, ↓x_if, ↓x_set, ↓x_setV, ↓x_asg, ↓x_exp, ↓x_ret, ↓x_retV, ↓x_retN, ↓x_brk, ↓x_cnt, ↓x_for, ↓x_bdy, ↓x_C, ↓x_var, ↓x_dvar, ↓x_v1, ↓x_v2, ↓x_d1L, ↓x_d2L, ↓x_and, ↓x_or, ↓x_not, ↓x_ifx, ↓x_args0, ↓x_args1, ↓x_tup, ↓x_lst, ↓x_call, ↓x_vD, ↓x_dV, ↓x_slP, ↓x_opt0, ↓x_opt1, ↓x_iP, ↓x_rg1, ↓x_rg2, ↓x_rg3, ↓x_en, ↓x_zp, ↓x_rv, ↓x_ch, ↓x_lc, ↓x_aug, ↓x_app, ↓x_put, ↓x_pix, ↓x_try, ↓x_rep, ↓x_raise0, y_sq, y_sif, y_retV, y_setV, y_toV, y_ofV, y_orw, y_and, y_or, y_not, y_v1, y_v2a, y_v2b, y_finW, y_calB, sq_nx, sq_rt, sq_bk, sq_ct, sq_er, sq_no, dataL_d, allD_d, fnD, SZ, List.getElem?_cons_zero, List.getElem?_cons_succ, List.getElem?_nil, List.set_cons_zero, List.set_cons_succ, List.map_cons, List.map_nil, List.length_cons, List.length_nil, List.length_map, List.length_append, List.cons_append, List.nil_append, List.append_nil, Nat.reduceAdd, Nat.reduceSub, Nat.zero_add, Nat.add_zero, Option.map_some, Option.map_none, Option.getD_some, Option.getD_none, Bool.false_eq_true, Bool.true_eq_false, Bool.and_false, Bool.false_and, Bool.and_true, Bool.true_and, Bool.or_false, Bool.false_or, Bool.or_true, Bool.true_or, Bool.not_true, Bool.not_false, if_true, if_false, ite_true, ite_false, decide_eq_true_eq, Bool.and_eq_true, Bool.or_eq_true, Bool.not_eq_true', decide_eq_false_iff_not, decide_true, decide_false, true_and, and_true, reduceCtorEq, Int.reduceNeg, Int.reduceLT, Int.reduceLE, Int.reduceToNat, Nat.reduceLeDiff, Int.reduceAbs, Int.reduceSub, Int.reduceAdd, Int.reduceMul, Int.reduceEq, Nat.reduceMul, Nat.reduceEqDiff, Nat.reduceLT, Nat.reducePow, Int.reducePow, ↓reduceIte, ite_not, sif.eq_1, sif.eq_3, sif.eq_4, andA.eq_1, andA.eq_3, andA.eq_4, orA.eq_1, orA.eq_3, orA.eq_4, notA.eq_1, notA.eq_3, notA.eq_4, ifA.eq_1, ifA.eq_3, ifA.eq_4, orw.eq_1, orw.eq_2, orw.eq_3, v1r.eq_1, v1r.eq_2, v1a.eq_1, v1a.eq_2, v1a.eq_3, v2a.eq_1, v2a.eq_2, v2a.eq_3, v2b.eq_1, v2b.eq_2, v2b.eq_3, dlr.eq_1, dlr.eq_2, d1a.eq_1, d1a.eq_2, d1a.eq_3, d2a.eq_1, d2a.eq_2, d2a.eq_3, d2b.eq_1, d2b.eq_2, d2b.eq_3, ar1.eq_1, ar1.eq_2, ar1.eq_3, ar1.eq_4, ar2.eq_1, ar2.eq_2, ar2.eq_3, tupA.eq_1, tupA.eq_2, tupA.eq_3, lstA.eq_1, lstA.eq_2, lstA.eq_3, calA.eq_1, calA.eq_2, calA.eq_3, calB.eq_1, calB.eq_2, calB.eq_3, wOf.eq_1, varV.eq_1, varR.eq_1, varR.eq_2, varD.eq_1, setA.eq_1, setA.eq_2, setA.eq_4, setA.eq_5, setVA.eq_1, setVA.eq_2, setVA.eq_3, setVA.eq_4, asgA.eq_1, asgA.eq_2, asgA.eq_3, asgA.eq_4, asgB.eq_1, asgB.eq_2, expA.eq_1, expA.eq_2, expA.eq_3, retA.eq_1, retA.eq_2, retA.eq_3, retVA.eq_1, retVA.eq_2, retVA.eq_3, retVA.eq_4, forA.eq_1, forA.eq_2, forA.eq_3, sl0.eq_1, sl0.eq_2, sl0.eq_3, sl1.eq_1, sl1.eq_2, sl2.eq_1, sl2.eq_2, sl3.eq_1, sl3.eq_2, optA.eq_1, bdyA.eq_1, bdyA.eq_2, iPA.eq_1, iPA.eq_2, iPA.eq_3, iPA.eq_5, iPA.eq_6, rg1A.eq_3, rg1A.eq_4, rg2A.eq_3, rg2A.eq_4, rg3A.eq_3, rg3A.eq_4, enA.eq_1, enA.eq_3, enA.eq_4, zpA.eq_1, zpA.eq_3, zpA.eq_4, rvA.eq_1, rvA.eq_3, rvA.eq_4, ch1.eq_1, ch1.eq_2, ch1.eq_3, ch2.eq_1, ch2.eq_2, ch2.eq_3, chA.eq_1, chB.eq_1, chB.eq_2, chB.eq_3, chC.eq_1, chC.eq_2, lc0.eq_2, lc0.eq_3, lcA.eq_1, lcA.eq_2, augA.eq_1, augB.eq_1, augB.eq_3, augB.eq_4, appA.eq_1, appB.eq_1, appB.eq_2, appB.eq_3, putA.eq_1, putA.eq_2, putA.eq_3, putA2.eq_1, putA2.eq_2, putB.eq_1, putC.eq_1, putD.eq_1, pixA.eq_1, pixA2.eq_1, pixB.eq_1, tryA.eq_1, tryB.eq_1, tryB.eq_2, tryB.eq_3, noEr.eq_1, repA.eq_1, repA2.eq_1, repA2.eq_2, repB.eq_1, rdT.eq_1, rdT.eq_2, toV.eq_1, toV.eq_2, toV.eq_3, toV.eq_4, toV.eq_5, toV.eq_6, ofV.eq_1, ofV.eq_2, ofV.eq_4, ofV.eq_5, tOf.eq_1, tOf.eq_2, isL.eq_1, getE.eq_1, getT.eq_1, getT.eq_2, getT.eq_3, setE.eq_1, setT.eq_1, setT.eq_2, setT.eq_3, T.data.eq_1, T.data.eq_2, finW.eq_1, finW.eq_2, finW.eq_3, finW.eq_4, finW.eq_6, fin.eq_1, fin.eq_2, fin.eq_3, tgS.eq_1, wipeE.eq_1, wipeE.eq_2, fAdd.eq_1, fAdd.eq_2, fI2.eq_1, fB2.eq_1, fU.eq_1, fLen.eq_1, fLen.eq_2, fLen.eq_3, fIx.eq_1, fIx.eq_2, fIx.eq_3, fIsN.eq_1, fNotN.eq_1, isNone.eq_1, fInt.eq_1, fInt.eq_2, fInt.eq_3, fLs.eq_1, fLs.eq_2, fTp.eq_1, fTp.eq_2, fSlP.eq_3, wOf_l, wOf_o, tryA_nx, tryA_rt, tryA_bk, tryA_ct, noEr_nx, noEr_rt, noEr_bk, noEr_ct, isNone_i, isNone_b, isNone_s, isNone_l, isNone_t, iL_app, iL_len, iL_rep, iL_rev, allD_iL, dataL_iL, q_int, q_t, q_l, n_t, n_l, n_int, q_self, n_self, s_to, s_from, s_mid, sl_to, sl_from, sl_mid, add_t, add_l, cat_l, isi_t, isi_b, isi_i, isi_l, isi_s, at_0, at_1, at_2, at_3, at_4, at_5, at_6, ai_0, ai_1, ai_2, ai_3, ai_4, ai_5, ai_6, tgN_a, tgT_a, apd_ok, lc_ok, rg1_ok, rg2_ok, iL_snoc, iL_mapd, lc_const, rngD_len, iL_take, iL_drop, Int.toNat_natCast, dataL_nil, dataL_cons, allD.eq_1, allD.eq_2, ixN_ok, rep_l, tgS_nil, rep_none, rep_none0, List.take_left, List.drop_left, any_false, all_true, eq_self, set_iL, at_last, List.drop_succ_cons, List.drop_zero, List.take_succ_cons, List.take_zero, List.getLast?_cons_cons, List.getLast?_singleton, Int.cast_ofNat_Int, rg3_ok, rngC_len, fRv_l, b_read_part, lt1, q, e, ec1, ec2, ec3, ec4, ec5, ec6, ec7, ec8, ec9, eca, tgS_iL, tgS_iL0, n_t, hN, n1, n2, h3]
                      · left
                        simp only [Int.cast_ofNat_Int] at h3
                        unfold f_read_part
                        simp (disch := (first | with_reducible assumption | omega | (simp only [iL_len, rngD_len, rngC_len, List.length_append, List.length_replicate, List.length_cons, List.length_nil, List.length_map, List.length_take, List.length_drop, List.length_range, SZ] <;> omega) | (simp only [iL_len, rngD_len, rngC_len, List.length_append, List.length_replicate, List.length_cons, List.length_nil, List.length_map, List.length_take, List.length_drop, List.length_range, SZ] at * <;> omega) | fail)) only [↓x_seq, ↓x_nil, ↓x_if, ↓x_set, ↓x_setV, ↓x_asg, ↓x_exp, ↓x_ret, ↓x_retV, ↓x_retN, ↓x_brk, ↓x_cnt, ↓x_for, ↓x_bdy, ↓x_C, ↓x_var, ↓x_dvar, ↓x_v1, ↓x_v2, ↓x_d1L, ↓x_d2L, ↓x_and, ↓x_or, ↓x_not, ↓x_ifx, ↓x_args0, ↓x_args1, ↓x_tup, ↓x_lst, ↓x_call, ↓x_vD, ↓x_dV, ↓x_slP, ↓x_opt0, ↓x_opt1, ↓x_iP, ↓x_rg1, ↓x_rg2, ↓x_rg3, ↓x_en, ↓x_zp, ↓x_rv, ↓x_ch, ↓x_lc, ↓x_aug, ↓x_app, ↓x_put, ↓x_pix, ↓x_try, ↓x_rep, ↓x_raise0, y_sq, y_sif, y_retV, y_setV, y_toV, y_ofV, y_orw, y_and, y_or, y_not, y_v1, y_v2a, y_v2b, y_finW, y_calB, sq_nx, sq_rt, sq_bk, sq_ct, sq_er, sq_no, dataL_d, allD_d, fnD, SZ, List.getElem?_cons_zero, List.getElem?_cons_succ, List.getElem?_nil, List.set_cons_zero, List.set_cons_succ, List.map_cons, List.map_nil, List.length_cons, List.length_nil, List.length_map, List.length_append, List.cons_append, List.nil_append, List.append_nil, Nat.reduceAdd, Nat.reduceSub, Nat.zero_add, Nat.add_zero, Option.map_some, Option.map_none, Option.getD_some, Option.getD_none, Bool.false_eq_true, Bool.true_eq_false, Bool.and_false, Bool.false_and, Bool.and_true, Bool.true_and, Bool.or_false, Bool.false_or, Bool.or_true, Bool.true_or, Bool.not_true, Bool.not_false, if_true, if_false, ite_true, ite_false, decide_eq_true_eq, Bool.and_eq_true, Bool.or_eq_true, Bool.not_eq_true', decide_eq_false_iff_not, decide_true, decide_false, true_and, and_true, reduceCtorEq, Int.reduceNeg, Int.reduceLT, Int.reduceLE, Int.reduceToNat, Nat.reduceLeDiff, Int.reduceAbs, Int.reduceSub, Int.reduceAdd, Int.reduceMul, Int.reduceEq, Nat.reduceMul, Nat.reduceEqDiff, Nat.reduceLT, Nat.reducePow, Int.reducePow, ↓reduceIte, ite_not, sif.eq_1, sif.eq_3, sif.eq_4, andA.eq_1, andA.eq_3, andA.eq_4, orA.eq_1, orA.eq_3, orA.eq_4, notA.eq_1, notA.eq_3, notA.eq_4, ifA.eq_1, ifA.eq_3, ifA.eq_4, orw.eq_1, orw.eq_2, orw.eq_3, v1r.eq_1, v1r.eq_2, v1a.eq_1, v1a.eq_2, v1a.eq_3, v2a.eq_1, v2a.eq_2, v2a.eq_3, v2b.eq_1, v2b.eq_2, v2b.eq_3, dlr.eq_1, dlr.eq_2, d1a.eq_1, d1a.eq_2, d1a.eq_3, d2a.eq_1, d2a.eq_2, d2a.eq_3, d2b.eq_1, d2b.eq_2, d2b.eq_3, ar1.eq_1, ar1.eq_2, ar1.eq_3, ar1.eq_4, ar2.eq_1, ar2.eq_2, ar2.eq_3, tupA.eq_1, tupA.eq_2, tupA.eq_3, lstA.eq_1, lstA.eq_2, lstA.eq_3, calA.eq_1, calA.eq_2, calA.eq_3, calB.eq_1, calB.eq_2, calB.eq_3, wOf.eq_1, varV.eq_1, varR.eq_1, varR.eq_2, varD.eq_1, setA.eq_1, setA.eq_2, setA.eq_4, setA.eq_5, setVA.eq_1, setVA.eq_2, setVA.eq_3, setVA.eq_4, asgA.eq_1, asgA.eq_2, asgA.eq_3, asgA.eq_4, asgB.eq_1, asgB.eq_2, expA.eq_1, expA.eq_2, expA.eq_3, retA.eq_1, retA.eq_2, retA.eq_3, retVA.eq_1, retVA.eq_2, retVA.eq_3, retVA.eq_4, forA.eq_1, forA.eq_2, forA.eq_3, sl0.eq_1, sl0.eq_2, sl0.eq_3, sl1.eq_1, sl1.eq_2, sl2.eq_1, sl2.eq_2, sl3.eq_1, sl3.eq_2, optA.eq_1, bdyA.eq_1, bdyA.eq_2, iPA.eq_1, iPA.eq_2, iPA.eq_3, iPA.eq_5, iPA.eq_6, rg1A.eq_3, rg1A.eq_4, rg2A.eq_3, rg2A.eq_4, rg3A.eq_3, rg3A.eq_4, enA.eq_1, enA.eq_3, enA.eq_4, zpA.eq_1, zpA.eq_3, zpA.eq_4, rvA.eq_1, rvA.eq_3, rvA.eq_4, ch1.eq_1, ch1.eq_2, ch1.eq_3, ch2.eq_1, ch2.eq_2, ch2.eq_3, chA.eq_1, chB.eq_1, chB.eq_2, chB.eq_3, chC.eq_1, chC.eq_2, lc0.eq_2, lc0.eq_3, lcA.eq_1, lcA.eq_2, augA.eq_1, augB.eq_1, augB.eq_3, augB.eq_4, appA.eq_1, appB.eq_1, appB.eq_2, appB.eq_3, putA.eq_1, putA.eq_2, putA.eq_3, putA2.eq_1, putA2.eq_2, putB.eq_1, putC.eq_1, putD.eq_1, pixA.eq_1, pixA2.eq_1, pixB.eq_1, tryA.eq_1, tryB.eq_1, tryB.eq_2, tryB.eq_3, noEr.eq_1, repA.eq_1, repA2.eq_1, repA2.eq_2, repB.eq_1, rdT.eq_1, rdT.eq_2, toV.eq_1, toV.eq_2, toV.eq_3, toV.eq_4, toV.eq_5, toV.eq_6, ofV.eq_1, ofV.eq_2, ofV.eq_4, ofV.eq_5, tOf.eq_1, tOf.eq_2, isL.eq_1, getE.eq_1, getT.eq_1, getT.eq_2, getT.eq_3, setE.eq_1, setT.eq_1, setT.eq_2, setT.eq_3, T.data.eq_1, T.data.eq_2, finW.eq_1, finW.eq_2, finW.eq_3, finW.eq_4, finW.eq_6, fin.eq_1, fin.eq_2, fin.eq_3, tgS.eq_1, wipeE.eq_1, wipeE.eq_2, fAdd.eq_1, fAdd.eq_2, fI2.eq_1, fB2.eq_1, fU.eq_1, fLen.eq_1, fLen.eq_2, fLen.eq_3, fIx.eq_1, fIx.eq_2, fIx.eq_3, fIsN.eq_1, fNotN.eq_1, isNone.eq_1, fInt.eq_1, fInt.eq_2, fInt.eq_3, fLs.eq_1, fLs.eq_2, fTp.eq_1, fTp.eq_2, fSlP.eq_3, wOf_l, wOf_o, tryA_nx, tryA_rt, tryA_bk, tryA_ct, noEr_nx, noEr_rt, noEr_bk, noEr_ct, isNone_i, isNone_b, isNone_s, isNone_l, isNone_t, iL_app, iL_len, iL_rep, iL_rev, allD_iL, dataL_iL, q_int, q_t, q_l, n_t, n_l, n_int, q_self, n_self, s_to, s_from, s_mid, sl_to, sl_from, sl_mid, add_t, add_l, cat_l, isi_t, isi_b, isi_i, isi_l, isi_s, at_0, at_1, at_2, at_3, at_4, at_5, at_6, ai_0, ai_1, ai_2, ai_3, ai_4, ai_5, ai_6, tgN_a, tgT_a, apd_ok, lc_ok, rg1_ok, rg2_ok, iL_snoc, iL_mapd, lc_const, rngD_len, iL_take, iL_drop, Int.toNat_natCast, dataL_nil, dataL_cons, allD.eq_1, allD.eq_2, ixN_ok, rep_l, tgS_nil, rep_none, rep_none0, List.take_left, List.drop_left, any_false, all_true, eq_self, set_iL, at_last, List.drop_succ_cons, List.drop_zero, List.take_succ_cons, List.take_zero, List.getLast?_cons_cons, List.getLast?_singleton, Int.cast_ofNat_Int, rg3_ok, rngC_len, fRv_l, b_read_part, lt1, q, e, ec1, ec2, ec3, ec4, ec5, ec6, ec7, ec8, ec9, eca, tgS_iL, tgS_iL0, n_t, hN, n1, n2, h3]
                    · have eca := eq_false ca
                      left
                      unfold f_read_part
                      simp (disch := (first | with_reducible assumption | omega | (simp only [iL_len, rngD_len, rngC_len, List.length_append, List.length_replicate, List.length_cons, List.length_nil, List.length_map, List.length_take, List.length_drop, List.length_range, SZ] <;> omega) | (simp only [iL_len, rngD_len, rngC_len, List.length_append, List.length_replicate, List.length_cons, List.length_nil, List.length_map, List.length_take, List.length_drop, List.length_range, SZ] at * <;> omega) | fail)) only [↓x_seq, ↓x_nil, ↓x_if, ↓x_set, ↓x_setV, ↓x_asg, ↓x_exp, ↓x_ret, ↓x_retV, ↓x_retN, ↓x_brk, ↓x_cnt, ↓x_for, ↓x_bdy, ↓x_C, ↓x_var, ↓x_dvar, ↓x_v1, ↓x_v2, ↓x_d1L, ↓x_d2L, ↓x_and, ↓x_or, ↓x_not, ↓x_ifx, ↓x_args0, ↓x_args1, ↓x_tup, ↓x_lst, ↓x_call, ↓x_vD, ↓x_dV, ↓x_slP, ↓x_opt0, ↓x_opt1, ↓x_iP, ↓x_rg1, ↓x_rg2, ↓x_rg3, ↓x_en, ↓x_zp, ↓x_rv, ↓x_ch, ↓x_lc, ↓x_aug, ↓x_app, ↓x_put, ↓x_pix, ↓x_try, ↓x_rep, ↓x_raise0, y_sq, y_sif, y_retV, y_setV, y_toV, y_ofV, y_orw, y_and, y_or, y_not, y_v1, y_v2a, y_v2b, y_finW, y_calB, sq_nx, sq_rt, sq_bk, sq_ct, sq_er, sq_no, dataL_d, allD_d, fnD, SZ, List.getElem?_cons_zero, List.getElem?_cons_succ, List.getElem?_nil, List.set_cons_zero, List.set_cons_succ, List.map_cons, List.map_nil, List.length_cons, List.length_nil, List.length_map, List.length_append, List.cons_append, List.nil_append, List.append_nil, Nat.reduceAdd, Nat.reduceSub, Nat.zero_add, Nat.add_zero, Option.map_some, Option.map_none, Option.getD_some, Option.getD_none, Bool.false_eq_true, Bool.true_eq_false, Bool.and_false, Bool.false_and, Bool.and_true, Bool.true_and, Bool.or_false, Bool.false_or, Bool.or_true, Bool.true_or, Bool.not_true, Bool.not_false, if_true, if_false, ite_true, ite_false, decide_eq_true_eq, Bool.and_eq_true, Bool.or_eq_true, Bool.not_eq_true', decide_eq_false_iff_not, decide_true, decide_false, true_and, and_true, reduceCtorEq, Int.reduceNeg, Int.reduceLT, Int.reduceLE, Int.reduceToNat, Nat.reduceLeDiff, Int.reduceAbs, Int.reduceSub, Int.reduceAdd, Int.reduceMul, Int.reduceEq, Nat.reduceMul, Nat.reduceEqDiff, Nat.reduceLT, Nat.reducePow, Int.reducePow, ↓reduceIte, ite_not, sif.eq_1, sif.eq_3, sif.eq_4, andA.eq_1, andA.eq_3, andA.eq_4, orA.eq_1, orA.eq_3, orA.eq_4, notA.eq_1, notA.eq_3, notA.eq_4, ifA.eq_1, ifA.eq_3, ifA.eq_4, orw.eq_1, orw.eq_2, orw.eq_3, v1r.eq_1, v1r.eq_2, v1a.eq_1, v1a.eq_2, v1a.eq_3, v2a.eq_1, v2a.eq_2, v2a.eq_3, v2b.eq_1, v2b.eq_2, v2b.eq_3, dlr.eq_1, dlr.eq_2, d1a.eq_1, d1a.eq_2, d1a.eq_3, d2a.eq_1, d2a.eq_2, d2a.eq_3, d2b.eq_1, d2b.eq_2, d2b.eq_3, ar1.eq_1, ar1.eq_2, ar1.eq_3, ar1.eq_4, ar2.eq_1, ar2.eq_2, ar2.eq_3, tupA.eq_1, tupA.eq_2, tupA.eq_3, lstA.eq_1, lstA.eq_2, lstA.eq_3, calA.eq_1, calA.eq_2, calA.eq_3, calB.eq_1, calB.eq_2, calB.eq_3, wOf.eq_1, varV.eq_1, varR.eq_1, varR.eq_2, varD.eq_1, setA.eq_1, setA.eq_2, setA.eq_4, setA.eq_5, setVA.eq_1, setVA.eq_2, setVA.eq_3, setVA.eq_4, asgA.eq_1, asgA.eq_2, asgA.eq_3, asgA.eq_4, asgB.eq_1, asgB.eq_2, expA.eq_1, expA.eq_2, expA.eq_3, retA.eq_1, retA.eq_2, retA.eq_3, retVA.eq_1, retVA.eq_2, retVA.eq_3, retVA.eq_4, forA.eq_1, forA.eq_2, forA.eq_3, sl0.eq_1, sl0.eq_2, sl0.eq_3, sl1.eq_1, sl1.eq_2, sl2.eq_1, sl2.eq_2, sl3.eq_1, sl3.eq_2, optA.eq_1, bdyA.eq_1, bdyA.eq_2, iPA.eq_1, iPA.eq_2, iPA.eq_3, iPA.eq_5, iPA.eq_6, rg1A.eq_3, rg1A.eq_4, rg2A.eq_3, rg2A.eq_4, rg3A.eq_3, rg3A.eq_4, enA.eq_1, enA.eq_3, enA.eq_4, zpA.eq_1, zpA.eq_3, zpA.eq_4, rvA.eq_1, rvA.eq_3, rvA.eq_4, ch1.eq_1, ch1.eq_2, ch1.eq_3, ch2.eq_1, ch2.eq_2, ch2.eq_3, chA.eq_1, chB.eq_1, chB.eq_2, chB.eq_3, chC.eq_1, chC.eq_2, lc0.eq_2, lc0.eq_3, lcA.eq_1, lcA.eq_2, augA.eq_1, augB.eq_1, augB.eq_3, augB.eq_4, appA.eq_1, appB.eq_1, appB.eq_2, appB.eq_3, putA.eq_1, putA.eq_2, putA.eq_3, putA2.eq_1, putA2.eq_2, putB.eq_1, putC.eq_1, putD.eq_1, pixA.eq_1, pixA2.eq_1, pixB.eq_1, tryA.eq_1, tryB.eq_1, tryB.eq_2, tryB.eq_3, noEr.eq_1, repA.eq_1, repA2.eq_1, repA2.eq_2, repB.eq_1, rdT.eq_1, rdT.eq_2, toV.eq_1, toV.eq_2, toV.eq_3, toV.eq_4, toV.eq_5, toV.eq_6, ofV.eq_1, ofV.eq_2, ofV.eq_4, ofV.eq_5, tOf.eq_1, tOf.eq_2, isL.eq_1, getE.eq_1, getT.eq_1, getT.eq_2, getT.eq_3, setE.eq_1, setT.eq_1, setT.eq_2, setT.eq_3, T.data.eq_1, T.data.eq_2, finW.eq_1, finW.eq_2, finW.eq_3, finW.eq_4, finW.eq_6, fin.eq_1, fin.eq_2, fin.eq_3, tgS.eq_1, wipeE.eq_1, wipeE.eq_2, fAdd.eq_1, fAdd.eq_2, fI2.eq_1, fB2.eq_1, fU.eq_1, fLen.eq_1, fLen.eq_2, fLen.eq_3, fIx.eq_1, fIx.eq_2, fIx.eq_3, fIsN.eq_1, fNotN.eq_1, isNone.eq_1, fInt.eq_1, fInt.eq_2, fInt.eq_3, fLs.eq_1, fLs.eq_2, fTp.eq_1, fTp.eq_2, fSlP.eq_3, wOf_l, wOf_o, tryA_nx, tryA_rt, tryA_bk, tryA_ct, noEr_nx, noEr_rt, noEr_bk, noEr_ct, isNone_i, isNone_b, isNone_s, isNone_l, isNone_t, iL_app, iL_len, iL_rep, iL_rev, allD_iL, dataL_iL, q_int, q_t, q_l, n_t, n_l, n_int, q_self, n_self, s_to, s_from, s_mid, sl_to, sl_from, sl_mid, add_t, add_l, cat_l, isi_t, isi_b, isi_i, isi_l, isi_s, at_0, at_1, at_2, at_3, at_4, at_5, at_6, ai_0, ai_1, ai_2, ai_3, ai_4, ai_5, ai_6, tgN_a, tgT_a, apd_ok, lc_ok, rg1_ok, rg2_ok, iL_snoc, iL_mapd, lc_const, rngD_len, iL_take, iL_drop, Int.toNat_natCast, dataL_nil, dataL_cons, allD.eq_1, allD.eq_2, ixN_ok, rep_l, tgS_nil, rep_none, rep_none0, List.take_left, List.drop_left, any_false, all_true, eq_self, set_iL, at_last, List.drop_succ_cons, List.drop_zero, List.take_succ_cons, List.take_zero, List.getLast?_cons_cons, List.getLast?_singleton, Int.cast_ofNat_Int, rg3_ok, rngC_len, fRv_l, b_read_part, lt1, q, e, ec1, ec2, ec3, ec4, ec5, ec6, ec7, ec8, ec9, eca, tgS_iL, tgS_iL0, n_t]
                  · have ec9 := eq_false c9
                    left
                    unfold f_read_part
                    simp (disch := (first | with_reducible assumption | omega | (simp only [iL_len, rngD_len, rngC_len, List.length_append, List.length_replicate, List.length_cons, List.length_nil, List.length_map, List.length_take, List.length_drop, List.length_range, SZ] <;> omega) | (simp only [iL_len, rngD_len, rngC_len, List.length_append, List.length_replicate, List.length_cons, List.length_nil, List.length_map, List.length_take, List.length_drop, List.length_range, SZ] at * <;> omega) | fail)) only [↓x_seq, ↓x_nil, ↓x_if, ↓x_set, ↓x_setV, ↓x_asg, ↓x_exp, ↓x_ret, ↓x_retV, ↓x_retN, ↓x_brk, ↓x_cnt, ↓x_for, ↓x_bdy, ↓x_C, ↓x_var, ↓x_dvar, ↓x_v1, ↓x_v2, ↓x_d1L, ↓x_d2L, ↓x_and, ↓x_or, ↓x_not, ↓x_ifx, ↓x_args0, ↓x_args1, ↓x_tup, ↓x_lst, ↓x_call, ↓x_vD, ↓x_dV, ↓x_slP, ↓x_opt0, ↓x_opt1, ↓x_iP, ↓x_rg1, ↓x_rg2, ↓x_rg3, ↓x_en, ↓x_zp, ↓x_rv, ↓x_ch, ↓x_lc, ↓x_aug, ↓x_app, ↓x_put, ↓x_pix, ↓x_try, ↓x_rep, ↓x_raise0, y_sq, y_sif, y_retV, y_setV, y_toV, y_ofV, y_orw, y_and, y_or, y_not, y_v1, y_v2a, y_v2b, y_finW, y_calB, sq_nx, sq_rt, sq_bk, sq_ct, sq_er, sq_no, dataL_d, allD_d, fnD, SZ, List.getElem?_cons_zero, List.getElem?_cons_succ, List.getElem?_nil, List.set_cons_zero, List.set_cons_succ, List.map_cons, List.map_nil, List.length_cons, List.length_nil, List.length_map, List.length_append, List.cons_append, List.nil_append, List.append_nil, Nat.reduceAdd, Nat.reduceSub, Nat.zero_add, Nat.add_zero, Option.map_some, Option.map_none, Option.getD_some, Option.getD_none, Bool.false_eq_true, Bool.true_eq_false, Bool.and_false, Bool.false_and, Bool.and_true, Bool.true_and, Bool.or_false, Bool.false_or, Bool.or_true, Bool.true_or, Bool.not_true, Bool.not_false, if_true, if_false, ite_true, ite_false, decide_eq_true_eq, Bool.and_eq_true, Bool.or_eq_true, Bool.not_eq_true', decide_eq_false_iff_not, decide_true, decide_false, true_and, and_true, reduceCtorEq, Int.reduceNeg, Int.reduceLT, Int.reduceLE, Int.reduceToNat, Nat.reduceLeDiff, Int.reduceAbs, Int.reduceSub, Int.reduceAdd, Int.reduceMul, Int.reduceEq, Nat.reduceMul, Nat.reduceEqDiff, Nat.reduceLT, Nat.reducePow, Int.reducePow, ↓reduceIte, ite_not, sif.eq_1, sif.eq_3, sif.eq_4, andA.eq_1, andA.eq_3, andA.eq_4, orA.eq_1, orA.eq_3, orA.eq_4, notA.eq_1, notA.eq_3, notA.eq_4, ifA.eq_1, ifA.eq_3, ifA.eq_4, orw.eq_1, orw.eq_2, orw.eq_3, v1r.eq_1, v1r.eq_2, v1a.eq_1, v1a.eq_2, v1a.eq_3, v2a.eq_1, v2a.eq_2, v2a.eq_3, v2b.eq_1, v2b.eq_2, v2b.eq_3, dlr.eq_1, dlr.eq_2, d1a.eq_1, d1a.eq_2, d1a.eq_3, d2a.eq_1, d2a.eq_2, d2a.eq_3, d2b.eq_1, d2b.eq_2, d2b.eq_3, ar1.eq_1, ar1.eq_2, ar1.eq_3, ar1.eq_4, ar2.eq_1, ar2.eq_2, ar2.eq_3, tupA.eq_1, tupA.eq_2, tupA.eq_3, lstA.eq_1, lstA.eq_2, lstA.eq_3, calA.eq_1, calA.eq_2, calA.eq_3, calB.eq_1, calB.eq_2, calB.eq_3, wOf.eq_1, varV.eq_1, varR.eq_1, varR.eq_2, varD.eq_1, setA.eq_1, setA.eq_2, setA.eq_4, setA.eq_5, setVA.eq_1, setVA.eq_2, setVA.eq_3, setVA.eq_4, asgA.eq_1, asgA.eq_2, asgA.eq_3, asgA.eq_4, asgB.eq_1, asgB.eq_2, expA.eq_1, expA.eq_2, expA.eq_3, retA.eq_1, retA.eq_2, retA.eq_3, retVA.eq_1, retVA.eq_2, retVA.eq_3, retVA.eq_4, forA.eq_1, forA.eq_2, forA.eq_3, sl0.eq_1, sl0.eq_2, sl0.eq_3, sl1.eq_1, sl1.eq_2, sl2.eq_1, sl2.eq_2, sl3.eq_1, sl3.eq_2, optA.eq_1, bdyA.eq_1, bdyA.eq_2, iPA.eq_1, iPA.eq_2, iPA.eq_3, iPA.eq_5, iPA.eq_6, rg1A.eq_3, rg1A.eq_4, rg2A.eq_3, rg2A.eq_4, rg3A.eq_3, rg3A.eq_4, enA.eq_1, enA.eq_3, enA.eq_4, zpA.eq_1, zpA.eq_3, zpA.eq_4, rvA.eq_1, rvA.eq_3, rvA.eq_4, ch1.eq_1, ch1.eq_2, ch1.eq_3, ch2.eq_1, ch2.eq_2, ch2.eq_3, chA.eq_1, chB.eq_1, chB.eq_2, chB.eq_3, chC.eq_1, chC.eq_2, lc0.eq_2, lc0.eq_3, lcA.eq_1, lcA.eq_2, augA.eq_1, augB.eq_1, augB.eq_3, augB.eq_4, appA.eq_1, appB.eq_1, appB.eq_2, appB.eq_3, putA.eq_1, putA.eq_2, putA.eq_3, putA2.eq_1, putA2.eq_2, putB.eq_1, putC.eq_1, putD.eq_1, pixA.eq_1, pixA2.eq_1, pixB.eq_1, tryA.eq_1, tryB.eq_1, tryB.eq_2, tryB.eq_3, noEr.eq_1, repA.eq_1, repA2.eq_1, repA2.eq_2, repB.eq_1, rdT.eq_1, rdT.eq_2, toV.eq_1, toV.eq_2, toV.eq_3, toV.eq_4, toV.eq_5, toV.eq_6, ofV.eq_1, ofV.eq_2, ofV.eq_4, ofV.eq_5, tOf.eq_1, tOf.eq_2, isL.eq_1, getE.eq_1, getT.eq_1, getT.eq_2, getT.eq_3, setE.eq_1, setT.eq_1, setT.eq_2, setT.eq_3, T.data.eq_1, T.data.eq_2, finW.eq_1, finW.eq_2, finW.eq_3, finW.eq_4, finW.eq_6, fin.eq_1, fin.eq_2, fin.eq_3, tgS.eq_1, wipeE.eq_1, wipeE.eq_2, fAdd.eq_1, fAdd.eq_2, fI2.eq_1, fB2.eq_1, fU.eq_1, fLen.eq_1, fLen.eq_2, fLen.eq_3, fIx.eq_1, fIx.eq_2, fIx.eq_3, fIsN.eq_1, fNotN.eq_1, isNone.eq_1, fInt.eq_1, fInt.eq_2, fInt.eq_3, fLs.eq_1, fLs.eq_2, fTp.eq_1, fTp.eq_2, fSlP.eq_3, wOf_l, wOf_o, tryA_nx, tryA_rt, tryA_bk, tryA_ct, noEr_nx, noEr_rt, noEr_bk, noEr_ct, isNone_i, isNone_b, isNone_s, isNone_l, isNone_t, iL_app, iL_len, iL_rep, iL_rev, allD_iL, dataL_iL, q_int, q_t, q_l, n_t, n_l, n_int, q_self, n_self, s_to, s_from, s_mid, sl_to, sl_from, sl_mid, add_t, add_l, cat_l, isi_t, isi_b, isi_i, isi_l, isi_s, at_0, at_1, at_2, at_3, at_4, at_5, at_6, ai_0, ai_1, ai_2, ai_3, ai_4, ai_5, ai_6, tgN_a, tgT_a, apd_ok, lc_ok, rg1_ok, rg2_ok, iL_snoc, iL_mapd, lc_const, rngD_len, iL_take, iL_drop, Int.toNat_natCast, dataL_nil, dataL_cons, allD.eq_1, allD.eq_2, ixN_ok, rep_l, tgS_nil, rep_none, rep_none0, List.take_left, List.drop_left, any_false, all_true, eq_self, set_iL, at_last, List.drop_succ_cons, List.drop_zero, List.take_succ_cons, List.take_zero, List.getLast?_cons_cons, List.getLast?_singleton, Int.cast_ofNat_Int, rg3_ok, rngC_len, fRv_l, b_read_part, lt1, q, e, ec1, ec2, ec3, ec4, ec5, ec6, ec7, ec8, ec9, tgS_iL, tgS_iL0, n_t]
                · have ec8 := eq_false c8
                  left
                  unfold f_read_part
                  simp (disch := (first | with_reducible assumption | omega | (simp only [iL_len, rngD_len, rngC_len, List.length_append, List.length_replicate, List.length_cons, List.length_nil, List.length_map, List.length_take, List.length_drop, List.length_range, SZ] <;> omega) | (simp only [iL_len, rngD_len, rngC_len, List.length_append, List.length_replicate, List.length_cons, List.length_nil, List.length_map, List.length_take, List.length_drop, List.length_range, SZ] at * <;> omega) | fail)) only [↓x_seq, ↓x_nil, ↓x_if, ↓x_set, ↓x_setV, ↓x_asg, ↓x_exp, ↓x_ret, ↓x_retV, ↓x_retN, ↓x_brk, ↓x_cnt, ↓x_for, ↓x_bdy, ↓x_C, ↓x_var, ↓x_dvar, ↓x_v1, ↓x_v2, ↓x_d1L, ↓x_d2L, ↓x_and, ↓x_or, ↓x_not, ↓x_ifx, ↓x_args0, ↓x_args1, ↓x_tup, ↓x_lst, ↓x_call, ↓x_vD, ↓x_dV, ↓x_slP, ↓x_opt0, ↓x_opt1, ↓x_iP, ↓x_rg1, ↓x_rg2, ↓x_rg3, ↓x_en, ↓x_zp, ↓x_rv, ↓x_ch, ↓x_lc, ↓x_aug, ↓x_app, ↓x_put, ↓x_pix, ↓x_try, ↓x_rep, ↓x_raise0, y_sq, y_sif, y_retV, y_setV, y_toV, y_ofV, y_orw, y_and, y_or, y_not, y_v1, y_v2a, y_v2b, y_finW, y_calB, sq_nx, sq_rt, sq_bk, sq_ct, sq_er, sq_no, dataL_d, allD_d, fnD, SZ, List.getElem?_cons_zero, List.getElem?_cons_succ, List.getElem?_nil, List.set_cons_zero, List.set_cons_succ, List.map_cons, List.map_nil, List.length_cons, List.length_nil, List.length_map, List.length_append, List.cons_append, List.nil_append, List.append_nil, Nat.reduceAdd, Nat.reduceSub, Nat.zero_add, Nat.add_zero, Option.map_some, Option.map_none, Option.getD_some, Option.getD_none, Bool.false_eq_true, Bool.true_eq_false, Bool.and_false, Bool.false_and, Bool.and_true, Bool.true_and, Bool.or_false, Bool.false_or, Bool.or_true, Bool.true_or, Bool.not_true, Bool.not_false, if_true, if_false, ite_true, ite_false, decide_eq_true_eq, Bool.and_eq_true, Bool.or_eq_true, Bool.not_eq_true', decide_eq_false_iff_not, decide_true, decide_false, true_and, and_true, reduceCtorEq, Int.reduceNeg, Int.reduceLT, Int.reduceLE, Int.reduceToNat, Nat.reduceLeDiff, Int.reduceAbs, Int.reduceSub, Int.reduceAdd, Int.reduceMul, Int.reduceEq, Nat.reduceMul, Nat.reduceEqDiff, Nat.reduceLT, Nat.reducePow, Int.reducePow, ↓reduceIte, ite_not, sif.eq_1, sif.eq_3, sif.eq_4, andA.eq_1, andA.eq_3, andA.eq_4, orA.eq_1, orA.eq_3, orA.eq_4, notA.eq_1, notA.eq_3, notA.eq_4, ifA.eq_1, ifA.eq_3, ifA.eq_4, orw.eq_1, orw.eq_2, orw.eq_3, v1r.eq_1, v1r.eq_2, v1a.eq_1, v1a.eq_2, v1a.eq_3, v2a.eq_1, v2a.eq_2, v2a.eq_3, v2b.eq_1, v2b.eq_2, v2b.eq_3, dlr.eq_1, dlr.eq_2, d1a.eq_1, d1a.eq_2, d1a.eq_3, d2a.eq_1, d2a.eq_2, d2a.eq_3, d2b.eq_1, d2b.eq_2, d2b.eq_3, ar1.eq_1, ar1.eq_2, ar1.eq_3, ar1.eq_4, ar2.eq_1, ar2.eq_2, ar2.eq_3, tupA.eq_1, tupA.eq_2, tupA.eq_3, lstA.eq_1, lstA.eq_2, lstA.eq_3, calA.eq_1, calA.eq_2, calA.eq_3, calB.eq_1, calB.eq_2, calB.eq_3, wOf.eq_1, varV.eq_1, varR.eq_1, varR.eq_2, varD.eq_1, setA.eq_1, setA.eq_2, setA.eq_4, setA.eq_5, setVA.eq_1, setVA.eq_2, setVA.eq_3, setVA.eq_4, asgA.eq_1, asgA.eq_2, asgA.eq_3, asgA.eq_4, asgB.eq_1, asgB.eq_2, expA.eq_1, expA.eq_2, expA.eq_3, retA.eq_1, retA.eq_2, retA.eq_3, retVA.eq_1, retVA.eq_2, retVA.eq_3, retVA.eq_4, forA.eq_1, forA.eq_2, forA.eq_3, sl0.eq_1, sl0.eq_2, sl0.eq_3, sl1.eq_1, sl1.eq_2, sl2.eq_1, sl2.eq_2, sl3.eq_1, sl3.eq_2, optA.eq_1, bdyA.eq_1, bdyA.eq_2, iPA.eq_1, iPA.eq_2, iPA.eq_3, iPA.eq_5, iPA.eq_6, rg1A.eq_3, rg1A.eq_4, rg2A.eq_3, rg2A.eq_4, rg3A.eq_3, rg3A.eq_4, enA.eq_1, enA.eq_3, enA.eq_4, zpA.eq_1, zpA.eq_3, zpA.eq_4, rvA.eq_1, rvA.eq_3, rvA.eq_4, ch1.eq_1, ch1.eq_2, ch1.eq_3, ch2.eq_1, ch2.eq_2, ch2.eq_3, chA.eq_1, chB.eq_1, chB.eq_2, chB.eq_3, chC.eq_1, chC.eq_2, lc0.eq_2, lc0.eq_3, lcA.eq_1, lcA.eq_2, augA.eq_1, augB.eq_1, augB.eq_3, augB.eq_4, appA.eq_1, appB.eq_1, appB.eq_2, appB.eq_3, putA.eq_1, putA.eq_2, putA.eq_3, putA2.eq_1, putA2.eq_2, putB.eq_1, putC.eq_1, putD.eq_1, pixA.eq_1, pixA2.eq_1, pixB.eq_1, tryA.eq_1, tryB.eq_1, tryB.eq_2, tryB.eq_3, noEr.eq_1, repA.eq_1, repA2.eq_1, repA2.eq_2, repB.eq_1, rdT.eq_1, rdT.eq_2, toV.eq_1, toV.eq_2, toV.eq_3, toV.eq_4, toV.eq_5, toV.eq_6, ofV.eq_1, ofV.eq_2, ofV.eq_4, ofV.eq_5, tOf.eq_1, tOf.eq_2, isL.eq_1, getE.eq_1, getT.eq_1, getT.eq_2, getT.eq_3, setE.eq_1, setT.eq_1, setT.eq_2, setT.eq_3, T.data.eq_1, T.data.eq_2, finW.eq_1, finW.eq_2, finW.eq_3, finW.eq_4, finW.eq_6, fin.eq_1, fin.eq_2, fin.eq_3, tgS.eq_1, wipeE.eq_1, wipeE.eq_2, fAdd.eq_1, fAdd.eq_2, fI2.eq_1, fB2.eq_1, fU.eq_1, fLen.eq_1, fLen.eq_2, fLen.eq_3, fIx.eq_1, fIx.eq_2, fIx.eq_3, fIsN.eq_1, fNotN.eq_1, isNone.eq_1, fInt.eq_1, fInt.eq_2, fInt.eq_3, fLs.eq_1, fLs.eq_2, fTp.eq_1, fTp.eq_2, fSlP.eq_3, wOf_l, wOf_o, tryA_nx, tryA_rt, tryA_bk, tryA_ct, noEr_nx, noEr_rt, noEr_bk, noEr_ct, isNone_i, isNone_b, isNone_s, isNone_l, isNone_t, iL_app, iL_len, iL_rep, iL_rev, allD_iL, dataL_iL, q_int, q_t, q_l, n_t, n_l, n_int, q_self, n_self, s_to, s_from, s_mid, sl_to, sl_from, sl_mid, add_t, add_l, cat_l, isi_t, isi_b, isi_i, isi_l, isi_s, at_0, at_1, at_2, at_3, at_4, at_5, at_6, ai_0, ai_1, ai_2, ai_3, ai_4, ai_5, ai_6, tgN_a, tgT_a, apd_ok, lc_ok, rg1_ok, rg2_ok, iL_snoc, iL_mapd, lc_const, rngD_len, iL_take, iL_drop, Int.toNat_natCast, dataL_nil, dataL_cons, allD.eq_1, allD.eq_2, ixN_ok, rep_l, tgS_nil, rep_none, rep_none0, List.take_left, List.drop_left, any_false, all_true, eq_self, set_iL, at_last, List.drop_succ_cons, List.drop_zero, List.take_succ_cons, List.take_zero, List.getLast?_cons_cons, List.getLast?_singleton, Int.cast_ofNat_Int, rg3_ok, rngC_len, fRv_l, b_read_part, lt1, q, e, ec1, ec2, ec3, ec4, ec5, ec6, ec7, ec8, tgS_iL, tgS_iL0, n_t]
              · have ec7 := eq_false c7
                left
                unfold f_read_part
                simp (disch := (first | with_reducible assumption | omega | (simp only [iL_len, rngD_len, rngC_len, List.length_append, List.length_replicate, List.length_cons, List.length_nil, List.length_map, List.length_take, List.length_drop, List.length_range, SZ] <;> omega) | (simp only [iL_len, rngD_len, rngC_len, List.length_append, List.length_replicate, List.length_cons, List.length_nil, List.length_map, List.length_take, List.length_drop, List.length_range, SZ] at * <;> omega) | fail)) only [↓x_seq, ↓x_nil, ↓x_if, ↓x_set, ↓x_setV, ↓x_asg, ↓x_exp, ↓x_ret, ↓x_retV, ↓x_retN, ↓x_brk, ↓x_cnt, ↓x_for, ↓x_bdy, ↓x_C, ↓x_var, ↓x_dvar, ↓x_v1, ↓x_v2, ↓x_d1L, ↓x_d2L, ↓x_and, ↓x_or, ↓x_not, ↓x_ifx, ↓x_args0, ↓x_args1, ↓x_tup, ↓x_lst, ↓x_call, ↓x_vD, ↓x_dV, ↓x_slP, ↓x_opt0, ↓x_opt1, ↓x_iP, ↓x_rg1, ↓x_rg2, ↓x_rg3, ↓x_en, ↓x_zp, ↓x_rv, ↓x_ch, ↓x_lc, ↓x_aug, ↓x_app, ↓x_put, ↓x_pix, ↓x_try, ↓x_rep, ↓x_raise0, y_sq, y_sif, y_retV, y_setV, y_toV, y_ofV, y_orw, y_and, y_or, y_not, y_v1, y_v2a, y_v2b, y_finW, y_calB, sq_nx, sq_rt, sq_bk, sq_ct, sq_er, sq_no, dataL_d, allD_d, fnD, SZ, List.getElem?_cons_zero, List.getElem?_cons_succ, List.getElem?_nil, List.set_cons_zero, List.set_cons_succ, List.map_cons, List.map_nil, List.length_cons, List.length_nil, List.length_map, List.length_append, List.cons_append, List.nil_append, List.append_nil, Nat.reduceAdd, Nat.reduceSub, Nat.zero_add, Nat.add_zero, Option.map_some, Option.map_none, Option.getD_some, Option.getD_none, Bool.false_eq_true, Bool.true_eq_false, Bool.and_false, Bool.false_and, Bool.and_true, Bool.true_and, Bool.or_false, Bool.false_or, Bool.or_true, Bool.true_or, Bool.not_true, Bool.not_false, if_true, if_false, ite_true, ite_false, decide_eq_true_eq, Bool.and_eq_true, Bool.or_eq_true, Bool.not_eq_true', decide_eq_false_iff_not, decide_true, decide_false, true_and, and_true, reduceCtorEq, Int.reduceNeg, Int.reduceLT, Int.reduceLE, Int.reduceToNat, Nat.reduceLeDiff, Int.reduceAbs, Int.reduceSub, Int.reduceAdd, Int.reduceMul, Int.reduceEq, Nat.reduceMul, Nat.reduceEqDiff, Nat.reduceLT, Nat.reducePow, Int.reducePow, ↓reduceIte, ite_not, sif.eq_1, sif.eq_3, sif.eq_4, andA.eq_1, andA.eq_3, andA.eq_4, orA.eq_1, orA.eq_3, orA.eq_4, notA.eq_1, notA.eq_3, notA.eq_4, ifA.eq_1, ifA.eq_3, ifA.eq_4, orw.eq_1, orw.eq_2, orw.eq_3, v1r.eq_1, v1r.eq_2, v1a.eq_1, v1a.eq_2, v1a.eq_3, v2a.eq_1, v2a.eq_2, v2a.eq_3, v2b.eq_1, v2b.eq_2, v2b.eq_3, dlr.eq_1, dlr.eq_2, d1a.eq_1, d1a.eq_2, d1a.eq_3, d2a.eq_1, d2a.eq_2, d2a.eq_3, d2b.eq_1, d2b.eq_2, d2b.eq_3, ar1.eq_1, ar1.eq_2, ar1.eq_3, ar1.eq_4, ar2.eq_1, ar2.eq_2, ar2.eq_3, tupA.eq_1, tupA.eq_2, tupA.eq_3, lstA.eq_1, lstA.eq_2, lstA.eq_3, calA.eq_1, calA.eq_2, calA.eq_3, calB.eq_1, calB.eq_2, calB.eq_3, wOf.eq_1, varV.eq_1, varR.eq_1, varR.eq_2, varD.eq_1, setA.eq_1, setA.eq_2, setA.eq_4, setA.eq_5, setVA.eq_1, setVA.eq_2, setVA.eq_3, setVA.eq_4, asgA.eq_1, asgA.eq_2, asgA.eq_3, asgA.eq_4, asgB.eq_1, asgB.eq_2, expA.eq_1, expA.eq_2, expA.eq_3, retA.eq_1, retA.eq_2, retA.eq_3, retVA.eq_1, retVA.eq_2, retVA.eq_3, retVA.eq_4, forA.eq_1, forA.eq_2, forA.eq_3, sl0.eq_1, sl0.eq_2, sl0.eq_3, sl1.eq_1, sl1.eq_2, sl2.eq_1, sl2.eq_2, sl3.eq_1, sl3.eq_2, optA.eq_1, bdyA.eq_1, bdyA.eq_2, iPA.eq_1, iPA.eq_2, iPA.eq_3, iPA.eq_5, iPA.eq_6, rg1A.eq_3, rg1A.eq_4, rg2A.eq_3, rg2A.eq_4, rg3A.eq_3, rg3A.eq_4, enA.eq_1, enA.eq_3, enA.eq_4, zpA.eq_1, zpA.eq_3, zpA.eq_4, rvA.eq_1, rvA.eq_3, rvA.eq_4, ch1.eq_1, ch1.eq_2, ch1.eq_3, ch2.eq_1, ch2.eq_2, ch2.eq_3, chA.eq_1, chB.eq_1, chB.eq_2, chB.eq_3, chC.eq_1, chC.eq_2, lc0.eq_2, lc0.eq_3, lcA.eq_1, lcA.eq_2, augA.eq_1, augB.eq_1, augB.eq_3, augB.eq_4, appA.eq_1, appB.eq_1, appB.eq_2, appB.eq_3, putA.eq_1, putA.eq_2, putA.eq_3, putA2.eq_1, putA2.eq_2, putB.eq_1, putC.eq_1, putD.eq_1, pixA.eq_1, pixA2.eq_1, pixB.eq_1, tryA.eq_1, tryB.eq_1, tryB.eq_2, tryB.eq_3, noEr.eq_1, repA.eq_1, repA2.eq_1, repA2.eq_2, repB.eq_1, rdT.eq_1, rdT.eq_2, toV.eq_1, toV.eq_2, toV.eq_3, toV.eq_4, toV.eq_5, toV.eq_6, ofV.eq_1, ofV.eq_2, ofV.eq_4, ofV.eq_5, tOf.eq_1, tOf.eq_2, isL.eq_1, getE.eq_1, getT.eq_1, getT.eq_2, getT.eq_3, setE.eq_1, setT.eq_1, setT.eq_2, setT.eq_3, T.data.eq_1, T.data.eq_2, finW.eq_1, finW.eq_2, finW.eq_3, finW.eq_4, finW.eq_6, fin.eq_1, fin.eq_2, fin.eq_3, tgS.eq_1, wipeE.eq_1, wipeE.eq_2, fAdd.eq_1, fAdd.eq_2, fI2.eq_1, fB2.eq_1, fU.eq_1, fLen.eq_1, fLen.eq_2, fLen.eq_3, fIx.eq_1, fIx.eq_2, fIx.eq_3, fIsN.eq_1, fNotN.eq_1, isNone.eq_1, fInt.eq_1, fInt.eq_2, fInt.eq_3, fLs.eq_1, fLs.eq_2, fTp.eq_1, fTp.eq_2, fSlP.eq_3, wOf_l, wOf_o, tryA_nx, tryA_rt, tryA_bk, tryA_ct, noEr_nx, noEr_rt, noEr_bk, noEr_ct, isNone_i, isNone_b, isNone_s, isNone_l, isNone_t, iL_app, iL_len, iL_rep, iL_rev, allD_iL, dataL_iL, q_int, q_t, q_l, n_t, n_l, n_int, q_self, n_self, s_to, s_from, s_mid, sl_to, sl_from, sl_mid, add_t, add_l, cat_l, isi_t, isi_b, isi_i, isi_l, isi_s, at_0, at_1, at_2, at_3, at_4, at_5, at_6, ai_0, ai_1, ai_2, ai_3, ai_4, ai_5, ai_6, tgN_a, tgT_a, apd_ok, lc_ok, rg1_ok, rg2_ok, iL_snoc, iL_mapd, lc_const, rngD_len, iL_take, iL_drop, Int.toNat_natCast, dataL_nil, dataL_cons, allD.eq_1, allD.eq_2, ixN_ok, rep_l, tgS_nil, rep_none, rep_none0, List.take_left, List.drop_left, any_false, all_true, eq_self, set_iL, at_last, List.drop_succ_cons, List.drop_zero, List.take_succ_cons, List.take_zero, List.getLast?_cons_cons, List.getLast?_singleton, Int.cast_ofNat_Int, rg3_ok, rngC_len, fRv_l, b_read_part, lt1, q, e, ec1, ec2, ec3, ec4, ec5, ec6, ec7, tgS_iL, tgS_iL0, n_t]
            · have ec6 := eq_false c6
              left
              unfold f_read_part
              simp (disch := (first | with_reducible assumption | omega | (simp only [iL_len, rngD_len, rngC_len, List.length_append, List.length_replicate, List.length_cons, List.length_nil, List.length_map, List.length_take, List.length_drop, List.length_range, SZ] <;> omega) | (simp only [iL_len, rngD_len, rngC_len, List.length_append, List.length_replicate, List.length_cons, List.length_nil, List.length_map, List.length_take, List.length_drop, List.length_range, SZ] at * <;> omega) | fail)) only [↓x_seq, ↓x_nil, ↓x_if, ↓x_set, ↓x_setV, ↓x_asg, ↓x_exp, ↓x_ret, ↓x_retV, ↓x_retN, ↓x_brk, ↓x_cnt, ↓x_for, ↓x_bdy, ↓x_C, ↓x_var, ↓x_dvar, ↓x_v1, ↓x_v2, ↓x_d1L, ↓x_d2L, ↓x_and, ↓x_or, ↓x_not, ↓x_ifx, ↓x_args0, ↓x_args1, ↓x_tup, ↓x_lst, ↓x_call, ↓x_vD, ↓x_dV, ↓x_slP, ↓x_opt0, ↓x_opt1, ↓x_iP, ↓x_rg1, ↓x_rg2, ↓x_rg3, ↓x_en, ↓x_zp, ↓x_rv, ↓x_ch, ↓x_lc, ↓x_aug, ↓x_app, ↓x_put, ↓x_pix, ↓x_try, ↓x_rep, ↓x_raise0, y_sq, y_sif, y_retV, y_setV, y_toV, y_ofV, y_orw, y_and, y_or, y_not, y_v1, y_v2a, y_v2b, y_finW, y_calB, sq_nx, sq_rt, sq_bk, sq_ct, sq_er, sq_no, dataL_d, allD_d, fnD, SZ, List.getElem?_cons_zero, List.getElem?_cons_succ, List.getElem?_nil, List.set_cons_zero, List.set_cons_succ, List.map_cons, List.map_nil, List.length_cons, List.length_nil, List.length_map, List.length_append, List.cons_append, List.nil_append, List.append_nil, Nat.reduceAdd, Nat.reduceSub, Nat.zero_add, Nat.add_zero, Option.map_some, Option.map_none, Option.getD_some, Option.getD_none, Bool.false_eq_true, Bool.true_eq_false, Bool.and_false, Bool.false_and, Bool.and_true, Bool.true_and, Bool.or_false, Bool.false_or, Bool.or_true, Bool.true_or, Bool.not_true, Bool.not_false, if_true, if_false, ite_true, ite_false, decide_eq_true_eq, Bool.and_eq_true, Bool.or_eq_true, Bool.not_eq_true', decide_eq_false_iff_not, decide_true, decide_false, true_and, and_true, reduceCtorEq, Int.reduceNeg, Int.reduceLT, Int.reduceLE, Int.reduceToNat, Nat.reduceLeDiff, Int.reduceAbs, Int.reduceSub, Int.reduceAdd, Int.reduceMul, Int.reduceEq, Nat.reduceMul, Nat.reduceEqDiff, Nat.reduceLT, Nat.reducePow, Int.reducePow, ↓reduceIte, ite_not, sif.eq_1, sif.eq_3, sif.eq_4, andA.eq_1, andA.eq_3, andA.eq_4, orA.eq_1, orA.eq_3, orA.eq_4, notA.eq_1, notA.eq_3, notA.eq_4, ifA.eq_1, ifA.eq_3, ifA.eq_4, orw.eq_1, orw.eq_2, orw.eq_3, v1r.eq_1, v1r.eq_2, v1a.eq_1, v1a.eq_2, v1a.eq_3, v2a.eq_1, v2a.eq_2, v2a.eq_3, v2b.eq_1, v2b.eq_2, v2b.eq_3, dlr.eq_1, dlr.eq_2, d1a.eq_1, d1a.eq_2, d1a.eq_3, d2a.eq_1, d2a.eq_2, d2a.eq_3, d2b.eq_1, d2b.eq_2, d2b.eq_3, ar1.eq_1, ar1.eq_2, ar1.eq_3, ar1.eq_4, ar2.eq_1, ar2.eq_2, ar2.eq_3, tupA.eq_1, tupA.eq_2, tupA.eq_3, lstA.eq_1, lstA.eq_2, lstA.eq_3, calA.eq_1, calA.eq_2, calA.eq_3, calB.eq_1, calB.eq_2, calB.eq_3, wOf.eq_1, varV.eq_1, varR.eq_1, varR.eq_2, varD.eq_1, setA.eq_1, setA.eq_2, setA.eq_4, setA.eq_5, setVA.eq_1, setVA.eq_2, setVA.eq_3, setVA.eq_4, asgA.eq_1, asgA.eq_2, asgA.eq_3, asgA.eq_4, asgB.eq_1, asgB.eq_2, expA.eq_1, expA.eq_2, expA.eq_3, retA.eq_1, retA.eq_2, retA.eq_3, retVA.eq_1, retVA.eq_2, retVA.eq_3, retVA.eq_4, forA.eq_1, forA.eq_2, forA.eq_3, sl0.eq_1, sl0.eq_2, sl0.eq_3, sl1.eq_1, sl1.eq_2, sl2.eq_1, sl2.eq_2, sl3.eq_1, sl3.eq_2, optA.eq_1, bdyA.eq_1, bdyA.eq_2, iPA.eq_1, iPA.eq_2, iPA.eq_3, iPA.eq_5, iPA.eq_6, rg1A.eq_3, rg1A.eq_4, rg2A.eq_3, rg2A.eq_4, rg3A.eq_3, rg3A.eq_4, enA.eq_1, enA.eq_3, enA.eq_4, zpA.eq_1, zpA.eq_3, zpA.eq_4, rvA.eq_1, rvA.eq_3, rvA.eq_4, ch1.eq_1, ch1.eq_2, ch1.eq_3, ch2.eq_1, ch2.eq_2, ch2.eq_3, chA.eq_1, chB.eq_1, chB.eq_2, chB.eq_3, chC.eq_1, chC.eq_2, lc0.eq_2, lc0.eq_3, lcA.eq_1, lcA.eq_2, augA.eq_1, augB.eq_1, augB.eq_3, augB.eq_4, appA.eq_1, appB.eq_1, appB.eq_2, appB.eq_3, putA.eq_1, putA.eq_2, putA.eq_3, putA2.eq_1, putA2.eq_2, putB.eq_1, putC.eq_1, putD.eq_1, pixA.eq_1, pixA2.eq_1, pixB.eq_1, tryA.eq_1, tryB.eq_1, tryB.eq_2, tryB.eq_3, noEr.eq_1, repA.eq_1, repA2.eq_1, repA2.eq_2, repB.eq_1, rdT.eq_1, rdT.eq_2, toV.eq_1, toV.eq_2, toV.eq_3, toV.eq_4, toV.eq_5, toV.eq_6, ofV.eq_1, ofV.eq_2, ofV.eq_4, ofV.eq_5, tOf.eq_1, tOf.eq_2, isL.eq_1, getE.eq_1, getT.eq_1, getT.eq_2, getT.eq_3, setE.eq_1, setT.eq_1, setT.eq_2, setT.eq_3, T.data.eq_1, T.data.eq_2, finW.eq_1, finW.eq_2, finW.eq_3, finW.eq_4, finW.eq_6, fin.eq_1, fin.eq_2, fin.eq_3, tgS.eq_1, wipeE.eq_1, wipeE.eq_2, fAdd.eq_1, fAdd.eq_2, fI2.eq_1, fB2.eq_1, fU.eq_1, fLen.eq_1, fLen.eq_2, fLen.eq_3, fIx.eq_1, fIx.eq_2, fIx.eq_3, fIsN.eq_1, fNotN.eq_1, isNone.eq_1, fInt.eq_1, fInt.eq_2, fInt.eq_3, fLs.eq_1, fLs.eq_2, fTp.eq_1, fTp.eq_2, fSlP.eq_3, wOf_l, wOf_o, tryA_nx, tryA_rt, tryA_bk, tryA_ct, noEr_nx, noEr_rt, noEr_bk, noEr_ct, isNone_i, isNone_b, isNone_s, isNone_l, isNone_t, iL_app, iL_len, iL_rep, iL_rev, allD_iL, dataL_iL, q_int, q_t, q_l, n_t, n_l, n_int, q_self, n_self, s_to, s_from, s_mid, sl_to, sl_from, sl_mid, add_t, add_l, cat_l, isi_t, isi_b, isi_i, isi_l, isi_s, at_0, at_1, at_2, at_3, at_4, at_5, at_6, ai_0, ai_1, ai_2, ai_3, ai_4, ai_5, ai_6, tgN_a, tgT_a, apd_ok, lc_ok, rg1_ok, rg2_ok, iL_snoc, iL_mapd, lc_const, rngD_len, iL_take, iL_drop, Int.toNat_natCast, dataL_nil, dataL_cons, allD.eq_1, allD.eq_2, ixN_ok, rep_l, tgS_nil, rep_none, rep_none0, List.take_left, List.drop_left, any_false, all_true, eq_self, set_iL, at_last, List.drop_succ_cons, List.drop_zero, List.take_succ_cons, List.take_zero, List.getLast?_cons_cons, List.getLast?_singleton, Int.cast_ofNat_Int, rg3_ok, rngC_len, fRv_l, b_read_part, lt1, q, e, ec1, ec2, ec3, ec4, ec5, ec6, tgS_iL, tgS_iL0, n_t]
          · have ec5 := eq_false c5
            left
            unfold f_read_part
            simp (disch := (first | with_reducible assumption | omega | (simp only [iL_len, rngD_len, rngC_len, List.length_append, List.length_replicate, List.length_cons, List.length_nil, List.length_map, List.length_take, List.length_drop, List.length_range, SZ] <;> omega) | (simp only [iL_len, rngD_len, rngC_len, List.length_append, List.length_replicate, List.length_cons, List.length_nil, List.length_map, List.length_take, List.length_drop, List.length_range, SZ] at * <;> omega) | fail)) only [↓x_seq, ↓x_nil, ↓x_if, ↓x_set, ↓x_setV, ↓x_asg, ↓x_exp, ↓x_ret, ↓x_retV, ↓x_retN, ↓x_brk, ↓x_cnt, ↓x_for, ↓x_bdy, ↓x_C, ↓x_var, ↓x_dvar, ↓x_v1, ↓x_v2, ↓x_d1L, ↓x_d2L, ↓x_and, ↓x_or, ↓x_not, ↓x_ifx, ↓x_args0, ↓x_args1, ↓x_tup, ↓x_lst, ↓x_call, ↓x_vD, ↓x_dV, ↓x_slP, ↓x_opt0, ↓x_opt1, ↓x_iP, ↓x_rg1, ↓x_rg2, ↓x_rg3, ↓x_en, ↓x_zp, ↓x_rv, ↓x_ch, ↓x_lc, ↓x_aug, ↓x_app, ↓x_put, ↓x_pix, ↓x_try, ↓x_rep, ↓x_raise0, y_sq, y_sif, y_retV, y_setV, y_toV, y_ofV, y_orw, y_and, y_or, y_not, y_v1, y_v2a, y_v2b, y_finW, y_calB, sq_nx, sq_rt, sq_bk, sq_ct, sq_er, sq_no, dataL_d, allD_d, fnD, SZ, List.getElem?_cons_zero, List.getElem?_cons_succ, List.getElem?_nil, List.set_cons_zero, List.set_cons_succ, List.map_cons, List.map_nil, List.length_cons, List.length_nil, List.length_map, List.length_append, List.cons_append, List.nil_append, List.append_nil, Nat.reduceAdd, Nat.reduceSub, Nat.zero_add, Nat.add_zero, Option.map_some, Option.map_none, Option.getD_some, Option.getD_none, Bool.false_eq_true, Bool.true_eq_false, Bool.and_false, Bool.false_and, Bool.and_true, Bool.true_and, Bool.or_false, Bool.false_or, Bool.or_true, Bool.true_or, Bool.not_true, Bool.not_false, if_true, if_false, ite_true, ite_false, decide_eq_true_eq, Bool.and_eq_true, Bool.or_eq_true, Bool.not_eq_true', decide_eq_false_iff_not, decide_true, decide_false, true_and, and_true, reduceCtorEq, Int.reduceNeg, Int.reduceLT, Int.reduceLE, Int.reduceToNat, Nat.reduceLeDiff, Int.reduceAbs, Int.reduceSub, Int.reduceAdd, Int.reduceMul, Int.reduceEq, Nat.reduceMul, Nat.reduceEqDiff, Nat.reduceLT, Nat.reducePow, Int.reducePow, ↓reduceIte, ite_not, sif.eq_1, sif.eq_3, sif.eq_4, andA.eq_1, andA.eq_3, andA.eq_4, orA.eq_1, orA.eq_3, orA.eq_4, notA.eq_1, notA.eq_3, notA.eq_4, ifA.eq_1, ifA.eq_3, ifA.eq_4, orw.eq_1, orw.eq_2, orw.eq_3, v1r.eq_1, v1r.eq_2, v1a.eq_1, v1a.eq_2, v1a.eq_3, v2a.eq_1, v2a.eq_2, v2a.eq_3, v2b.eq_1, v2b.eq_2, v2b.eq_3, dlr.eq_1, dlr.eq_2, d1a.eq_1, d1a.eq_2, d1a.eq_3, d2a.eq_1, d2a.eq_2, d2a.eq_3, d2b.eq_1, d2b.eq_2, d2b.eq_3, ar1.eq_1, ar1.eq_2, ar1.eq_3, ar1.eq_4, ar2.eq_1, ar2.eq_2, ar2.eq_3, tupA.eq_1, tupA.eq_2, tupA.eq_3, lstA.eq_1, lstA.eq_2, lstA.eq_3, calA.eq_1, calA.eq_2, calA.eq_3, calB.eq_1, calB.eq_2, calB.eq_3, wOf.eq_1, varV.eq_1, varR.eq_1, varR.eq_2, varD.eq_1, setA.eq_1, setA.eq_2, setA.eq_4, setA.eq_5, setVA.eq_1, setVA.eq_2, setVA.eq_3, setVA.eq_4, asgA.eq_1, asgA.eq_2, asgA.eq_3, asgA.eq_4, asgB.eq_1, asgB.eq_2, expA.eq_1, expA.eq_2, expA.eq_3, retA.eq_1, retA.eq_2, retA.eq_3, retVA.eq_1, retVA.eq_2, retVA.eq_3, retVA.eq_4, forA.eq_1, forA.eq_2, forA.eq_3, sl0.eq_1, sl0.eq_2, sl0.eq_3, sl1.eq_1, sl1.eq_2, sl2.eq_1, sl2.eq_2, sl3.eq_1, sl3.eq_2, optA.eq_1, bdyA.eq_1, bdyA.eq_2, iPA.eq_1, iPA.eq_2, iPA.eq_3, iPA.eq_5, iPA.eq_6, rg1A.eq_3, rg1A.eq_4, rg2A.eq_3, rg2A.eq_4, rg3A.eq_3, rg3A.eq_4, enA.eq_1, enA.eq_3, enA.eq_4, zpA.eq_1, zpA.eq_3, zpA.eq_4, rvA.eq_1, rvA.eq_3, rvA.eq_4, ch1.eq_1, ch1.eq_2, ch1.eq_3, ch2.eq_1, ch2.eq_2, ch2.eq_3, chA.eq_1, chB.eq_1, chB.eq_2, chB.eq_3, chC.eq_1, chC.eq_2, lc0.eq_2, lc0.eq_3, lcA.eq_1, lcA.eq_2, augA.eq_1, augB.eq_1, augB.eq_3, augB.eq_4, appA.eq_1, appB.eq_1, appB.eq_2, appB.eq_3, putA.eq_1, putA.eq_2, putA.eq_3, putA2.eq_1, putA2.eq_2, putB.eq_1, putC.eq_1, putD.eq_1, pixA.eq_1, pixA2.eq_1, pixB.eq_1, tryA.eq_1, tryB.eq_1, tryB.eq_2, tryB.eq_3, noEr.eq_1, repA.eq_1, repA2.eq_1, repA2.eq_2, repB.eq_1, rdT.eq_1, rdT.eq_2, toV.eq_1, toV.eq_2, toV.eq_3, toV.eq_4, toV.eq_5, toV.eq_6, ofV.eq_1, ofV.eq_2, ofV.eq_4, ofV.eq_5, tOf.eq_1, tOf.eq_2, isL.eq_1, getE.eq_1, getT.eq_1, getT.eq_2, getT.eq_3, setE.eq_1, setT.eq_1, setT.eq_2, setT.eq_3, T.data.eq_1, T.data.eq_2, finW.eq_1, finW.eq_2, finW.eq_3, finW.eq_4, finW.eq_6, fin.eq_1, fin.eq_2, fin.eq_3, tgS.eq_1, wipeE.eq_1, wipeE.eq_2, fAdd.eq_1, fAdd.eq_2, fI2.eq_1, fB2.eq_1, fU.eq_1, fLen.eq_1, fLen.eq_2, fLen.eq_3, fIx.eq_1, fIx.eq_2, fIx.eq_3, fIsN.eq_1, fNotN.eq_1, isNone.eq_1, fInt.eq_1, fInt.eq_2, fInt.eq_3, fLs.eq_1, fLs.eq_2, fTp.eq_1, fTp.eq_2, fSlP.eq_3, wOf_l, wOf_o, tryA_nx, tryA_rt, tryA_bk, tryA_ct, noEr_nx, noEr_rt, noEr_bk, noEr_ct, isNone_i, isNone_b, isNone_s, isNone_l, isNone_t, iL_app, iL_len, iL_rep, iL_rev, allD_iL, dataL_iL, q_int, q_t, q_l, n_t, n_l, n_int, q_self, n_self, s_to, s_from, s_mid, sl_to, sl_from, sl_mid, add_t, add_l, cat_l, isi_t, isi_b, isi_i, isi_l, isi_s, at_0, at_1, at_2, at_3, at_4, at_5, at_6, ai_0, ai_1, ai_2, ai_3, ai_4, ai_5, ai_6, tgN_a, tgT_a, apd_ok, lc_ok, rg1_ok, rg2_ok, iL_snoc, iL_mapd, lc_const, rngD_len, iL_take, iL_drop, Int.toNat_natCast, dataL_nil, dataL_cons, allD.eq_1, allD.eq_2, ixN_ok, rep_l, tgS_nil, rep_none, rep_none0, List.take_left, List.drop_left, any_false, all_true, eq_self, set_iL, at_last, List.drop_succ_cons, List.drop_zero, List.take_succ_cons, List.take_zero, List.getLast?_cons_cons, List.getLast?_singleton, Int.cast_ofNat_Int, rg3_ok, rngC_len, fRv_l, b_read_part, lt1, q, e, ec1, ec2, ec3, ec4, ec5, tgS_iL, tgS_iL0, n_t]
        · have ec4 := eq_false c4
          left
          unfold f_read_part
          simp (disch := (first | with_reducible assumption | omega | (simp only [iL_len, rngD_len, rngC_len, List.length_append, List.length_replicate, List.length_cons, List.length_nil, List.length_map, List.length_take, List.length_drop, List.length_range, SZ] <;> omega) | (simp only [iL_len, rngD_len, rngC_len, List.length_append, List.length_replicate, List.length_cons, List.length_nil, List.length_map, List.length_take, List.length_drop, List.length_range, SZ] at * <;> omega) | fail)) only [↓x_seq, ↓x_nil, ↓x_if, ↓x_set, ↓x_setV, ↓x_asg, ↓x_exp, ↓x_ret, ↓x_retV, ↓x_retN, ↓x_brk, ↓x_cnt, ↓x_for, ↓x_bdy, ↓x_C, ↓x_var, ↓x_dvar, ↓x_v1, ↓x_v2, ↓x_d1L, ↓x_d2L, ↓x_and, ↓x_or, ↓x_not, ↓x_ifx, ↓x_args0, ↓x_args1, ↓x_tup, ↓x_lst, ↓x_call, ↓x_vD, ↓x_dV, ↓x_slP, ↓x_opt0, ↓x_opt1, ↓x_iP, ↓x_rg1, ↓x_rg2, ↓x_rg3, ↓x_en, ↓x_zp, ↓x_rv, ↓x_ch, ↓x_lc, ↓x_aug, ↓x_app, ↓x_put, ↓x_pix, ↓x_try, ↓x_rep, ↓x_raise0, y_sq, y_sif, y_retV, y_setV, y_toV, y_ofV, y_orw, y_and, y_or, y_not, y_v1, y_v2a, y_v2b, y_finW, y_calB, sq_nx, sq_rt, sq_bk, sq_ct, sq_er, sq_no, dataL_d, allD_d, fnD, SZ, List.getElem?_cons_zero, List.getElem?_cons_succ, List.getElem?_nil, List.set_cons_zero, List.set_cons_succ, List.map_cons, List.map_nil, List.length_cons, List.length_nil, List.length_map, List.length_append, List.cons_append, List.nil_append, List.append_nil, Nat.reduceAdd, Nat.reduceSub, Nat.zero_add, Nat.add_zero, Option.map_some, Option.map_none, Option.getD_some, Option.getD_none, Bool.false_eq_true, Bool.true_eq_false, Bool.and_false, Bool.false_and, Bool.and_true, Bool.true_and, Bool.or_false, Bool.false_or, Bool.or_true, Bool.true_or, Bool.not_true, Bool.not_false, if_true, if_false, ite_true, ite_false, decide_eq_true_eq, Bool.and_eq_true, Bool.or_eq_true, Bool.not_eq_true', decide_eq_false_iff_not, decide_true, decide_false, true_and, and_true, reduceCtorEq, Int.reduceNeg, Int.reduceLT, Int.reduceLE, Int.reduceToNat, Nat.reduceLeDiff, Int.reduceAbs, Int.reduceSub, Int.reduceAdd, Int.reduceMul, Int.reduceEq, Nat.reduceMul, Nat.reduceEqDiff, Nat.reduceLT, Nat.reducePow, Int.reducePow, ↓reduceIte, ite_not, sif.eq_1, sif.eq_3, sif.eq_4, andA.eq_1, andA.eq_3, andA.eq_4, orA.eq_1, orA.eq_3, orA.eq_4, notA.eq_1, notA.eq_3, notA.eq_4, ifA.eq_1, ifA.eq_3, ifA.eq_4, orw.eq_1, orw.eq_2, orw.eq_3, v1r.eq_1, v1r.eq_2, v1a.eq_1, v1a.eq_2, v1a.eq_3, v2a.eq_1, v2a.eq_2, v2a.eq_3, v2b.eq_1, v2b.eq_2, v2b.eq_3, dlr.eq_1, dlr.eq_2, d1a.eq_1, d1a.eq_2, d1a.eq_3, d2a.eq_1, d2a.eq_2, d2a.eq_3, d2b.eq_1, d2b.eq_2, d2b.eq_3, ar1.eq_1, ar1.eq_2, ar1.eq_3, ar1.eq_4, ar2.eq_1, ar2.eq_2, ar2.eq_3, tupA.eq_1, tupA.eq_2, tupA.eq_3, lstA.eq_1, lstA.eq_2, lstA.eq_3, calA.eq_1, calA.eq_2, calA.eq_3, calB.eq_1, calB.eq_2, calB.eq_3, wOf.eq_1, varV.eq_1, varR.eq_1, varR.eq_2, varD.eq_1, setA.eq_1, setA.eq_2, setA.eq_4, setA.eq_5, setVA.eq_1, setVA.eq_2, setVA.eq_3, setVA.eq_4, asgA.eq_1, asgA.eq_2, asgA.eq_3, asgA.eq_4, asgB.eq_1, asgB.eq_2, expA.eq_1, expA.eq_2, expA.eq_3, retA.eq_1, retA.eq_2, retA.eq_3, retVA.eq_1, retVA.eq_2, retVA.eq_3, retVA.eq_4, forA.eq_1, forA.eq_2, forA.eq_3, sl0.eq_1, sl0.eq_2, sl0.eq_3, sl1.eq_1, sl1.eq_2, sl2.eq_1, sl2.eq_2, sl3.eq_1, sl3.eq_2, optA.eq_1, bdyA.eq_1, bdyA.eq_2, iPA.eq_1, iPA.eq_2, iPA.eq_3, iPA.eq_5, iPA.eq_6, rg1A.eq_3, rg1A.eq_4, rg2A.eq_3, rg2A.eq_4, rg3A.eq_3, rg3A.eq_4, enA.eq_1, enA.eq_3, enA.eq_4, zpA.eq_1, zpA.eq_3, zpA.eq_4, rvA.eq_1, rvA.eq_3, rvA.eq_4, ch1.eq_1, ch1.eq_2, ch1.eq_3, ch2.eq_1, ch2.eq_2, ch2.eq_3, chA.eq_1, chB.eq_1, chB.eq_2, chB.eq_3, chC.eq_1, chC.eq_2, lc0.eq_2, lc0.eq_3, lcA.eq_1, lcA.eq_2, augA.eq_1, augB.eq_1, augB.eq_3, augB.eq_4, appA.eq_1, appB.eq_1, appB.eq_2, appB.eq_3, putA.eq_1, putA.eq_2, putA.eq_3, putA2.eq_1, putA2.eq_2, putB.eq_1, putC.eq_1, putD.eq_1, pixA.eq_1, pixA2.eq_1, pixB.eq_1, tryA.eq_1, tryB.eq_1, tryB.eq_2, tryB.eq_3, noEr.eq_1, repA.eq_1, repA2.eq_1, repA2.eq_2, repB.eq_1, rdT.eq_1, rdT.eq_2, toV.eq_1, toV.eq_2, toV.eq_3, toV.eq_4, toV.eq_5, toV.eq_6, ofV.eq_1, ofV.eq_2, ofV.eq_4, ofV.eq_5, tOf.eq_1, tOf.eq_2, isL.eq_1, getE.eq_1, getT.eq_1, getT.eq_2, getT.eq_3, setE.eq_1, setT.eq_1, setT.eq_2, setT.eq_3, T.data.eq_1, T.data.eq_2, finW.eq_1, finW.eq_2, finW.eq_3, finW.eq_4, finW.eq_6, fin.eq_1, fin.eq_2, fin.eq_3, tgS.eq_1, wipeE.eq_1, wipeE.eq_2, fAdd.eq_1, fAdd.eq_2, fI2.eq_1, fB2.eq_1, fU.eq_1, fLen.eq_1, fLen.eq_2, fLen.eq_3, fIx.eq_1, fIx.eq_2, fIx.eq_3, fIsN.eq_1, fNotN.eq_1, isNone.eq_1, fInt.eq_1, fInt.eq_2, fInt.eq_3, fLs.eq_1, fLs.eq_2, fTp.eq_1, fTp.eq_2, fSlP.eq_3, wOf_l, wOf_o, tryA_nx, tryA_rt, tryA_bk, tryA_ct, noEr_nx, noEr_rt, noEr_bk, noEr_ct, isNone_i, isNone_b, isNone_s, isNone_l, isNone_t, iL_app, iL_len, iL_rep, iL_rev, allD_iL, dataL_iL, q_int, q_t, q_l, n_t, n_l, n_int, q_self, n_self, s_to, s_from, s_mid, sl_to, sl_from, sl_mid, add_t, add_l, cat_l, isi_t, isi_b, isi_i, isi_l, isi_s, at_0, at_1, at_2, at_3, at_4, at_5, at_6, ai_0, ai_1, ai_2, ai_3, ai_4, ai_5, ai_6, tgN_a, tgT_a, apd_ok, lc_ok, rg1_ok, rg2_ok, iL_snoc, iL_mapd, lc_const, rngD_len, iL_take, iL_drop, Int.toNat_natCast, dataL_nil, dataL_cons, allD.eq_1, allD.eq_2, ixN_ok, rep_l, tgS_nil, rep_none, rep_none0, List.take_left, List.drop_left, any_false, all_true, eq_self, set_iL, at_last, List.drop_succ_cons, List.drop_zero, List.take_succ_cons, List.take_zero, List.getLast?_cons_cons, List.getLast?_singleton, Int.cast_ofNat_Int, rg3_ok, rngC_len, fRv_l, b_read_part, lt1, q, e, ec1, ec2, ec3, ec4, tgS_iL, tgS_iL0, n_t]
      · have ec3 := eq_false c3
        left
        unfold f_read_part
        simp (disch := (first | with_reducible assumption | omega | (simp only [iL_len, rngD_len, rngC_len, List.length_append, List.length_replicate, List.length_cons, List.length_nil, List.length_map, List.length_take, List.length_drop, List.length_range, SZ] <;> omega) | (simp only [iL_len, rngD_len, rngC_len, List.length_append, List.length_replicate, List.length_cons, List.length_nil, List.length_map, List.length_take, List.length_drop, List.length_range, SZ] at * <;> omega) | fail)) only [↓x_seq, ↓x_nil, ↓x_if, ↓x_set, ↓x_setV, ↓x_asg, ↓x_exp, ↓x_ret, ↓x_retV, ↓x_retN, ↓x_brk, ↓x_cnt, ↓x_for, ↓x_bdy, ↓x_C, ↓x_var, ↓x_dvar, ↓x_v1, ↓x_v2, ↓x_d1L, ↓x_d2L, ↓x_and, ↓x_or, ↓x_not, ↓x_ifx, ↓x_args0, ↓x_args1, ↓x_tup, ↓x_lst, ↓x_call, ↓x_vD, ↓x_dV, ↓x_slP, ↓x_opt0, ↓x_opt1, ↓x_iP, ↓x_rg1, ↓x_rg2, ↓x_rg3, ↓x_en, ↓x_zp, ↓x_rv, ↓x_ch, ↓x_lc, ↓x_aug, ↓x_app, ↓x_put, ↓x_pix, ↓x_try, ↓x_rep, ↓x_raise0, y_sq, y_sif, y_retV, y_setV, y_toV, y_ofV, y_orw, y_and, y_or, y_not, y_v1, y_v2a, y_v2b, y_finW, y_calB, sq_nx, sq_rt, sq_bk, sq_ct, sq_er, sq_no, dataL_d, allD_d, fnD, SZ, List.getElem?_cons_zero, List.getElem?_cons_succ, List.getElem?_nil, List.set_cons_zero, List.set_cons_succ, List.map_cons, List.map_nil, List.length_cons, List.length_nil, List.length_map, List.length_append, List.cons_append, List.nil_append, List.append_nil, Nat.reduceAdd, Nat.reduceSub, Nat.zero_add, Nat.add_zero, Option.map_some, Option.map_none, Option.getD_some, Option.getD_none, Bool.false_eq_true, Bool.true_eq_false, Bool.and_false, Bool.false_and, Bool.and_true, Bool.true_and, Bool.or_false, Bool.false_or, Bool.or_true, Bool.true_or, Bool.not_true, Bool.not_false, if_true, if_false, ite_true, ite_false, decide_eq_true_eq, Bool.and_eq_true, Bool.or_eq_true, Bool.not_eq_true', decide_eq_false_iff_not, decide_true, decide_false, true_and, and_true, reduceCtorEq, Int.reduceNeg, Int.reduceLT, Int.reduceLE, Int.reduceToNat, Nat.reduceLeDiff, Int.reduceAbs, Int.reduceSub, Int.reduceAdd, Int.reduceMul, Int.reduceEq, Nat.reduceMul, Nat.reduceEqDiff, Nat.reduceLT, Nat.reducePow, Int.reducePow, ↓reduceIte, ite_not, sif.eq_1, sif.eq_3, sif.eq_4, andA.eq_1, andA.eq_3, andA.eq_4, orA.eq_1, orA.eq_3, orA.eq_4, notA.eq_1, notA.eq_3, notA.eq_4, ifA.eq_1, ifA.eq_3, ifA.eq_4, orw.eq_1, orw.eq_2, orw.eq_3, v1r.eq_1, v1r.eq_2, v1a.eq_1, v1a.eq_2, v1a.eq_3, v2a.eq_1, v2a.eq_2, v2a.eq_3, v2b.eq_1, v2b.eq_2, v2b.eq_3, dlr.eq_1, dlr.eq_2, d1a.eq_1, d1a.eq_2, d1a.eq_3, d2a.eq_1, d2a.eq_2, d2a.eq_3, d2b.eq_1, d2b.eq_2, d2b.eq_3, ar1.eq_1, ar1.eq_2, ar1.eq_3, ar1.eq_4, ar2.eq_1, ar2.eq_2, ar2.eq_3, tupA.eq_1, tupA.eq_2, tupA.eq_3, lstA.eq_1, lstA.eq_2, lstA.eq_3, calA.eq_1, calA.eq_2, calA.eq_3, calB.eq_1, calB.eq_2, calB.eq_3, wOf.eq_1, varV.eq_1, varR.eq_1, varR.eq_2, varD.eq_1, setA.eq_1, setA.eq_2, setA.eq_4, setA.eq_5, setVA.eq_1, setVA.eq_2, setVA.eq_3, setVA.eq_4, asgA.eq_1, asgA.eq_2, asgA.eq_3, asgA.eq_4, asgB.eq_1, asgB.eq_2, expA.eq_1, expA.eq_2, expA.eq_3, retA.eq_1, retA.eq_2, retA.eq_3, retVA.eq_1, retVA.eq_2, retVA.eq_3, retVA.eq_4, forA.eq_1, forA.eq_2, forA.eq_3, sl0.eq_1, sl0.eq_2, sl0.eq_3, sl1.eq_1, sl1.eq_2, sl2.eq_1, sl2.eq_2, sl3.eq_1, sl3.eq_2, optA.eq_1, bdyA.eq_1, bdyA.eq_2, iPA.eq_1, iPA.eq_2, iPA.eq_3, iPA.eq_5, iPA.eq_6, rg1A.eq_3, rg1A.eq_4, rg2A.eq_3, rg2A.eq_4, rg3A.eq_3, rg3A.eq_4, enA.eq_1, enA.eq_3, enA.eq_4, zpA.eq_1, zpA.eq_3, zpA.eq_4, rvA.eq_1, rvA.eq_3, rvA.eq_4, ch1.eq_1, ch1.eq_2, ch1.eq_3, ch2.eq_1, ch2.eq_2, ch2.eq_3, chA.eq_1, chB.eq_1, chB.eq_2, chB.eq_3, chC.eq_1, chC.eq_2, lc0.eq_2, lc0.eq_3, lcA.eq_1, lcA.eq_2, augA.eq_1, augB.eq_1, augB.eq_3, augB.eq_4, appA.eq_1, appB.eq_1, appB.eq_2, appB.eq_3, putA.eq_1, putA.eq_2, putA.eq_3, putA2.eq_1, putA2.eq_2, putB.eq_1, putC.eq_1, putD.eq_1, pixA.eq_1, pixA2.eq_1, pixB.eq_1, tryA.eq_1, tryB.eq_1, tryB.eq_2, tryB.eq_3, noEr.eq_1, repA.eq_1, repA2.eq_1, repA2.eq_2, repB.eq_1, rdT.eq_1, rdT.eq_2, toV.eq_1, toV.eq_2, toV.eq_3, toV.eq_4, toV.eq_5, toV.eq_6, ofV.eq_1, ofV.eq_2, ofV.eq_4, ofV.eq_5, tOf.eq_1, tOf.eq_2, isL.eq_1, getE.eq_1, getT.eq_1, getT.eq_2, getT.eq_3, setE.eq_1, setT.eq_1, setT.eq_2, setT.eq_3, T.data.eq_1, T.data.eq_2, finW.eq_1, finW.eq_2, finW.eq_3, finW.eq_4, finW.eq_6, fin.eq_1, fin.eq_2, fin.eq_3, tgS.eq_1, wipeE.eq_1, wipeE.eq_2, fAdd.eq_1, fAdd.eq_2, fI2.eq_1, fB2.eq_1, fU.eq_1, fLen.eq_1, fLen.eq_2, fLen.eq_3, fIx.eq_1, fIx.eq_2, fIx.eq_3, fIsN.eq_1, fNotN.eq_1, isNone.eq_1, fInt.eq_1, fInt.eq_2, fInt.eq_3, fLs.eq_1, fLs.eq_2, fTp.eq_1, fTp.eq_2, fSlP.eq_3, wOf_l, wOf_o, tryA_nx, tryA_rt, tryA_bk, tryA_ct, noEr_nx, noEr_rt, noEr_bk, noEr_ct, isNone_i, isNone_b, isNone_s, isNone_l, isNone_t, iL_app, iL_len, iL_rep, iL_rev, allD_iL, dataL_iL, q_int, q_t, q_l, n_t, n_l, n_int, q_self, n_self, s_to, s_from, s_mid, sl_to, sl_from, sl_mid, add_t, add_l, cat_l, isi_t, isi_b, isi_i, isi_l, isi_s, at_0, at_1, at_2, at_3, at_4, at_5, at_6, ai_0, ai_1, ai_2, ai_3, ai_4, ai_5, ai_6, tgN_a, tgT_a, apd_ok, lc_ok, rg1_ok, rg2_ok, iL_snoc, iL_mapd, lc_const, rngD_len, iL_take, iL_drop, Int.toNat_natCast, dataL_nil, dataL_cons, allD.eq_1, allD.eq_2, ixN_ok, rep_l, tgS_nil, rep_none, rep_none0, List.take_left, List.drop_left, any_false, all_true, eq_self, set_iL, at_last, List.drop_succ_cons, List.drop_zero, List.take_succ_cons, List.take_zero, List.getLast?_cons_cons, List.getLast?_singleton, Int.cast_ofNat_Int, rg3_ok, rngC_len, fRv_l, b_read_part, lt1, q, e, ec1, ec2, ec3, tgS_iL, tgS_iL0, n_t]
    · have ec2 := eq_false c2
      left
      unfold f_read_part
      simp (disch := (first | with_reducible assumption | omega | (simp only [iL_len, rngD_len, rngC_len, List.length_append, List.length_replicate, List.length_cons, List.length_nil, List.length_map, List.length_take, List.length_drop, List.length_range, SZ] <;> omega) | (simp only [iL_len, rngD_len, rngC_len, List.length_append, List.length_replicate, List.length_cons, List.length_nil, List.length_map, List.length_take, List.length_drop, List.length_range, SZ] at * <;> omega) | fail)) only [↓x_seq, ↓x_nil, ↓x_if, ↓x_set, ↓x_setV, ↓x_asg, ↓x_exp, ↓x_ret, ↓x_retV, ↓x_retN, ↓x_brk, ↓x_cnt, ↓x_for, ↓x_bdy, ↓x_C, ↓x_var, ↓x_dvar, ↓x_v1, ↓x_v2, ↓x_d1L, ↓x_d2L, ↓x_and, ↓x_or, ↓x_not, ↓x_ifx, ↓x_args0, ↓x_args1, ↓x_tup, ↓x_lst, ↓x_call, ↓x_vD, ↓x_dV, ↓x_slP, ↓x_opt0, ↓x_opt1, ↓x_iP, ↓x_rg1, ↓x_rg2, ↓x_rg3, ↓x_en, ↓x_zp, ↓x_rv, ↓x_ch, ↓x_lc, ↓x_aug, ↓x_app, ↓x_put, ↓x_pix, ↓x_try, ↓x_rep, ↓x_raise0, y_sq, y_sif, y_retV, y_setV, y_toV, y_ofV, y_orw, y_and, y_or, y_not, y_v1, y_v2a, y_v2b, y_finW, y_calB, sq_nx, sq_rt, sq_bk, sq_ct, sq_er, sq_no, dataL_d, allD_d, fnD, SZ, List.getElem?_cons_zero, List.getElem?_cons_succ, List.getElem?_nil, List.set_cons_zero, List.set_cons_succ, List.map_cons, List.map_nil, List.length_cons, List.length_nil, List.length_map, List.length_append, List.cons_append, List.nil_append, List.append_nil, Nat.reduceAdd, Nat.reduceSub, Nat.zero_add, Nat.add_zero, Option.map_some, Option.map_none, Option.getD_some, Option.getD_none, Bool.false_eq_true, Bool.true_eq_false, Bool.and_false, Bool.false_and, Bool.and_true, Bool.true_and, Bool.or_false, Bool.false_or, Bool.or_true, Bool.true_or, Bool.not_true, Bool.not_false, if_true, if_false, ite_true, ite_false, decide_eq_true_eq, Bool.and_eq_true, Bool.or_eq_true, Bool.not_eq_true', decide_eq_false_iff_not, decide_true, decide_false, true_and, and_true, reduceCtorEq, Int.reduceNeg, Int.reduceLT, Int.reduceLE, Int.reduceToNat, Nat.reduceLeDiff, Int.reduceAbs, Int.reduceSub, Int.reduceAdd, Int.reduceMul, Int.reduceEq, Nat.reduceMul, Nat.reduceEqDiff, Nat.reduceLT, Nat.reducePow, Int.reducePow, ↓reduceIte, ite_not, sif.eq_1, sif.eq_3, sif.eq_4, andA.eq_1, andA.eq_3, andA.eq_4, orA.eq_1, orA.eq_3, orA.eq_4, notA.eq_1, notA.eq_3, notA.eq_4, ifA.eq_1, ifA.eq_3, ifA.eq_4, orw.eq_1, orw.eq_2, orw.eq_3, v1r.eq_1, v1r.eq_2, v1a.eq_1, v1a.eq_2, v1a.eq_3, v2a.eq_1, v2a.eq_2, v2a.eq_3, v2b.eq_1, v2b.eq_2, v2b.eq_3, dlr.eq_1, dlr.eq_2, d1a.eq_1, d1a.eq_2, d1a.eq_3, d2a.eq_1, d2a.eq_2, d2a.eq_3, d2b.eq_1, d2b.eq_2, d2b.eq_3, ar1.eq_1, ar1.eq_2, ar1.eq_3, ar1.eq_4, ar2.eq_1, ar2.eq_2, ar2.eq_3, tupA.eq_1, tupA.eq_2, tupA.eq_3, lstA.eq_1, lstA.eq_2, lstA.eq_3, calA.eq_1, calA.eq_2, calA.eq_3, calB.eq_1, calB.eq_2, calB.eq_3, wOf.eq_1, varV.eq_1, varR.eq_1, varR.eq_2, varD.eq_1, setA.eq_1, setA.eq_2, setA.eq_4, setA.eq_5, setVA.eq_1, setVA.eq_2, setVA.eq_3, setVA.eq_4, asgA.eq_1, asgA.eq_2, asgA.eq_3, asgA.eq_4, asgB.eq_1, asgB.eq_2, expA.eq_1, expA.eq_2, expA.eq_3, retA.eq_1, retA.eq_2, retA.eq_3, retVA.eq_1, retVA.eq_2, retVA.eq_3, retVA.eq_4, forA.eq_1, forA.eq_2, forA.eq_3, sl0.eq_1, sl0.eq_2, sl0.eq_3, sl1.eq_1, sl1.eq_2, sl2.eq_1, sl2.eq_2, sl3.eq_1, sl3.eq_2, optA.eq_1, bdyA.eq_1, bdyA.eq_2, iPA.eq_1, iPA.eq_2, iPA.eq_3, iPA.eq_5, iPA.eq_6, rg1A.eq_3, rg1A.eq_4, rg2A.eq_3, rg2A.eq_4, rg3A.eq_3, rg3A.eq_4, enA.eq_1, enA.eq_3, enA.eq_4, zpA.eq_1, zpA.eq_3, zpA.eq_4, rvA.eq_1, rvA.eq_3, rvA.eq_4, ch1.eq_1, ch1.eq_2, ch1.eq_3, ch2.eq_1, ch2.eq_2, ch2.eq_3, chA.eq_1, chB.eq_1, chB.eq_2, chB.eq_3, chC.eq_1, chC.eq_2, lc0.eq_2, lc0.eq_3, lcA.eq_1, lcA.eq_2, augA.eq_1, augB.eq_1, augB.eq_3, augB.eq_4, appA.eq_1, appB.eq_1, appB.eq_2, appB.eq_3, putA.eq_1, putA.eq_2, putA.eq_3, putA2.eq_1, putA2.eq_2, putB.eq_1, putC.eq_1, putD.eq_1, pixA.eq_1, pixA2.eq_1, pixB.eq_1, tryA.eq_1, tryB.eq_1, tryB.eq_2, tryB.eq_3, noEr.eq_1, repA.eq_1, repA2.eq_1, repA2.eq_2, repB.eq_1, rdT.eq_1, rdT.eq_2, toV.eq_1, toV.eq_2, toV.eq_3, toV.eq_4, toV.eq_5, toV.eq_6, ofV.eq_1, ofV.eq_2, ofV.eq_4, ofV.eq_5, tOf.eq_1, tOf.eq_2, isL.eq_1, getE.eq_1, getT.eq_1, getT.eq_2, getT.eq_3, setE.eq_1, setT.eq_1, setT.eq_2, setT.eq_3, T.data.eq_1, T.data.eq_2, finW.eq_1, finW.eq_2, finW.eq_3, finW.eq_4, finW.eq_6, fin.eq_1, fin.eq_2, fin.eq_3, tgS.eq_1, wipeE.eq_1, wipeE.eq_2, fAdd.eq_1, fAdd.eq_2, fI2.eq_1, fB2.eq_1, fU.eq_1, fLen.eq_1, fLen.eq_2, fLen.eq_3, fIx.eq_1, fIx.eq_2, fIx.eq_3, fIsN.eq_1, fNotN.eq_1, isNone.eq_1, fInt.eq_1, fInt.eq_2, fInt.eq_3, fLs.eq_1, fLs.eq_2, fTp.eq_1, fTp.eq_2, fSlP.eq_3, wOf_l, wOf_o, tryA_nx, tryA_rt, tryA_bk, tryA_ct, noEr_nx, noEr_rt, noEr_bk, noEr_ct, isNone_i, isNone_b, isNone_s, isNone_l, isNone_t, iL_app, iL_len, iL_rep, iL_rev, allD_iL, dataL_iL, q_int, q_t, q_l, n_t, n_l, n_int, q_self, n_self, s_to, s_from, s_mid, sl_to, sl_from, sl_mid, add_t, add_l, cat_l, isi_t, isi_b, isi_i, isi_l, isi_s, at_0, at_1, at_2, at_3, at_4, at_5, at_6, ai_0, ai_1, ai_2, ai_3, ai_4, ai_5, ai_6, tgN_a, tgT_a, apd_ok, lc_ok, rg1_ok, rg2_ok, iL_snoc, iL_mapd, lc_const, rngD_len, iL_take, iL_drop, Int.toNat_natCast, dataL_nil, dataL_cons, allD.eq_1, allD.eq_2, ixN_ok, rep_l, tgS_nil, rep_none, rep_none0, List.take_left, List.drop_left, any_false, all_true, eq_self, set_iL, at_last, List.drop_succ_cons, List.drop_zero, List.take_succ_cons, List.take_zero, List.getLast?_cons_cons, List.getLast?_singleton, Int.cast_ofNat_Int, rg3_ok, rngC_len, fRv_l, b_read_part, lt1, q, e, ec1, ec2, tgS_iL, tgS_iL0, n_t]
  · have ec1 := eq_false c1
    left
    unfold f_read_part
    simp (disch := (first | with_reducible assumption | omega | (simp only [iL_len, rngD_len, rngC_len, List.length_append, List.length_replicate, List.length_cons, List.length_nil, List.length_map, List.length_take, List.length_drop, List.length_range, SZ] <;> omega) | (simp only [iL_len, rngD_len, rngC_len, List.length_append, List.length_replicate, List.length_cons, List.length_nil, List.length_map, List.length_take, List.length_drop, List.length_range, SZ] at * <;> omega) | fail)) only [↓x_seq, ↓x_nil, ↓x_if, ↓x_set, ↓x_setV, ↓x_asg, ↓x_exp, ↓x_ret, ↓x_retV, ↓x_retN, ↓x_brk, ↓x_cnt, ↓x_for, ↓x_bdy, ↓x_C, ↓x_var, ↓x_dvar, ↓x_v1, ↓x_v2, ↓x_d1L, ↓x_d2L, ↓x_and, ↓x_or, ↓x_not, ↓x_ifx, ↓x_args0, ↓x_args1, ↓x_tup, ↓x_lst, ↓x_call, ↓x_vD, ↓x_dV, ↓x_slP, ↓x_opt0, ↓x_opt1, ↓x_iP, ↓x_rg1, ↓x_rg2, ↓x_rg3, ↓x_en, ↓x_zp, ↓x_rv, ↓x_ch, ↓x_lc, ↓x_aug, ↓x_app, ↓x_put, ↓x_pix, ↓x_try, ↓x_rep, ↓x_raise0, y_sq, y_sif, y_retV, y_setV, y_toV, y_ofV, y_orw, y_and, y_or, y_not, y_v1, y_v2a, y_v2b, y_finW, y_calB, sq_nx, sq_rt, sq_bk, sq_ct, sq_er, sq_no, dataL_d, allD_d, fnD, SZ, List.getElem?_cons_zero, List.getElem?_cons_succ, List.getElem?_nil, List.set_cons_zero, List.set_cons_succ, List.map_cons, List.map_nil, List.length_cons, List.length_nil, List.length_map, List.length_append, List.cons_append, List.nil_append, List.append_nil, Nat.reduceAdd, Nat.reduceSub, Nat.zero_add, Nat.add_zero, Option.map_some, Option.map_none, Option.getD_some, Option.getD_none, Bool.false_eq_true, Bool.true_eq_false, Bool.and_false, Bool.false_and, Bool.and_true, Bool.true_and, Bool.or_false, Bool.false_or, Bool.or_true, Bool.true_or, Bool.not_true, Bool.not_false, if_true, if_false, ite_true, ite_false, decide_eq_true_eq, Bool.and_eq_true, Bool.or_eq_true, Bool.not_eq_true', decide_eq_false_iff_not, decide_true, decide_false, true_and, and_true, reduceCtorEq, Int.reduceNeg, Int.reduceLT, Int.reduceLE, Int.reduceToNat, Nat.reduceLeDiff, Int.reduceAbs, Int.reduceSub, Int.reduceAdd, Int.reduceMul, Int.reduceEq, Nat.reduceMul, Nat.reduceEqDiff, Nat.reduceLT, Nat.reducePow, Int.reducePow, ↓reduceIte, ite_not, sif.eq_1, sif.eq_3, sif.eq_4, andA.eq_1, andA.eq_3, andA.eq_4, orA.eq_1, orA.eq_3, orA.eq_4, notA.eq_1, notA.eq_3, notA.eq_4, ifA.eq_1, ifA.eq_3, ifA.eq_4, orw.eq_1, orw.eq_2, orw.eq_3, v1r.eq_1, v1r.eq_2, v1a.eq_1, v1a.eq_2, v1a.eq_3, v2a.eq_1, v2a.eq_2, v2a.eq_3, v2b.eq_1, v2b.eq_2, v2b.eq_3, dlr.eq_1, dlr.eq_2, d1a.eq_1, d1a.eq_2, d1a.eq_3, d2a.eq_1, d2a.eq_2, d2a.eq_3, d2b.eq_1, d2b.eq_2, d2b.eq_3, ar1.eq_1, ar1.eq_2, ar1.eq_3, ar1.eq_4, ar2.eq_1, ar2.eq_2, ar2.eq_3, tupA.eq_1, tupA.eq_2, tupA.eq_3, lstA.eq_1, lstA.eq_2, lstA.eq_3, calA.eq_1, calA.eq_2, calA.eq_3, calB.eq_1, calB.eq_2, calB.eq_3, wOf.eq_1, varV.eq_1, varR.eq_1, varR.eq_2, varD.eq_1, setA.eq_1, setA.eq_2, setA.eq_4, setA.eq_5, setVA.eq_1, setVA.eq_2, setVA.eq_3, setVA.eq_4, asgA.eq_1, asgA.eq_2, asgA.eq_3, asgA.eq_4, asgB.eq_1, asgB.eq_2, expA.eq_1, expA.eq_2, expA.eq_3, retA.eq_1, retA.eq_2, retA.eq_3, retVA.eq_1, retVA.eq_2, retVA.eq_3, retVA.eq_4, forA.eq_1, forA.eq_2, forA.eq_3, sl0.eq_1, sl0.eq_2, sl0.eq_3, sl1.eq_1, sl1.eq_2, sl2.eq_1, sl2.eq_2, sl3.eq_1, sl3.eq_2, optA.eq_1, bdyA.eq_1, bdyA.eq_2, iPA.eq_1, iPA.eq_2, iPA.eq_3, iPA.eq_5, iPA.eq_6, rg1A.eq_3, rg1A.eq_4, rg2A.eq_3, rg2A.eq_4, rg3A.eq_3, rg3A.eq_4, enA.eq_1, enA.eq_3, enA.eq_4, zpA.eq_1, zpA.eq_3, zpA.eq_4, rvA.eq_1, rvA.eq_3, rvA.eq_4, ch1.eq_1, ch1.eq_2, ch1.eq_3, ch2.eq_1, ch2.eq_2, ch2.eq_3, chA.eq_1, chB.eq_1, chB.eq_2, chB.eq_3, chC.eq_1, chC.eq_2, lc0.eq_2, lc0.eq_3, lcA.eq_1, lcA.eq_2, augA.eq_1, augB.eq_1, augB.eq_3, augB.eq_4, appA.eq_1, appB.eq_1, appB.eq_2, appB.eq_3, putA.eq_1, putA.eq_2, putA.eq_3, putA2.eq_1, putA2.eq_2, putB.eq_1, putC.eq_1, putD.eq_1, pixA.eq_1, pixA2.eq_1, pixB.eq_1, tryA.eq_1, tryB.eq_1, tryB.eq_2, tryB.eq_3, noEr.eq_1, repA.eq_1, repA2.eq_1, repA2.eq_2, repB.eq_1, rdT.eq_1, rdT.eq_2, toV.eq_1, toV.eq_2, toV.eq_3, toV.eq_4, toV.eq_5, toV.eq_6, ofV.eq_1, ofV.eq_2, ofV.eq_4, ofV.eq_5, tOf.eq_1, tOf.eq_2, isL.eq_1, getE.eq_1, getT.eq_1, getT.eq_2, getT.eq_3, setE.eq_1, setT.eq_1, setT.eq_2, setT.eq_3, T.data.eq_1, T.data.eq_2, finW.eq_1, finW.eq_2, finW.eq_3, finW.eq_4, finW.eq_6, fin.eq_1, fin.eq_2, fin.eq_3, tgS.eq_1, wipeE.eq_1, wipeE.eq_2, fAdd.eq_1, fAdd.eq_2, fI2.eq_1, fB2.eq_1, fU.eq_1, fLen.eq_1, fLen.eq_2, fLen.eq_3, fIx.eq_1, fIx.eq_2, fIx.eq_3, fIsN.eq_1, fNotN.eq_1, isNone.eq_1, fInt.eq_1, fInt.eq_2, fInt.eq_3, fLs.eq_1, fLs.eq_2, fTp.eq_1, fTp.eq_2, fSlP.eq_3, wOf_l, wOf_o, tryA_nx, tryA_rt, tryA_bk, tryA_ct, noEr_nx, noEr_rt, noEr_bk, noEr_ct, isNone_i, isNone_b, isNone_s, isNone_l, isNone_t, iL_app, iL_len, iL_rep, iL_rev, allD_iL, dataL_iL, q_int, q_t, q_l, n_t, n_l, n_int, q_self, n_self, s_to, s_from, s_mid, sl_to, sl_from, sl_mid, add_t, add_l, cat_l, isi_t, isi_b, isi_i, isi_l, isi_s, at_0, at_1, at_2, at_3, at_4, at_5, at_6, ai_0, ai_1, ai_2, ai_3, ai_4, ai_5, ai_6, tgN_a, tgT_a, apd_ok, lc_ok, rg1_ok, rg2_ok, iL_snoc, iL_mapd, lc_const, rngD_len, iL_take, iL_drop, Int.toNat_natCast, dataL_nil, dataL_cons, allD.eq_1, allD.eq_2, ixN_ok, rep_l, tgS_nil, rep_none, rep_none0, List.take_left, List.drop_left, any_false, all_true, eq_self, set_iL, at_last, List.drop_succ_cons, List.drop_zero, List.take_succ_cons, List.take_zero, List.getLast?_cons_cons, List.getLast?_singleton, Int.cast_ofNat_Int, rg3_ok, rngC_len, fRv_l, b_read_part, lt1, q, e, ec1, tgS_iL, tgS_iL0, n_t]
theorem read_any (O : List Int) (hl : O.length < 50000) : RdOk O := by
  match O, hl with
  | [], _ => exact read_short [] (by simp) (by simp)
  | a :: r, hl =>
    by_cases h : a = 0
    · subst h
      exact read_zero r (by simp at hl; omega)
    · by_cases h8 : (a :: r).length < 8
      · exact read_short (a :: r) h8 (by simp [h])
      · match r, hl, h8 with
        | b1 :: b2 :: b3 :: b4 :: b5 :: b6 :: b7 :: P, hl, _ => exact read_long a b1 b2 b3 b4 b5 b6 b7 P (by simp at hl; omega) h
        | [], _, h8 | [_], _, h8 | [_, _], _, h8 | [_, _, _], _, h8 | [_, _, _, _], _, h8 | [_, _, _, _, _], _, h8 | [_, _, _, _, _, _], _, h8 => exact absurd (by simp) h8
/-- a part of its own -/
theorem read_good1 (mark number : Int) (row : List Int) (hr : ∀ x ∈ row, 0 ≤ x ∧ x < 128) (h1 : row.length ≤ 160) : f_read_part [.d (.tuple (iL (partI mark 1 number row)))] = .rt (.d (.tuple [.int (-1), .int 1, .int 1, .list (iL row)])) [.d (.tuple (iL (partI mark 1 number row)))] := by
  have q : ([(0 : Int)] = [0]) = True := eq_true rfl
  have h3 := packed_good row 0 (by omega) (by omega) hr
  simp only [Int.cast_ofNat_Int] at h3
  have ha := alone_to 0 row.length (CH (PP row 0)) h1 h3
  unfold partI
  rw [if_pos rfl]
  unfold f_read_part
  simp (disch := (first | with_reducible assumption | omega | (simp only [iL_len, rngD_len, rngC_len, List.length_append, List.length_replicate, List.length_cons, List.length_nil, List.length_map, List.length_take, List.length_drop, List.length_range, SZ] <;> omega) | (simp only [iL_len, rngD_len, rngC_len, List.length_append, List.length_replicate, List.length_cons, List.length_nil, List.length_map, List.length_take, List.length_drop, List.length_range, SZ] at * <;> omega) | fail)) only [↓x_seq, ↓x_nil, ↓x_if, ↓x_set, ↓x_setV, ↓x_asg, ↓x_exp, ↓x_ret, ↓x_retV, ↓x_retN, ↓x_brk, ↓x_cnt, ↓x_for, ↓x_bdy, ↓x_C, ↓x_var, ↓x_dvar, ↓x_v1, ↓x_v2, ↓x_d1L, ↓x_d2L, ↓x_and, ↓x_or, ↓x_not, ↓x_ifx, ↓x_args0, ↓x_args1, ↓x_tup, ↓x_lst, ↓x_call, ↓x_vD, ↓x_dV, ↓x_slP, ↓x_opt0, ↓x_opt1, ↓x_iP, ↓x_rg1, ↓x_rg2, ↓x_rg3, ↓x_en, ↓x_zp, ↓x_rv, ↓x_ch, ↓x_lc, ↓x_aug, ↓x_app, ↓x_put, ↓x_pix, ↓x_try, ↓x_rep, ↓x_raise0, y_sq, y_sif, y_retV, y_setV, y_toV, y_ofV, y_orw, y_and, y_or, y_not, y_v1, y_v2a, y_v2b, y_finW, y_calB, sq_nx, sq_rt, sq_bk, sq_ct, sq_er, sq_no, dataL_d, allD_d, fnD, SZ, List.getElem?_cons_zero, List.getElem?_cons_succ, List.getElem?_nil, List.set_cons_zero, List.set_cons_succ, List.map_cons, List.map_nil, List.length_cons, List.length_nil, List.length_map, List.length_append, List.cons_append, List.nil_append, List.append_nil, Nat.reduceAdd, Nat.reduceSub, Nat.zero_add, Nat.add_zero, Option.map_some, Option.map_none, Option.getD_some, Option.getD_none, Bool.false_eq_true, Bool.true_eq_false, Bool.and_false, Bool.false_and, Bool.and_true, Bool.true_and, Bool.or_false, Bool.false_or, Bool.or_true, Bool.true_or, Bool.not_true, Bool.not_false, if_true, if_false, ite_true, ite_false, decide_eq_true_eq, Bool.and_eq_true, Bool.or_eq_true, Bool.not_eq_true', decide_eq_false_iff_not, decide_true, decide_false, true_and, and_true, reduceCtorEq, Int.reduceNeg, Int.reduceLT, Int.reduceLE, Int.reduceToNat, Nat.reduceLeDiff, Int.reduceAbs, Int.reduceSub, Int.reduceAdd, Int.reduceMul, Int.reduceEq, Nat.reduceMul, Nat.reduceEqDiff, Nat.reduceLT, Nat.reducePow, Int.reducePow, ↓reduceIte, ite_not, sif.eq_1, sif.eq_3, sif.eq_4, andA.eq_1, andA.eq_3, andA.eq_4, orA.eq_1, orA.eq_3, orA.eq_4, notA.eq_1, notA.eq_3, notA.eq_4, ifA.eq_1, ifA.eq_3, ifA.eq_4, orw.eq_1, orw.eq_2, orw.eq_3, v1r.eq_1, v1r.eq_2, v1a.eq_1, v1a.eq_2, v1a.eq_3, v2a.eq_1, v2a.eq_2, v2a.eq_3, v2b.eq_1, v2b.eq_2, v2b.eq_3, dlr.eq_1, dlr.eq_2, d1a.eq_1, d1a.eq_2, d1a.eq_3, d2a.eq_1, d2a.eq_2, d2a.eq_3, d2b.eq_1, d2b.eq_2, d2b.eq_3, ar1.eq_1, ar1.eq_2, ar1.eq_3, ar1.eq_4, ar2.eq_1, ar2.eq_2, ar2.eq_3, tupA.eq_1, tupA.eq_2, tupA.eq_3, lstA.eq_1, lstA.eq_2, lstA.eq_3, calA.eq_1, calA.eq_2, calA.eq_3, calB.eq_1, calB.eq_2, calB.eq_3, wOf.eq_1, varV.eq_1, varR.eq_1, varR.eq_2, varD.eq_1, setA.eq_1, setA.eq_2, setA.eq_4, setA.eq_5, setVA.eq_1, setVA.eq_2, setVA.eq_3, setVA.eq_4, asgA.eq_1, asgA.eq_2, asgA.eq_3, asgA.eq_4, asgB.eq_1, asgB.eq_2, expA.eq_1, expA.eq_2, expA.eq_3, retA.eq_1, retA.eq_2, retA.eq_3, retVA.eq_1, retVA.eq_2, retVA.eq_3, retVA.eq_4, forA.eq_1, forA.eq_2, forA.eq_3, sl0.eq_1, sl0.eq_2, sl0.eq_3, sl1.eq_1, sl1.eq_2, sl2.eq_1, sl2.eq_2, sl3.eq_1, sl3.eq_2, optA.eq_1, bdyA.eq_1, bdyA.eq_2, iPA.eq_1, iPA.eq_2, iPA.eq_3, iPA.eq_5, iPA.eq_6, rg1A.eq_3, rg1A.eq_4, rg2A.eq_3, rg2A.eq_4, rg3A.eq_3, rg3A.eq_4, enA.eq_1, enA.eq_3, enA.eq_4, zpA.eq_1, zpA.eq_3, zpA.eq_4, rvA.eq_1, rvA.eq_3, rvA.eq_4, ch1.eq_1, ch1.eq_2, ch1.eq_3, ch2.eq_1, ch2.eq_2, ch2.eq_3, chA.eq_1, chB.eq_1, chB.eq_2, chB.eq_3, chC.eq_1, chC.eq_2, lc0.eq_2, lc0.eq_3, lcA.eq_1, lcA.eq_2, augA.eq_1, augB.eq_1, augB.eq_3, augB.eq_4, appA.eq_1, appB.eq_1, appB.eq_2, appB.eq_3, putA.eq_1, putA.eq_2, putA.eq_3, putA2.eq_1, putA2.eq_2, putB.eq_1, putC.eq_1, putD.eq_1, pixA.eq_1, pixA2.eq_1, pixB.eq_1, tryA.eq_1, tryB.eq_1, tryB.eq_2, tryB.eq_3, noEr.eq_1, repA.eq_1, repA2.eq_1, repA2.eq_2, repB.eq_1, rdT.eq_1, rdT.eq_2, toV.eq_1, toV.eq_2, toV.eq_3, toV.eq_4, toV.eq_5, toV.eq_6, ofV.eq_1, ofV.eq_2, ofV.eq_4, ofV.eq_5, tOf.eq_1, tOf.eq_2, isL.eq_1, getE.eq_1, getT.eq_1, getT.eq_2, getT.eq_3, setE.eq_1, setT.eq_1, setT.eq_2, setT.eq_3, T.data.eq_1, T.data.eq_2, finW.eq_1, finW.eq_2, finW.eq_3, finW.eq_4, finW.eq_6, fin.eq_1, fin.eq_2, fin.eq_3, tgS.eq_1, wipeE.eq_1, wipeE.eq_2, fAdd.eq_1, fAdd.eq_2, fI2.eq_1, fB2.eq_1, fU.eq_1, fLen.eq_1, fLen.eq_2, fLen.eq_3, fIx.eq_1, fIx.eq_2, fIx.eq_3, fIsN.eq_1, fNotN.eq_1, isNone.eq_1, fInt.eq_1, fInt.eq_2, fInt.eq_3, fLs.eq_1, fLs.eq_2, fTp.eq_1, fTp.eq_2, fSlP.eq_3, wOf_l, wOf_o, tryA_nx, tryA_rt, tryA_bk, tryA_ct, noEr_nx, noEr_rt, noEr_bk, noEr_ct, isNone_i, isNone_b, isNone_s, isNone_l, isNone_t, iL_app, iL_len, iL_rep, iL_rev, allD_iL, dataL_iL, q_int, q_t, q_l, n_t, n_l, n_int, q_self, n_self, s_to, s_from, s_mid, sl_to, sl_from, sl_mid, add_t, add_l, cat_l, isi_t, isi_b, isi_i, isi_l, isi_s, at_0, at_1, at_2, at_3, at_4, at_5, at_6, ai_0, ai_1, ai_2, ai_3, ai_4, ai_5, ai_6, tgN_a, tgT_a, apd_ok, lc_ok, rg1_ok, rg2_ok, iL_snoc, iL_mapd, lc_const, rngD_len, iL_take, iL_drop, Int.toNat_natCast, dataL_nil, dataL_cons, allD.eq_1, allD.eq_2, ixN_ok, rep_l, tgS_nil, rep_none, rep_none0, List.take_left, List.drop_left, any_false, all_true, eq_self, set_iL, at_last, List.drop_succ_cons, List.drop_zero, List.take_succ_cons, List.take_zero, List.getLast?_cons_cons, List.getLast?_singleton, Int.cast_ofNat_Int, rg3_ok, rngC_len, fRv_l, b_read_part, lt1, q, ha]
theorem read_bad1 (mark number : Int) (row : List Int) (h1 : 160 < row.length) : f_read_part [.d (.tuple (iL (partI mark 1 number row)))] = .er "BadText" none [.d (.tuple (iL (partI mark 1 number row)))] := by
  have q : ([(0 : Int)] = [0]) = True := eq_true rfl
  have ha := alone_er2 0 row.length (CH (PP row 0)) (by omega)
  unfold partI
  rw [if_pos rfl]
  unfold f_read_part
  simp (disch := (first | with_reducible assumption | omega | (simp only [iL_len, rngD_len, rngC_len, List.length_append, List.length_replicate, List.length_cons, List.length_nil, List.length_map, List.length_take, List.length_drop, List.length_range, SZ] <;> omega) | (simp only [iL_len, rngD_len, rngC_len, List.length_append, List.length_replicate, List.length_cons, List.length_nil, List.length_map, List.length_take, List.length_drop, List.length_range, SZ] at * <;> omega) | fail)) only [↓x_seq, ↓x_nil, ↓x_if, ↓x_set, ↓x_setV, ↓x_asg, ↓x_exp, ↓x_ret, ↓x_retV, ↓x_retN, ↓x_brk, ↓x_cnt, ↓x_for, ↓x_bdy, ↓x_C, ↓x_var, ↓x_dvar, ↓x_v1, ↓x_v2, ↓x_d1L, ↓x_d2L, ↓x_and, ↓x_or, ↓x_not, ↓x_ifx, ↓x_args0, ↓x_args1, ↓x_tup, ↓x_lst, ↓x_call, ↓x_vD, ↓x_dV, ↓x_slP, ↓x_opt0, ↓x_opt1, ↓x_iP, ↓x_rg1, ↓x_rg2, ↓x_rg3, ↓x_en, ↓x_zp, ↓x_rv, ↓x_ch, ↓x_lc, ↓x_aug, ↓x_app, ↓x_put, ↓x_pix, ↓x_try, ↓x_rep, ↓x_raise0, y_sq, y_sif, y_retV, y_setV, y_toV, y_ofV, y_orw, y_and, y_or, y_not, y_v1, y_v2a, y_v2b, y_finW, y_calB, sq_nx, sq_rt, sq_bk, sq_ct, sq_er, sq_no, dataL_d, allD_d, fnD, SZ, List.getElem?_cons_zero, List.getElem?_cons_succ, List.getElem?_nil, List.set_cons_zero, List.set_cons_succ, List.map_cons, List.map_nil, List.length_cons, List.length_nil, List.length_map, List.length_append, List.cons_append, List.nil_append, List.append_nil, Nat.reduceAdd, Nat.reduceSub, Nat.zero_add, Nat.add_zero, Option.map_some, Option.map_none, Option.getD_some, Option.getD_none, Bool.false_eq_true, Bool.true_eq_false, Bool.and_false, Bool.false_and, Bool.and_true, Bool.true_and, Bool.or_false, Bool.false_or, Bool.or_true, Bool.true_or, Bool.not_true, Bool.not_false, if_true, if_false, ite_true, ite_false, decide_eq_true_eq, Bool.and_eq_true, Bool.or_eq_true, Bool.not_eq_true', decide_eq_false_iff_not, decide_true, decide_false, true_and, and_true, reduceCtorEq, Int.reduceNeg, Int.reduceLT, Int.reduceLE, Int.reduceToNat, Nat.reduceLeDiff, Int.reduceAbs, Int.reduceSub, Int.reduceAdd, Int.reduceMul, Int.reduceEq, Nat.reduceMul, Nat.reduceEqDiff, Nat.reduceLT, Nat.reducePow, Int.reducePow, ↓reduceIte, ite_not, sif.eq_1, sif.eq_3, sif.eq_4, andA.eq_1, andA.eq_3, andA.eq_4, orA.eq_1, orA.eq_3, orA.eq_4, notA.eq_1, notA.eq_3, notA.eq_4, ifA.eq_1, ifA.eq_3, ifA.eq_4, orw.eq_1, orw.eq_2, orw.eq_3, v1r.eq_1, v1r.eq_2, v1a.eq_1, v1a.eq_2, v1a.eq_3, v2a.eq_1, v2a.eq_2, v2a.eq_3, v2b.eq_1, v2b.eq_2, v2b.eq_3, dlr.eq_1, dlr.eq_2, d1a.eq_1, d1a.eq_2, d1a.eq_3, d2a.eq_1, d2a.eq_2, d2a.eq_3, d2b.eq_1, d2b.eq_2, d2b.eq_3, ar1.eq_1, ar1.eq_2, ar1.eq_3, ar1.eq_4, ar2.eq_1, ar2.eq_2, ar2.eq_3, tupA.eq_1, tupA.eq_2, tupA.eq_3, lstA.eq_1, lstA.eq_2, lstA.eq_3, calA.eq_1, calA.eq_2, calA.eq_3, calB.eq_1, calB.eq_2, calB.eq_3, wOf.eq_1, varV.eq_1, varR.eq_1, varR.eq_2, varD.eq_1, setA.eq_1, setA.eq_2, setA.eq_4, setA.eq_5, setVA.eq_1, setVA.eq_2, setVA.eq_3, setVA.eq_4, asgA.eq_1, asgA.eq_2, asgA.eq_3, asgA.eq_4, asgB.eq_1, asgB.eq_2, expA.eq_1, expA.eq_2, expA.eq_3, retA.eq_1, retA.eq_2, retA.eq_3, retVA.eq_1, retVA.eq_2, retVA.eq_3, retVA.eq_4, forA.eq_1, forA.eq_2, forA.eq_3, sl0.eq_1, sl0.eq_2, sl0.eq_3, sl1.eq_1, sl1.eq_2, sl2.eq_1, sl2.eq_2, sl3.eq_1, sl3.eq_2, optA.eq_1, bdyA.eq_1, bdyA.eq_2, iPA.eq_1, iPA.eq_2, iPA.eq_3, iPA.eq_5, iPA.eq_6, rg1A.eq_3, rg1A.eq_4, rg2A.eq_3, rg2A.eq_4, rg3A.eq_3, rg3A.eq_4, enA.eq_1, enA.eq_3, enA.eq_4, zpA.eq_1, zpA.eq_3, zpA.eq_4, rvA.eq_1, rvA.eq_3, rvA.eq_4, ch1.eq_1, ch1.eq_2, ch1.eq_3, ch2.eq_1, ch2.eq_2, ch2.eq_3, chA.eq_1, chB.eq_1, chB.eq_2, chB.eq_3, chC.eq_1, chC.eq_2, lc0.eq_2, lc0.eq_3, lcA.eq_1, lcA.eq_2, augA.eq_1, augB.eq_1, augB.eq_3, augB.eq_4, appA.eq_1, appB.eq_1, appB.eq_2, appB.eq_3, putA.eq_1, putA.eq_2, putA.eq_3, putA2.eq_1, putA2.eq_2, putB.eq_1, putC.eq_1, putD.eq_1, pixA.eq_1, pixA2.eq_1, pixB.eq_1, tryA.eq_1, tryB.eq_1, tryB.eq_2, tryB.eq_3, noEr.eq_1, repA.eq_1, repA2.eq_1, repA2.eq_2, repB.eq_1, rdT.eq_1, rdT.eq_2, toV.eq_1, toV.eq_2, toV.eq_3, toV.eq_4, toV.eq_5, toV.eq_6, ofV.eq_1, ofV.eq_2, ofV.eq_4, ofV.eq_5, tOf.eq_1, tOf.eq_2, isL.eq_1, getE.eq_1, getT.eq_1, getT.eq_2, getT.eq_3, setE.eq_1, setT.eq_1, setT.eq_2, setT.eq_3, T.data.eq_1, T.data.eq_2, finW.eq_1, finW.eq_2, finW.eq_3, finW.eq_4, finW.eq_6, fin.eq_1, fin.eq_2, fin.eq_3, tgS.eq_1, wipeE.eq_1, wipeE.eq_2, fAdd.eq_1, fAdd.eq_2, fI2.eq_1, fB2.eq_1, fU.eq_1, fLen.eq_1, fLen.eq_2, fLen.eq_3, fIx.eq_1, fIx.eq_2, fIx.eq_3, fIsN.eq_1, fNotN.eq_1, isNone.eq_1, fInt.eq_1, fInt.eq_2, fInt.eq_3, fLs.eq_1, fLs.eq_2, fTp.eq_1, fTp.eq_2, fSlP.eq_3, wOf_l, wOf_o, tryA_nx, tryA_rt, tryA_bk, tryA_ct, noEr_nx, noEr_rt, noEr_bk, noEr_ct, isNone_i, isNone_b, isNone_s, isNone_l, isNone_t, iL_app, iL_len, iL_rep, iL_rev, allD_iL, dataL_iL, q_int, q_t, q_l, n_t, n_l, n_int, q_self, n_self, s_to, s_from, s_mid, sl_to, sl_from, sl_mid, add_t, add_l, cat_l, isi_t, isi_b, isi_i, isi_l, isi_s, at_0, at_1, at_2, at_3, at_4, at_5, at_6, ai_0, ai_1, ai_2, ai_3, ai_4, ai_5, ai_6, tgN_a, tgT_a, apd_ok, lc_ok, rg1_ok, rg2_ok, iL_snoc, iL_mapd, lc_const, rngD_len, iL_take, iL_drop, Int.toNat_natCast, dataL_nil, dataL_cons, allD.eq_1, allD.eq_2, ixN_ok, rep_l, tgS_nil, rep_none, rep_none0, List.take_left, List.drop_left, any_false, all_true, eq_self, set_iL, at_last, List.drop_succ_cons, List.drop_zero, List.take_succ_cons, List.take_zero, List.getLast?_cons_cons, List.getLast?_singleton, Int.cast_ofNat_Int, rg3_ok, rngC_len, fRv_l, b_read_part, lt1, q, ha]
theorem read_good2 (mark many number : Int) (row : List Int) (hr : ∀ x ∈ row, 0 ≤ x ∧ x < 128) (h : 0 ≤ mark ∧ mark ≤ 255 ∧ 2 ≤ many ∧ many ≤ 4 ∧ 1 ≤ number ∧ number ≤ many) (h1 : 1 ≤ row.length) (h2 : row.length ≤ 153) : f_read_part [.d (.tuple (iL (partI mark many number row)))] = .rt (.d (.tuple [.int mark, .int many, .int number, .list (iL row)])) [.d (.tuple (iL (partI mark many number row)))] := by
  obtain ⟨g1, g2, g3, g4, g5, g6⟩ := h
  have q : ([(1 : Int)] = [0]) = False := eq_false (by decide)
  have e : ((((CH (PP row 1)).length + 1 + 1 + 1 + 1 + 1 + 1 + 1 + 1 : Nat) : Int) < 8) = False := by apply eq_false; omega
  have h3 := packed_good row 1 (by omega) (by omega) hr
  simp only [Int.cast_ofNat_Int] at h3
  have hN : (row.length : Int) + 7 - 7 = row.length := by omega
  have n1 : (1 ≤ (row.length : Int)) = True := by apply eq_true; omega
  have n2 : ((row.length : Int) ≤ 153) = True := by apply eq_true; omega
  unfold partI
  rw [if_neg (by omega)]
  unfold f_read_part
  simp (disch := (first | with_reducible assumption | omega | (simp only [iL_len, rngD_len, rngC_len, List.length_append, List.length_replicate, List.length_cons, List.length_nil, List.length_map, List.length_take, List.length_drop, List.length_range, SZ] <;> omega) | (simp only [iL_len, rngD_len, rngC_len, List.length_append, List.length_replicate, List.length_cons, List.length_nil, List.length_map, List.length_take, List.length_drop, List.length_range, SZ] at * <;> omega) | fail)) only [↓x_seq, ↓x_nil, ↓x_if, ↓x_set, ↓x_setV, ↓x_asg, ↓x_exp, ↓x_ret, ↓x_retV, ↓x_retN, ↓x_brk, ↓x_cnt, ↓x_for, ↓x_bdy, ↓x_C, ↓x_var, ↓x_dvar, ↓x_v1, ↓x_v2, ↓x_d1L, ↓x_d2L, ↓x_and, ↓x_or, ↓x_not, ↓x_ifx, ↓x_args0, ↓x_args1, ↓x_tup, ↓x_lst, ↓x_call, ↓x_vD, ↓x_dV, ↓x_slP, ↓x_opt0, ↓x_opt1, ↓x_iP, ↓x_rg1, ↓x_rg2, ↓x_rg3, ↓x_en, ↓x_zp, ↓x_rv, ↓x_ch, ↓x_lc, ↓x_aug, ↓x_app, ↓x_put, ↓x_pix, ↓x_try, ↓x_rep, ↓x_raise0, y_sq, y_sif, y_retV, y_setV, y_toV, y_ofV, y_orw, y_and, y_or, y_not, y_v1, y_v2a, y_v2b, y_finW, y_calB, sq_nx, sq_rt, sq_bk, sq_ct, sq_er, sq_no, dataL_d, allD_d, fnD, SZ, List.getElem?_cons_zero, List.getElem?_cons_succ, List.getElem?_nil, List.set_cons_zero, List.set_cons_succ, List.map_cons, List.map_nil, List.length_cons, List.length_nil, List.length_map, List.length_append, List.cons_append, List.nil_append, List.append_nil, Nat.reduceAdd, Nat.reduceSub, Nat.zero_add, Nat.add_zero, Option.map_some, Option.map_none, Option.getD_some, Option.getD_none, Bool.false_eq_true, Bool.true_eq_false, Bool.and_false, Bool.false_and, Bool.and_true, Bool.true_and, Bool.or_false, Bool.false_or, Bool.or_true, Bool.true_or, Bool.not_true, Bool.not_false, if_true, if_false, ite_true, ite_false, decide_eq_true_eq, Bool.and_eq_true, Bool.or_eq_true, Bool.not_eq_true', decide_eq_false_iff_not, decide_true, decide_false, true_and, and_true, reduceCtorEq, Int.reduceNeg, Int.reduceLT, Int.reduceLE, Int.reduceToNat, Nat.reduceLeDiff, Int.reduceAbs, Int.reduceSub, Int.reduceAdd, Int.reduceMul, Int.reduceEq, Nat.reduceMul, Nat.reduceEqDiff, Nat.reduceLT, Nat.reducePow, Int.reducePow, ↓reduceIte, ite_not, sif.eq_1, sif.eq_3, sif.eq_4, andA.eq_1, andA.eq_3, andA.eq_4, orA.eq_1, orA.eq_3, orA.eq_4, notA.eq_1, notA.eq_3, notA.eq_4, ifA.eq_1, ifA.eq_3, ifA.eq_4, orw.eq_1, orw.eq_2, orw.eq_3, v1r.eq_1, v1r.eq_2, v1a.eq_1, v1a.eq_2, v1a.eq_3, v2a.eq_1, v2a.eq_2, v2a.eq_3, v2b.eq_1, v2b.eq_2, v2b.eq_3, dlr.eq_1, dlr.eq_2, d1a.eq_1, d1a.eq_2, d1a.eq_3, d2a.eq_1, d2a.eq_2, d2a.eq_3, d2b.eq_1, d2b.eq_2, d2b.eq_3, ar1.eq_1, ar1.eq_2, ar1.eq_3, ar1.eq_4, ar2.eq_1, ar2.eq_2, ar2.eq_3, tupA.eq_1, tupA.eq_2, tupA.eq_3, lstA.eq_1, lstA.eq_2, lstA.eq_3, calA.eq_1, calA.eq_2, calA.eq_3, calB.eq_1, calB.eq_2, calB.eq_3, wOf.eq_1, varV.eq_1, varR.eq_1, varR.eq_2, varD.eq_1, setA.eq_1, setA.eq_2, setA.eq_4, setA.eq_5, setVA.eq_1, setVA.eq_2, setVA.eq_3, setVA.eq_4, asgA.eq_1, asgA.eq_2, asgA.eq_3, asgA.eq_4, asgB.eq_1, asgB.eq_2, expA.eq_1, expA.eq_2, expA.eq_3, retA.eq_1, retA.eq_2, retA.eq_3, retVA.eq_1, retVA.eq_2, retVA.eq_3, retVA.eq_4, forA.eq_1, forA.eq_2, forA.eq_3, sl0.eq_1, sl0.eq_2, sl0.eq_3, sl1.eq_1, sl1.eq_2, sl2.eq_1, sl2.eq_2, sl3.eq_1, sl3.eq_2, optA.eq_1, bdyA.eq_1, bdyA.eq_2, iPA.eq_1, iPA.eq_2, iPA.eq_3, iPA.eq_5, iPA.eq_6, rg1A.eq_3, rg1A.eq_4, rg2A.eq_3, rg2A.eq_4, rg3A.eq_3, rg3A.eq_4, enA.eq_1, enA.eq_3, enA.eq_4, zpA.eq_1, zpA.eq_3, zpA.eq_4, rvA.eq_1, rvA.eq_3, rvA.eq_4, ch1.eq_1, ch1.eq_2, ch1.eq_3, ch2.eq_1, ch2.eq_2, ch2.eq_3, chA.eq_1, chB.eq_1, chB.eq_2, chB.eq_3, chC.eq_1, chC.eq_2, lc0.eq_2, lc0.eq_3, lcA.eq_1, lcA.eq_2, augA.eq_1, augB.eq_1, augB.eq_3, augB.eq_4, appA.eq_1, appB.eq_1, appB.eq_2, appB.eq_3, putA.eq_1, putA.eq_2, putA.eq_3, putA2.eq_1, putA2.eq_2, putB.eq_1, putC.eq_1, putD.eq_1, pixA.eq_1, pixA2.eq_1, pixB.eq_1, tryA.eq_1, tryB.eq_1, tryB.eq_2, tryB.eq_3, noEr.eq_1, repA.eq_1, repA2.eq_1, repA2.eq_2, repB.eq_1, rdT.eq_1, rdT.eq_2, toV.eq_1, toV.eq_2, toV.eq_3, toV.eq_4, toV.eq_5, toV.eq_6, ofV.eq_1, ofV.eq_2, ofV.eq_4, ofV.eq_5, tOf.eq_1, tOf.eq_2, isL.eq_1, getE.eq_1, getT.eq_1, getT.eq_2, getT.eq_3, setE.eq_1, setT.eq_1, setT.eq_2, setT.eq_3, T.data.eq_1, T.data.eq_2, finW.eq_1, finW.eq_2, finW.eq_3, finW.eq_4, finW.eq_6, fin.eq_1, fin.eq_2, fin.eq_3, tgS.eq_1, wipeE.eq_1, wipeE.eq_2, fAdd.eq_1, fAdd.eq_2, fI2.eq_1, fB2.eq_1, fU.eq_1, fLen.eq_1, fLen.eq_2, fLen.eq_3, fIx.eq_1, fIx.eq_2, fIx.eq_3, fIsN.eq_1, fNotN.eq_1, isNone.eq_1, fInt.eq_1, fInt.eq_2, fInt.eq_3, fLs.eq_1, fLs.eq_2, fTp.eq_1, fTp.eq_2, fSlP.eq_3, wOf_l, wOf_o, tryA_nx, tryA_rt, tryA_bk, tryA_ct, noEr_nx, noEr_rt, noEr_bk, noEr_ct, isNone_i, isNone_b, isNone_s, isNone_l, isNone_t, iL_app, iL_len, iL_rep, iL_rev, allD_iL, dataL_iL, q_int, q_t, q_l, n_t, n_l, n_int, q_self, n_self, s_to, s_from, s_mid, sl_to, sl_from, sl_mid, add_t, add_l, cat_l, isi_t, isi_b, isi_i, isi_l, isi_s, at_0, at_1, at_2, at_3, at_4, at_5, at_6, ai_0, ai_1, ai_2, ai_3, ai_4, ai_5, ai_6, tgN_a, tgT_a, apd_ok, lc_ok, rg1_ok, rg2_ok, iL_snoc, iL_mapd, lc_const, rngD_len, iL_take, iL_drop, Int.toNat_natCast, dataL_nil, dataL_cons, allD.eq_1, allD.eq_2, ixN_ok, rep_l, tgS_nil, rep_none, rep_none0, List.take_left, List.drop_left, any_false, all_true, eq_self, set_iL, at_last, List.drop_succ_cons, List.drop_zero, List.take_succ_cons, List.take_zero, List.getLast?_cons_cons, List.getLast?_singleton, Int.cast_ofNat_Int, rg3_ok, rngC_len, fRv_l, b_read_part, lt1, q, e, eq_true g1, eq_true g2, eq_true g3, eq_true g4, eq_true g5, eq_true g6, tgS_iL, tgS_iL0, n_t, hN, n1, n2, h3]
theorem read_bad2 (mark many number : Int) (row : List Int) (h : 0 ≤ mark ∧ mark ≤ 255 ∧ 2 ≤ many ∧ many ≤ 4 ∧ 1 ≤ number ∧ number ≤ many) (h1 : ¬ (1 ≤ row.length ∧ row.length ≤ 153)) : f_read_part [.d (.tuple (iL (partI mark many number row)))] = .er "BadText" none [.d (.tuple (iL (partI mark many number row)))] := by
  obtain ⟨g1, g2, g3, g4, g5, g6⟩ := h
  have q : ([(1 : Int)] = [0]) = False := eq_false (by decide)
  have e : ((((CH (PP row 1)).length + 1 + 1 + 1 + 1 + 1 + 1 + 1 + 1 : Nat) : Int) < 8) = False := by apply eq_false; omega
  have hN : (row.length : Int) + 7 - 7 = row.length := by omega
  unfold partI
  rw [if_neg (by omega)]
  unfold f_read_part
  by_cases c : 1 ≤ row.length
  · have n1 : (1 ≤ (row.length : Int)) = True := by apply eq_true; omega
    have n2 : ((row.length : Int) ≤ 153) = False := by apply eq_false; omega
    simp (disch := (first | with_reducible assumption | omega | (simp only [iL_len, rngD_len, rngC_len, List.length_append, List.length_replicate, List.length_cons, List.length_nil, List.length_map, List.length_take, List.length_drop, List.length_range, SZ] <;> omega) | (simp only [iL_len, rngD_len, rngC_len, List.length_append, List.length_replicate, List.length_cons, List.length_nil, List.length_map, List.length_take, List.length_drop, List.length_range, SZ] at * <;> omega) | fail)) only [↓x_seq, ↓x_nil, ↓x_if, ↓x_set, ↓x_setV, ↓x_asg, ↓x_exp, ↓x_ret, ↓x_retV, ↓x_retN, ↓x_brk, ↓x_cnt, ↓x_for, ↓x_bdy, ↓x_C, ↓x_var, ↓x_dvar, ↓x_v1, ↓x_v2, ↓x_d1L, ↓x_d2L, ↓x_and, ↓x_or, ↓x_not, ↓x_ifx, ↓x_args0, ↓x_args1, ↓x_tup, ↓x_lst, ↓x_call, ↓x_vD, ↓x_dV, ↓x_slP, ↓x_opt0, ↓x_opt1, ↓x_iP, ↓x_rg1, ↓x_rg2, ↓x_rg3, ↓x_en, ↓x_zp, ↓x_rv, ↓x_ch, ↓x_lc, ↓x_aug, ↓x_app, ↓x_put, ↓x_pix, ↓x_try, ↓x_rep, ↓x_raise0, y_sq, y_sif, y_retV, y_setV, y_toV, y_ofV, y_orw, y_and, y_or, y_not, y_v1, y_v2a, y_v2b, y_finW, y_calB, sq_nx, sq_rt, sq_bk, sq_ct, sq_er, sq_no, dataL_d, allD_d, fnD, SZ, List.getElem?_cons_zero, List.getElem?_cons_succ, List.getElem?_nil, List.set_cons_zero, List.set_cons_succ, List.map_cons, List.map_nil, List.length_cons, List.length_nil, List.length_map, List.length_append, List.cons_append, List.nil_append, List.append_nil, Nat.reduceAdd, Nat.reduceSub, Nat.zero_add, Nat.add_zero, Option.map_some, Option.map_none, Option.getD_some, Option.getD_none, Bool.false_eq_true, Bool.true_eq_false, Bool.and_false, Bool.false_and, Bool.and_true, Bool.true_and, Bool.or_false, Bool.false_or, Bool.or_true, Bool.true_or, Bool.not_true, Bool.not_false, if_true, if_false, ite_true, ite_false, decide_eq_true_eq, Bool.and_eq_true, Bool.or_eq_true, Bool.not_eq_true', decide_eq_false_iff_not, decide_true, decide_false, true_and, and_true, reduceCtorEq, Int.reduceNeg, Int.reduceLT, Int.reduceLE, Int.reduceToNat, Nat.reduceLeDiff, Int.reduceAbs, Int.reduceSub, Int.reduceAdd, Int.reduceMul, Int.reduceEq, Nat.reduceMul, Nat.reduceEqDiff, Nat.reduceLT, Nat.reducePow, Int.reducePow, ↓reduceIte, ite_not, sif.eq_1, sif.eq_3, sif.eq_4, andA.eq_1, andA.eq_3, andA.eq_4, orA.eq_1, orA.eq_3, orA.eq_4, notA.eq_1, notA.eq_3, notA.eq_4, ifA.eq_1, ifA.eq_3, ifA.eq_4, orw.eq_1, orw.eq_2, orw.eq_3, v1r.eq_1, v1r.eq_2, v1a.eq_1, v1a.eq_2, v1a.eq_3, v2a.eq_1, v2a.eq_2, v2a.eq_3, v2b.eq_1, v2b.eq_2, v2b.eq_3, dlr.eq_1, dlr.eq_2, d1a.eq_1, d1a.eq_2, d1a.eq_3, d2a.eq_1, d2a.eq_2, d2a.eq_3, d2b.eq_1, d2b.eq_2, d2b.eq_3, ar1.eq_1, ar1.eq_2, ar1.eq_3, ar1.eq_4, ar2.eq_1, ar2.eq_2, ar2.eq_3, tupA.eq_1, tupA.eq_2, tupA.eq_3, lstA.eq_1, lstA.eq_2, lstA.eq_3, calA.eq_1, calA.eq_2, calA.eq_3, calB.eq_1, calB.eq_2, calB.eq_3, wOf.eq_1, varV.eq_1, varR.eq_1, varR.eq_2, varD.eq_1, setA.eq_1, setA.eq_2, setA.eq_4, setA.eq_5, setVA.eq_1, setVA.eq_2, setVA.eq_3, setVA.eq_4, asgA.eq_1, asgA.eq_2, asgA.eq_3, asgA.eq_4, asgB.eq_1, asgB.eq_2, expA.eq_1, expA.eq_2, expA.eq_3, retA.eq_1, retA.eq_2, retA.eq_3, retVA.eq_1, retVA.eq_2, retVA.eq_3, retVA.eq_4, forA.eq_1, forA.eq_2, forA.eq_3, sl0.eq_1, sl0.eq_2, sl0.eq_3, sl1.eq_1, sl1.eq_2, sl2.eq_1, sl2.eq_2, sl3.eq_1, sl3.eq_2, optA.eq_1, bdyA.eq_1, bdyA.eq_2, iPA.eq_1, iPA.eq_2, iPA.eq_3, iPA.eq_5, iPA.eq_6, rg1A.eq_3, rg1A.eq_4, rg2A.eq_3, rg2A.eq_4, rg3A.eq_3, rg3A.eq_4, enA.eq_1, enA.eq_3, enA.eq_4, zpA.eq_1, zpA.eq_3, zpA.eq_4, rvA.eq_1, rvA.eq_3, rvA.eq_4, ch1.eq_1, ch1.eq_2, ch1.eq_3, ch2.eq_1, ch2.eq_2, ch2.eq_3, chA.eq_1, chB.eq_1, chB.eq_2, chB.eq_3, chC.eq_1, chC.eq_2, lc0.eq_2, lc0.eq_3, lcA.eq_1, lcA.eq_2, augA.eq_1, augB.eq_1, augB.eq_3, augB.eq_4, appA.eq_1, appB.eq_1, appB.eq_2, appB.eq_3, putA.eq_1, putA.eq_2, putA.eq_3, putA2.eq_1, putA2.eq_2, putB.eq_1, putC.eq_1, putD.eq_1, pixA.eq_1, pixA2.eq_1, pixB.eq_1, tryA.eq_1, tryB.eq_1, tryB.eq_2, tryB.eq_3, noEr.eq_1, repA.eq_1, repA2.eq_1, repA2.eq_2, repB.eq_1, rdT.eq_1, rdT.eq_2, toV.eq_1, toV.eq_2, toV.eq_3, toV.eq_4, toV.eq_5, toV.eq_6, ofV.eq_1, ofV.eq_2, ofV.eq_4, ofV.eq_5, tOf.eq_1, tOf.eq_2, isL.eq_1, getE.eq_1, getT.eq_1, getT.eq_2, getT.eq_3, setE.eq_1, setT.eq_1, setT.eq_2, setT.eq_3, T.data.eq_1, T.data.eq_2, finW.eq_1, finW.eq_2, finW.eq_3, finW.eq_4, finW.eq_6, fin.eq_1, fin.eq_2, fin.eq_3, tgS.eq_1, wipeE.eq_1, wipeE.eq_2, fAdd.eq_1, fAdd.eq_2, fI2.eq_1, fB2.eq_1, fU.eq_1, fLen.eq_1, fLen.eq_2, fLen.eq_3, fIx.eq_1, fIx.eq_2, fIx.eq_3, fIsN.eq_1, fNotN.eq_1, isNone.eq_1, fInt.eq_1, fInt.eq_2, fInt.eq_3, fLs.eq_1, fLs.eq_2, fTp.eq_1, fTp.eq_2, fSlP.eq_3, wOf_l, wOf_o, tryA_nx, tryA_rt, tryA_bk, tryA_ct, noEr_nx, noEr_rt, noEr_bk, noEr_ct, isNone_i, isNone_b, isNone_s, isNone_l, isNone_t, iL_app, iL_len, iL_rep, iL_rev, allD_iL, dataL_iL, q_int, q_t, q_l, n_t, n_l, n_int, q_self, n_self, s_to, s_from, s_mid, sl_to, sl_from, sl_mid, add_t, add_l, cat_l, isi_t, isi_b, isi_i, isi_l, isi_s, at_0, at_1, at_2, at_3, at_4, at_5, at_6, ai_0, ai_1, ai_2, ai_3, ai_4, ai_5, ai_6, tgN_a, tgT_a, apd_ok, lc_ok, rg1_ok, rg2_ok, iL_snoc, iL_mapd, lc_const, rngD_len, iL_take, iL_drop, Int.toNat_natCast, dataL_nil, dataL_cons, allD.eq_1, allD.eq_2, ixN_ok, rep_l, tgS_nil, rep_none, rep_none0, List.take_left, List.drop_left, any_false, all_true, eq_self, set_iL, at_last, List.drop_succ_cons, List.drop_zero, List.take_succ_cons, List.take_zero, List.getLast?_cons_cons, List.getLast?_singleton, Int.cast_ofNat_Int, rg3_ok, rngC_len, fRv_l, b_read_part, lt1, q, e, eq_true g1, eq_true g2, eq_true g3, eq_true g4, eq_true g5, eq_true g6, tgS_iL, tgS_iL0, n_t, hN, n1, n2]
  · have n1 : (1 ≤ (row.length : Int)) = False := by apply eq_false; omega
    simp (disch := (first | with_reducible assumption | omega | (simp only [iL_len, rngD_len, rngC_len, List.length_append, List.length_replicate, List.length_cons, List.length_nil, List.length_map, List.length_take, List.length_drop, List.length_range, SZ] <;> omega) | (simp only [iL_len, rngD_len, rngC_len, List.length_append, List.length_replicate, List.length_cons, List.length_nil, List.length_map, List.length_take, List.length_drop, List.length_range, SZ] at * <;> omega) | fail)) only [↓x_seq, ↓x_nil, ↓x_if, ↓x_set, ↓x_setV, ↓x_asg, ↓x_exp, ↓x_ret, ↓x_retV, ↓x_retN, ↓x_brk, ↓x_cnt, ↓x_for, ↓x_bdy, ↓x_C, ↓x_var, ↓x_dvar, ↓x_v1, ↓x_v2, ↓x_d1L, ↓x_d2L, ↓x_and, ↓x_or, ↓x_not, ↓x_ifx, ↓x_args0, ↓x_args1, ↓x_tup, ↓x_lst, ↓x_call, ↓x_vD, ↓x_dV, ↓x_slP, ↓x_opt0, ↓x_opt1, ↓x_iP, ↓x_rg1, ↓x_rg2, ↓x_rg3, ↓x_en, ↓x_zp, ↓x_rv, ↓x_ch, ↓x_lc, ↓x_aug, ↓x_app, ↓x_put, ↓x_pix, ↓x_try, ↓x_rep, ↓x_raise0, y_sq, y_sif, y_retV, y_setV, y_toV, y_ofV, y_orw, y_and, y_or, y_not, y_v1, y_v2a, y_v2b, y_finW, y_calB, sq_nx, sq_rt, sq_bk, sq_ct, sq_er, sq_no, dataL_d, allD_d, fnD, SZ, List.getElem?_cons_zero, List.getElem?_cons_succ, List.getElem?_nil, List.set_cons_zero, List.set_cons_succ, List.map_cons, List.map_nil, List.length_cons, List.length_nil, List.length_map, List.length_append, List.cons_append, List.nil_append, List.append_nil, Nat.reduceAdd, Nat.reduceSub, Nat.zero_add, Nat.add_zero, Option.map_some, Option.map_none, Option.getD_some, Option.getD_none, Bool.false_eq_true, Bool.true_eq_false, Bool.and_false, Bool.false_and, Bool.and_true, Bool.true_and, Bool.or_false, Bool.false_or, Bool.or_true, Bool.true_or, Bool.not_true, Bool.not_false, if_true, if_false, ite_true, ite_false, decide_eq_true_eq, Bool.and_eq_true, Bool.or_eq_true, Bool.not_eq_true', decide_eq_false_iff_not, decide_true, decide_false, true_and, and_true, reduceCtorEq, Int.reduceNeg, Int.reduceLT, Int.reduceLE, Int.reduceToNat, Nat.reduceLeDiff, Int.reduceAbs, Int.reduceSub, Int.reduceAdd, Int.reduceMul, Int.reduceEq, Nat.reduceMul, Nat.reduceEqDiff, Nat.reduceLT, Nat.reducePow, Int.reducePow, ↓reduceIte, ite_not, sif.eq_1, sif.eq_3, sif.eq_4, andA.eq_1, andA.eq_3, andA.eq_4, orA.eq_1, orA.eq_3, orA.eq_4, notA.eq_1, notA.eq_3, notA.eq_4, ifA.eq_1, ifA.eq_3, ifA.eq_4, orw.eq_1, orw.eq_2, orw.eq_3, v1r.eq_1, v1r.eq_2, v1a.eq_1, v1a.eq_2, v1a.eq_3, v2a.eq_1, v2a.eq_2, v2a.eq_3, v2b.eq_1, v2b.eq_2, v2b.eq_3, dlr.eq_1, dlr.eq_2, d1a.eq_1, d1a.eq_2, d1a.eq_3, d2a.eq_1, d2a.eq_2, d2a.eq_3, d2b.eq_1, d2b.eq_2, d2b.eq_3, ar1.eq_1, ar1.eq_2, ar1.eq_3, ar1.eq_4, ar2.eq_1, ar2.eq_2, ar2.eq_3, tupA.eq_1, tupA.eq_2, tupA.eq_3, lstA.eq_1, lstA.eq_2, lstA.eq_3, calA.eq_1, calA.eq_2, calA.eq_3, calB.eq_1, calB.eq_2, calB.eq_3, wOf.eq_1, varV.eq_1, varR.eq_1, varR.eq_2, varD.eq_1, setA.eq_1, setA.eq_2, setA.eq_4, setA.eq_5, setVA.eq_1, setVA.eq_2, setVA.eq_3, setVA.eq_4, asgA.eq_1, asgA.eq_2, asgA.eq_3, asgA.eq_4, asgB.eq_1, asgB.eq_2, expA.eq_1, expA.eq_2, expA.eq_3, retA.eq_1, retA.eq_2, retA.eq_3, retVA.eq_1, retVA.eq_2, retVA.eq_3, retVA.eq_4, forA.eq_1, forA.eq_2, forA.eq_3, sl0.eq_1, sl0.eq_2, sl0.eq_3, sl1.eq_1, sl1.eq_2, sl2.eq_1, sl2.eq_2, sl3.eq_1, sl3.eq_2, optA.eq_1, bdyA.eq_1, bdyA.eq_2, iPA.eq_1, iPA.eq_2, iPA.eq_3, iPA.eq_5, iPA.eq_6, rg1A.eq_3, rg1A.eq_4, rg2A.eq_3, rg2A.eq_4, rg3A.eq_3, rg3A.eq_4, enA.eq_1, enA.eq_3, enA.eq_4, zpA.eq_1, zpA.eq_3, zpA.eq_4, rvA.eq_1, rvA.eq_3, rvA.eq_4, ch1.eq_1, ch1.eq_2, ch1.eq_3, ch2.eq_1, ch2.eq_2, ch2.eq_3, chA.eq_1, chB.eq_1, chB.eq_2, chB.eq_3, chC.eq_1, chC.eq_2, lc0.eq_2, lc0.eq_3, lcA.eq_1, lcA.eq_2, augA.eq_1, augB.eq_1, augB.eq_3, augB.eq_4, appA.eq_1, appB.eq_1, appB.eq_2, appB.eq_3, putA.eq_1, putA.eq_2, putA.eq_3, putA2.eq_1, putA2.eq_2, putB.eq_1, putC.eq_1, putD.eq_1, pixA.eq_1, pixA2.eq_1, pixB.eq_1, tryA.eq_1, tryB.eq_1, tryB.eq_2, tryB.eq_3, noEr.eq_1, repA.eq_1, repA2.eq_1, repA2.eq_2, repB.eq_1, rdT.eq_1, rdT.eq_2, toV.eq_1, toV.eq_2, toV.eq_3, toV.eq_4, toV.eq_5, toV.eq_6, ofV.eq_1, ofV.eq_2, ofV.eq_4, ofV.eq_5, tOf.eq_1, tOf.eq_2, isL.eq_1, getE.eq_1, getT.eq_1, getT.eq_2, getT.eq_3, setE.eq_1, setT.eq_1, setT.eq_2, setT.eq_3, T.data.eq_1, T.data.eq_2, finW.eq_1, finW.eq_2, finW.eq_3, finW.eq_4, finW.eq_6, fin.eq_1, fin.eq_2, fin.eq_3, tgS.eq_1, wipeE.eq_1, wipeE.eq_2, fAdd.eq_1, fAdd.eq_2, fI2.eq_1, fB2.eq_1, fU.eq_1, fLen.eq_1, fLen.eq_2, fLen.eq_3, fIx.eq_1, fIx.eq_2, fIx.eq_3, fIsN.eq_1, fNotN.eq_1, isNone.eq_1, fInt.eq_1, fInt.eq_2, fInt.eq_3, fLs.eq_1, fLs.eq_2, fTp.eq_1, fTp.eq_2, fSlP.eq_3, wOf_l, wOf_o, tryA_nx, tryA_rt, tryA_bk, tryA_ct, noEr_nx, noEr_rt, noEr_bk, noEr_ct, isNone_i, isNone_b, isNone_s, isNone_l, isNone_t, iL_app, iL_len, iL_rep, iL_rev, allD_iL, dataL_iL, q_int, q_t, q_l, n_t, n_l, n_int, q_self, n_self, s_to, s_from, s_mid, sl_to, sl_from, sl_mid, add_t, add_l, cat_l, isi_t, isi_b, isi_i, isi_l, isi_s, at_0, at_1, at_2, at_3, at_4, at_5, at_6, ai_0, ai_1, ai_2, ai_3, ai_4, ai_5, ai_6, tgN_a, tgT_a, apd_ok, lc_ok, rg1_ok, rg2_ok, iL_snoc, iL_mapd, lc_const, rngD_len, iL_take, iL_drop, Int.toNat_natCast, dataL_nil, dataL_cons, allD.eq_1, allD.eq_2, ixN_ok, rep_l, tgS_nil, rep_none, rep_none0, List.take_left, List.drop_left, any_false, all_true, eq_self, set_iL, at_last, List.drop_succ_cons, List.drop_zero, List.take_succ_cons, List.take_zero, List.getLast?_cons_cons, List.getLast?_singleton, Int.cast_ofNat_Int, rg3_ok, rngC_len, fRv_l, b_read_part, lt1, q, e, eq_true g1, eq_true g2, eq_true g3, eq_true g4, eq_true g5, eq_true g6, tgS_iL, tgS_iL0, n_t, hN, n1]

/-! ## the law's own defs -/
theorem tbt : tb_BadText.lookup (Str.ofString "BadText") = some true := by decide +kernel
theorem sh_td (m n k : Int) (row : List Int) : SeqAt.shaped (.tuple [.int m, .int n, .int k, .list (iL row)]) = true := by
  simp only [SeqAt.shaped, PyData.canLay0, PyData.canLayAll0, PyData.depth, PyData.depthAll, canL_iL, dep_iL]
  decide
/-- a part is read as it was made, or refused -/
theorem read_right_ok (mark many number : Int) (row : List Int) (hl : row.length < 1000) (hr : ∀ x ∈ row, 0 ≤ x ∧ x < 128) (h : 0 ≤ mark ∧ mark ≤ 255 ∧ 1 ≤ many ∧ many ≤ 4 ∧ 1 ≤ number ∧ number ≤ many) : f__law_read_right [.d (.list (iL (partI mark many number row))), .d (.int mark), .d (.int many), .d (.int number), .d (.list (iL row))] = .rt (.d (.bool true)) [.d (.list (iL (partI mark many number row))), .d (.int mark), .d (.int many), .d (.int number), .d (.list (iL row))] := by
  obtain ⟨g1, g2, g3, g4, g5, g6⟩ := h
  unfold f__law_read_right
  by_cases c : many = 1
  · subst c
    by_cases c2 : row.length ≤ 160
    · have hq := read_good1 mark number row hr c2
      have e : ((row.length : Int) ≤ 160) = True := by apply eq_true; omega
      have hs := q_self (sh_td (-1) 1 1 row)
      simp (disch := (first | with_reducible assumption | omega | (simp only [iL_len, rngD_len, rngC_len, List.length_append, List.length_replicate, List.length_cons, List.length_nil, List.length_map, List.length_take, List.length_drop, List.length_range, SZ] <;> omega) | (simp only [iL_len, rngD_len, rngC_len, List.length_append, List.length_replicate, List.length_cons, List.length_nil, List.length_map, List.length_take, List.length_drop, List.length_range, SZ] at * <;> omega) | fail)) only [↓x_seq, ↓x_nil, ↓x_if, ↓x_set, ↓x_setV, ↓x_asg, ↓x_exp, ↓x_ret, ↓x_retV, ↓x_retN, ↓x_brk, ↓x_cnt, ↓x_for, ↓x_bdy, ↓x_C, ↓x_var, ↓x_dvar, ↓x_v1, ↓x_v2, ↓x_d1L, ↓x_d2L, ↓x_and, ↓x_or, ↓x_not, ↓x_ifx, ↓x_args0, ↓x_args1, ↓x_tup, ↓x_lst, ↓x_call, ↓x_vD, ↓x_dV, ↓x_slP, ↓x_opt0, ↓x_opt1, ↓x_iP, ↓x_rg1, ↓x_rg2, ↓x_rg3, ↓x_en, ↓x_zp, ↓x_rv, ↓x_ch, ↓x_lc, ↓x_aug, ↓x_app, ↓x_put, ↓x_pix, ↓x_try, ↓x_rep, ↓x_raise0, y_sq, y_sif, y_retV, y_setV, y_toV, y_ofV, y_orw, y_and, y_or, y_not, y_v1, y_v2a, y_v2b, y_finW, y_calB, sq_nx, sq_rt, sq_bk, sq_ct, sq_er, sq_no, dataL_d, allD_d, fnD, SZ, List.getElem?_cons_zero, List.getElem?_cons_succ, List.getElem?_nil, List.set_cons_zero, List.set_cons_succ, List.map_cons, List.map_nil, List.length_cons, List.length_nil, List.length_map, List.length_append, List.cons_append, List.nil_append, List.append_nil, Nat.reduceAdd, Nat.reduceSub, Nat.zero_add, Nat.add_zero, Option.map_some, Option.map_none, Option.getD_some, Option.getD_none, Bool.false_eq_true, Bool.true_eq_false, Bool.and_false, Bool.false_and, Bool.and_true, Bool.true_and, Bool.or_false, Bool.false_or, Bool.or_true, Bool.true_or, Bool.not_true, Bool.not_false, if_true, if_false, ite_true, ite_false, decide_eq_true_eq, Bool.and_eq_true, Bool.or_eq_true, Bool.not_eq_true', decide_eq_false_iff_not, decide_true, decide_false, true_and, and_true, reduceCtorEq, Int.reduceNeg, Int.reduceLT, Int.reduceLE, Int.reduceToNat, Nat.reduceLeDiff, Int.reduceAbs, Int.reduceSub, Int.reduceAdd, Int.reduceMul, Int.reduceEq, Nat.reduceMul, Nat.reduceEqDiff, Nat.reduceLT, Nat.reducePow, Int.reducePow, ↓reduceIte, ite_not, sif.eq_1, sif.eq_3, sif.eq_4, andA.eq_1, andA.eq_3, andA.eq_4, orA.eq_1, orA.eq_3, orA.eq_4, notA.eq_1, notA.eq_3, notA.eq_4, ifA.eq_1, ifA.eq_3, ifA.eq_4, orw.eq_1, orw.eq_2, orw.eq_3, v1r.eq_1, v1r.eq_2, v1a.eq_1, v1a.eq_2, v1a.eq_3, v2a.eq_1, v2a.eq_2, v2a.eq_3, v2b.eq_1, v2b.eq_2, v2b.eq_3, dlr.eq_1, dlr.eq_2, d1a.eq_1, d1a.eq_2, d1a.eq_3, d2a.eq_1, d2a.eq_2, d2a.eq_3, d2b.eq_1, d2b.eq_2, d2b.eq_3, ar1.eq_1, ar1.eq_2, ar1.eq_3, ar1.eq_4, ar2.eq_1, ar2.eq_2, ar2.eq_3, tupA.eq_1, tupA.eq_2, tupA.eq_3, lstA.eq_1, lstA.eq_2, lstA.eq_3, calA.eq_1, calA.eq_2, calA.eq_3, calB.eq_1, calB.eq_2, calB.eq_3, wOf.eq_1, varV.eq_1, varR.eq_1, varR.eq_2, varD.eq_1, setA.eq_1, setA.eq_2, setA.eq_4, setA.eq_5, setVA.eq_1, setVA.eq_2, setVA.eq_3, setVA.eq_4, asgA.eq_1, asgA.eq_2, asgA.eq_3, asgA.eq_4, asgB.eq_1, asgB.eq_2, expA.eq_1, expA.eq_2, expA.eq_3, retA.eq_1, retA.eq_2, retA.eq_3, retVA.eq_1, retVA.eq_2, retVA.eq_3, retVA.eq_4, forA.eq_1, forA.eq_2, forA.eq_3, sl0.eq_1, sl0.eq_2, sl0.eq_3, sl1.eq_1, sl1.eq_2, sl2.eq_1, sl2.eq_2, sl3.eq_1, sl3.eq_2, optA.eq_1, bdyA.eq_1, bdyA.eq_2, iPA.eq_1, iPA.eq_2, iPA.eq_3, iPA.eq_5, iPA.eq_6, rg1A.eq_3, rg1A.eq_4, rg2A.eq_3, rg2A.eq_4, rg3A.eq_3, rg3A.eq_4, enA.eq_1, enA.eq_3, enA.eq_4, zpA.eq_1, zpA.eq_3, zpA.eq_4, rvA.eq_1, rvA.eq_3, rvA.eq_4, ch1.eq_1, ch1.eq_2, ch1.eq_3, ch2.eq_1, ch2.eq_2, ch2.eq_3, chA.eq_1, chB.eq_1, chB.eq_2, chB.eq_3, chC.eq_1, chC.eq_2, lc0.eq_2, lc0.eq_3, lcA.eq_1, lcA.eq_2, augA.eq_1, augB.eq_1, augB.eq_3, augB.eq_4, appA.eq_1, appB.eq_1, appB.eq_2, appB.eq_3, putA.eq_1, putA.eq_2, putA.eq_3, putA2.eq_1, putA2.eq_2, putB.eq_1, putC.eq_1, putD.eq_1, pixA.eq_1, pixA2.eq_1, pixB.eq_1, tryA.eq_1, tryB.eq_1, tryB.eq_2, tryB.eq_3, noEr.eq_1, repA.eq_1, repA2.eq_1, repA2.eq_2, repB.eq_1, rdT.eq_1, rdT.eq_2, toV.eq_1, toV.eq_2, toV.eq_3, toV.eq_4, toV.eq_5, toV.eq_6, ofV.eq_1, ofV.eq_2, ofV.eq_4, ofV.eq_5, tOf.eq_1, tOf.eq_2, isL.eq_1, getE.eq_1, getT.eq_1, getT.eq_2, getT.eq_3, setE.eq_1, setT.eq_1, setT.eq_2, setT.eq_3, T.data.eq_1, T.data.eq_2, finW.eq_1, finW.eq_2, finW.eq_3, finW.eq_4, finW.eq_6, fin.eq_1, fin.eq_2, fin.eq_3, tgS.eq_1, wipeE.eq_1, wipeE.eq_2, fAdd.eq_1, fAdd.eq_2, fI2.eq_1, fB2.eq_1, fU.eq_1, fLen.eq_1, fLen.eq_2, fLen.eq_3, fIx.eq_1, fIx.eq_2, fIx.eq_3, fIsN.eq_1, fNotN.eq_1, isNone.eq_1, fInt.eq_1, fInt.eq_2, fInt.eq_3, fLs.eq_1, fLs.eq_2, fTp.eq_1, fTp.eq_2, fSlP.eq_3, wOf_l, wOf_o, tryA_nx, tryA_rt, tryA_bk, tryA_ct, noEr_nx, noEr_rt, noEr_bk, noEr_ct, isNone_i, isNone_b, isNone_s, isNone_l, isNone_t, iL_app, iL_len, iL_rep, iL_rev, allD_iL, dataL_iL, q_int, q_t, q_l, n_t, n_l, n_int, q_self, n_self, s_to, s_from, s_mid, sl_to, sl_from, sl_mid, add_t, add_l, cat_l, isi_t, isi_b, isi_i, isi_l, isi_s, at_0, at_1, at_2, at_3, at_4, at_5, at_6, ai_0, ai_1, ai_2, ai_3, ai_4, ai_5, ai_6, tgN_a, tgT_a, apd_ok, lc_ok, rg1_ok, rg2_ok, iL_snoc, iL_mapd, lc_const, rngD_len, iL_take, iL_drop, Int.toNat_natCast, dataL_nil, dataL_cons, allD.eq_1, allD.eq_2, ixN_ok, rep_l, tgS_nil, rep_none, rep_none0, List.take_left, List.drop_left, any_false, all_true, eq_self, set_iL, at_last, List.drop_succ_cons, List.drop_zero, List.take_succ_cons, List.take_zero, List.getLast?_cons_cons, List.getLast?_singleton, Int.cast_ofNat_Int, rg3_ok, rngC_len, fRv_l, b__law_read_right, e, hq, hs]
    · have hq := read_bad1 mark number row (by omega)
      have e : ((row.length : Int) ≤ 160) = False := by apply eq_false; omega
      simp (disch := (first | with_reducible assumption | omega | (simp only [iL_len, rngD_len, rngC_len, List.length_append, List.length_replicate, List.length_cons, List.length_nil, List.length_map, List.length_take, List.length_drop, List.length_range, SZ] <;> omega) | (simp only [iL_len, rngD_len, rngC_len, List.length_append, List.length_replicate, List.length_cons, List.length_nil, List.length_map, List.length_take, List.length_drop, List.length_range, SZ] at * <;> omega) | fail)) only [↓x_seq, ↓x_nil, ↓x_if, ↓x_set, ↓x_setV, ↓x_asg, ↓x_exp, ↓x_ret, ↓x_retV, ↓x_retN, ↓x_brk, ↓x_cnt, ↓x_for, ↓x_bdy, ↓x_C, ↓x_var, ↓x_dvar, ↓x_v1, ↓x_v2, ↓x_d1L, ↓x_d2L, ↓x_and, ↓x_or, ↓x_not, ↓x_ifx, ↓x_args0, ↓x_args1, ↓x_tup, ↓x_lst, ↓x_call, ↓x_vD, ↓x_dV, ↓x_slP, ↓x_opt0, ↓x_opt1, ↓x_iP, ↓x_rg1, ↓x_rg2, ↓x_rg3, ↓x_en, ↓x_zp, ↓x_rv, ↓x_ch, ↓x_lc, ↓x_aug, ↓x_app, ↓x_put, ↓x_pix, ↓x_try, ↓x_rep, ↓x_raise0, y_sq, y_sif, y_retV, y_setV, y_toV, y_ofV, y_orw, y_and, y_or, y_not, y_v1, y_v2a, y_v2b, y_finW, y_calB, sq_nx, sq_rt, sq_bk, sq_ct, sq_er, sq_no, dataL_d, allD_d, fnD, SZ, List.getElem?_cons_zero, List.getElem?_cons_succ, List.getElem?_nil, List.set_cons_zero, List.set_cons_succ, List.map_cons, List.map_nil, List.length_cons, List.length_nil, List.length_map, List.length_append, List.cons_append, List.nil_append, List.append_nil, Nat.reduceAdd, Nat.reduceSub, Nat.zero_add, Nat.add_zero, Option.map_some, Option.map_none, Option.getD_some, Option.getD_none, Bool.false_eq_true, Bool.true_eq_false, Bool.and_false, Bool.false_and, Bool.and_true, Bool.true_and, Bool.or_false, Bool.false_or, Bool.or_true, Bool.true_or, Bool.not_true, Bool.not_false, if_true, if_false, ite_true, ite_false, decide_eq_true_eq, Bool.and_eq_true, Bool.or_eq_true, Bool.not_eq_true', decide_eq_false_iff_not, decide_true, decide_false, true_and, and_true, reduceCtorEq, Int.reduceNeg, Int.reduceLT, Int.reduceLE, Int.reduceToNat, Nat.reduceLeDiff, Int.reduceAbs, Int.reduceSub, Int.reduceAdd, Int.reduceMul, Int.reduceEq, Nat.reduceMul, Nat.reduceEqDiff, Nat.reduceLT, Nat.reducePow, Int.reducePow, ↓reduceIte, ite_not, sif.eq_1, sif.eq_3, sif.eq_4, andA.eq_1, andA.eq_3, andA.eq_4, orA.eq_1, orA.eq_3, orA.eq_4, notA.eq_1, notA.eq_3, notA.eq_4, ifA.eq_1, ifA.eq_3, ifA.eq_4, orw.eq_1, orw.eq_2, orw.eq_3, v1r.eq_1, v1r.eq_2, v1a.eq_1, v1a.eq_2, v1a.eq_3, v2a.eq_1, v2a.eq_2, v2a.eq_3, v2b.eq_1, v2b.eq_2, v2b.eq_3, dlr.eq_1, dlr.eq_2, d1a.eq_1, d1a.eq_2, d1a.eq_3, d2a.eq_1, d2a.eq_2, d2a.eq_3, d2b.eq_1, d2b.eq_2, d2b.eq_3, ar1.eq_1, ar1.eq_2, ar1.eq_3, ar1.eq_4, ar2.eq_1, ar2.eq_2, ar2.eq_3, tupA.eq_1, tupA.eq_2, tupA.eq_3, lstA.eq_1, lstA.eq_2, lstA.eq_3, calA.eq_1, calA.eq_2, calA.eq_3, calB.eq_1, calB.eq_2, calB.eq_3, wOf.eq_1, varV.eq_1, varR.eq_1, varR.eq_2, varD.eq_1, setA.eq_1, setA.eq_2, setA.eq_4, setA.eq_5, setVA.eq_1, setVA.eq_2, setVA.eq_3, setVA.eq_4, asgA.eq_1, asgA.eq_2, asgA.eq_3, asgA.eq_4, asgB.eq_1, asgB.eq_2, expA.eq_1, expA.eq_2, expA.eq_3, retA.eq_1, retA.eq_2, retA.eq_3, retVA.eq_1, retVA.eq_2, retVA.eq_3, retVA.eq_4, forA.eq_1, forA.eq_2, forA.eq_3, sl0.eq_1, sl0.eq_2, sl0.eq_3, sl1.eq_1, sl1.eq_2, sl2.eq_1, sl2.eq_2, sl3.eq_1, sl3.eq_2, optA.eq_1, bdyA.eq_1, bdyA.eq_2, iPA.eq_1, iPA.eq_2, iPA.eq_3, iPA.eq_5, iPA.eq_6, rg1A.eq_3, rg1A.eq_4, rg2A.eq_3, rg2A.eq_4, rg3A.eq_3, rg3A.eq_4, enA.eq_1, enA.eq_3, enA.eq_4, zpA.eq_1, zpA.eq_3, zpA.eq_4, rvA.eq_1, rvA.eq_3, rvA.eq_4, ch1.eq_1, ch1.eq_2, ch1.eq_3, ch2.eq_1, ch2.eq_2, ch2.eq_3, chA.eq_1, chB.eq_1, chB.eq_2, chB.eq_3, chC.eq_1, chC.eq_2, lc0.eq_2, lc0.eq_3, lcA.eq_1, lcA.eq_2, augA.eq_1, augB.eq_1, augB.eq_3, augB.eq_4, appA.eq_1, appB.eq_1, appB.eq_2, appB.eq_3, putA.eq_1, putA.eq_2, putA.eq_3, putA2.eq_1, putA2.eq_2, putB.eq_1, putC.eq_1, putD.eq_1, pixA.eq_1, pixA2.eq_1, pixB.eq_1, tryA.eq_1, tryB.eq_1, tryB.eq_2, tryB.eq_3, noEr.eq_1, repA.eq_1, repA2.eq_1, repA2.eq_2, repB.eq_1, rdT.eq_1, rdT.eq_2, toV.eq_1, toV.eq_2, toV.eq_3, toV.eq_4, toV.eq_5, toV.eq_6, ofV.eq_1, ofV.eq_2, ofV.eq_4, ofV.eq_5, tOf.eq_1, tOf.eq_2, isL.eq_1, getE.eq_1, getT.eq_1, getT.eq_2, getT.eq_3, setE.eq_1, setT.eq_1, setT.eq_2, setT.eq_3, T.data.eq_1, T.data.eq_2, finW.eq_1, finW.eq_2, finW.eq_3, finW.eq_4, finW.eq_6, fin.eq_1, fin.eq_2, fin.eq_3, tgS.eq_1, wipeE.eq_1, wipeE.eq_2, fAdd.eq_1, fAdd.eq_2, fI2.eq_1, fB2.eq_1, fU.eq_1, fLen.eq_1, fLen.eq_2, fLen.eq_3, fIx.eq_1, fIx.eq_2, fIx.eq_3, fIsN.eq_1, fNotN.eq_1, isNone.eq_1, fInt.eq_1, fInt.eq_2, fInt.eq_3, fLs.eq_1, fLs.eq_2, fTp.eq_1, fTp.eq_2, fSlP.eq_3, wOf_l, wOf_o, tryA_nx, tryA_rt, tryA_bk, tryA_ct, noEr_nx, noEr_rt, noEr_bk, noEr_ct, isNone_i, isNone_b, isNone_s, isNone_l, isNone_t, iL_app, iL_len, iL_rep, iL_rev, allD_iL, dataL_iL, q_int, q_t, q_l, n_t, n_l, n_int, q_self, n_self, s_to, s_from, s_mid, sl_to, sl_from, sl_mid, add_t, add_l, cat_l, isi_t, isi_b, isi_i, isi_l, isi_s, at_0, at_1, at_2, at_3, at_4, at_5, at_6, ai_0, ai_1, ai_2, ai_3, ai_4, ai_5, ai_6, tgN_a, tgT_a, apd_ok, lc_ok, rg1_ok, rg2_ok, iL_snoc, iL_mapd, lc_const, rngD_len, iL_take, iL_drop, Int.toNat_natCast, dataL_nil, dataL_cons, allD.eq_1, allD.eq_2, ixN_ok, rep_l, tgS_nil, rep_none, rep_none0, List.take_left, List.drop_left, any_false, all_true, eq_self, set_iL, at_last, List.drop_succ_cons, List.drop_zero, List.take_succ_cons, List.take_zero, List.getLast?_cons_cons, List.getLast?_singleton, Int.cast_ofNat_Int, rg3_ok, rngC_len, fRv_l, b__law_read_right, e, hq, tbt]
  · have m1 : (1 < many) = True := by apply eq_true; omega
    have hs := q_self (sh_td mark many number row)
    by_cases c2 : 1 ≤ row.length ∧ row.length ≤ 153
    · have hq := read_good2 mark many number row hr ⟨g1, g2, by omega, g4, g5, g6⟩ c2.1 c2.2
      have e1 : (1 ≤ (row.length : Int)) = True := by apply eq_true; omega
      have e2 : ((row.length : Int) ≤ 153) = True := by apply eq_true; omega
      simp (disch := (first | with_reducible assumption | omega | (simp only [iL_len, rngD_len, rngC_len, List.length_append, List.length_replicate, List.length_cons, List.length_nil, List.length_map, List.length_take, List.length_drop, List.length_range, SZ] <;> omega) | (simp only [iL_len, rngD_len, rngC_len, List.length_append, List.length_replicate, List.length_cons, List.length_nil, List.length_map, List.length_take, List.length_drop, List.length_range, SZ] at * <;> omega) | fail)) only [↓x_seq, ↓x_nil, ↓x_if, ↓x_set, ↓x_setV, ↓x_asg, ↓x_exp, ↓x_ret, ↓x_retV, ↓x_retN, ↓x_brk, ↓x_cnt, ↓x_for, ↓x_bdy, ↓x_C, ↓x_var, ↓x_dvar, ↓x_v1, ↓x_v2, ↓x_d1L, ↓x_d2L, ↓x_and, ↓x_or, ↓x_not, ↓x_ifx, ↓x_args0, ↓x_args1, ↓x_tup, ↓x_lst, ↓x_call, ↓x_vD, ↓x_dV, ↓x_slP, ↓x_opt0, ↓x_opt1, ↓x_iP, ↓x_rg1, ↓x_rg2, ↓x_rg3, ↓x_en, ↓x_zp, ↓x_rv, ↓x_ch, ↓x_lc, ↓x_aug, ↓x_app, ↓x_put, ↓x_pix, ↓x_try, ↓x_rep, ↓x_raise0, y_sq, y_sif, y_retV, y_setV, y_toV, y_ofV, y_orw, y_and, y_or, y_not, y_v1, y_v2a, y_v2b, y_finW, y_calB, sq_nx, sq_rt, sq_bk, sq_ct, sq_er, sq_no, dataL_d, allD_d, fnD, SZ, List.getElem?_cons_zero, List.getElem?_cons_succ, List.getElem?_nil, List.set_cons_zero, List.set_cons_succ, List.map_cons, List.map_nil, List.length_cons, List.length_nil, List.length_map, List.length_append, List.cons_append, List.nil_append, List.append_nil, Nat.reduceAdd, Nat.reduceSub, Nat.zero_add, Nat.add_zero, Option.map_some, Option.map_none, Option.getD_some, Option.getD_none, Bool.false_eq_true, Bool.true_eq_false, Bool.and_false, Bool.false_and, Bool.and_true, Bool.true_and, Bool.or_false, Bool.false_or, Bool.or_true, Bool.true_or, Bool.not_true, Bool.not_false, if_true, if_false, ite_true, ite_false, decide_eq_true_eq, Bool.and_eq_true, Bool.or_eq_true, Bool.not_eq_true', decide_eq_false_iff_not, decide_true, decide_false, true_and, and_true, reduceCtorEq, Int.reduceNeg, Int.reduceLT, Int.reduceLE, Int.reduceToNat, Nat.reduceLeDiff, Int.reduceAbs, Int.reduceSub, Int.reduceAdd, Int.reduceMul, Int.reduceEq, Nat.reduceMul, Nat.reduceEqDiff, Nat.reduceLT, Nat.reducePow, Int.reducePow, ↓reduceIte, ite_not, sif.eq_1, sif.eq_3, sif.eq_4, andA.eq_1, andA.eq_3, andA.eq_4, orA.eq_1, orA.eq_3, orA.eq_4, notA.eq_1, notA.eq_3, notA.eq_4, ifA.eq_1, ifA.eq_3, ifA.eq_4, orw.eq_1, orw.eq_2, orw.eq_3, v1r.eq_1, v1r.eq_2, v1a.eq_1, v1a.eq_2, v1a.eq_3, v2a.eq_1, v2a.eq_2, v2a.eq_3, v2b.eq_1, v2b.eq_2, v2b.eq_3, dlr.eq_1, dlr.eq_2, d1a.eq_1, d1a.eq_2, d1a.eq_3, d2a.eq_1, d2a.eq_2, d2a.eq_3, d2b.eq_1, d2b.eq_2, d2b.eq_3, ar1.eq_1, ar1.eq_2, ar1.eq_3, ar1.eq_4, ar2.eq_1, ar2.eq_2, ar2.eq_3, tupA.eq_1, tupA.eq_2, tupA.eq_3, lstA.eq_1, lstA.eq_2, lstA.eq_3, calA.eq_1, calA.eq_2, calA.eq_3, calB.eq_1, calB.eq_2, calB.eq_3, wOf.eq_1, varV.eq_1, varR.eq_1, varR.eq_2, varD.eq_1, setA.eq_1, setA.eq_2, setA.eq_4, setA.eq_5, setVA.eq_1, setVA.eq_2, setVA.eq_3, setVA.eq_4, asgA.eq_1, asgA.eq_2, asgA.eq_3, asgA.eq_4, asgB.eq_1, asgB.eq_2, expA.eq_1, expA.eq_2, expA.eq_3, retA.eq_1, retA.eq_2, retA.eq_3, retVA.eq_1, retVA.eq_2, retVA.eq_3, retVA.eq_4, forA.eq_1, forA.eq_2, forA.eq_3, sl0.eq_1, sl0.eq_2, sl0.eq_3, sl1.eq_1, sl1.eq_2, sl2.eq_1, sl2.eq_2, sl3.eq_1, sl3.eq_2, optA.eq_1, bdyA.eq_1, bdyA.eq_2, iPA.eq_1, iPA.eq_2, iPA.eq_3, iPA.eq_5, iPA.eq_6, rg1A.eq_3, rg1A.eq_4, rg2A.eq_3, rg2A.eq_4, rg3A.eq_3, rg3A.eq_4, enA.eq_1, enA.eq_3, enA.eq_4, zpA.eq_1, zpA.eq_3, zpA.eq_4, rvA.eq_1, rvA.eq_3, rvA.eq_4, ch1.eq_1, ch1.eq_2, ch1.eq_3, ch2.eq_1, ch2.eq_2, ch2.eq_3, chA.eq_1, chB.eq_1, chB.eq_2, chB.eq_3, chC.eq_1, chC.eq_2, lc0.eq_2, lc0.eq_3, lcA.eq_1, lcA.eq_2, augA.eq_1, augB.eq_1, augB.eq_3, augB.eq_4, appA.eq_1, appB.eq_1, appB.eq_2, appB.eq_3, putA.eq_1, putA.eq_2, putA.eq_3, putA2.eq_1, putA2.eq_2, putB.eq_1, putC.eq_1, putD.eq_1, pixA.eq_1, pixA2.eq_1, pixB.eq_1, tryA.eq_1, tryB.eq_1, tryB.eq_2, tryB.eq_3, noEr.eq_1, repA.eq_1, repA2.eq_1, repA2.eq_2, repB.eq_1, rdT.eq_1, rdT.eq_2, toV.eq_1, toV.eq_2, toV.eq_3, toV.eq_4, toV.eq_5, toV.eq_6, ofV.eq_1, ofV.eq_2, ofV.eq_4, ofV.eq_5, tOf.eq_1, tOf.eq_2, isL.eq_1, getE.eq_1, getT.eq_1, getT.eq_2, getT.eq_3, setE.eq_1, setT.eq_1, setT.eq_2, setT.eq_3, T.data.eq_1, T.data.eq_2, finW.eq_1, finW.eq_2, finW.eq_3, finW.eq_4, finW.eq_6, fin.eq_1, fin.eq_2, fin.eq_3, tgS.eq_1, wipeE.eq_1, wipeE.eq_2, fAdd.eq_1, fAdd.eq_2, fI2.eq_1, fB2.eq_1, fU.eq_1, fLen.eq_1, fLen.eq_2, fLen.eq_3, fIx.eq_1, fIx.eq_2, fIx.eq_3, fIsN.eq_1, fNotN.eq_1, isNone.eq_1, fInt.eq_1, fInt.eq_2, fInt.eq_3, fLs.eq_1, fLs.eq_2, fTp.eq_1, fTp.eq_2, fSlP.eq_3, wOf_l, wOf_o, tryA_nx, tryA_rt, tryA_bk, tryA_ct, noEr_nx, noEr_rt, noEr_bk, noEr_ct, isNone_i, isNone_b, isNone_s, isNone_l, isNone_t, iL_app, iL_len, iL_rep, iL_rev, allD_iL, dataL_iL, q_int, q_t, q_l, n_t, n_l, n_int, q_self, n_self, s_to, s_from, s_mid, sl_to, sl_from, sl_mid, add_t, add_l, cat_l, isi_t, isi_b, isi_i, isi_l, isi_s, at_0, at_1, at_2, at_3, at_4, at_5, at_6, ai_0, ai_1, ai_2, ai_3, ai_4, ai_5, ai_6, tgN_a, tgT_a, apd_ok, lc_ok, rg1_ok, rg2_ok, iL_snoc, iL_mapd, lc_const, rngD_len, iL_take, iL_drop, Int.toNat_natCast, dataL_nil, dataL_cons, allD.eq_1, allD.eq_2, ixN_ok, rep_l, tgS_nil, rep_none, rep_none0, List.take_left, List.drop_left, any_false, all_true, eq_self, set_iL, at_last, List.drop_succ_cons, List.drop_zero, List.take_succ_cons, List.take_zero, List.getLast?_cons_cons, List.getLast?_singleton, Int.cast_ofNat_Int, rg3_ok, rngC_len, fRv_l, b__law_read_right, m1, e1, e2, hq, hs]
    · have hq := read_bad2 mark many number row ⟨g1, g2, by omega, g4, g5, g6⟩ c2
      by_cases c3 : 1 ≤ row.length
      · have e1 : (1 ≤ (row.length : Int)) = True := by apply eq_true; omega
        have e2 : ((row.length : Int) ≤ 153) = False := by apply eq_false; omega
        simp (disch := (first | with_reducible assumption | omega | (simp only [iL_len, rngD_len, rngC_len, List.length_append, List.length_replicate, List.length_cons, List.length_nil, List.length_map, List.length_take, List.length_drop, List.length_range, SZ] <;> omega) | (simp only [iL_len, rngD_len, rngC_len, List.length_append, List.length_replicate, List.length_cons, List.length_nil, List.length_map, List.length_take, List.length_drop, List.length_range, SZ] at * <;> omega) | fail)) only [↓x_seq, ↓x_nil, ↓x_if, ↓x_set, ↓x_setV, ↓x_asg, ↓x_exp, ↓x_ret, ↓x_retV, ↓x_retN, ↓x_brk, ↓x_cnt, ↓x_for, ↓x_bdy, ↓x_C, ↓x_var, ↓x_dvar, ↓x_v1, ↓x_v2, ↓x_d1L, ↓x_d2L, ↓x_and, ↓x_or, ↓x_not, ↓x_ifx, ↓x_args0, ↓x_args1, ↓x_tup, ↓x_lst, ↓x_call, ↓x_vD, ↓x_dV, ↓x_slP, ↓x_opt0, ↓x_opt1, ↓x_iP, ↓x_rg1, ↓x_rg2, ↓x_rg3, ↓x_en, ↓x_zp, ↓x_rv, ↓x_ch, ↓x_lc, ↓x_aug, ↓x_app, ↓x_put, ↓x_pix, ↓x_try, ↓x_rep, ↓x_raise0, y_sq, y_sif, y_retV, y_setV, y_toV, y_ofV, y_orw, y_and, y_or, y_not, y_v1, y_v2a, y_v2b, y_finW, y_calB, sq_nx, sq_rt, sq_bk, sq_ct, sq_er, sq_no, dataL_d, allD_d, fnD, SZ, List.getElem?_cons_zero, List.getElem?_cons_succ, List.getElem?_nil, List.set_cons_zero, List.set_cons_succ, List.map_cons, List.map_nil, List.length_cons, List.length_nil, List.length_map, List.length_append, List.cons_append, List.nil_append, List.append_nil, Nat.reduceAdd, Nat.reduceSub, Nat.zero_add, Nat.add_zero, Option.map_some, Option.map_none, Option.getD_some, Option.getD_none, Bool.false_eq_true, Bool.true_eq_false, Bool.and_false, Bool.false_and, Bool.and_true, Bool.true_and, Bool.or_false, Bool.false_or, Bool.or_true, Bool.true_or, Bool.not_true, Bool.not_false, if_true, if_false, ite_true, ite_false, decide_eq_true_eq, Bool.and_eq_true, Bool.or_eq_true, Bool.not_eq_true', decide_eq_false_iff_not, decide_true, decide_false, true_and, and_true, reduceCtorEq, Int.reduceNeg, Int.reduceLT, Int.reduceLE, Int.reduceToNat, Nat.reduceLeDiff, Int.reduceAbs, Int.reduceSub, Int.reduceAdd, Int.reduceMul, Int.reduceEq, Nat.reduceMul, Nat.reduceEqDiff, Nat.reduceLT, Nat.reducePow, Int.reducePow, ↓reduceIte, ite_not, sif.eq_1, sif.eq_3, sif.eq_4, andA.eq_1, andA.eq_3, andA.eq_4, orA.eq_1, orA.eq_3, orA.eq_4, notA.eq_1, notA.eq_3, notA.eq_4, ifA.eq_1, ifA.eq_3, ifA.eq_4, orw.eq_1, orw.eq_2, orw.eq_3, v1r.eq_1, v1r.eq_2, v1a.eq_1, v1a.eq_2, v1a.eq_3, v2a.eq_1, v2a.eq_2, v2a.eq_3, v2b.eq_1, v2b.eq_2, v2b.eq_3, dlr.eq_1, dlr.eq_2, d1a.eq_1, d1a.eq_2, d1a.eq_3, d2a.eq_1, d2a.eq_2, d2a.eq_3, d2b.eq_1, d2b.eq_2, d2b.eq_3, ar1.eq_1, ar1.eq_2, ar1.eq_3, ar1.eq_4, ar2.eq_1, ar2.eq_2, ar2.eq_3, tupA.eq_1, tupA.eq_2, tupA.eq_3, lstA.eq_1, lstA.eq_2, lstA.eq_3, calA.eq_1, calA.eq_2, calA.eq_3, calB.eq_1, calB.eq_2, calB.eq_3, wOf.eq_1, varV.eq_1, varR.eq_1, varR.eq_2, varD.eq_1, setA.eq_1, setA.eq_2, setA.eq_4, setA.eq_5, setVA.eq_1, setVA.eq_2, setVA.eq_3, setVA.eq_4, asgA.eq_1, asgA.eq_2, asgA.eq_3, asgA.eq_4, asgB.eq_1, asgB.eq_2, expA.eq_1, expA.eq_2, expA.eq_3, retA.eq_1, retA.eq_2, retA.eq_3, retVA.eq_1, retVA.eq_2, retVA.eq_3, retVA.eq_4, forA.eq_1, forA.eq_2, forA.eq_3, sl0.eq_1, sl0.eq_2, sl0.eq_3, sl1.eq_1, sl1.eq_2, sl2.eq_1, sl2.eq_2, sl3.eq_1, sl3.eq_2, optA.eq_1, bdyA.eq_1, bdyA.eq_2, iPA.eq_1, iPA.eq_2, iPA.eq_3, iPA.eq_5, iPA.eq_6, rg1A.eq_3, rg1A.eq_4, rg2A.eq_3, rg2A.eq_4, rg3A.eq_3, rg3A.eq_4, enA.eq_1, enA.eq_3, enA.eq_4, zpA.eq_1, zpA.eq_3, zpA.eq_4, rvA.eq_1, rvA.eq_3, rvA.eq_4, ch1.eq_1, ch1.eq_2, ch1.eq_3, ch2.eq_1, ch2.eq_2, ch2.eq_3, chA.eq_1, chB.eq_1, chB.eq_2, chB.eq_3, chC.eq_1, chC.eq_2, lc0.eq_2, lc0.eq_3, lcA.eq_1, lcA.eq_2, augA.eq_1, augB.eq_1, augB.eq_3, augB.eq_4, appA.eq_1, appB.eq_1, appB.eq_2, appB.eq_3, putA.eq_1, putA.eq_2, putA.eq_3, putA2.eq_1, putA2.eq_2, putB.eq_1, putC.eq_1, putD.eq_1, pixA.eq_1, pixA2.eq_1, pixB.eq_1, tryA.eq_1, tryB.eq_1, tryB.eq_2, tryB.eq_3, noEr.eq_1, repA.eq_1, repA2.eq_1, repA2.eq_2, repB.eq_1, rdT.eq_1, rdT.eq_2, toV.eq_1, toV.eq_2, toV.eq_3, toV.eq_4, toV.eq_5, toV.eq_6, ofV.eq_1, ofV.eq_2, ofV.eq_4, ofV.eq_5, tOf.eq_1, tOf.eq_2, isL.eq_1, getE.eq_1, getT.eq_1, getT.eq_2, getT.eq_3, setE.eq_1, setT.eq_1, setT.eq_2, setT.eq_3, T.data.eq_1, T.data.eq_2, finW.eq_1, finW.eq_2, finW.eq_3, finW.eq_4, finW.eq_6, fin.eq_1, fin.eq_2, fin.eq_3, tgS.eq_1, wipeE.eq_1, wipeE.eq_2, fAdd.eq_1, fAdd.eq_2, fI2.eq_1, fB2.eq_1, fU.eq_1, fLen.eq_1, fLen.eq_2, fLen.eq_3, fIx.eq_1, fIx.eq_2, fIx.eq_3, fIsN.eq_1, fNotN.eq_1, isNone.eq_1, fInt.eq_1, fInt.eq_2, fInt.eq_3, fLs.eq_1, fLs.eq_2, fTp.eq_1, fTp.eq_2, fSlP.eq_3, wOf_l, wOf_o, tryA_nx, tryA_rt, tryA_bk, tryA_ct, noEr_nx, noEr_rt, noEr_bk, noEr_ct, isNone_i, isNone_b, isNone_s, isNone_l, isNone_t, iL_app, iL_len, iL_rep, iL_rev, allD_iL, dataL_iL, q_int, q_t, q_l, n_t, n_l, n_int, q_self, n_self, s_to, s_from, s_mid, sl_to, sl_from, sl_mid, add_t, add_l, cat_l, isi_t, isi_b, isi_i, isi_l, isi_s, at_0, at_1, at_2, at_3, at_4, at_5, at_6, ai_0, ai_1, ai_2, ai_3, ai_4, ai_5, ai_6, tgN_a, tgT_a, apd_ok, lc_ok, rg1_ok, rg2_ok, iL_snoc, iL_mapd, lc_const, rngD_len, iL_take, iL_drop, Int.toNat_natCast, dataL_nil, dataL_cons, allD.eq_1, allD.eq_2, ixN_ok, rep_l, tgS_nil, rep_none, rep_none0, List.take_left, List.drop_left, any_false, all_true, eq_self, set_iL, at_last, List.drop_succ_cons, List.drop_zero, List.take_succ_cons, List.take_zero, List.getLast?_cons_cons, List.getLast?_singleton, Int.cast_ofNat_Int, rg3_ok, rngC_len, fRv_l, b__law_read_right, m1, e1, e2, hq, tbt]
      · have e1 : (1 ≤ (row.length : Int)) = False := by apply eq_false; omega
        simp (disch := (first | with_reducible assumption | omega | (simp only [iL_len, rngD_len, rngC_len, List.length_append, List.length_replicate, List.length_cons, List.length_nil, List.length_map, List.length_take, List.length_drop, List.length_range, SZ] <;> omega) | (simp only [iL_len, rngD_len, rngC_len, List.length_append, List.length_replicate, List.length_cons, List.length_nil, List.length_map, List.length_take, List.length_drop, List.length_range, SZ] at * <;> omega) | fail)) only [↓x_seq, ↓x_nil, ↓x_if, ↓x_set, ↓x_setV, ↓x_asg, ↓x_exp, ↓x_ret, ↓x_retV, ↓x_retN, ↓x_brk, ↓x_cnt, ↓x_for, ↓x_bdy, ↓x_C, ↓x_var, ↓x_dvar, ↓x_v1, ↓x_v2, ↓x_d1L, ↓x_d2L, ↓x_and, ↓x_or, ↓x_not, ↓x_ifx, ↓x_args0, ↓x_args1, ↓x_tup, ↓x_lst, ↓x_call, ↓x_vD, ↓x_dV, ↓x_slP, ↓x_opt0, ↓x_opt1, ↓x_iP, ↓x_rg1, ↓x_rg2, ↓x_rg3, ↓x_en, ↓x_zp, ↓x_rv, ↓x_ch, ↓x_lc, ↓x_aug, ↓x_app, ↓x_put, ↓x_pix, ↓x_try, ↓x_rep, ↓x_raise0, y_sq, y_sif, y_retV, y_setV, y_toV, y_ofV, y_orw, y_and, y_or, y_not, y_v1, y_v2a, y_v2b, y_finW, y_calB, sq_nx, sq_rt, sq_bk, sq_ct, sq_er, sq_no, dataL_d, allD_d, fnD, SZ, List.getElem?_cons_zero, List.getElem?_cons_succ, List.getElem?_nil, List.set_cons_zero, List.set_cons_succ, List.map_cons, List.map_nil, List.length_cons, List.length_nil, List.length_map, List.length_append, List.cons_append, List.nil_append, List.append_nil, Nat.reduceAdd, Nat.reduceSub, Nat.zero_add, Nat.add_zero, Option.map_some, Option.map_none, Option.getD_some, Option.getD_none, Bool.false_eq_true, Bool.true_eq_false, Bool.and_false, Bool.false_and, Bool.and_true, Bool.true_and, Bool.or_false, Bool.false_or, Bool.or_true, Bool.true_or, Bool.not_true, Bool.not_false, if_true, if_false, ite_true, ite_false, decide_eq_true_eq, Bool.and_eq_true, Bool.or_eq_true, Bool.not_eq_true', decide_eq_false_iff_not, decide_true, decide_false, true_and, and_true, reduceCtorEq, Int.reduceNeg, Int.reduceLT, Int.reduceLE, Int.reduceToNat, Nat.reduceLeDiff, Int.reduceAbs, Int.reduceSub, Int.reduceAdd, Int.reduceMul, Int.reduceEq, Nat.reduceMul, Nat.reduceEqDiff, Nat.reduceLT, Nat.reducePow, Int.reducePow, ↓reduceIte, ite_not, sif.eq_1, sif.eq_3, sif.eq_4, andA.eq_1, andA.eq_3, andA.eq_4, orA.eq_1, orA.eq_3, orA.eq_4, notA.eq_1, notA.eq_3, notA.eq_4, ifA.eq_1, ifA.eq_3, ifA.eq_4, orw.eq_1, orw.eq_2, orw.eq_3, v1r.eq_1, v1r.eq_2, v1a.eq_1, v1a.eq_2, v1a.eq_3, v2a.eq_1, v2a.eq_2, v2a.eq_3, v2b.eq_1, v2b.eq_2, v2b.eq_3, dlr.eq_1, dlr.eq_2, d1a.eq_1, d1a.eq_2, d1a.eq_3, d2a.eq_1, d2a.eq_2, d2a.eq_3, d2b.eq_1, d2b.eq_2, d2b.eq_3, ar1.eq_1, ar1.eq_2, ar1.eq_3, ar1.eq_4, ar2.eq_1, ar2.eq_2, ar2.eq_3, tupA.eq_1, tupA.eq_2, tupA.eq_3, lstA.eq_1, lstA.eq_2, lstA.eq_3, calA.eq_1, calA.eq_2, calA.eq_3, calB.eq_1, calB.eq_2, calB.eq_3, wOf.eq_1, varV.eq_1, varR.eq_1, varR.eq_2, varD.eq_1, setA.eq_1, setA.eq_2, setA.eq_4, setA.eq_5, setVA.eq_1, setVA.eq_2, setVA.eq_3, setVA.eq_4, asgA.eq_1, asgA.eq_2, asgA.eq_3, asgA.eq_4, asgB.eq_1, asgB.eq_2, expA.eq_1, expA.eq_2, expA.eq_3, retA.eq_1, retA.eq_2, retA.eq_3, retVA.eq_1, retVA.eq_2, retVA.eq_3, retVA.eq_4, forA.eq_1, forA.eq_2, forA.eq_3, sl0.eq_1, sl0.eq_2, sl0.eq_3, sl1.eq_1, sl1.eq_2, sl2.eq_1, sl2.eq_2, sl3.eq_1, sl3.eq_2, optA.eq_1, bdyA.eq_1, bdyA.eq_2, iPA.eq_1, iPA.eq_2, iPA.eq_3, iPA.eq_5, iPA.eq_6, rg1A.eq_3, rg1A.eq_4, rg2A.eq_3, rg2A.eq_4, rg3A.eq_3, rg3A.eq_4, enA.eq_1, enA.eq_3, enA.eq_4, zpA.eq_1, zpA.eq_3, zpA.eq_4, rvA.eq_1, rvA.eq_3, rvA.eq_4, ch1.eq_1, ch1.eq_2, ch1.eq_3, ch2.eq_1, ch2.eq_2, ch2.eq_3, chA.eq_1, chB.eq_1, chB.eq_2, chB.eq_3, chC.eq_1, chC.eq_2, lc0.eq_2, lc0.eq_3, lcA.eq_1, lcA.eq_2, augA.eq_1, augB.eq_1, augB.eq_3, augB.eq_4, appA.eq_1, appB.eq_1, appB.eq_2, appB.eq_3, putA.eq_1, putA.eq_2, putA.eq_3, putA2.eq_1, putA2.eq_2, putB.eq_1, putC.eq_1, putD.eq_1, pixA.eq_1, pixA2.eq_1, pixB.eq_1, tryA.eq_1, tryB.eq_1, tryB.eq_2, tryB.eq_3, noEr.eq_1, repA.eq_1, repA2.eq_1, repA2.eq_2, repB.eq_1, rdT.eq_1, rdT.eq_2, toV.eq_1, toV.eq_2, toV.eq_3, toV.eq_4, toV.eq_5, toV.eq_6, ofV.eq_1, ofV.eq_2, ofV.eq_4, ofV.eq_5, tOf.eq_1, tOf.eq_2, isL.eq_1, getE.eq_1, getT.eq_1, getT.eq_2, getT.eq_3, setE.eq_1, setT.eq_1, setT.eq_2, setT.eq_3, T.data.eq_1, T.data.eq_2, finW.eq_1, finW.eq_2, finW.eq_3, finW.eq_4, finW.eq_6, fin.eq_1, fin.eq_2, fin.eq_3, tgS.eq_1, wipeE.eq_1, wipeE.eq_2, fAdd.eq_1, fAdd.eq_2, fI2.eq_1, fB2.eq_1, fU.eq_1, fLen.eq_1, fLen.eq_2, fLen.eq_3, fIx.eq_1, fIx.eq_2, fIx.eq_3, fIsN.eq_1, fNotN.eq_1, isNone.eq_1, fInt.eq_1, fInt.eq_2, fInt.eq_3, fLs.eq_1, fLs.eq_2, fTp.eq_1, fTp.eq_2, fSlP.eq_3, wOf_l, wOf_o, tryA_nx, tryA_rt, tryA_bk, tryA_ct, noEr_nx, noEr_rt, noEr_bk, noEr_ct, isNone_i, isNone_b, isNone_s, isNone_l, isNone_t, iL_app, iL_len, iL_rep, iL_rev, allD_iL, dataL_iL, q_int, q_t, q_l, n_t, n_l, n_int, q_self, n_self, s_to, s_from, s_mid, sl_to, sl_from, sl_mid, add_t, add_l, cat_l, isi_t, isi_b, isi_i, isi_l, isi_s, at_0, at_1, at_2, at_3, at_4, at_5, at_6, ai_0, ai_1, ai_2, ai_3, ai_4, ai_5, ai_6, tgN_a, tgT_a, apd_ok, lc_ok, rg1_ok, rg2_ok, iL_snoc, iL_mapd, lc_const, rngD_len, iL_take, iL_drop, Int.toNat_natCast, dataL_nil, dataL_cons, allD.eq_1, allD.eq_2, ixN_ok, rep_l, tgS_nil, rep_none, rep_none0, List.take_left, List.drop_left, any_false, all_true, eq_self, set_iL, at_last, List.drop_succ_cons, List.drop_zero, List.take_succ_cons, List.take_zero, List.getLast?_cons_cons, List.getLast?_singleton, Int.cast_ofNat_Int, rg3_ok, rngC_len, fRv_l, b__law_read_right, m1, e1, hq, tbt]
theorem spoilt_ok (row : List Int) (v : Int) (hv : 0 ≤ v) (h0 : 0 < row.length) (hl : row.length < 10000) : ∃ O : List Int, O.length < 50000 ∧ f__law_spoilt [.d (.list (iL row)), .d (.int v)] = .rt (.d (.list (iL O))) [.d (.list (iL row)), .d (.int v)] := by
  obtain ⟨a, ha⟩ := Int.eq_ofNat_of_zero_le (Int.emod_nonneg (v / 6) (show (row.length : Int) ≠ 0 by omega))
  have ha2 : a < row.length := by
    have := Int.emod_lt_of_pos (v / 6) (show 0 < (row.length : Int) by omega)
    omega
  have q0 : decide (0 < (row.length : Int)) = true := decide_eq_true (by omega)
  have hx : atI (iL row) (a : Int) = some (.int (row.getD a 0)) := by rw [at_g (by omega) (by omega), Int.toNat_natCast]
  have z1 : ((a : Int) + 1).toNat = a + 1 := by omega
  have z2 : 0 ≤ (a : Int) + 1 := by omega
  generalize hoc : ([0, 1, 7, 8, 128, 255, (row.getD a 0 + 1) % 256, v / 97 % 256].getD (v / 48 % 8).toNat 0) = oc
  have hk : ∀ x1 x2 x3, lcG (tgN 5) (vC (.bool true)) (v2 fMod (v2 fAdd (vVar 3) (v2 fMul (vVar 5) (vVar 2))) (vC (.int 256))) [x1, x2, some (.d (.int a)), some (.d (.int oc)), x3, none] (iL ((List.range (v / 18 % 9).toNat).map fun k => (0 : Int) + (k : Nat))) = some (iL (((List.range (v / 18 % 9).toNat).map fun k => (0 : Int) + (k : Nat)).map fun k => (oc + k * a) % 256)) := fun x1 x2 x3 => lc_ints _ (fun k hk => ⟨[x1, x2, some (.d (.int a)), some (.d (.int oc)), x3, some (.d (.int k))], by
    obtain ⟨n, hn, rfl⟩ := List.mem_map.mp hk
    have hn2 : n < (v / 18 % 9).toNat := by simpa using hn
    have q3 : decide (-18446744073709551616 < (0 : Int) + (n : Nat)) = true := decide_eq_true (by omega)
    have q4 : decide ((0 : Int) + (n : Nat) < 18446744073709551616) = true := decide_eq_true (by omega)
    simp (disch := (first | with_reducible assumption | omega | (simp only [iL_len, rngD_len, rngC_len, List.length_append, List.length_replicate, List.length_cons, List.length_nil, List.length_map, List.length_take, List.length_drop, List.length_range, SZ] <;> omega) | (simp only [iL_len, rngD_len, rngC_len, List.length_append, List.length_replicate, List.length_cons, List.length_nil, List.length_map, List.length_take, List.length_drop, List.length_range, SZ] at * <;> omega) | fail)) only [↓x_seq, ↓x_nil, ↓x_if, ↓x_set, ↓x_setV, ↓x_asg, ↓x_exp, ↓x_ret, ↓x_retV, ↓x_retN, ↓x_brk, ↓x_cnt, ↓x_for, ↓x_bdy, ↓x_C, ↓x_var, ↓x_dvar, ↓x_v1, ↓x_v2, ↓x_d1L, ↓x_d2L, ↓x_and, ↓x_or, ↓x_not, ↓x_ifx, ↓x_args0, ↓x_args1, ↓x_tup, ↓x_lst, ↓x_call, ↓x_vD, ↓x_dV, ↓x_slP, ↓x_opt0, ↓x_opt1, ↓x_iP, ↓x_rg1, ↓x_rg2, ↓x_rg3, ↓x_en, ↓x_zp, ↓x_rv, ↓x_ch, ↓x_lc, ↓x_aug, ↓x_app, ↓x_put, ↓x_pix, ↓x_try, ↓x_rep, ↓x_raise0, y_sq, y_sif, y_retV, y_setV, y_toV, y_ofV, y_orw, y_and, y_or, y_not, y_v1, y_v2a, y_v2b, y_finW, y_calB, sq_nx, sq_rt, sq_bk, sq_ct, sq_er, sq_no, dataL_d, allD_d, fnD, SZ, List.getElem?_cons_zero, List.getElem?_cons_succ, List.getElem?_nil, List.set_cons_zero, List.set_cons_succ, List.map_cons, List.map_nil, List.length_cons, List.length_nil, List.length_map, List.length_append, List.cons_append, List.nil_append, List.append_nil, Nat.reduceAdd, Nat.reduceSub, Nat.zero_add, Nat.add_zero, Option.map_some, Option.map_none, Option.getD_some, Option.getD_none, Bool.false_eq_true, Bool.true_eq_false, Bool.and_false, Bool.false_and, Bool.and_true, Bool.true_and, Bool.or_false, Bool.false_or, Bool.or_true, Bool.true_or, Bool.not_true, Bool.not_false, if_true, if_false, ite_true, ite_false, decide_eq_true_eq, Bool.and_eq_true, Bool.or_eq_true, Bool.not_eq_true', decide_eq_false_iff_not, decide_true, decide_false, true_and, and_true, reduceCtorEq, Int.reduceNeg, Int.reduceLT, Int.reduceLE, Int.reduceToNat, Nat.reduceLeDiff, Int.reduceAbs, Int.reduceSub, Int.reduceAdd, Int.reduceMul, Int.reduceEq, Nat.reduceMul, Nat.reduceEqDiff, Nat.reduceLT, Nat.reducePow, Int.reducePow, ↓reduceIte, ite_not, sif.eq_1, sif.eq_3, sif.eq_4, andA.eq_1, andA.eq_3, andA.eq_4, orA.eq_1, orA.eq_3, orA.eq_4, notA.eq_1, notA.eq_3, notA.eq_4, ifA.eq_1, ifA.eq_3, ifA.eq_4, orw.eq_1, orw.eq_2, orw.eq_3, v1r.eq_1, v1r.eq_2, v1a.eq_1, v1a.eq_2, v1a.eq_3, v2a.eq_1, v2a.eq_2, v2a.eq_3, v2b.eq_1, v2b.eq_2, v2b.eq_3, dlr.eq_1, dlr.eq_2, d1a.eq_1, d1a.eq_2, d1a.eq_3, d2a.eq_1, d2a.eq_2, d2a.eq_3, d2b.eq_1, d2b.eq_2, d2b.eq_3, ar1.eq_1, ar1.eq_2, ar1.eq_3, ar1.eq_4, ar2.eq_1, ar2.eq_2, ar2.eq_3, tupA.eq_1, tupA.eq_2, tupA.eq_3, lstA.eq_1, lstA.eq_2, lstA.eq_3, calA.eq_1, calA.eq_2, calA.eq_3, calB.eq_1, calB.eq_2, calB.eq_3, wOf.eq_1, varV.eq_1, varR.eq_1, varR.eq_2, varD.eq_1, setA.eq_1, setA.eq_2, setA.eq_4, setA.eq_5, setVA.eq_1, setVA.eq_2, setVA.eq_3, setVA.eq_4, asgA.eq_1, asgA.eq_2, asgA.eq_3, asgA.eq_4, asgB.eq_1, asgB.eq_2, expA.eq_1, expA.eq_2, expA.eq_3, retA.eq_1, retA.eq_2, retA.eq_3, retVA.eq_1, retVA.eq_2, retVA.eq_3, retVA.eq_4, forA.eq_1, forA.eq_2, forA.eq_3, sl0.eq_1, sl0.eq_2, sl0.eq_3, sl1.eq_1, sl1.eq_2, sl2.eq_1, sl2.eq_2, sl3.eq_1, sl3.eq_2, optA.eq_1, bdyA.eq_1, bdyA.eq_2, iPA.eq_1, iPA.eq_2, iPA.eq_3, iPA.eq_5, iPA.eq_6, rg1A.eq_3, rg1A.eq_4, rg2A.eq_3, rg2A.eq_4, rg3A.eq_3, rg3A.eq_4, enA.eq_1, enA.eq_3, enA.eq_4, zpA.eq_1, zpA.eq_3, zpA.eq_4, rvA.eq_1, rvA.eq_3, rvA.eq_4, ch1.eq_1, ch1.eq_2, ch1.eq_3, ch2.eq_1, ch2.eq_2, ch2.eq_3, chA.eq_1, chB.eq_1, chB.eq_2, chB.eq_3, chC.eq_1, chC.eq_2, lc0.eq_2, lc0.eq_3, lcA.eq_1, lcA.eq_2, augA.eq_1, augB.eq_1, augB.eq_3, augB.eq_4, appA.eq_1, appB.eq_1, appB.eq_2, appB.eq_3, putA.eq_1, putA.eq_2, putA.eq_3, putA2.eq_1, putA2.eq_2, putB.eq_1, putC.eq_1, putD.eq_1, pixA.eq_1, pixA2.eq_1, pixB.eq_1, tryA.eq_1, tryB.eq_1, tryB.eq_2, tryB.eq_3, noEr.eq_1, repA.eq_1, repA2.eq_1, repA2.eq_2, repB.eq_1, rdT.eq_1, rdT.eq_2, toV.eq_1, toV.eq_2, toV.eq_3, toV.eq_4, toV.eq_5, toV.eq_6, ofV.eq_1, ofV.eq_2, ofV.eq_4, ofV.eq_5, tOf.eq_1, tOf.eq_2, isL.eq_1, getE.eq_1, getT.eq_1, getT.eq_2, getT.eq_3, setE.eq_1, setT.eq_1, setT.eq_2, setT.eq_3, T.data.eq_1, T.data.eq_2, finW.eq_1, finW.eq_2, finW.eq_3, finW.eq_4, finW.eq_6, fin.eq_1, fin.eq_2, fin.eq_3, tgS.eq_1, wipeE.eq_1, wipeE.eq_2, fAdd.eq_1, fAdd.eq_2, fI2.eq_1, fB2.eq_1, fU.eq_1, fLen.eq_1, fLen.eq_2, fLen.eq_3, fIx.eq_1, fIx.eq_2, fIx.eq_3, fIsN.eq_1, fNotN.eq_1, isNone.eq_1, fInt.eq_1, fInt.eq_2, fInt.eq_3, fLs.eq_1, fLs.eq_2, fTp.eq_1, fTp.eq_2, fSlP.eq_3, wOf_l, wOf_o, tryA_nx, tryA_rt, tryA_bk, tryA_ct, noEr_nx, noEr_rt, noEr_bk, noEr_ct, isNone_i, isNone_b, isNone_s, isNone_l, isNone_t, iL_app, iL_len, iL_rep, iL_rev, allD_iL, dataL_iL, q_int, q_t, q_l, n_t, n_l, n_int, q_self, n_self, s_to, s_from, s_mid, sl_to, sl_from, sl_mid, add_t, add_l, cat_l, isi_t, isi_b, isi_i, isi_l, isi_s, at_0, at_1, at_2, at_3, at_4, at_5, at_6, ai_0, ai_1, ai_2, ai_3, ai_4, ai_5, ai_6, tgN_a, tgT_a, apd_ok, lc_ok, rg1_ok, rg2_ok, iL_snoc, iL_mapd, lc_const, rngD_len, iL_take, iL_drop, Int.toNat_natCast, dataL_nil, dataL_cons, allD.eq_1, allD.eq_2, ixN_ok, rep_l, tgS_nil, rep_none, rep_none0, List.take_left, List.drop_left, any_false, all_true, eq_self, set_iL, at_last, List.drop_succ_cons, List.drop_zero, List.take_succ_cons, List.take_zero, List.getLast?_cons_cons, List.getLast?_singleton, Int.cast_ofNat_Int, rg3_ok, rngC_len, fRv_l, q3, q4]⟩)
  rcases (by omega : v % 6 = 0 ∨ v % 6 = 1 ∨ v % 6 = 2 ∨ v % 6 = 3 ∨ v % 6 = 4 ∨ v % 6 = 5) with c | c | c | c | c | c
  · refine ⟨row.take a ++ [oc] ++ row.drop (a + 1), by simp; omega, ?_⟩
    unfold f__law_spoilt
    simp (disch := (first | with_reducible assumption | omega | (simp only [iL_len, rngD_len, rngC_len, List.length_append, List.length_replicate, List.length_cons, List.length_nil, List.length_map, List.length_take, List.length_drop, List.length_range, SZ] <;> omega) | (simp only [iL_len, rngD_len, rngC_len, List.length_append, List.length_replicate, List.length_cons, List.length_nil, List.length_map, List.length_take, List.length_drop, List.length_range, SZ] at * <;> omega) | fail)) only [↓x_seq, ↓x_nil, ↓x_if, ↓x_set, ↓x_setV, ↓x_asg, ↓x_exp, ↓x_ret, ↓x_retV, ↓x_retN, ↓x_brk, ↓x_cnt, ↓x_for, ↓x_bdy, ↓x_C, ↓x_var, ↓x_dvar, ↓x_v1, ↓x_v2, ↓x_d1L, ↓x_d2L, ↓x_and, ↓x_or, ↓x_not, ↓x_ifx, ↓x_args0, ↓x_args1, ↓x_tup, ↓x_lst, ↓x_call, ↓x_vD, ↓x_dV, ↓x_slP, ↓x_opt0, ↓x_opt1, ↓x_iP, ↓x_rg1, ↓x_rg2, ↓x_rg3, ↓x_en, ↓x_zp, ↓x_rv, ↓x_ch, ↓x_lc, ↓x_aug, ↓x_app, ↓x_put, ↓x_pix, ↓x_try, ↓x_rep, ↓x_raise0, y_sq, y_sif, y_retV, y_setV, y_toV, y_ofV, y_orw, y_and, y_or, y_not, y_v1, y_v2a, y_v2b, y_finW, y_calB, sq_nx, sq_rt, sq_bk, sq_ct, sq_er, sq_no, dataL_d, allD_d, fnD, SZ, List.getElem?_cons_zero, List.getElem?_cons_succ, List.getElem?_nil, List.set_cons_zero, List.set_cons_succ, List.map_cons, List.map_nil, List.length_cons, List.length_nil, List.length_map, List.length_append, List.cons_append, List.nil_append, List.append_nil, Nat.reduceAdd, Nat.reduceSub, Nat.zero_add, Nat.add_zero, Option.map_some, Option.map_none, Option.getD_some, Option.getD_none, Bool.false_eq_true, Bool.true_eq_false, Bool.and_false, Bool.false_and, Bool.and_true, Bool.true_and, Bool.or_false, Bool.false_or, Bool.or_true, Bool.true_or, Bool.not_true, Bool.not_false, if_true, if_false, ite_true, ite_false, decide_eq_true_eq, Bool.and_eq_true, Bool.or_eq_true, Bool.not_eq_true', decide_eq_false_iff_not, decide_true, decide_false, true_and, and_true, reduceCtorEq, Int.reduceNeg, Int.reduceLT, Int.reduceLE, Int.reduceToNat, Nat.reduceLeDiff, Int.reduceAbs, Int.reduceSub, Int.reduceAdd, Int.reduceMul, Int.reduceEq, Nat.reduceMul, Nat.reduceEqDiff, Nat.reduceLT, Nat.reducePow, Int.reducePow, ↓reduceIte, ite_not, sif.eq_1, sif.eq_3, sif.eq_4, andA.eq_1, andA.eq_3, andA.eq_4, orA.eq_1, orA.eq_3, orA.eq_4, notA.eq_1, notA.eq_3, notA.eq_4, ifA.eq_1, ifA.eq_3, ifA.eq_4, orw.eq_1, orw.eq_2, orw.eq_3, v1r.eq_1, v1r.eq_2, v1a.eq_1, v1a.eq_2, v1a.eq_3, v2a.eq_1, v2a.eq_2, v2a.eq_3, v2b.eq_1, v2b.eq_2, v2b.eq_3, dlr.eq_1, dlr.eq_2, d1a.eq_1, d1a.eq_2, d1a.eq_3, d2a.eq_1, d2a.eq_2, d2a.eq_3, d2b.eq_1, d2b.eq_2, d2b.eq_3, ar1.eq_1, ar1.eq_2, ar1.eq_3, ar1.eq_4, ar2.eq_1, ar2.eq_2, ar2.eq_3, tupA.eq_1, tupA.eq_2, tupA.eq_3, lstA.eq_1, lstA.eq_2, lstA.eq_3, calA.eq_1, calA.eq_2, calA.eq_3, calB.eq_1, calB.eq_2, calB.eq_3, wOf.eq_1, varV.eq_1, varR.eq_1, varR.eq_2, varD.eq_1, setA.eq_1, setA.eq_2, setA.eq_4, setA.eq_5, setVA.eq_1, setVA.eq_2, setVA.eq_3, setVA.eq_4, asgA.eq_1, asgA.eq_2, asgA.eq_3, asgA.eq_4, asgB.eq_1, asgB.eq_2, expA.eq_1, expA.eq_2, expA.eq_3, retA.eq_1, retA.eq_2, retA.eq_3, retVA.eq_1, retVA.eq_2, retVA.eq_3, retVA.eq_4, forA.eq_1, forA.eq_2, forA.eq_3, sl0.eq_1, sl0.eq_2, sl0.eq_3, sl1.eq_1, sl1.eq_2, sl2.eq_1, sl2.eq_2, sl3.eq_1, sl3.eq_2, optA.eq_1, bdyA.eq_1, bdyA.eq_2, iPA.eq_1, iPA.eq_2, iPA.eq_3, iPA.eq_5, iPA.eq_6, rg1A.eq_3, rg1A.eq_4, rg2A.eq_3, rg2A.eq_4, rg3A.eq_3, rg3A.eq_4, enA.eq_1, enA.eq_3, enA.eq_4, zpA.eq_1, zpA.eq_3, zpA.eq_4, rvA.eq_1, rvA.eq_3, rvA.eq_4, ch1.eq_1, ch1.eq_2, ch1.eq_3, ch2.eq_1, ch2.eq_2, ch2.eq_3, chA.eq_1, chB.eq_1, chB.eq_2, chB.eq_3, chC.eq_1, chC.eq_2, lc0.eq_2, lc0.eq_3, lcA.eq_1, lcA.eq_2, augA.eq_1, augB.eq_1, augB.eq_3, augB.eq_4, appA.eq_1, appB.eq_1, appB.eq_2, appB.eq_3, putA.eq_1, putA.eq_2, putA.eq_3, putA2.eq_1, putA2.eq_2, putB.eq_1, putC.eq_1, putD.eq_1, pixA.eq_1, pixA2.eq_1, pixB.eq_1, tryA.eq_1, tryB.eq_1, tryB.eq_2, tryB.eq_3, noEr.eq_1, repA.eq_1, repA2.eq_1, repA2.eq_2, repB.eq_1, rdT.eq_1, rdT.eq_2, toV.eq_1, toV.eq_2, toV.eq_3, toV.eq_4, toV.eq_5, toV.eq_6, ofV.eq_1, ofV.eq_2, ofV.eq_4, ofV.eq_5, tOf.eq_1, tOf.eq_2, isL.eq_1, getE.eq_1, getT.eq_1, getT.eq_2, getT.eq_3, setE.eq_1, setT.eq_1, setT.eq_2, setT.eq_3, T.data.eq_1, T.data.eq_2, finW.eq_1, finW.eq_2, finW.eq_3, finW.eq_4, finW.eq_6, fin.eq_1, fin.eq_2, fin.eq_3, tgS.eq_1, wipeE.eq_1, wipeE.eq_2, fAdd.eq_1, fAdd.eq_2, fI2.eq_1, fB2.eq_1, fU.eq_1, fLen.eq_1, fLen.eq_2, fLen.eq_3, fIx.eq_1, fIx.eq_2, fIx.eq_3, fIsN.eq_1, fNotN.eq_1, isNone.eq_1, fInt.eq_1, fInt.eq_2, fInt.eq_3, fLs.eq_1, fLs.eq_2, fTp.eq_1, fTp.eq_2, fSlP.eq_3, wOf_l, wOf_o, tryA_nx, tryA_rt, tryA_bk, tryA_ct, noEr_nx, noEr_rt, noEr_bk, noEr_ct, isNone_i, isNone_b, isNone_s, isNone_l, isNone_t, iL_app, iL_len, iL_rep, iL_rev, allD_iL, dataL_iL, q_int, q_t, q_l, n_t, n_l, n_int, q_self, n_self, s_to, s_from, s_mid, sl_to, sl_from, sl_mid, add_t, add_l, cat_l, isi_t, isi_b, isi_i, isi_l, isi_s, at_0, at_1, at_2, at_3, at_4, at_5, at_6, ai_0, ai_1, ai_2, ai_3, ai_4, ai_5, ai_6, tgN_a, tgT_a, apd_ok, lc_ok, rg1_ok, rg2_ok, iL_snoc, iL_mapd, lc_const, rngD_len, iL_take, iL_drop, Int.toNat_natCast, dataL_nil, dataL_cons, allD.eq_1, allD.eq_2, ixN_ok, rep_l, tgS_nil, rep_none, rep_none0, List.take_left, List.drop_left, any_false, all_true, eq_self, set_iL, at_last, List.drop_succ_cons, List.drop_zero, List.take_succ_cons, List.take_zero, List.getLast?_cons_cons, List.getLast?_singleton, Int.cast_ofNat_Int, rg3_ok, rngC_len, fRv_l, b__law_spoilt, ha, q0, hx, ll8, ll1, at_g, hoc, c, z1]
  · refine ⟨row.take a ++ [oc] ++ row.drop (a + 1), by simp; omega, ?_⟩
    unfold f__law_spoilt
    simp (disch := (first | with_reducible assumption | omega | (simp only [iL_len, rngD_len, rngC_len, List.length_append, List.length_replicate, List.length_cons, List.length_nil, List.length_map, List.length_take, List.length_drop, List.length_range, SZ] <;> omega) | (simp only [iL_len, rngD_len, rngC_len, List.length_append, List.length_replicate, List.length_cons, List.length_nil, List.length_map, List.length_take, List.length_drop, List.length_range, SZ] at * <;> omega) | fail)) only [↓x_seq, ↓x_nil, ↓x_if, ↓x_set, ↓x_setV, ↓x_asg, ↓x_exp, ↓x_ret, ↓x_retV, ↓x_retN, ↓x_brk, ↓x_cnt, ↓x_for, ↓x_bdy, ↓x_C, ↓x_var, ↓x_dvar, ↓x_v1, ↓x_v2, ↓x_d1L, ↓x_d2L, ↓x_and, ↓x_or, ↓x_not, ↓x_ifx, ↓x_args0, ↓x_args1, ↓x_tup, ↓x_lst, ↓x_call, ↓x_vD, ↓x_dV, ↓x_slP, ↓x_opt0, ↓x_opt1, ↓x_iP, ↓x_rg1, ↓x_rg2, ↓x_rg3, ↓x_en, ↓x_zp, ↓x_rv, ↓x_ch, ↓x_lc, ↓x_aug, ↓x_app, ↓x_put, ↓x_pix, ↓x_try, ↓x_rep, ↓x_raise0, y_sq, y_sif, y_retV, y_setV, y_toV, y_ofV, y_orw, y_and, y_or, y_not, y_v1, y_v2a, y_v2b, y_finW, y_calB, sq_nx, sq_rt, sq_bk, sq_ct, sq_er, sq_no, dataL_d, allD_d, fnD, SZ, List.getElem?_cons_zero, List.getElem?_cons_succ, List.getElem?_nil, List.set_cons_zero, List.set_cons_succ, List.map_cons, List.map_nil, List.length_cons, List.length_nil, List.length_map, List.length_append, List.cons_append, List.nil_append, List.append_nil, Nat.reduceAdd, Nat.reduceSub, Nat.zero_add, Nat.add_zero, Option.map_some, Option.map_none, Option.getD_some, Option.getD_none, Bool.false_eq_true, Bool.true_eq_false, Bool.and_false, Bool.false_and, Bool.and_true, Bool.true_and, Bool.or_false, Bool.false_or, Bool.or_true, Bool.true_or, Bool.not_true, Bool.not_false, if_true, if_false, ite_true, ite_false, decide_eq_true_eq, Bool.and_eq_true, Bool.or_eq_true, Bool.not_eq_true', decide_eq_false_iff_not, decide_true, decide_false, true_and, and_true, reduceCtorEq, Int.reduceNeg, Int.reduceLT, Int.reduceLE, Int.reduceToNat, Nat.reduceLeDiff, Int.reduceAbs, Int.reduceSub, Int.reduceAdd, Int.reduceMul, Int.reduceEq, Nat.reduceMul, Nat.reduceEqDiff, Nat.reduceLT, Nat.reducePow, Int.reducePow, ↓reduceIte, ite_not, sif.eq_1, sif.eq_3, sif.eq_4, andA.eq_1, andA.eq_3, andA.eq_4, orA.eq_1, orA.eq_3, orA.eq_4, notA.eq_1, notA.eq_3, notA.eq_4, ifA.eq_1, ifA.eq_3, ifA.eq_4, orw.eq_1, orw.eq_2, orw.eq_3, v1r.eq_1, v1r.eq_2, v1a.eq_1, v1a.eq_2, v1a.eq_3, v2a.eq_1, v2a.eq_2, v2a.eq_3, v2b.eq_1, v2b.eq_2, v2b.eq_3, dlr.eq_1, dlr.eq_2, d1a.eq_1, d1a.eq_2, d1a.eq_3, d2a.eq_1, d2a.eq_2, d2a.eq_3, d2b.eq_1, d2b.eq_2, d2b.eq_3, ar1.eq_1, ar1.eq_2, ar1.eq_3, ar1.eq_4, ar2.eq_1, ar2.eq_2, ar2.eq_3, tupA.eq_1, tupA.eq_2, tupA.eq_3, lstA.eq_1, lstA.eq_2, lstA.eq_3, calA.eq_1, calA.eq_2, calA.eq_3, calB.eq_1, calB.eq_2, calB.eq_3, wOf.eq_1, varV.eq_1, varR.eq_1, varR.eq_2, varD.eq_1, setA.eq_1, setA.eq_2, setA.eq_4, setA.eq_5, setVA.eq_1, setVA.eq_2, setVA.eq_3, setVA.eq_4, asgA.eq_1, asgA.eq_2, asgA.eq_3, asgA.eq_4, asgB.eq_1, asgB.eq_2, expA.eq_1, expA.eq_2, expA.eq_3, retA.eq_1, retA.eq_2, retA.eq_3, retVA.eq_1, retVA.eq_2, retVA.eq_3, retVA.eq_4, forA.eq_1, forA.eq_2, forA.eq_3, sl0.eq_1, sl0.eq_2, sl0.eq_3, sl1.eq_1, sl1.eq_2, sl2.eq_1, sl2.eq_2, sl3.eq_1, sl3.eq_2, optA.eq_1, bdyA.eq_1, bdyA.eq_2, iPA.eq_1, iPA.eq_2, iPA.eq_3, iPA.eq_5, iPA.eq_6, rg1A.eq_3, rg1A.eq_4, rg2A.eq_3, rg2A.eq_4, rg3A.eq_3, rg3A.eq_4, enA.eq_1, enA.eq_3, enA.eq_4, zpA.eq_1, zpA.eq_3, zpA.eq_4, rvA.eq_1, rvA.eq_3, rvA.eq_4, ch1.eq_1, ch1.eq_2, ch1.eq_3, ch2.eq_1, ch2.eq_2, ch2.eq_3, chA.eq_1, chB.eq_1, chB.eq_2, chB.eq_3, chC.eq_1, chC.eq_2, lc0.eq_2, lc0.eq_3, lcA.eq_1, lcA.eq_2, augA.eq_1, augB.eq_1, augB.eq_3, augB.eq_4, appA.eq_1, appB.eq_1, appB.eq_2, appB.eq_3, putA.eq_1, putA.eq_2, putA.eq_3, putA2.eq_1, putA2.eq_2, putB.eq_1, putC.eq_1, putD.eq_1, pixA.eq_1, pixA2.eq_1, pixB.eq_1, tryA.eq_1, tryB.eq_1, tryB.eq_2, tryB.eq_3, noEr.eq_1, repA.eq_1, repA2.eq_1, repA2.eq_2, repB.eq_1, rdT.eq_1, rdT.eq_2, toV.eq_1, toV.eq_2, toV.eq_3, toV.eq_4, toV.eq_5, toV.eq_6, ofV.eq_1, ofV.eq_2, ofV.eq_4, ofV.eq_5, tOf.eq_1, tOf.eq_2, isL.eq_1, getE.eq_1, getT.eq_1, getT.eq_2, getT.eq_3, setE.eq_1, setT.eq_1, setT.eq_2, setT.eq_3, T.data.eq_1, T.data.eq_2, finW.eq_1, finW.eq_2, finW.eq_3, finW.eq_4, finW.eq_6, fin.eq_1, fin.eq_2, fin.eq_3, tgS.eq_1, wipeE.eq_1, wipeE.eq_2, fAdd.eq_1, fAdd.eq_2, fI2.eq_1, fB2.eq_1, fU.eq_1, fLen.eq_1, fLen.eq_2, fLen.eq_3, fIx.eq_1, fIx.eq_2, fIx.eq_3, fIsN.eq_1, fNotN.eq_1, isNone.eq_1, fInt.eq_1, fInt.eq_2, fInt.eq_3, fLs.eq_1, fLs.eq_2, fTp.eq_1, fTp.eq_2, fSlP.eq_3, wOf_l, wOf_o, tryA_nx, tryA_rt, tryA_bk, tryA_ct, noEr_nx, noEr_rt, noEr_bk, noEr_ct, isNone_i, isNone_b, isNone_s, isNone_l, isNone_t, iL_app, iL_len, iL_rep, iL_rev, allD_iL, dataL_iL, q_int, q_t, q_l, n_t, n_l, n_int, q_self, n_self, s_to, s_from, s_mid, sl_to, sl_from, sl_mid, add_t, add_l, cat_l, isi_t, isi_b, isi_i, isi_l, isi_s, at_0, at_1, at_2, at_3, at_4, at_5, at_6, ai_0, ai_1, ai_2, ai_3, ai_4, ai_5, ai_6, tgN_a, tgT_a, apd_ok, lc_ok, rg1_ok, rg2_ok, iL_snoc, iL_mapd, lc_const, rngD_len, iL_take, iL_drop, Int.toNat_natCast, dataL_nil, dataL_cons, allD.eq_1, allD.eq_2, ixN_ok, rep_l, tgS_nil, rep_none, rep_none0, List.take_left, List.drop_left, any_false, all_true, eq_self, set_iL, at_last, List.drop_succ_cons, List.drop_zero, List.take_succ_cons, List.take_zero, List.getLast?_cons_cons, List.getLast?_singleton, Int.cast_ofNat_Int, rg3_ok, rngC_len, fRv_l, b__law_spoilt, ha, q0, hx, ll8, ll1, at_g, hoc, c, z1]
  · refine ⟨row.take a ++ row.drop (a + 1), by simp; omega, ?_⟩
    unfold f__law_spoilt
    simp (disch := (first | with_reducible assumption | omega | (simp only [iL_len, rngD_len, rngC_len, List.length_append, List.length_replicate, List.length_cons, List.length_nil, List.length_map, List.length_take, List.length_drop, List.length_range, SZ] <;> omega) | (simp only [iL_len, rngD_len, rngC_len, List.length_append, List.length_replicate, List.length_cons, List.length_nil, List.length_map, List.length_take, List.length_drop, List.length_range, SZ] at * <;> omega) | fail)) only [↓x_seq, ↓x_nil, ↓x_if, ↓x_set, ↓x_setV, ↓x_asg, ↓x_exp, ↓x_ret, ↓x_retV, ↓x_retN, ↓x_brk, ↓x_cnt, ↓x_for, ↓x_bdy, ↓x_C, ↓x_var, ↓x_dvar, ↓x_v1, ↓x_v2, ↓x_d1L, ↓x_d2L, ↓x_and, ↓x_or, ↓x_not, ↓x_ifx, ↓x_args0, ↓x_args1, ↓x_tup, ↓x_lst, ↓x_call, ↓x_vD, ↓x_dV, ↓x_slP, ↓x_opt0, ↓x_opt1, ↓x_iP, ↓x_rg1, ↓x_rg2, ↓x_rg3, ↓x_en, ↓x_zp, ↓x_rv, ↓x_ch, ↓x_lc, ↓x_aug, ↓x_app, ↓x_put, ↓x_pix, ↓x_try, ↓x_rep, ↓x_raise0, y_sq, y_sif, y_retV, y_setV, y_toV, y_ofV, y_orw, y_and, y_or, y_not, y_v1, y_v2a, y_v2b, y_finW, y_calB, sq_nx, sq_rt, sq_bk, sq_ct, sq_er, sq_no, dataL_d, allD_d, fnD, SZ, List.getElem?_cons_zero, List.getElem?_cons_succ, List.getElem?_nil, List.set_cons_zero, List.set_cons_succ, List.map_cons, List.map_nil, List.length_cons, List.length_nil, List.length_map, List.length_append, List.cons_append, List.nil_append, List.append_nil, Nat.reduceAdd, Nat.reduceSub, Nat.zero_add, Nat.add_zero, Option.map_some, Option.map_none, Option.getD_some, Option.getD_none, Bool.false_eq_true, Bool.true_eq_false, Bool.and_false, Bool.false_and, Bool.and_true, Bool.true_and, Bool.or_false, Bool.false_or, Bool.or_true, Bool.true_or, Bool.not_true, Bool.not_false, if_true, if_false, ite_true, ite_false, decide_eq_true_eq, Bool.and_eq_true, Bool.or_eq_true, Bool.not_eq_true', decide_eq_false_iff_not, decide_true, decide_false, true_and, and_true, reduceCtorEq, Int.reduceNeg, Int.reduceLT, Int.reduceLE, Int.reduceToNat, Nat.reduceLeDiff, Int.reduceAbs, Int.reduceSub, Int.reduceAdd, Int.reduceMul, Int.reduceEq, Nat.reduceMul, Nat.reduceEqDiff, Nat.reduceLT, Nat.reducePow, Int.reducePow, ↓reduceIte, ite_not, sif.eq_1, sif.eq_3, sif.eq_4, andA.eq_1, andA.eq_3, andA.eq_4, orA.eq_1, orA.eq_3, orA.eq_4, notA.eq_1, notA.eq_3, notA.eq_4, ifA.eq_1, ifA.eq_3, ifA.eq_4, orw.eq_1, orw.eq_2, orw.eq_3, v1r.eq_1, v1r.eq_2, v1a.eq_1, v1a.eq_2, v1a.eq_3, v2a.eq_1, v2a.eq_2, v2a.eq_3, v2b.eq_1, v2b.eq_2, v2b.eq_3, dlr.eq_1, dlr.eq_2, d1a.eq_1, d1a.eq_2, d1a.eq_3, d2a.eq_1, d2a.eq_2, d2a.eq_3, d2b.eq_1, d2b.eq_2, d2b.eq_3, ar1.eq_1, ar1.eq_2, ar1.eq_3, ar1.eq_4, ar2.eq_1, ar2.eq_2, ar2.eq_3, tupA.eq_1, tupA.eq_2, tupA.eq_3, lstA.eq_1, lstA.eq_2, lstA.eq_3, calA.eq_1, calA.eq_2, calA.eq_3, calB.eq_1, calB.eq_2, calB.eq_3, wOf.eq_1, varV.eq_1, varR.eq_1, varR.eq_2, varD.eq_1, setA.eq_1, setA.eq_2, setA.eq_4, setA.eq_5, setVA.eq_1, setVA.eq_2, setVA.eq_3, setVA.eq_4, asgA.eq_1, asgA.eq_2, asgA.eq_3, asgA.eq_4, asgB.eq_1, asgB.eq_2, expA.eq_1, expA.eq_2, expA.eq_3, retA.eq_1, retA.eq_2, retA.eq_3, retVA.eq_1, retVA.eq_2, retVA.eq_3, retVA.eq_4, forA.eq_1, forA.eq_2, forA.eq_3, sl0.eq_1, sl0.eq_2, sl0.eq_3, sl1.eq_1, sl1.eq_2, sl2.eq_1, sl2.eq_2, sl3.eq_1, sl3.eq_2, optA.eq_1, bdyA.eq_1, bdyA.eq_2, iPA.eq_1, iPA.eq_2, iPA.eq_3, iPA.eq_5, iPA.eq_6, rg1A.eq_3, rg1A.eq_4, rg2A.eq_3, rg2A.eq_4, rg3A.eq_3, rg3A.eq_4, enA.eq_1, enA.eq_3, enA.eq_4, zpA.eq_1, zpA.eq_3, zpA.eq_4, rvA.eq_1, rvA.eq_3, rvA.eq_4, ch1.eq_1, ch1.eq_2, ch1.eq_3, ch2.eq_1, ch2.eq_2, ch2.eq_3, chA.eq_1, chB.eq_1, chB.eq_2, chB.eq_3, chC.eq_1, chC.eq_2, lc0.eq_2, lc0.eq_3, lcA.eq_1, lcA.eq_2, augA.eq_1, augB.eq_1, augB.eq_3, augB.eq_4, appA.eq_1, appB.eq_1, appB.eq_2, appB.eq_3, putA.eq_1, putA.eq_2, putA.eq_3, putA2.eq_1, putA2.eq_2, putB.eq_1, putC.eq_1, putD.eq_1, pixA.eq_1, pixA2.eq_1, pixB.eq_1, tryA.eq_1, tryB.eq_1, tryB.eq_2, tryB.eq_3, noEr.eq_1, repA.eq_1, repA2.eq_1, repA2.eq_2, repB.eq_1, rdT.eq_1, rdT.eq_2, toV.eq_1, toV.eq_2, toV.eq_3, toV.eq_4, toV.eq_5, toV.eq_6, ofV.eq_1, ofV.eq_2, ofV.eq_4, ofV.eq_5, tOf.eq_1, tOf.eq_2, isL.eq_1, getE.eq_1, getT.eq_1, getT.eq_2, getT.eq_3, setE.eq_1, setT.eq_1, setT.eq_2, setT.eq_3, T.data.eq_1, T.data.eq_2, finW.eq_1, finW.eq_2, finW.eq_3, finW.eq_4, finW.eq_6, fin.eq_1, fin.eq_2, fin.eq_3, tgS.eq_1, wipeE.eq_1, wipeE.eq_2, fAdd.eq_1, fAdd.eq_2, fI2.eq_1, fB2.eq_1, fU.eq_1, fLen.eq_1, fLen.eq_2, fLen.eq_3, fIx.eq_1, fIx.eq_2, fIx.eq_3, fIsN.eq_1, fNotN.eq_1, isNone.eq_1, fInt.eq_1, fInt.eq_2, fInt.eq_3, fLs.eq_1, fLs.eq_2, fTp.eq_1, fTp.eq_2, fSlP.eq_3, wOf_l, wOf_o, tryA_nx, tryA_rt, tryA_bk, tryA_ct, noEr_nx, noEr_rt, noEr_bk, noEr_ct, isNone_i, isNone_b, isNone_s, isNone_l, isNone_t, iL_app, iL_len, iL_rep, iL_rev, allD_iL, dataL_iL, q_int, q_t, q_l, n_t, n_l, n_int, q_self, n_self, s_to, s_from, s_mid, sl_to, sl_from, sl_mid, add_t, add_l, cat_l, isi_t, isi_b, isi_i, isi_l, isi_s, at_0, at_1, at_2, at_3, at_4, at_5, at_6, ai_0, ai_1, ai_2, ai_3, ai_4, ai_5, ai_6, tgN_a, tgT_a, apd_ok, lc_ok, rg1_ok, rg2_ok, iL_snoc, iL_mapd, lc_const, rngD_len, iL_take, iL_drop, Int.toNat_natCast, dataL_nil, dataL_cons, allD.eq_1, allD.eq_2, ixN_ok, rep_l, tgS_nil, rep_none, rep_none0, List.take_left, List.drop_left, any_false, all_true, eq_self, set_iL, at_last, List.drop_succ_cons, List.drop_zero, List.take_succ_cons, List.take_zero, List.getLast?_cons_cons, List.getLast?_singleton, Int.cast_ofNat_Int, rg3_ok, rngC_len, fRv_l, b__law_spoilt, ha, q0, hx, ll8, ll1, at_g, hoc, c, z1]
  · refine ⟨row.take a ++ [oc] ++ row.drop a, by simp; omega, ?_⟩
    unfold f__law_spoilt
    simp (disch := (first | with_reducible assumption | omega | (simp only [iL_len, rngD_len, rngC_len, List.length_append, List.length_replicate, List.length_cons, List.length_nil, List.length_map, List.length_take, List.length_drop, List.length_range, SZ] <;> omega) | (simp only [iL_len, rngD_len, rngC_len, List.length_append, List.length_replicate, List.length_cons, List.length_nil, List.length_map, List.length_take, List.length_drop, List.length_range, SZ] at * <;> omega) | fail)) only [↓x_seq, ↓x_nil, ↓x_if, ↓x_set, ↓x_setV, ↓x_asg, ↓x_exp, ↓x_ret, ↓x_retV, ↓x_retN, ↓x_brk, ↓x_cnt, ↓x_for, ↓x_bdy, ↓x_C, ↓x_var, ↓x_dvar, ↓x_v1, ↓x_v2, ↓x_d1L, ↓x_d2L, ↓x_and, ↓x_or, ↓x_not, ↓x_ifx, ↓x_args0, ↓x_args1, ↓x_tup, ↓x_lst, ↓x_call, ↓x_vD, ↓x_dV, ↓x_slP, ↓x_opt0, ↓x_opt1, ↓x_iP, ↓x_rg1, ↓x_rg2, ↓x_rg3, ↓x_en, ↓x_zp, ↓x_rv, ↓x_ch, ↓x_lc, ↓x_aug, ↓x_app, ↓x_put, ↓x_pix, ↓x_try, ↓x_rep, ↓x_raise0, y_sq, y_sif, y_retV, y_setV, y_toV, y_ofV, y_orw, y_and, y_or, y_not, y_v1, y_v2a, y_v2b, y_finW, y_calB, sq_nx, sq_rt, sq_bk, sq_ct, sq_er, sq_no, dataL_d, allD_d, fnD, SZ, List.getElem?_cons_zero, List.getElem?_cons_succ, List.getElem?_nil, List.set_cons_zero, List.set_cons_succ, List.map_cons, List.map_nil, List.length_cons, List.length_nil, List.length_map, List.length_append, List.cons_append, List.nil_append, List.append_nil, Nat.reduceAdd, Nat.reduceSub, Nat.zero_add, Nat.add_zero, Option.map_some, Option.map_none, Option.getD_some, Option.getD_none, Bool.false_eq_true, Bool.true_eq_false, Bool.and_false, Bool.false_and, Bool.and_true, Bool.true_and, Bool.or_false, Bool.false_or, Bool.or_true, Bool.true_or, Bool.not_true, Bool.not_false, if_true, if_false, ite_true, ite_false, decide_eq_true_eq, Bool.and_eq_true, Bool.or_eq_true, Bool.not_eq_true', decide_eq_false_iff_not, decide_true, decide_false, true_and, and_true, reduceCtorEq, Int.reduceNeg, Int.reduceLT, Int.reduceLE, Int.reduceToNat, Nat.reduceLeDiff, Int.reduceAbs, Int.reduceSub, Int.reduceAdd, Int.reduceMul, Int.reduceEq, Nat.reduceMul, Nat.reduceEqDiff, Nat.reduceLT, Nat.reducePow, Int.reducePow, ↓reduceIte, ite_not, sif.eq_1, sif.eq_3, sif.eq_4, andA.eq_1, andA.eq_3, andA.eq_4, orA.eq_1, orA.eq_3, orA.eq_4, notA.eq_1, notA.eq_3, notA.eq_4, ifA.eq_1, ifA.eq_3, ifA.eq_4, orw.eq_1, orw.eq_2, orw.eq_3, v1r.eq_1, v1r.eq_2, v1a.eq_1, v1a.eq_2, v1a.eq_3, v2a.eq_1, v2a.eq_2, v2a.eq_3, v2b.eq_1, v2b.eq_2, v2b.eq_3, dlr.eq_1, dlr.eq_2, d1a.eq_1, d1a.eq_2, d1a.eq_3, d2a.eq_1, d2a.eq_2, d2a.eq_3, d2b.eq_1, d2b.eq_2, d2b.eq_3, ar1.eq_1, ar1.eq_2, ar1.eq_3, ar1.eq_4, ar2.eq_1, ar2.eq_2, ar2.eq_3, tupA.eq_1, tupA.eq_2, tupA.eq_3, lstA.eq_1, lstA.eq_2, lstA.eq_3, calA.eq_1, calA.eq_2, calA.eq_3, calB.eq_1, calB.eq_2, calB.eq_3, wOf.eq_1, varV.eq_1, varR.eq_1, varR.eq_2, varD.eq_1, setA.eq_1, setA.eq_2, setA.eq_4, setA.eq_5, setVA.eq_1, setVA.eq_2, setVA.eq_3, setVA.eq_4, asgA.eq_1, asgA.eq_2, asgA.eq_3, asgA.eq_4, asgB.eq_1, asgB.eq_2, expA.eq_1, expA.eq_2, expA.eq_3, retA.eq_1, retA.eq_2, retA.eq_3, retVA.eq_1, retVA.eq_2, retVA.eq_3, retVA.eq_4, forA.eq_1, forA.eq_2, forA.eq_3, sl0.eq_1, sl0.eq_2, sl0.eq_3, sl1.eq_1, sl1.eq_2, sl2.eq_1, sl2.eq_2, sl3.eq_1, sl3.eq_2, optA.eq_1, bdyA.eq_1, bdyA.eq_2, iPA.eq_1, iPA.eq_2, iPA.eq_3, iPA.eq_5, iPA.eq_6, rg1A.eq_3, rg1A.eq_4, rg2A.eq_3, rg2A.eq_4, rg3A.eq_3, rg3A.eq_4, enA.eq_1, enA.eq_3, enA.eq_4, zpA.eq_1, zpA.eq_3, zpA.eq_4, rvA.eq_1, rvA.eq_3, rvA.eq_4, ch1.eq_1, ch1.eq_2, ch1.eq_3, ch2.eq_1, ch2.eq_2, ch2.eq_3, chA.eq_1, chB.eq_1, chB.eq_2, chB.eq_3, chC.eq_1, chC.eq_2, lc0.eq_2, lc0.eq_3, lcA.eq_1, lcA.eq_2, augA.eq_1, augB.eq_1, augB.eq_3, augB.eq_4, appA.eq_1, appB.eq_1, appB.eq_2, appB.eq_3, putA.eq_1, putA.eq_2, putA.eq_3, putA2.eq_1, putA2.eq_2, putB.eq_1, putC.eq_1, putD.eq_1, pixA.eq_1, pixA2.eq_1, pixB.eq_1, tryA.eq_1, tryB.eq_1, tryB.eq_2, tryB.eq_3, noEr.eq_1, repA.eq_1, repA2.eq_1, repA2.eq_2, repB.eq_1, rdT.eq_1, rdT.eq_2, toV.eq_1, toV.eq_2, toV.eq_3, toV.eq_4, toV.eq_5, toV.eq_6, ofV.eq_1, ofV.eq_2, ofV.eq_4, ofV.eq_5, tOf.eq_1, tOf.eq_2, isL.eq_1, getE.eq_1, getT.eq_1, getT.eq_2, getT.eq_3, setE.eq_1, setT.eq_1, setT.eq_2, setT.eq_3, T.data.eq_1, T.data.eq_2, finW.eq_1, finW.eq_2, finW.eq_3, finW.eq_4, finW.eq_6, fin.eq_1, fin.eq_2, fin.eq_3, tgS.eq_1, wipeE.eq_1, wipeE.eq_2, fAdd.eq_1, fAdd.eq_2, fI2.eq_1, fB2.eq_1, fU.eq_1, fLen.eq_1, fLen.eq_2, fLen.eq_3, fIx.eq_1, fIx.eq_2, fIx.eq_3, fIsN.eq_1, fNotN.eq_1, isNone.eq_1, fInt.eq_1, fInt.eq_2, fInt.eq_3, fLs.eq_1, fLs.eq_2, fTp.eq_1, fTp.eq_2, fSlP.eq_3, wOf_l, wOf_o, tryA_nx, tryA_rt, tryA_bk, tryA_ct, noEr_nx, noEr_rt, noEr_bk, noEr_ct, isNone_i, isNone_b, isNone_s, isNone_l, isNone_t, iL_app, iL_len, iL_rep, iL_rev, allD_iL, dataL_iL, q_int, q_t, q_l, n_t, n_l, n_int, q_self, n_self, s_to, s_from, s_mid, sl_to, sl_from, sl_mid, add_t, add_l, cat_l, isi_t, isi_b, isi_i, isi_l, isi_s, at_0, at_1, at_2, at_3, at_4, at_5, at_6, ai_0, ai_1, ai_2, ai_3, ai_4, ai_5, ai_6, tgN_a, tgT_a, apd_ok, lc_ok, rg1_ok, rg2_ok, iL_snoc, iL_mapd, lc_const, rngD_len, iL_take, iL_drop, Int.toNat_natCast, dataL_nil, dataL_cons, allD.eq_1, allD.eq_2, ixN_ok, rep_l, tgS_nil, rep_none, rep_none0, List.take_left, List.drop_left, any_false, all_true, eq_self, set_iL, at_last, List.drop_succ_cons, List.drop_zero, List.take_succ_cons, List.take_zero, List.getLast?_cons_cons, List.getLast?_singleton, Int.cast_ofNat_Int, rg3_ok, rngC_len, fRv_l, b__law_spoilt, ha, q0, hx, ll8, ll1, at_g, hoc, c, z1]
  · refine ⟨row.take a, by simp; omega, ?_⟩
    unfold f__law_spoilt
    simp (disch := (first | with_reducible assumption | omega | (simp only [iL_len, rngD_len, rngC_len, List.length_append, List.length_replicate, List.length_cons, List.length_nil, List.length_map, List.length_take, List.length_drop, List.length_range, SZ] <;> omega) | (simp only [iL_len, rngD_len, rngC_len, List.length_append, List.length_replicate, List.length_cons, List.length_nil, List.length_map, List.length_take, List.length_drop, List.length_range, SZ] at * <;> omega) | fail)) only [↓x_seq, ↓x_nil, ↓x_if, ↓x_set, ↓x_setV, ↓x_asg, ↓x_exp, ↓x_ret, ↓x_retV, ↓x_retN, ↓x_brk, ↓x_cnt, ↓x_for, ↓x_bdy, ↓x_C, ↓x_var, ↓x_dvar, ↓x_v1, ↓x_v2, ↓x_d1L, ↓x_d2L, ↓x_and, ↓x_or, ↓x_not, ↓x_ifx, ↓x_args0, ↓x_args1, ↓x_tup, ↓x_lst, ↓x_call, ↓x_vD, ↓x_dV, ↓x_slP, ↓x_opt0, ↓x_opt1, ↓x_iP, ↓x_rg1, ↓x_rg2, ↓x_rg3, ↓x_en, ↓x_zp, ↓x_rv, ↓x_ch, ↓x_lc, ↓x_aug, ↓x_app, ↓x_put, ↓x_pix, ↓x_try, ↓x_rep, ↓x_raise0, y_sq, y_sif, y_retV, y_setV, y_toV, y_ofV, y_orw, y_and, y_or, y_not, y_v1, y_v2a, y_v2b, y_finW, y_calB, sq_nx, sq_rt, sq_bk, sq_ct, sq_er, sq_no, dataL_d, allD_d, fnD, SZ, List.getElem?_cons_zero, List.getElem?_cons_succ, List.getElem?_nil, List.set_cons_zero, List.set_cons_succ, List.map_cons, List.map_nil, List.length_cons, List.length_nil, List.length_map, List.length_append, List.cons_append, List.nil_append, List.append_nil, Nat.reduceAdd, Nat.reduceSub, Nat.zero_add, Nat.add_zero, Option.map_some, Option.map_none, Option.getD_some, Option.getD_none, Bool.false_eq_true, Bool.true_eq_false, Bool.and_false, Bool.false_and, Bool.and_true, Bool.true_and, Bool.or_false, Bool.false_or, Bool.or_true, Bool.true_or, Bool.not_true, Bool.not_false, if_true, if_false, ite_true, ite_false, decide_eq_true_eq, Bool.and_eq_true, Bool.or_eq_true, Bool.not_eq_true', decide_eq_false_iff_not, decide_true, decide_false, true_and, and_true, reduceCtorEq, Int.reduceNeg, Int.reduceLT, Int.reduceLE, Int.reduceToNat, Nat.reduceLeDiff, Int.reduceAbs, Int.reduceSub, Int.reduceAdd, Int.reduceMul, Int.reduceEq, Nat.reduceMul, Nat.reduceEqDiff, Nat.reduceLT, Nat.reducePow, Int.reducePow, ↓reduceIte, ite_not, sif.eq_1, sif.eq_3, sif.eq_4, andA.eq_1, andA.eq_3, andA.eq_4, orA.eq_1, orA.eq_3, orA.eq_4, notA.eq_1, notA.eq_3, notA.eq_4, ifA.eq_1, ifA.eq_3, ifA.eq_4, orw.eq_1, orw.eq_2, orw.eq_3, v1r.eq_1, v1r.eq_2, v1a.eq_1, v1a.eq_2, v1a.eq_3, v2a.eq_1, v2a.eq_2, v2a.eq_3, v2b.eq_1, v2b.eq_2, v2b.eq_3, dlr.eq_1, dlr.eq_2, d1a.eq_1, d1a.eq_2, d1a.eq_3, d2a.eq_1, d2a.eq_2, d2a.eq_3, d2b.eq_1, d2b.eq_2, d2b.eq_3, ar1.eq_1, ar1.eq_2, ar1.eq_3, ar1.eq_4, ar2.eq_1, ar2.eq_2, ar2.eq_3, tupA.eq_1, tupA.eq_2, tupA.eq_3, lstA.eq_1, lstA.eq_2, lstA.eq_3, calA.eq_1, calA.eq_2, calA.eq_3, calB.eq_1, calB.eq_2, calB.eq_3, wOf.eq_1, varV.eq_1, varR.eq_1, varR.eq_2, varD.eq_1, setA.eq_1, setA.eq_2, setA.eq_4, setA.eq_5, setVA.eq_1, setVA.eq_2, setVA.eq_3, setVA.eq_4, asgA.eq_1, asgA.eq_2, asgA.eq_3, asgA.eq_4, asgB.eq_1, asgB.eq_2, expA.eq_1, expA.eq_2, expA.eq_3, retA.eq_1, retA.eq_2, retA.eq_3, retVA.eq_1, retVA.eq_2, retVA.eq_3, retVA.eq_4, forA.eq_1, forA.eq_2, forA.eq_3, sl0.eq_1, sl0.eq_2, sl0.eq_3, sl1.eq_1, sl1.eq_2, sl2.eq_1, sl2.eq_2, sl3.eq_1, sl3.eq_2, optA.eq_1, bdyA.eq_1, bdyA.eq_2, iPA.eq_1, iPA.eq_2, iPA.eq_3, iPA.eq_5, iPA.eq_6, rg1A.eq_3, rg1A.eq_4, rg2A.eq_3, rg2A.eq_4, rg3A.eq_3, rg3A.eq_4, enA.eq_1, enA.eq_3, enA.eq_4, zpA.eq_1, zpA.eq_3, zpA.eq_4, rvA.eq_1, rvA.eq_3, rvA.eq_4, ch1.eq_1, ch1.eq_2, ch1.eq_3, ch2.eq_1, ch2.eq_2, ch2.eq_3, chA.eq_1, chB.eq_1, chB.eq_2, chB.eq_3, chC.eq_1, chC.eq_2, lc0.eq_2, lc0.eq_3, lcA.eq_1, lcA.eq_2, augA.eq_1, augB.eq_1, augB.eq_3, augB.eq_4, appA.eq_1, appB.eq_1, appB.eq_2, appB.eq_3, putA.eq_1, putA.eq_2, putA.eq_3, putA2.eq_1, putA2.eq_2, putB.eq_1, putC.eq_1, putD.eq_1, pixA.eq_1, pixA2.eq_1, pixB.eq_1, tryA.eq_1, tryB.eq_1, tryB.eq_2, tryB.eq_3, noEr.eq_1, repA.eq_1, repA2.eq_1, repA2.eq_2, repB.eq_1, rdT.eq_1, rdT.eq_2, toV.eq_1, toV.eq_2, toV.eq_3, toV.eq_4, toV.eq_5, toV.eq_6, ofV.eq_1, ofV.eq_2, ofV.eq_4, ofV.eq_5, tOf.eq_1, tOf.eq_2, isL.eq_1, getE.eq_1, getT.eq_1, getT.eq_2, getT.eq_3, setE.eq_1, setT.eq_1, setT.eq_2, setT.eq_3, T.data.eq_1, T.data.eq_2, finW.eq_1, finW.eq_2, finW.eq_3, finW.eq_4, finW.eq_6, fin.eq_1, fin.eq_2, fin.eq_3, tgS.eq_1, wipeE.eq_1, wipeE.eq_2, fAdd.eq_1, fAdd.eq_2, fI2.eq_1, fB2.eq_1, fU.eq_1, fLen.eq_1, fLen.eq_2, fLen.eq_3, fIx.eq_1, fIx.eq_2, fIx.eq_3, fIsN.eq_1, fNotN.eq_1, isNone.eq_1, fInt.eq_1, fInt.eq_2, fInt.eq_3, fLs.eq_1, fLs.eq_2, fTp.eq_1, fTp.eq_2, fSlP.eq_3, wOf_l, wOf_o, tryA_nx, tryA_rt, tryA_bk, tryA_ct, noEr_nx, noEr_rt, noEr_bk, noEr_ct, isNone_i, isNone_b, isNone_s, isNone_l, isNone_t, iL_app, iL_len, iL_rep, iL_rev, allD_iL, dataL_iL, q_int, q_t, q_l, n_t, n_l, n_int, q_self, n_self, s_to, s_from, s_mid, sl_to, sl_from, sl_mid, add_t, add_l, cat_l, isi_t, isi_b, isi_i, isi_l, isi_s, at_0, at_1, at_2, at_3, at_4, at_5, at_6, ai_0, ai_1, ai_2, ai_3, ai_4, ai_5, ai_6, tgN_a, tgT_a, apd_ok, lc_ok, rg1_ok, rg2_ok, iL_snoc, iL_mapd, lc_const, rngD_len, iL_take, iL_drop, Int.toNat_natCast, dataL_nil, dataL_cons, allD.eq_1, allD.eq_2, ixN_ok, rep_l, tgS_nil, rep_none, rep_none0, List.take_left, List.drop_left, any_false, all_true, eq_self, set_iL, at_last, List.drop_succ_cons, List.drop_zero, List.take_succ_cons, List.take_zero, List.getLast?_cons_cons, List.getLast?_singleton, Int.cast_ofNat_Int, rg3_ok, rngC_len, fRv_l, b__law_spoilt, ha, q0, hx, ll8, ll1, at_g, hoc, c, z1]
  · refine ⟨[v / 6 % 3] ++ (((List.range (v / 18 % 9).toNat).map fun k => (0 : Int) + (k : Nat)).map fun k => (oc + k * a) % 256), by simp; omega, ?_⟩
    unfold f__law_spoilt
    simp (disch := (first | with_reducible assumption | omega | (simp only [iL_len, rngD_len, rngC_len, List.length_append, List.length_replicate, List.length_cons, List.length_nil, List.length_map, List.length_take, List.length_drop, List.length_range, SZ] <;> omega) | (simp only [iL_len, rngD_len, rngC_len, List.length_append, List.length_replicate, List.length_cons, List.length_nil, List.length_map, List.length_take, List.length_drop, List.length_range, SZ] at * <;> omega) | fail)) only [↓x_seq, ↓x_nil, ↓x_if, ↓x_set, ↓x_setV, ↓x_asg, ↓x_exp, ↓x_ret, ↓x_retV, ↓x_retN, ↓x_brk, ↓x_cnt, ↓x_for, ↓x_bdy, ↓x_C, ↓x_var, ↓x_dvar, ↓x_v1, ↓x_v2, ↓x_d1L, ↓x_d2L, ↓x_and, ↓x_or, ↓x_not, ↓x_ifx, ↓x_args0, ↓x_args1, ↓x_tup, ↓x_lst, ↓x_call, ↓x_vD, ↓x_dV, ↓x_slP, ↓x_opt0, ↓x_opt1, ↓x_iP, ↓x_rg1, ↓x_rg2, ↓x_rg3, ↓x_en, ↓x_zp, ↓x_rv, ↓x_ch, ↓x_lc, ↓x_aug, ↓x_app, ↓x_put, ↓x_pix, ↓x_try, ↓x_rep, ↓x_raise0, y_sq, y_sif, y_retV, y_setV, y_toV, y_ofV, y_orw, y_and, y_or, y_not, y_v1, y_v2a, y_v2b, y_finW, y_calB, sq_nx, sq_rt, sq_bk, sq_ct, sq_er, sq_no, dataL_d, allD_d, fnD, SZ, List.getElem?_cons_zero, List.getElem?_cons_succ, List.getElem?_nil, List.set_cons_zero, List.set_cons_succ, List.map_cons, List.map_nil, List.length_cons, List.length_nil, List.length_map, List.length_append, List.cons_append, List.nil_append, List.append_nil, Nat.reduceAdd, Nat.reduceSub, Nat.zero_add, Nat.add_zero, Option.map_some, Option.map_none, Option.getD_some, Option.getD_none, Bool.false_eq_true, Bool.true_eq_false, Bool.and_false, Bool.false_and, Bool.and_true, Bool.true_and, Bool.or_false, Bool.false_or, Bool.or_true, Bool.true_or, Bool.not_true, Bool.not_false, if_true, if_false, ite_true, ite_false, decide_eq_true_eq, Bool.and_eq_true, Bool.or_eq_true, Bool.not_eq_true', decide_eq_false_iff_not, decide_true, decide_false, true_and, and_true, reduceCtorEq, Int.reduceNeg, Int.reduceLT, Int.reduceLE, Int.reduceToNat, Nat.reduceLeDiff, Int.reduceAbs, Int.reduceSub, Int.reduceAdd, Int.reduceMul, Int.reduceEq, Nat.reduceMul, Nat.reduceEqDiff, Nat.reduceLT, Nat.reducePow, Int.reducePow, ↓reduceIte, ite_not, sif.eq_1, sif.eq_3, sif.eq_4, andA.eq_1, andA.eq_3, andA.eq_4, orA.eq_1, orA.eq_3, orA.eq_4, notA.eq_1, notA.eq_3, notA.eq_4, ifA.eq_1, ifA.eq_3, ifA.eq_4, orw.eq_1, orw.eq_2, orw.eq_3, v1r.eq_1, v1r.eq_2, v1a.eq_1, v1a.eq_2, v1a.eq_3, v2a.eq_1, v2a.eq_2, v2a.eq_3, v2b.eq_1, v2b.eq_2, v2b.eq_3, dlr.eq_1, dlr.eq_2, d1a.eq_1, d1a.eq_2, d1a.eq_3, d2a.eq_1, d2a.eq_2, d2a.eq_3, d2b.eq_1, d2b.eq_2, d2b.eq_3, ar1.eq_1, ar1.eq_2, ar1.eq_3, ar1.eq_4, ar2.eq_1, ar2.eq_2, ar2.eq_3, tupA.eq_1, tupA.eq_2, tupA.eq_3, lstA.eq_1, lstA.eq_2, lstA.eq_3, calA.eq_1, calA.eq_2, calA.eq_3, calB.eq_1, calB.eq_2, calB.eq_3, wOf.eq_1, varV.eq_1, varR.eq_1, varR.eq_2, varD.eq_1, setA.eq_1, setA.eq_2, setA.eq_4, setA.eq_5, setVA.eq_1, setVA.eq_2, setVA.eq_3, setVA.eq_4, asgA.eq_1, asgA.eq_2, asgA.eq_3, asgA.eq_4, asgB.eq_1, asgB.eq_2, expA.eq_1, expA.eq_2, expA.eq_3, retA.eq_1, retA.eq_2, retA.eq_3, retVA.eq_1, retVA.eq_2, retVA.eq_3, retVA.eq_4, forA.eq_1, forA.eq_2, forA.eq_3, sl0.eq_1, sl0.eq_2, sl0.eq_3, sl1.eq_1, sl1.eq_2, sl2.eq_1, sl2.eq_2, sl3.eq_1, sl3.eq_2, optA.eq_1, bdyA.eq_1, bdyA.eq_2, iPA.eq_1, iPA.eq_2, iPA.eq_3, iPA.eq_5, iPA.eq_6, rg1A.eq_3, rg1A.eq_4, rg2A.eq_3, rg2A.eq_4, rg3A.eq_3, rg3A.eq_4, enA.eq_1, enA.eq_3, enA.eq_4, zpA.eq_1, zpA.eq_3, zpA.eq_4, rvA.eq_1, rvA.eq_3, rvA.eq_4, ch1.eq_1, ch1.eq_2, ch1.eq_3, ch2.eq_1, ch2.eq_2, ch2.eq_3, chA.eq_1, chB.eq_1, chB.eq_2, chB.eq_3, chC.eq_1, chC.eq_2, lc0.eq_2, lc0.eq_3, lcA.eq_1, lcA.eq_2, augA.eq_1, augB.eq_1, augB.eq_3, augB.eq_4, appA.eq_1, appB.eq_1, appB.eq_2, appB.eq_3, putA.eq_1, putA.eq_2, putA.eq_3, putA2.eq_1, putA2.eq_2, putB.eq_1, putC.eq_1, putD.eq_1, pixA.eq_1, pixA2.eq_1, pixB.eq_1, tryA.eq_1, tryB.eq_1, tryB.eq_2, tryB.eq_3, noEr.eq_1, repA.eq_1, repA2.eq_1, repA2.eq_2, repB.eq_1, rdT.eq_1, rdT.eq_2, toV.eq_1, toV.eq_2, toV.eq_3, toV.eq_4, toV.eq_5, toV.eq_6, ofV.eq_1, ofV.eq_2, ofV.eq_4, ofV.eq_5, tOf.eq_1, tOf.eq_2, isL.eq_1, getE.eq_1, getT.eq_1, getT.eq_2, getT.eq_3, setE.eq_1, setT.eq_1, setT.eq_2, setT.eq_3, T.data.eq_1, T.data.eq_2, finW.eq_1, finW.eq_2, finW.eq_3, finW.eq_4, finW.eq_6, fin.eq_1, fin.eq_2, fin.eq_3, tgS.eq_1, wipeE.eq_1, wipeE.eq_2, fAdd.eq_1, fAdd.eq_2, fI2.eq_1, fB2.eq_1, fU.eq_1, fLen.eq_1, fLen.eq_2, fLen.eq_3, fIx.eq_1, fIx.eq_2, fIx.eq_3, fIsN.eq_1, fNotN.eq_1, isNone.eq_1, fInt.eq_1, fInt.eq_2, fInt.eq_3, fLs.eq_1, fLs.eq_2, fTp.eq_1, fTp.eq_2, fSlP.eq_3, wOf_l, wOf_o, tryA_nx, tryA_rt, tryA_bk, tryA_ct, noEr_nx, noEr_rt, noEr_bk, noEr_ct, isNone_i, isNone_b, isNone_s, isNone_l, isNone_t, iL_app, iL_len, iL_rep, iL_rev, allD_iL, dataL_iL, q_int, q_t, q_l, n_t, n_l, n_int, q_self, n_self, s_to, s_from, s_mid, sl_to, sl_from, sl_mid, add_t, add_l, cat_l, isi_t, isi_b, isi_i, isi_l, isi_s, at_0, at_1, at_2, at_3, at_4, at_5, at_6, ai_0, ai_1, ai_2, ai_3, ai_4, ai_5, ai_6, tgN_a, tgT_a, apd_ok, lc_ok, rg1_ok, rg2_ok, iL_snoc, iL_mapd, lc_const, rngD_len, iL_take, iL_drop, Int.toNat_natCast, dataL_nil, dataL_cons, allD.eq_1, allD.eq_2, ixN_ok, rep_l, tgS_nil, rep_none, rep_none0, List.take_left, List.drop_left, any_false, all_true, eq_self, set_iL, at_last, List.drop_succ_cons, List.drop_zero, List.take_succ_cons, List.take_zero, List.getLast?_cons_cons, List.getLast?_singleton, Int.cast_ofNat_Int, rg3_ok, rngC_len, fRv_l, b__law_spoilt, ha, q0, hx, ll8, ll1, at_g, hoc, c, z1, rngD_iL, hk]


def restD : Dn.Env → Out := (sSeq (sSetV 11 (v2 fAdd (vC (.int 1)) (v2 fMod (vVar 6) (vVar 4)))) (sSeq (sSetV 12 (vD (dCall f__law_part [(vVar 7), (vVar 4), (vVar 11), (vVar 8)]))) (sSeq (sIf (v2 fEq (v2 fMod (v2 fDiv (vVar 6) (vC (.int 4))) (vC (.int 5))) (vC (.int 0))) (sSeq (sIf (vNot (vD (dCall f__law_read_right [(vVar 12), (vVar 7), (vVar 4), (vVar 11), (vVar 8)]))) (sRetV (vC (.bool false))) sNil) sCnt) sNil) (sSeq (sSetV 13 (v1 fTp (vD (dCall f__law_spoilt [(vVar 12), (v2 fDiv (vVar 6) (vC (.int 20)))])))) (sSeq (sSetV 14 (vC .none)) (sSeq (sTry (sSetV 14 (vD (dCall f_read_part [(vVar 13)]))) tb_BadText (sSetV 14 (vC .none))) (sIf (v2 fNotN (vVar 14) (vC .none)) (sSeq (sIf (vOr (vNot (v1 (fIsi "tuple") (vVar 14))) (vOr (v2 fNe (v1 fLen (vVar 14)) (vC (.int 4))) (vNot (v1 (fIsi "list") (v2 fIx (vVar 14) (vC (.int 3))))))) (sRetV (vC (.bool false))) sNil) (sSeq (sIf (vOr (vAnd (v2 fEq (v2 fIx (vVar 14) (vC (.int 1))) (vC (.int 1))) (v2 fNe (vSlP (vVar 14) none (some (vC (.int 3)))) (vTup [(v1 fNeg (vC (.int 1))), (vC (.int 1)), (vC (.int 1))]))) (vOr (v2 fGt (v1 fLen (v2 fIx (vVar 14) (vC (.int 3)))) (vC (.int 160))) (vAnd (v2 fNe (v2 fIx (vVar 14) (vC (.int 1))) (vC (.int 1))) (v2 fEq (v2 fIx (vVar 14) (vC (.int 3))) (vD (dLst [])))))) (sRetV (vC (.bool false))) sNil) (sSeq (sIf (v2 fNe (v1 fTp (vD (dCall f__law_part [(v2 fIx (vVar 14) (vC (.int 0))), (v2 fIx (vVar 14) (vC (.int 1))), (v2 fIx (vVar 14) (vC (.int 2))), (v2 fIx (vVar 14) (vC (.int 3)))]))) (vVar 13)) (sRetV (vC (.bool false))) sNil) (sSeq (sIf (vAnd (v2 fNe (v2 fIx (vVar 14) (vC (.int 1))) (vC (.int 1))) (vOr (v2 fGt (v1 fLen (v2 fIx (vVar 14) (vC (.int 3)))) (vC (.int 153))) (vOr (v2 fLt (v2 fIx (vVar 14) (vC (.int 1))) (vC (.int 2))) (v2 fGt (v2 fIx (vVar 14) (vC (.int 1))) (vC (.int 4)))))) (sRetV (vC (.bool false))) sNil) (sIf (vAnd (v2 fNe (v2 fIx (vVar 14) (vC (.int 1))) (vC (.int 1))) (vOr (v2 fLt (v2 fIx (vVar 14) (vC (.int 2))) (vC (.int 1))) (v2 fGt (v2 fIx (vVar 14) (vC (.int 2))) (v2 fIx (vVar 14) (vC (.int 1)))))) (sRetV (vC (.bool false))) sNil))))) sNil)))))))
theorem forL_nc {bd : PyData → Dn.Env → Out} (I : Nat → Dn.Env → Prop) : ∀ (xs : List PyData) (k : Nat) (e : Dn.Env), I k e → (∀ i x e, xs[i]? = some x → I (k + i) e → ∃ e', (bd x e = .nx e' ∨ bd x e = .ct e') ∧ I (k + i + 1) e') → ∃ e', forL bd xs e = .nx e' ∧ I (k + xs.length) e'
  | [], k, e, h, _ => ⟨e, rfl, h⟩
  | x :: r, k, e, h, hs => by
    obtain ⟨e1, h1, h2⟩ := hs 0 x e rfl h
    obtain ⟨e2, h3, h4⟩ := forL_nc I r (k + 1) e1 h2 (fun i y e q z => by
      have := hs (i + 1) y e (by simpa using q) (by rw [show k + (i + 1) = k + 1 + i by omega]; exact z)
      rw [show k + (i + 1) + 1 = k + 1 + i + 1 by omega] at this
      exact this)
    refine ⟨e2, ?_, by rw [List.length_cons, show k + (r.length + 1) = k + 1 + r.length by omega]; exact h4⟩
    unfold forL
    rcases h1 with h1 | h1
    · simp only [h1]; exact h3
    · simp only [h1]; exact h3
theorem for_fin2 {o : List Bool} {ts : List T} {bd : PyData → Dn.Env → Out} {xs : List PyData} {e : Dn.Env} {k : Dn.Env → Out} {R : FO} (I : Nat → Dn.Env → Prop) (h0 : I 0 e) (hs : ∀ i x e, xs[i]? = some x → I i e → ∃ e', (bd x e = .nx e' ∨ bd x e = .ct e') ∧ I (i + 1) e') (hk : ∀ e', I xs.length e' → finW o ts (k e') = R) : finW o ts (sq (forL bd xs e) k) = R := by
  obtain ⟨e', h1, h2⟩ := forL_nc I xs 0 e h0 (fun i x e q z => by rw [Nat.zero_add] at z ⊢; exact hs i x e q z)
  rw [Nat.zero_add] at h2
  rw [h1]
  exact hk e' h2
theorem part_len (mark many number : Int) (row : List Int) (hl : row.length < 1000) : 0 < (partI mark many number row).length ∧ (partI mark many number row).length < 10000 := by
  have k0 := CHP_len row 0
  have k1 := CHP_len row 1
  unfold partI
  split <;> (simp only [List.length_cons]; omega)
theorem rest_ok (ns row : List Int) (a b c d f g h j k l : Option T) (v L mark many size : Int) (hL : 0 ≤ L) (hm : 0 ≤ mark ∧ mark ≤ 255) (hn : 1 ≤ many ∧ many ≤ 4) (hl : row.length < 1000) (hr : ∀ x ∈ row, 0 ≤ x ∧ x < 128) : ∃ e', (restD [some (.d (.list (iL ns))), a, b, c, some (.d (.int many)), d, some (.d (.int L)), some (.d (.int mark)), some (.d (.list (iL row))), f, g, h, j, k, l] = .nx e' ∨ restD [some (.d (.list (iL ns))), a, b, c, some (.d (.int many)), d, some (.d (.int L)), some (.d (.int mark)), some (.d (.list (iL row))), f, g, h, j, k, l] = .ct e') ∧ ∃ h' j' k' l', e' = [some (.d (.list (iL ns))), a, b, c, some (.d (.int many)), d, some (.d (.int L)), some (.d (.int mark)), some (.d (.list (iL row))), f, g, h', j', k', l'] := by
  have q0 : decide (0 < many) = true := decide_eq_true (by omega)
  have w1 := Int.emod_nonneg L (show many ≠ 0 by omega)
  have w2 := Int.emod_lt_of_pos L (show 0 < many by omega)
  have hp := law_part_ok mark many (1 + L % many) row hl
  have hp2 := part_len mark many (1 + L % many) row hl
  have hrr := read_right_ok mark many (1 + L % many) row hl hr ⟨hm.1, hm.2, hn.1, hn.2, by omega, by omega⟩
  obtain ⟨O, hO, hsp⟩ := spoilt_ok (partI mark many (1 + L % many) row) (L / 20) (by omega) hp2.1 hp2.2
  generalize partI mark many (1 + L % many) row = Pt at hp hrr hsp
  unfold restD
  by_cases c0 : L / 4 % 5 = 0
  · refine ⟨_, .inr (by simp (disch := (first | with_reducible assumption | omega | (simp only [iL_len, rngD_len, rngC_len, List.length_append, List.length_replicate, List.length_cons, List.length_nil, List.length_map, List.length_take, List.length_drop, List.length_range, SZ] <;> omega) | (simp only [iL_len, rngD_len, rngC_len, List.length_append, List.length_replicate, List.length_cons, List.length_nil, List.length_map, List.length_take, List.length_drop, List.length_range, SZ] at * <;> omega) | fail)) only [↓x_seq, ↓x_nil, ↓x_if, ↓x_set, ↓x_setV, ↓x_asg, ↓x_exp, ↓x_ret, ↓x_retV, ↓x_retN, ↓x_brk, ↓x_cnt, ↓x_for, ↓x_bdy, ↓x_C, ↓x_var, ↓x_dvar, ↓x_v1, ↓x_v2, ↓x_d1L, ↓x_d2L, ↓x_and, ↓x_or, ↓x_not, ↓x_ifx, ↓x_args0, ↓x_args1, ↓x_tup, ↓x_lst, ↓x_call, ↓x_vD, ↓x_dV, ↓x_slP, ↓x_opt0, ↓x_opt1, ↓x_iP, ↓x_rg1, ↓x_rg2, ↓x_rg3, ↓x_en, ↓x_zp, ↓x_rv, ↓x_ch, ↓x_lc, ↓x_aug, ↓x_app, ↓x_put, ↓x_pix, ↓x_try, ↓x_rep, ↓x_raise0, y_sq, y_sif, y_retV, y_setV, y_toV, y_ofV, y_orw, y_and, y_or, y_not, y_v1, y_v2a, y_v2b, y_finW, y_calB, sq_nx, sq_rt, sq_bk, sq_ct, sq_er, sq_no, dataL_d, allD_d, fnD, SZ, List.getElem?_cons_zero, List.getElem?_cons_succ, List.getElem?_nil, List.set_cons_zero, List.set_cons_succ, List.map_cons, List.map_nil, List.length_cons, List.length_nil, List.length_map, List.length_append, List.cons_append, List.nil_append, List.append_nil, Nat.reduceAdd, Nat.reduceSub, Nat.zero_add, Nat.add_zero, Option.map_some, Option.map_none, Option.getD_some, Option.getD_none, Bool.false_eq_true, Bool.true_eq_false, Bool.and_false, Bool.false_and, Bool.and_true, Bool.true_and, Bool.or_false, Bool.false_or, Bool.or_true, Bool.true_or, Bool.not_true, Bool.not_false, if_true, if_false, ite_true, ite_false, decide_eq_true_eq, Bool.and_eq_true, Bool.or_eq_true, Bool.not_eq_true', decide_eq_false_iff_not, decide_true, decide_false, true_and, and_true, reduceCtorEq, Int.reduceNeg, Int.reduceLT, Int.reduceLE, Int.reduceToNat, Nat.reduceLeDiff, Int.reduceAbs, Int.reduceSub, Int.reduceAdd, Int.reduceMul, Int.reduceEq, Nat.reduceMul, Nat.reduceEqDiff, Nat.reduceLT, Nat.reducePow, Int.reducePow, ↓reduceIte, ite_not, sif.eq_1, sif.eq_3, sif.eq_4, andA.eq_1, andA.eq_3, andA.eq_4, orA.eq_1, orA.eq_3, orA.eq_4, notA.eq_1, notA.eq_3, notA.eq_4, ifA.eq_1, ifA.eq_3, ifA.eq_4, orw.eq_1, orw.eq_2, orw.eq_3, v1r.eq_1, v1r.eq_2, v1a.eq_1, v1a.eq_2, v1a.eq_3, v2a.eq_1, v2a.eq_2, v2a.eq_3, v2b.eq_1, v2b.eq_2, v2b.eq_3, dlr.eq_1, dlr.eq_2, d1a.eq_1, d1a.eq_2, d1a.eq_3, d2a.eq_1, d2a.eq_2, d2a.eq_3, d2b.eq_1, d2b.eq_2, d2b.eq_3, ar1.eq_1, ar1.eq_2, ar1.eq_3, ar1.eq_4, ar2.eq_1, ar2.eq_2, ar2.eq_3, tupA.eq_1, tupA.eq_2, tupA.eq_3, lstA.eq_1, lstA.eq_2, lstA.eq_3, calA.eq_1, calA.eq_2, calA.eq_3, calB.eq_1, calB.eq_2, calB.eq_3, wOf.eq_1, varV.eq_1, varR.eq_1, varR.eq_2, varD.eq_1, setA.eq_1, setA.eq_2, setA.eq_4, setA.eq_5, setVA.eq_1, setVA.eq_2, setVA.eq_3, setVA.eq_4, asgA.eq_1, asgA.eq_2, asgA.eq_3, asgA.eq_4, asgB.eq_1, asgB.eq_2, expA.eq_1, expA.eq_2, expA.eq_3, retA.eq_1, retA.eq_2, retA.eq_3, retVA.eq_1, retVA.eq_2, retVA.eq_3, retVA.eq_4, forA.eq_1, forA.eq_2, forA.eq_3, sl0.eq_1, sl0.eq_2, sl0.eq_3, sl1.eq_1, sl1.eq_2, sl2.eq_1, sl2.eq_2, sl3.eq_1, sl3.eq_2, optA.eq_1, bdyA.eq_1, bdyA.eq_2, iPA.eq_1, iPA.eq_2, iPA.eq_3, iPA.eq_5, iPA.eq_6, rg1A.eq_3, rg1A.eq_4, rg2A.eq_3, rg2A.eq_4, rg3A.eq_3, rg3A.eq_4, enA.eq_1, enA.eq_3, enA.eq_4, zpA.eq_1, zpA.eq_3, zpA.eq_4, rvA.eq_1, rvA.eq_3, rvA.eq_4, ch1.eq_1, ch1.eq_2, ch1.eq_3, ch2.eq_1, ch2.eq_2, ch2.eq_3, chA.eq_1, chB.eq_1, chB.eq_2, chB.eq_3, chC.eq_1, chC.eq_2, lc0.eq_2, lc0.eq_3, lcA.eq_1, lcA.eq_2, augA.eq_1, augB.eq_1, augB.eq_3, augB.eq_4, appA.eq_1, appB.eq_1, appB.eq_2, appB.eq_3, putA.eq_1, putA.eq_2, putA.eq_3, putA2.eq_1, putA2.eq_2, putB.eq_1, putC.eq_1, putD.eq_1, pixA.eq_1, pixA2.eq_1, pixB.eq_1, tryA.eq_1, tryB.eq_1, tryB.eq_2, tryB.eq_3, noEr.eq_1, repA.eq_1, repA2.eq_1, repA2.eq_2, repB.eq_1, rdT.eq_1, rdT.eq_2, toV.eq_1, toV.eq_2, toV.eq_3, toV.eq_4, toV.eq_5, toV.eq_6, ofV.eq_1, ofV.eq_2, ofV.eq_4, ofV.eq_5, tOf.eq_1, tOf.eq_2, isL.eq_1, getE.eq_1, getT.eq_1, getT.eq_2, getT.eq_3, setE.eq_1, setT.eq_1, setT.eq_2, setT.eq_3, T.data.eq_1, T.data.eq_2, finW.eq_1, finW.eq_2, finW.eq_3, finW.eq_4, finW.eq_6, fin.eq_1, fin.eq_2, fin.eq_3, tgS.eq_1, wipeE.eq_1, wipeE.eq_2, fAdd.eq_1, fAdd.eq_2, fI2.eq_1, fB2.eq_1, fU.eq_1, fLen.eq_1, fLen.eq_2, fLen.eq_3, fIx.eq_1, fIx.eq_2, fIx.eq_3, fIsN.eq_1, fNotN.eq_1, isNone.eq_1, fInt.eq_1, fInt.eq_2, fInt.eq_3, fLs.eq_1, fLs.eq_2, fTp.eq_1, fTp.eq_2, fSlP.eq_3, wOf_l, wOf_o, tryA_nx, tryA_rt, tryA_bk, tryA_ct, noEr_nx, noEr_rt, noEr_bk, noEr_ct, isNone_i, isNone_b, isNone_s, isNone_l, isNone_t, iL_app, iL_len, iL_rep, iL_rev, allD_iL, dataL_iL, q_int, q_t, q_l, n_t, n_l, n_int, q_self, n_self, s_to, s_from, s_mid, sl_to, sl_from, sl_mid, add_t, add_l, cat_l, isi_t, isi_b, isi_i, isi_l, isi_s, at_0, at_1, at_2, at_3, at_4, at_5, at_6, ai_0, ai_1, ai_2, ai_3, ai_4, ai_5, ai_6, tgN_a, tgT_a, apd_ok, lc_ok, rg1_ok, rg2_ok, iL_snoc, iL_mapd, lc_const, rngD_len, iL_take, iL_drop, Int.toNat_natCast, dataL_nil, dataL_cons, allD.eq_1, allD.eq_2, ixN_ok, rep_l, tgS_nil, rep_none, rep_none0, List.take_left, List.drop_left, any_false, all_true, eq_self, set_iL, at_last, List.drop_succ_cons, List.drop_zero, List.take_succ_cons, List.take_zero, List.getLast?_cons_cons, List.getLast?_singleton, Int.cast_ofNat_Int, rg3_ok, rngC_len, fRv_l, q0, hp, hrr, c0]; rfl), _, _, _, _, rfl⟩
  · rcases read_any O hO with he | ⟨m, n, kk, row', r1, r2, r3, r4, he⟩
    · refine ⟨_, .inl (by simp (disch := (first | with_reducible assumption | omega | (simp only [iL_len, rngD_len, rngC_len, List.length_append, List.length_replicate, List.length_cons, List.length_nil, List.length_map, List.length_take, List.length_drop, List.length_range, SZ] <;> omega) | (simp only [iL_len, rngD_len, rngC_len, List.length_append, List.length_replicate, List.length_cons, List.length_nil, List.length_map, List.length_take, List.length_drop, List.length_range, SZ] at * <;> omega) | fail)) only [↓x_seq, ↓x_nil, ↓x_if, ↓x_set, ↓x_setV, ↓x_asg, ↓x_exp, ↓x_ret, ↓x_retV, ↓x_retN, ↓x_brk, ↓x_cnt, ↓x_for, ↓x_bdy, ↓x_C, ↓x_var, ↓x_dvar, ↓x_v1, ↓x_v2, ↓x_d1L, ↓x_d2L, ↓x_and, ↓x_or, ↓x_not, ↓x_ifx, ↓x_args0, ↓x_args1, ↓x_tup, ↓x_lst, ↓x_call, ↓x_vD, ↓x_dV, ↓x_slP, ↓x_opt0, ↓x_opt1, ↓x_iP, ↓x_rg1, ↓x_rg2, ↓x_rg3, ↓x_en, ↓x_zp, ↓x_rv, ↓x_ch, ↓x_lc, ↓x_aug, ↓x_app, ↓x_put, ↓x_pix, ↓x_try, ↓x_rep, ↓x_raise0, y_sq, y_sif, y_retV, y_setV, y_toV, y_ofV, y_orw, y_and, y_or, y_not, y_v1, y_v2a, y_v2b, y_finW, y_calB, sq_nx, sq_rt, sq_bk, sq_ct, sq_er, sq_no, dataL_d, allD_d, fnD, SZ, List.getElem?_cons_zero, List.getElem?_cons_succ, List.getElem?_nil, List.set_cons_zero, List.set_cons_succ, List.map_cons, List.map_nil, List.length_cons, List.length_nil, List.length_map, List.length_append, List.cons_append, List.nil_append, List.append_nil, Nat.reduceAdd, Nat.reduceSub, Nat.zero_add, Nat.add_zero, Option.map_some, Option.map_none, Option.getD_some, Option.getD_none, Bool.false_eq_true, Bool.true_eq_false, Bool.and_false, Bool.false_and, Bool.and_true, Bool.true_and, Bool.or_false, Bool.false_or, Bool.or_true, Bool.true_or, Bool.not_true, Bool.not_false, if_true, if_false, ite_true, ite_false, decide_eq_true_eq, Bool.and_eq_true, Bool.or_eq_true, Bool.not_eq_true', decide_eq_false_iff_not, decide_true, decide_false, true_and, and_true, reduceCtorEq, Int.reduceNeg, Int.reduceLT, Int.reduceLE, Int.reduceToNat, Nat.reduceLeDiff, Int.reduceAbs, Int.reduceSub, Int.reduceAdd, Int.reduceMul, Int.reduceEq, Nat.reduceMul, Nat.reduceEqDiff, Nat.reduceLT, Nat.reducePow, Int.reducePow, ↓reduceIte, ite_not, sif.eq_1, sif.eq_3, sif.eq_4, andA.eq_1, andA.eq_3, andA.eq_4, orA.eq_1, orA.eq_3, orA.eq_4, notA.eq_1, notA.eq_3, notA.eq_4, ifA.eq_1, ifA.eq_3, ifA.eq_4, orw.eq_1, orw.eq_2, orw.eq_3, v1r.eq_1, v1r.eq_2, v1a.eq_1, v1a.eq_2, v1a.eq_3, v2a.eq_1, v2a.eq_2, v2a.eq_3, v2b.eq_1, v2b.eq_2, v2b.eq_3, dlr.eq_1, dlr.eq_2, d1a.eq_1, d1a.eq_2, d1a.eq_3, d2a.eq_1, d2a.eq_2, d2a.eq_3, d2b.eq_1, d2b.eq_2, d2b.eq_3, ar1.eq_1, ar1.eq_2, ar1.eq_3, ar1.eq_4, ar2.eq_1, ar2.eq_2, ar2.eq_3, tupA.eq_1, tupA.eq_2, tupA.eq_3, lstA.eq_1, lstA.eq_2, lstA.eq_3, calA.eq_1, calA.eq_2, calA.eq_3, calB.eq_1, calB.eq_2, calB.eq_3, wOf.eq_1, varV.eq_1, varR.eq_1, varR.eq_2, varD.eq_1, setA.eq_1, setA.eq_2, setA.eq_4, setA.eq_5, setVA.eq_1, setVA.eq_2, setVA.eq_3, setVA.eq_4, asgA.eq_1, asgA.eq_2, asgA.eq_3, asgA.eq_4, asgB.eq_1, asgB.eq_2, expA.eq_1, expA.eq_2, expA.eq_3, retA.eq_1, retA.eq_2, retA.eq_3, retVA.eq_1, retVA.eq_2, retVA.eq_3, retVA.eq_4, forA.eq_1, forA.eq_2, forA.eq_3, sl0.eq_1, sl0.eq_2, sl0.eq_3, sl1.eq_1, sl1.eq_2, sl2.eq_1, sl2.eq_2, sl3.eq_1, sl3.eq_2, optA.eq_1, bdyA.eq_1, bdyA.eq_2, iPA.eq_1, iPA.eq_2, iPA.eq_3, iPA.eq_5, iPA.eq_6, rg1A.eq_3, rg1A.eq_4, rg2A.eq_3, rg2A.eq_4, rg3A.eq_3, rg3A.eq_4, enA.eq_1, enA.eq_3, enA.eq_4, zpA.eq_1, zpA.eq_3, zpA.eq_4, rvA.eq_1, rvA.eq_3, rvA.eq_4, ch1.eq_1, ch1.eq_2, ch1.eq_3, ch2.eq_1, ch2.eq_2, ch2.eq_3, chA.eq_1, chB.eq_1, chB.eq_2, chB.eq_3, chC.eq_1, chC.eq_2, lc0.eq_2, lc0.eq_3, lcA.eq_1, lcA.eq_2, augA.eq_1, augB.eq_1, augB.eq_3, augB.eq_4, appA.eq_1, appB.eq_1, appB.eq_2, appB.eq_3, putA.eq_1, putA.eq_2, putA.eq_3, putA2.eq_1, putA2.eq_2, putB.eq_1, putC.eq_1, putD.eq_1, pixA.eq_1, pixA2.eq_1, pixB.eq_1, tryA.eq_1, tryB.eq_1, tryB.eq_2, tryB.eq_3, noEr.eq_1, repA.eq_1, repA2.eq_1, repA2.eq_2, repB.eq_1, rdT.eq_1, rdT.eq_2, toV.eq_1, toV.eq_2, toV.eq_3, toV.eq_4, toV.eq_5, toV.eq_6, ofV.eq_1, ofV.eq_2, ofV.eq_4, ofV.eq_5, tOf.eq_1, tOf.eq_2, isL.eq_1, getE.eq_1, getT.eq_1, getT.eq_2, getT.eq_3, setE.eq_1, setT.eq_1, setT.eq_2, setT.eq_3, T.data.eq_1, T.data.eq_2, finW.eq_1, finW.eq_2, finW.eq_3, finW.eq_4, finW.eq_6, fin.eq_1, fin.eq_2, fin.eq_3, tgS.eq_1, wipeE.eq_1, wipeE.eq_2, fAdd.eq_1, fAdd.eq_2, fI2.eq_1, fB2.eq_1, fU.eq_1, fLen.eq_1, fLen.eq_2, fLen.eq_3, fIx.eq_1, fIx.eq_2, fIx.eq_3, fIsN.eq_1, fNotN.eq_1, isNone.eq_1, fInt.eq_1, fInt.eq_2, fInt.eq_3, fLs.eq_1, fLs.eq_2, fTp.eq_1, fTp.eq_2, fSlP.eq_3, wOf_l, wOf_o, tryA_nx, tryA_rt, tryA_bk, tryA_ct, noEr_nx, noEr_rt, noEr_bk, noEr_ct, isNone_i, isNone_b, isNone_s, isNone_l, isNone_t, iL_app, iL_len, iL_rep, iL_rev, allD_iL, dataL_iL, q_int, q_t, q_l, n_t, n_l, n_int, q_self, n_self, s_to, s_from, s_mid, sl_to, sl_from, sl_mid, add_t, add_l, cat_l, isi_t, isi_b, isi_i, isi_l, isi_s, at_0, at_1, at_2, at_3, at_4, at_5, at_6, ai_0, ai_1, ai_2, ai_3, ai_4, ai_5, ai_6, tgN_a, tgT_a, apd_ok, lc_ok, rg1_ok, rg2_ok, iL_snoc, iL_mapd, lc_const, rngD_len, iL_take, iL_drop, Int.toNat_natCast, dataL_nil, dataL_cons, allD.eq_1, allD.eq_2, ixN_ok, rep_l, tgS_nil, rep_none, rep_none0, List.take_left, List.drop_left, any_false, all_true, eq_self, set_iL, at_last, List.drop_succ_cons, List.drop_zero, List.take_succ_cons, List.take_zero, List.getLast?_cons_cons, List.getLast?_singleton, Int.cast_ofNat_Int, rg3_ok, rngC_len, fRv_l, q0, hp, c0, hsp, he, tbt]; rfl), _, _, _, _, rfl⟩
    · have hq := law_part_ok m n kk row' (by omega)
      rw [r4] at hq
      have l1 : (160 < (row'.length : Int)) = False := by apply eq_false; omega
      by_cases c1 : n = 1
      · obtain ⟨rfl, rfl⟩ := r2 c1
        subst c1
        have hne : fNe (.tuple [.int (-1), .int 1, .int 1]) (.tuple [.int (-1), .int 1, .int 1]) = some (.bool false) := n_self (by decide +kernel)
        refine ⟨_, .inl (by simp (disch := (first | with_reducible assumption | omega | (simp only [iL_len, rngD_len, rngC_len, List.length_append, List.length_replicate, List.length_cons, List.length_nil, List.length_map, List.length_take, List.length_drop, List.length_range, SZ] <;> omega) | (simp only [iL_len, rngD_len, rngC_len, List.length_append, List.length_replicate, List.length_cons, List.length_nil, List.length_map, List.length_take, List.length_drop, List.length_range, SZ] at * <;> omega) | fail)) only [↓x_seq, ↓x_nil, ↓x_if, ↓x_set, ↓x_setV, ↓x_asg, ↓x_exp, ↓x_ret, ↓x_retV, ↓x_retN, ↓x_brk, ↓x_cnt, ↓x_for, ↓x_bdy, ↓x_C, ↓x_var, ↓x_dvar, ↓x_v1, ↓x_v2, ↓x_d1L, ↓x_d2L, ↓x_and, ↓x_or, ↓x_not, ↓x_ifx, ↓x_args0, ↓x_args1, ↓x_tup, ↓x_lst, ↓x_call, ↓x_vD, ↓x_dV, ↓x_slP, ↓x_opt0, ↓x_opt1, ↓x_iP, ↓x_rg1, ↓x_rg2, ↓x_rg3, ↓x_en, ↓x_zp, ↓x_rv, ↓x_ch, ↓x_lc, ↓x_aug, ↓x_app, ↓x_put, ↓x_pix, ↓x_try, ↓x_rep, ↓x_raise0, y_sq, y_sif, y_retV, y_setV, y_toV, y_ofV, y_orw, y_and, y_or, y_not, y_v1, y_v2a, y_v2b, y_finW, y_calB, sq_nx, sq_rt, sq_bk, sq_ct, sq_er, sq_no, dataL_d, allD_d, fnD, SZ, List.getElem?_cons_zero, List.getElem?_cons_succ, List.getElem?_nil, List.set_cons_zero, List.set_cons_succ, List.map_cons, List.map_nil, List.length_cons, List.length_nil, List.length_map, List.length_append, List.cons_append, List.nil_append, List.append_nil, Nat.reduceAdd, Nat.reduceSub, Nat.zero_add, Nat.add_zero, Option.map_some, Option.map_none, Option.getD_some, Option.getD_none, Bool.false_eq_true, Bool.true_eq_false, Bool.and_false, Bool.false_and, Bool.and_true, Bool.true_and, Bool.or_false, Bool.false_or, Bool.or_true, Bool.true_or, Bool.not_true, Bool.not_false, if_true, if_false, ite_true, ite_false, decide_eq_true_eq, Bool.and_eq_true, Bool.or_eq_true, Bool.not_eq_true', decide_eq_false_iff_not, decide_true, decide_false, true_and, and_true, reduceCtorEq, Int.reduceNeg, Int.reduceLT, Int.reduceLE, Int.reduceToNat, Nat.reduceLeDiff, Int.reduceAbs, Int.reduceSub, Int.reduceAdd, Int.reduceMul, Int.reduceEq, Nat.reduceMul, Nat.reduceEqDiff, Nat.reduceLT, Nat.reducePow, Int.reducePow, ↓reduceIte, ite_not, sif.eq_1, sif.eq_3, sif.eq_4, andA.eq_1, andA.eq_3, andA.eq_4, orA.eq_1, orA.eq_3, orA.eq_4, notA.eq_1, notA.eq_3, notA.eq_4, ifA.eq_1, ifA.eq_3, ifA.eq_4, orw.eq_1, orw.eq_2, orw.eq_3, v1r.eq_1, v1r.eq_2, v1a.eq_1, v1a.eq_2, v1a.eq_3, v2a.eq_1, v2a.eq_2, v2a.eq_3, v2b.eq_1, v2b.eq_2, v2b.eq_3, dlr.eq_1, dlr.eq_2, d1a.eq_1, d1a.eq_2, d1a.eq_3, d2a.eq_1, d2a.eq_2, d2a.eq_3, d2b.eq_1, d2b.eq_2, d2b.eq_3, ar1.eq_1, ar1.eq_2, ar1.eq_3, ar1.eq_4, ar2.eq_1, ar2.eq_2, ar2.eq_3, tupA.eq_1, tupA.eq_2, tupA.eq_3, lstA.eq_1, lstA.eq_2, lstA.eq_3, calA.eq_1, calA.eq_2, calA.eq_3, calB.eq_1, calB.eq_2, calB.eq_3, wOf.eq_1, varV.eq_1, varR.eq_1, varR.eq_2, varD.eq_1, setA.eq_1, setA.eq_2, setA.eq_4, setA.eq_5, setVA.eq_1, setVA.eq_2, setVA.eq_3, setVA.eq_4, asgA.eq_1, asgA.eq_2, asgA.eq_3, asgA.eq_4, asgB.eq_1, asgB.eq_2, expA.eq_1, expA.eq_2, expA.eq_3, retA.eq_1, retA.eq_2, retA.eq_3, retVA.eq_1, retVA.eq_2, retVA.eq_3, retVA.eq_4, forA.eq_1, forA.eq_2, forA.eq_3, sl0.eq_1, sl0.eq_2, sl0.eq_3, sl1.eq_1, sl1.eq_2, sl2.eq_1, sl2.eq_2, sl3.eq_1, sl3.eq_2, optA.eq_1, bdyA.eq_1, bdyA.eq_2, iPA.eq_1, iPA.eq_2, iPA.eq_3, iPA.eq_5, iPA.eq_6, rg1A.eq_3, rg1A.eq_4, rg2A.eq_3, rg2A.eq_4, rg3A.eq_3, rg3A.eq_4, enA.eq_1, enA.eq_3, enA.eq_4, zpA.eq_1, zpA.eq_3, zpA.eq_4, rvA.eq_1, rvA.eq_3, rvA.eq_4, ch1.eq_1, ch1.eq_2, ch1.eq_3, ch2.eq_1, ch2.eq_2, ch2.eq_3, chA.eq_1, chB.eq_1, chB.eq_2, chB.eq_3, chC.eq_1, chC.eq_2, lc0.eq_2, lc0.eq_3, lcA.eq_1, lcA.eq_2, augA.eq_1, augB.eq_1, augB.eq_3, augB.eq_4, appA.eq_1, appB.eq_1, appB.eq_2, appB.eq_3, putA.eq_1, putA.eq_2, putA.eq_3, putA2.eq_1, putA2.eq_2, putB.eq_1, putC.eq_1, putD.eq_1, pixA.eq_1, pixA2.eq_1, pixB.eq_1, tryA.eq_1, tryB.eq_1, tryB.eq_2, tryB.eq_3, noEr.eq_1, repA.eq_1, repA2.eq_1, repA2.eq_2, repB.eq_1, rdT.eq_1, rdT.eq_2, toV.eq_1, toV.eq_2, toV.eq_3, toV.eq_4, toV.eq_5, toV.eq_6, ofV.eq_1, ofV.eq_2, ofV.eq_4, ofV.eq_5, tOf.eq_1, tOf.eq_2, isL.eq_1, getE.eq_1, getT.eq_1, getT.eq_2, getT.eq_3, setE.eq_1, setT.eq_1, setT.eq_2, setT.eq_3, T.data.eq_1, T.data.eq_2, finW.eq_1, finW.eq_2, finW.eq_3, finW.eq_4, finW.eq_6, fin.eq_1, fin.eq_2, fin.eq_3, tgS.eq_1, wipeE.eq_1, wipeE.eq_2, fAdd.eq_1, fAdd.eq_2, fI2.eq_1, fB2.eq_1, fU.eq_1, fLen.eq_1, fLen.eq_2, fLen.eq_3, fIx.eq_1, fIx.eq_2, fIx.eq_3, fIsN.eq_1, fNotN.eq_1, isNone.eq_1, fInt.eq_1, fInt.eq_2, fInt.eq_3, fLs.eq_1, fLs.eq_2, fTp.eq_1, fTp.eq_2, fSlP.eq_3, wOf_l, wOf_o, tryA_nx, tryA_rt, tryA_bk, tryA_ct, noEr_nx, noEr_rt, noEr_bk, noEr_ct, isNone_i, isNone_b, isNone_s, isNone_l, isNone_t, iL_app, iL_len, iL_rep, iL_rev, allD_iL, dataL_iL, q_int, q_t, q_l, n_t, n_l, n_int, q_self, n_self, s_to, s_from, s_mid, sl_to, sl_from, sl_mid, add_t, add_l, cat_l, isi_t, isi_b, isi_i, isi_l, isi_s, at_0, at_1, at_2, at_3, at_4, at_5, at_6, ai_0, ai_1, ai_2, ai_3, ai_4, ai_5, ai_6, tgN_a, tgT_a, apd_ok, lc_ok, rg1_ok, rg2_ok, iL_snoc, iL_mapd, lc_const, rngD_len, iL_take, iL_drop, Int.toNat_natCast, dataL_nil, dataL_cons, allD.eq_1, allD.eq_2, ixN_ok, rep_l, tgS_nil, rep_none, rep_none0, List.take_left, List.drop_left, any_false, all_true, eq_self, set_iL, at_last, List.drop_succ_cons, List.drop_zero, List.take_succ_cons, List.take_zero, List.getLast?_cons_cons, List.getLast?_singleton, Int.cast_ofNat_Int, rg3_ok, rngC_len, fRv_l, q0, hp, c0, hsp, he, hq, l1, hne]; rfl), _, _, _, _, rfl⟩
      · obtain ⟨t1, t2, t3, t4, t5, t6⟩ := r3 c1
        have hne : fEq (.list (iL row')) (.list []) = some (.bool false) := by
          have := q_l (a := row') (b := [])
          rw [decide_eq_false (fun z => by subst z; simp at t5)] at this
          exact this
        have u1 : (153 < (row'.length : Int)) = False := by apply eq_false; omega
        have u2 : (n < 2) = False := by apply eq_false; omega
        have u3 : (4 < n) = False := by apply eq_false; omega
        have u4 : (kk < 1) = False := by apply eq_false; omega
        have u5 : (n < kk) = False := by apply eq_false; omega
        refine ⟨_, .inl (by simp (disch := (first | with_reducible assumption | omega | (simp only [iL_len, rngD_len, rngC_len, List.length_append, List.length_replicate, List.length_cons, List.length_nil, List.length_map, List.length_take, List.length_drop, List.length_range, SZ] <;> omega) | (simp only [iL_len, rngD_len, rngC_len, List.length_append, List.length_replicate, List.length_cons, List.length_nil, List.length_map, List.length_take, List.length_drop, List.length_range, SZ] at * <;> omega) | fail)) only [↓x_seq, ↓x_nil, ↓x_if, ↓x_set, ↓x_setV, ↓x_asg, ↓x_exp, ↓x_ret, ↓x_retV, ↓x_retN, ↓x_brk, ↓x_cnt, ↓x_for, ↓x_bdy, ↓x_C, ↓x_var, ↓x_dvar, ↓x_v1, ↓x_v2, ↓x_d1L, ↓x_d2L, ↓x_and, ↓x_or, ↓x_not, ↓x_ifx, ↓x_args0, ↓x_args1, ↓x_tup, ↓x_lst, ↓x_call, ↓x_vD, ↓x_dV, ↓x_slP, ↓x_opt0, ↓x_opt1, ↓x_iP, ↓x_rg1, ↓x_rg2, ↓x_rg3, ↓x_en, ↓x_zp, ↓x_rv, ↓x_ch, ↓x_lc, ↓x_aug, ↓x_app, ↓x_put, ↓x_pix, ↓x_try, ↓x_rep, ↓x_raise0, y_sq, y_sif, y_retV, y_setV, y_toV, y_ofV, y_orw, y_and, y_or, y_not, y_v1, y_v2a, y_v2b, y_finW, y_calB, sq_nx, sq_rt, sq_bk, sq_ct, sq_er, sq_no, dataL_d, allD_d, fnD, SZ, List.getElem?_cons_zero, List.getElem?_cons_succ, List.getElem?_nil, List.set_cons_zero, List.set_cons_succ, List.map_cons, List.map_nil, List.length_cons, List.length_nil, List.length_map, List.length_append, List.cons_append, List.nil_append, List.append_nil, Nat.reduceAdd, Nat.reduceSub, Nat.zero_add, Nat.add_zero, Option.map_some, Option.map_none, Option.getD_some, Option.getD_none, Bool.false_eq_true, Bool.true_eq_false, Bool.and_false, Bool.false_and, Bool.and_true, Bool.true_and, Bool.or_false, Bool.false_or, Bool.or_true, Bool.true_or, Bool.not_true, Bool.not_false, if_true, if_false, ite_true, ite_false, decide_eq_true_eq, Bool.and_eq_true, Bool.or_eq_true, Bool.not_eq_true', decide_eq_false_iff_not, decide_true, decide_false, true_and, and_true, reduceCtorEq, Int.reduceNeg, Int.reduceLT, Int.reduceLE, Int.reduceToNat, Nat.reduceLeDiff, Int.reduceAbs, Int.reduceSub, Int.reduceAdd, Int.reduceMul, Int.reduceEq, Nat.reduceMul, Nat.reduceEqDiff, Nat.reduceLT, Nat.reducePow, Int.reducePow, ↓reduceIte, ite_not, sif.eq_1, sif.eq_3, sif.eq_4, andA.eq_1, andA.eq_3, andA.eq_4, orA.eq_1, orA.eq_3, orA.eq_4, notA.eq_1, notA.eq_3, notA.eq_4, ifA.eq_1, ifA.eq_3, ifA.eq_4, orw.eq_1, orw.eq_2, orw.eq_3, v1r.eq_1, v1r.eq_2, v1a.eq_1, v1a.eq_2, v1a.eq_3, v2a.eq_1, v2a.eq_2, v2a.eq_3, v2b.eq_1, v2b.eq_2, v2b.eq_3, dlr.eq_1, dlr.eq_2, d1a.eq_1, d1a.eq_2, d1a.eq_3, d2a.eq_1, d2a.eq_2, d2a.eq_3, d2b.eq_1, d2b.eq_2, d2b.eq_3, ar1.eq_1, ar1.eq_2, ar1.eq_3, ar1.eq_4, ar2.eq_1, ar2.eq_2, ar2.eq_3, tupA.eq_1, tupA.eq_2, tupA.eq_3, lstA.eq_1, lstA.eq_2, lstA.eq_3, calA.eq_1, calA.eq_2, calA.eq_3, calB.eq_1, calB.eq_2, calB.eq_3, wOf.eq_1, varV.eq_1, varR.eq_1, varR.eq_2, varD.eq_1, setA.eq_1, setA.eq_2, setA.eq_4, setA.eq_5, setVA.eq_1, setVA.eq_2, setVA.eq_3, setVA.eq_4, asgA.eq_1, asgA.eq_2, asgA.eq_3, asgA.eq_4, asgB.eq_1, asgB.eq_2, expA.eq_1, expA.eq_2, expA.eq_3, retA.eq_1, retA.eq_2, retA.eq_3, retVA.eq_1, retVA.eq_2, retVA.eq_3, retVA.eq_4, forA.eq_1, forA.eq_2, forA.eq_3, sl0.eq_1, sl0.eq_2, sl0.eq_3, sl1.eq_1, sl1.eq_2, sl2.eq_1, sl2.eq_2, sl3.eq_1, sl3.eq_2, optA.eq_1, bdyA.eq_1, bdyA.eq_2, iPA.eq_1, iPA.eq_2, iPA.eq_3, iPA.eq_5, iPA.eq_6, rg1A.eq_3, rg1A.eq_4, rg2A.eq_3, rg2A.eq_4, rg3A.eq_3, rg3A.eq_4, enA.eq_1, enA.eq_3, enA.eq_4, zpA.eq_1, zpA.eq_3, zpA.eq_4, rvA.eq_1, rvA.eq_3, rvA.eq_4, ch1.eq_1, ch1.eq_2, ch1.eq_3, ch2.eq_1, ch2.eq_2, ch2.eq_3, chA.eq_1, chB.eq_1, chB.eq_2, chB.eq_3, chC.eq_1, chC.eq_2, lc0.eq_2, lc0.eq_3, lcA.eq_1, lcA.eq_2, augA.eq_1, augB.eq_1, augB.eq_3, augB.eq_4, appA.eq_1, appB.eq_1, appB.eq_2, appB.eq_3, putA.eq_1, putA.eq_2, putA.eq_3, putA2.eq_1, putA2.eq_2, putB.eq_1, putC.eq_1, putD.eq_1, pixA.eq_1, pixA2.eq_1, pixB.eq_1, tryA.eq_1, tryB.eq_1, tryB.eq_2, tryB.eq_3, noEr.eq_1, repA.eq_1, repA2.eq_1, repA2.eq_2, repB.eq_1, rdT.eq_1, rdT.eq_2, toV.eq_1, toV.eq_2, toV.eq_3, toV.eq_4, toV.eq_5, toV.eq_6, ofV.eq_1, ofV.eq_2, ofV.eq_4, ofV.eq_5, tOf.eq_1, tOf.eq_2, isL.eq_1, getE.eq_1, getT.eq_1, getT.eq_2, getT.eq_3, setE.eq_1, setT.eq_1, setT.eq_2, setT.eq_3, T.data.eq_1, T.data.eq_2, finW.eq_1, finW.eq_2, finW.eq_3, finW.eq_4, finW.eq_6, fin.eq_1, fin.eq_2, fin.eq_3, tgS.eq_1, wipeE.eq_1, wipeE.eq_2, fAdd.eq_1, fAdd.eq_2, fI2.eq_1, fB2.eq_1, fU.eq_1, fLen.eq_1, fLen.eq_2, fLen.eq_3, fIx.eq_1, fIx.eq_2, fIx.eq_3, fIsN.eq_1, fNotN.eq_1, isNone.eq_1, fInt.eq_1, fInt.eq_2, fInt.eq_3, fLs.eq_1, fLs.eq_2, fTp.eq_1, fTp.eq_2, fSlP.eq_3, wOf_l, wOf_o, tryA_nx, tryA_rt, tryA_bk, tryA_ct, noEr_nx, noEr_rt, noEr_bk, noEr_ct, isNone_i, isNone_b, isNone_s, isNone_l, isNone_t, iL_app, iL_len, iL_rep, iL_rev, allD_iL, dataL_iL, q_int, q_t, q_l, n_t, n_l, n_int, q_self, n_self, s_to, s_from, s_mid, sl_to, sl_from, sl_mid, add_t, add_l, cat_l, isi_t, isi_b, isi_i, isi_l, isi_s, at_0, at_1, at_2, at_3, at_4, at_5, at_6, ai_0, ai_1, ai_2, ai_3, ai_4, ai_5, ai_6, tgN_a, tgT_a, apd_ok, lc_ok, rg1_ok, rg2_ok, iL_snoc, iL_mapd, lc_const, rngD_len, iL_take, iL_drop, Int.toNat_natCast, dataL_nil, dataL_cons, allD.eq_1, allD.eq_2, ixN_ok, rep_l, tgS_nil, rep_none, rep_none0, List.take_left, List.drop_left, any_false, all_true, eq_self, set_iL, at_last, List.drop_succ_cons, List.drop_zero, List.take_succ_cons, List.take_zero, List.getLast?_cons_cons, List.getLast?_singleton, Int.cast_ofNat_Int, rg3_ok, rngC_len, fRv_l, q0, hp, c0, hsp, he, hq, l1, hne, c1, u1, u2, u3, u4, u5]; rfl), _, _, _, _, rfl⟩


def rowL (L : Int) (m : Nat) : List Int := ((List.range m).map fun k => (0 : Int) + (k : Nat)).map fun k => (L / (k + 3) + 5 * k) % 128
theorem rowL_len (L : Int) (m : Nat) : (rowL L m).length = m := by simp [rowL]
theorem rowL_in (L : Int) (m : Nat) : ∀ x ∈ rowL L m, 0 ≤ x ∧ x < 128 := by
  intro x h
  obtain ⟨k, _, rfl⟩ := List.mem_map.mp h
  omega
theorem row_lc (L : Int) (m : Nat) (hm : m < 1000) (s1 s2 s3 s4 s5 s6 s7 s8 s9 s10 s11 s12 s13 s14 : Option T) : lcG (tgN 9) (vC (.bool true)) (v2 fMod (v2 fAdd (v2 fDiv (vVar 6) (v2 fAdd (vVar 9) (vC (.int 3)))) (v2 fMul (vC (.int 5)) (vVar 9))) (vC (.int 128))) [s1, s2, s3, s4, s5, s6, some (.d (.int L)), s7, s8, s9, s10, s11, s12, s13, s14] (iL ((List.range m).map fun k => (0 : Int) + (k : Nat))) = some (iL (rowL L m)) := by
  refine lc_ints _ (fun k hk => ⟨[s1, s2, s3, s4, s5, s6, some (.d (.int L)), s7, s8, some (.d (.int k)), s10, s11, s12, s13, s14], ?_⟩)
  obtain ⟨n, hn, rfl⟩ := List.mem_map.mp hk
  have hn2 : n < m := by simpa using hn
  have q1 : decide (0 < (0 : Int) + (n : Nat) + 3) = true := decide_eq_true (by omega)
  have q2 : decide ((0 : Int) + (n : Nat) + 3 < 1073741824) = true := decide_eq_true (by omega)
  simp (disch := (first | with_reducible assumption | omega | (simp only [iL_len, rngD_len, rngC_len, List.length_append, List.length_replicate, List.length_cons, List.length_nil, List.length_map, List.length_take, List.length_drop, List.length_range, SZ] <;> omega) | (simp only [iL_len, rngD_len, rngC_len, List.length_append, List.length_replicate, List.length_cons, List.length_nil, List.length_map, List.length_take, List.length_drop, List.length_range, SZ] at * <;> omega) | fail)) only [↓x_seq, ↓x_nil, ↓x_if, ↓x_set, ↓x_setV, ↓x_asg, ↓x_exp, ↓x_ret, ↓x_retV, ↓x_retN, ↓x_brk, ↓x_cnt, ↓x_for, ↓x_bdy, ↓x_C, ↓x_var, ↓x_dvar, ↓x_v1, ↓x_v2, ↓x_d1L, ↓x_d2L, ↓x_and, ↓x_or, ↓x_not, ↓x_ifx, ↓x_args0, ↓x_args1, ↓x_tup, ↓x_lst, ↓x_call, ↓x_vD, ↓x_dV, ↓x_slP, ↓x_opt0, ↓x_opt1, ↓x_iP, ↓x_rg1, ↓x_rg2, ↓x_rg3, ↓x_en, ↓x_zp, ↓x_rv, ↓x_ch, ↓x_lc, ↓x_aug, ↓x_app, ↓x_put, ↓x_pix, ↓x_try, ↓x_rep, ↓x_raise0, y_sq, y_sif, y_retV, y_setV, y_toV, y_ofV, y_orw, y_and, y_or, y_not, y_v1, y_v2a, y_v2b, y_finW, y_calB, sq_nx, sq_rt, sq_bk, sq_ct, sq_er, sq_no, dataL_d, allD_d, fnD, SZ, List.getElem?_cons_zero, List.getElem?_cons_succ, List.getElem?_nil, List.set_cons_zero, List.set_cons_succ, List.map_cons, List.map_nil, List.length_cons, List.length_nil, List.length_map, List.length_append, List.cons_append, List.nil_append, List.append_nil, Nat.reduceAdd, Nat.reduceSub, Nat.zero_add, Nat.add_zero, Option.map_some, Option.map_none, Option.getD_some, Option.getD_none, Bool.false_eq_true, Bool.true_eq_false, Bool.and_false, Bool.false_and, Bool.and_true, Bool.true_and, Bool.or_false, Bool.false_or, Bool.or_true, Bool.true_or, Bool.not_true, Bool.not_false, if_true, if_false, ite_true, ite_false, decide_eq_true_eq, Bool.and_eq_true, Bool.or_eq_true, Bool.not_eq_true', decide_eq_false_iff_not, decide_true, decide_false, true_and, and_true, reduceCtorEq, Int.reduceNeg, Int.reduceLT, Int.reduceLE, Int.reduceToNat, Nat.reduceLeDiff, Int.reduceAbs, Int.reduceSub, Int.reduceAdd, Int.reduceMul, Int.reduceEq, Nat.reduceMul, Nat.reduceEqDiff, Nat.reduceLT, Nat.reducePow, Int.reducePow, ↓reduceIte, ite_not, sif.eq_1, sif.eq_3, sif.eq_4, andA.eq_1, andA.eq_3, andA.eq_4, orA.eq_1, orA.eq_3, orA.eq_4, notA.eq_1, notA.eq_3, notA.eq_4, ifA.eq_1, ifA.eq_3, ifA.eq_4, orw.eq_1, orw.eq_2, orw.eq_3, v1r.eq_1, v1r.eq_2, v1a.eq_1, v1a.eq_2, v1a.eq_3, v2a.eq_1, v2a.eq_2, v2a.eq_3, v2b.eq_1, v2b.eq_2, v2b.eq_3, dlr.eq_1, dlr.eq_2, d1a.eq_1, d1a.eq_2, d1a.eq_3, d2a.eq_1, d2a.eq_2, d2a.eq_3, d2b.eq_1, d2b.eq_2, d2b.eq_3, ar1.eq_1, ar1.eq_2, ar1.eq_3, ar1.eq_4, ar2.eq_1, ar2.eq_2, ar2.eq_3, tupA.eq_1, tupA.eq_2, tupA.eq_3, lstA.eq_1, lstA.eq_2, lstA.eq_3, calA.eq_1, calA.eq_2, calA.eq_3, calB.eq_1, calB.eq_2, calB.eq_3, wOf.eq_1, varV.eq_1, varR.eq_1, varR.eq_2, varD.eq_1, setA.eq_1, setA.eq_2, setA.eq_4, setA.eq_5, setVA.eq_1, setVA.eq_2, setVA.eq_3, setVA.eq_4, asgA.eq_1, asgA.eq_2, asgA.eq_3, asgA.eq_4, asgB.eq_1, asgB.eq_2, expA.eq_1, expA.eq_2, expA.eq_3, retA.eq_1, retA.eq_2, retA.eq_3, retVA.eq_1, retVA.eq_2, retVA.eq_3, retVA.eq_4, forA.eq_1, forA.eq_2, forA.eq_3, sl0.eq_1, sl0.eq_2, sl0.eq_3, sl1.eq_1, sl1.eq_2, sl2.eq_1, sl2.eq_2, sl3.eq_1, sl3.eq_2, optA.eq_1, bdyA.eq_1, bdyA.eq_2, iPA.eq_1, iPA.eq_2, iPA.eq_3, iPA.eq_5, iPA.eq_6, rg1A.eq_3, rg1A.eq_4, rg2A.eq_3, rg2A.eq_4, rg3A.eq_3, rg3A.eq_4, enA.eq_1, enA.eq_3, enA.eq_4, zpA.eq_1, zpA.eq_3, zpA.eq_4, rvA.eq_1, rvA.eq_3, rvA.eq_4, ch1.eq_1, ch1.eq_2, ch1.eq_3, ch2.eq_1, ch2.eq_2, ch2.eq_3, chA.eq_1, chB.eq_1, chB.eq_2, chB.eq_3, chC.eq_1, chC.eq_2, lc0.eq_2, lc0.eq_3, lcA.eq_1, lcA.eq_2, augA.eq_1, augB.eq_1, augB.eq_3, augB.eq_4, appA.eq_1, appB.eq_1, appB.eq_2, appB.eq_3, putA.eq_1, putA.eq_2, putA.eq_3, putA2.eq_1, putA2.eq_2, putB.eq_1, putC.eq_1, putD.eq_1, pixA.eq_1, pixA2.eq_1, pixB.eq_1, tryA.eq_1, tryB.eq_1, tryB.eq_2, tryB.eq_3, noEr.eq_1, repA.eq_1, repA2.eq_1, repA2.eq_2, repB.eq_1, rdT.eq_1, rdT.eq_2, toV.eq_1, toV.eq_2, toV.eq_3, toV.eq_4, toV.eq_5, toV.eq_6, ofV.eq_1, ofV.eq_2, ofV.eq_4, ofV.eq_5, tOf.eq_1, tOf.eq_2, isL.eq_1, getE.eq_1, getT.eq_1, getT.eq_2, getT.eq_3, setE.eq_1, setT.eq_1, setT.eq_2, setT.eq_3, T.data.eq_1, T.data.eq_2, finW.eq_1, finW.eq_2, finW.eq_3, finW.eq_4, finW.eq_6, fin.eq_1, fin.eq_2, fin.eq_3, tgS.eq_1, wipeE.eq_1, wipeE.eq_2, fAdd.eq_1, fAdd.eq_2, fI2.eq_1, fB2.eq_1, fU.eq_1, fLen.eq_1, fLen.eq_2, fLen.eq_3, fIx.eq_1, fIx.eq_2, fIx.eq_3, fIsN.eq_1, fNotN.eq_1, isNone.eq_1, fInt.eq_1, fInt.eq_2, fInt.eq_3, fLs.eq_1, fLs.eq_2, fTp.eq_1, fTp.eq_2, fSlP.eq_3, wOf_l, wOf_o, tryA_nx, tryA_rt, tryA_bk, tryA_ct, noEr_nx, noEr_rt, noEr_bk, noEr_ct, isNone_i, isNone_b, isNone_s, isNone_l, isNone_t, iL_app, iL_len, iL_rep, iL_rev, allD_iL, dataL_iL, q_int, q_t, q_l, n_t, n_l, n_int, q_self, n_self, s_to, s_from, s_mid, sl_to, sl_from, sl_mid, add_t, add_l, cat_l, isi_t, isi_b, isi_i, isi_l, isi_s, at_0, at_1, at_2, at_3, at_4, at_5, at_6, ai_0, ai_1, ai_2, ai_3, ai_4, ai_5, ai_6, tgN_a, tgT_a, apd_ok, lc_ok, rg1_ok, rg2_ok, iL_snoc, iL_mapd, lc_const, rngD_len, iL_take, iL_drop, Int.toNat_natCast, dataL_nil, dataL_cons, allD.eq_1, allD.eq_2, ixN_ok, rep_l, tgS_nil, rep_none, rep_none0, List.take_left, List.drop_left, any_false, all_true, eq_self, set_iL, at_last, List.drop_succ_cons, List.drop_zero, List.take_succ_cons, List.take_zero, List.getLast?_cons_cons, List.getLast?_singleton, Int.cast_ofNat_Int, rg3_ok, rngC_len, fRv_l, q1, q2]
theorem law_main (ns : List Int) (hn : ns.length ≤ 63) : ∃ ts, f_law [.d (.list (ns.map .int))] = .rt (.d (.bool true)) ts := by
  refine ⟨[.d (.list (iL ns))], ?_⟩
  show f_law [.d (.list (iL ns))] = _
  unfold f_law
  have hre : (sSeq (sSetV 11 (v2 fAdd (vC (.int 1)) (v2 fMod (vVar 6) (vVar 4)))) (sSeq (sSetV 12 (vD (dCall f__law_part [(vVar 7), (vVar 4), (vVar 11), (vVar 8)]))) (sSeq (sIf (v2 fEq (v2 fMod (v2 fDiv (vVar 6) (vC (.int 4))) (vC (.int 5))) (vC (.int 0))) (sSeq (sIf (vNot (vD (dCall f__law_read_right [(vVar 12), (vVar 7), (vVar 4), (vVar 11), (vVar 8)]))) (sRetV (vC (.bool false))) sNil) sCnt) sNil) (sSeq (sSetV 13 (v1 fTp (vD (dCall f__law_spoilt [(vVar 12), (v2 fDiv (vVar 6) (vC (.int 20)))])))) (sSeq (sSetV 14 (vC .none)) (sSeq (sTry (sSetV 14 (vD (dCall f_read_part [(vVar 13)]))) tb_BadText (sSetV 14 (vC .none))) (sIf (v2 fNotN (vVar 14) (vC .none)) (sSeq (sIf (vOr (vNot (v1 (fIsi "tuple") (vVar 14))) (vOr (v2 fNe (v1 fLen (vVar 14)) (vC (.int 4))) (vNot (v1 (fIsi "list") (v2 fIx (vVar 14) (vC (.int 3))))))) (sRetV (vC (.bool false))) sNil) (sSeq (sIf (vOr (vAnd (v2 fEq (v2 fIx (vVar 14) (vC (.int 1))) (vC (.int 1))) (v2 fNe (vSlP (vVar 14) none (some (vC (.int 3)))) (vTup [(v1 fNeg (vC (.int 1))), (vC (.int 1)), (vC (.int 1))]))) (vOr (v2 fGt (v1 fLen (v2 fIx (vVar 14) (vC (.int 3)))) (vC (.int 160))) (vAnd (v2 fNe (v2 fIx (vVar 14) (vC (.int 1))) (vC (.int 1))) (v2 fEq (v2 fIx (vVar 14) (vC (.int 3))) (vD (dLst [])))))) (sRetV (vC (.bool false))) sNil) (sSeq (sIf (v2 fNe (v1 fTp (vD (dCall f__law_part [(v2 fIx (vVar 14) (vC (.int 0))), (v2 fIx (vVar 14) (vC (.int 1))), (v2 fIx (vVar 14) (vC (.int 2))), (v2 fIx (vVar 14) (vC (.int 3)))]))) (vVar 13)) (sRetV (vC (.bool false))) sNil) (sSeq (sIf (vAnd (v2 fNe (v2 fIx (vVar 14) (vC (.int 1))) (vC (.int 1))) (vOr (v2 fGt (v1 fLen (v2 fIx (vVar 14) (vC (.int 3)))) (vC (.int 153))) (vOr (v2 fLt (v2 fIx (vVar 14) (vC (.int 1))) (vC (.int 2))) (v2 fGt (v2 fIx (vVar 14) (vC (.int 1))) (vC (.int 4)))))) (sRetV (vC (.bool false))) sNil) (sIf (vAnd (v2 fNe (v2 fIx (vVar 14) (vC (.int 1))) (vC (.int 1))) (vOr (v2 fLt (v2 fIx (vVar 14) (vC (.int 2))) (vC (.int 1))) (v2 fGt (v2 fIx (vVar 14) (vC (.int 2))) (v2 fIx (vVar 14) (vC (.int 1)))))) (sRetV (vC (.bool false))) sNil))))) sNil))))))) = restD := rfl
  unfold b_law
  rw [hre]
  simp (disch := (first | with_reducible assumption | omega | (simp only [iL_len, rngD_len, rngC_len, List.length_append, List.length_replicate, List.length_cons, List.length_nil, List.length_map, List.length_take, List.length_drop, List.length_range, SZ] <;> omega) | (simp only [iL_len, rngD_len, rngC_len, List.length_append, List.length_replicate, List.length_cons, List.length_nil, List.length_map, List.length_take, List.length_drop, List.length_range, SZ] at * <;> omega) | fail)) only [↓x_seq, ↓x_nil, ↓x_if, ↓x_set, ↓x_setV, ↓x_asg, ↓x_exp, ↓x_ret, ↓x_retV, ↓x_retN, ↓x_brk, ↓x_cnt, ↓x_for, ↓x_bdy, ↓x_C, ↓x_var, ↓x_dvar, ↓x_v1, ↓x_v2, ↓x_d1L, ↓x_d2L, ↓x_and, ↓x_or, ↓x_not, ↓x_ifx, ↓x_args0, ↓x_args1, ↓x_tup, ↓x_lst, ↓x_call, ↓x_vD, ↓x_dV, ↓x_slP, ↓x_opt0, ↓x_opt1, ↓x_iP, ↓x_rg1, ↓x_rg2, ↓x_rg3, ↓x_en, ↓x_zp, ↓x_rv, ↓x_ch, ↓x_lc, ↓x_aug, ↓x_app, ↓x_put, ↓x_pix, ↓x_try, ↓x_rep, ↓x_raise0, y_sq, y_sif, y_retV, y_setV, y_toV, y_ofV, y_orw, y_and, y_or, y_not, y_v1, y_v2a, y_v2b, y_finW, y_calB, sq_nx, sq_rt, sq_bk, sq_ct, sq_er, sq_no, dataL_d, allD_d, fnD, SZ, List.getElem?_cons_zero, List.getElem?_cons_succ, List.getElem?_nil, List.set_cons_zero, List.set_cons_succ, List.map_cons, List.map_nil, List.length_cons, List.length_nil, List.length_map, List.length_append, List.cons_append, List.nil_append, List.append_nil, Nat.reduceAdd, Nat.reduceSub, Nat.zero_add, Nat.add_zero, Option.map_some, Option.map_none, Option.getD_some, Option.getD_none, Bool.false_eq_true, Bool.true_eq_false, Bool.and_false, Bool.false_and, Bool.and_true, Bool.true_and, Bool.or_false, Bool.false_or, Bool.or_true, Bool.true_or, Bool.not_true, Bool.not_false, if_true, if_false, ite_true, ite_false, decide_eq_true_eq, Bool.and_eq_true, Bool.or_eq_true, Bool.not_eq_true', decide_eq_false_iff_not, decide_true, decide_false, true_and, and_true, reduceCtorEq, Int.reduceNeg, Int.reduceLT, Int.reduceLE, Int.reduceToNat, Nat.reduceLeDiff, Int.reduceAbs, Int.reduceSub, Int.reduceAdd, Int.reduceMul, Int.reduceEq, Nat.reduceMul, Nat.reduceEqDiff, Nat.reduceLT, Nat.reducePow, Int.reducePow, ↓reduceIte, ite_not, sif.eq_1, sif.eq_3, sif.eq_4, andA.eq_1, andA.eq_3, andA.eq_4, orA.eq_1, orA.eq_3, orA.eq_4, notA.eq_1, notA.eq_3, notA.eq_4, ifA.eq_1, ifA.eq_3, ifA.eq_4, orw.eq_1, orw.eq_2, orw.eq_3, v1r.eq_1, v1r.eq_2, v1a.eq_1, v1a.eq_2, v1a.eq_3, v2a.eq_1, v2a.eq_2, v2a.eq_3, v2b.eq_1, v2b.eq_2, v2b.eq_3, dlr.eq_1, dlr.eq_2, d1a.eq_1, d1a.eq_2, d1a.eq_3, d2a.eq_1, d2a.eq_2, d2a.eq_3, d2b.eq_1, d2b.eq_2, d2b.eq_3, ar1.eq_1, ar1.eq_2, ar1.eq_3, ar1.eq_4, ar2.eq_1, ar2.eq_2, ar2.eq_3, tupA.eq_1, tupA.eq_2, tupA.eq_3, lstA.eq_1, lstA.eq_2, lstA.eq_3, calA.eq_1, calA.eq_2, calA.eq_3, calB.eq_1, calB.eq_2, calB.eq_3, wOf.eq_1, varV.eq_1, varR.eq_1, varR.eq_2, varD.eq_1, setA.eq_1, setA.eq_2, setA.eq_4, setA.eq_5, setVA.eq_1, setVA.eq_2, setVA.eq_3, setVA.eq_4, asgA.eq_1, asgA.eq_2, asgA.eq_3, asgA.eq_4, asgB.eq_1, asgB.eq_2, expA.eq_1, expA.eq_2, expA.eq_3, retA.eq_1, retA.eq_2, retA.eq_3, retVA.eq_1, retVA.eq_2, retVA.eq_3, retVA.eq_4, forA.eq_1, forA.eq_2, forA.eq_3, sl0.eq_1, sl0.eq_2, sl0.eq_3, sl1.eq_1, sl1.eq_2, sl2.eq_1, sl2.eq_2, sl3.eq_1, sl3.eq_2, optA.eq_1, bdyA.eq_1, bdyA.eq_2, iPA.eq_1, iPA.eq_2, iPA.eq_3, iPA.eq_5, iPA.eq_6, rg1A.eq_3, rg1A.eq_4, rg2A.eq_3, rg2A.eq_4, rg3A.eq_3, rg3A.eq_4, enA.eq_1, enA.eq_3, enA.eq_4, zpA.eq_1, zpA.eq_3, zpA.eq_4, rvA.eq_1, rvA.eq_3, rvA.eq_4, ch1.eq_1, ch1.eq_2, ch1.eq_3, ch2.eq_1, ch2.eq_2, ch2.eq_3, chA.eq_1, chB.eq_1, chB.eq_2, chB.eq_3, chC.eq_1, chC.eq_2, lc0.eq_2, lc0.eq_3, lcA.eq_1, lcA.eq_2, augA.eq_1, augB.eq_1, augB.eq_3, augB.eq_4, appA.eq_1, appB.eq_1, appB.eq_2, appB.eq_3, putA.eq_1, putA.eq_2, putA.eq_3, putA2.eq_1, putA2.eq_2, putB.eq_1, putC.eq_1, putD.eq_1, pixA.eq_1, pixA2.eq_1, pixB.eq_1, tryA.eq_1, tryB.eq_1, tryB.eq_2, tryB.eq_3, noEr.eq_1, repA.eq_1, repA2.eq_1, repA2.eq_2, repB.eq_1, rdT.eq_1, rdT.eq_2, toV.eq_1, toV.eq_2, toV.eq_3, toV.eq_4, toV.eq_5, toV.eq_6, ofV.eq_1, ofV.eq_2, ofV.eq_4, ofV.eq_5, tOf.eq_1, tOf.eq_2, isL.eq_1, getE.eq_1, getT.eq_1, getT.eq_2, getT.eq_3, setE.eq_1, setT.eq_1, setT.eq_2, setT.eq_3, T.data.eq_1, T.data.eq_2, finW.eq_1, finW.eq_2, finW.eq_3, finW.eq_4, finW.eq_6, fin.eq_1, fin.eq_2, fin.eq_3, tgS.eq_1, wipeE.eq_1, wipeE.eq_2, fAdd.eq_1, fAdd.eq_2, fI2.eq_1, fB2.eq_1, fU.eq_1, fLen.eq_1, fLen.eq_2, fLen.eq_3, fIx.eq_1, fIx.eq_2, fIx.eq_3, fIsN.eq_1, fNotN.eq_1, isNone.eq_1, fInt.eq_1, fInt.eq_2, fInt.eq_3, fLs.eq_1, fLs.eq_2, fTp.eq_1, fTp.eq_2, fSlP.eq_3, wOf_l, wOf_o, tryA_nx, tryA_rt, tryA_bk, tryA_ct, noEr_nx, noEr_rt, noEr_bk, noEr_ct, isNone_i, isNone_b, isNone_s, isNone_l, isNone_t, iL_app, iL_len, iL_rep, iL_rev, allD_iL, dataL_iL, q_int, q_t, q_l, n_t, n_l, n_int, q_self, n_self, s_to, s_from, s_mid, sl_to, sl_from, sl_mid, add_t, add_l, cat_l, isi_t, isi_b, isi_i, isi_l, isi_s, at_0, at_1, at_2, at_3, at_4, at_5, at_6, ai_0, ai_1, ai_2, ai_3, ai_4, ai_5, ai_6, tgN_a, tgT_a, apd_ok, lc_ok, rg1_ok, rg2_ok, iL_snoc, iL_mapd, lc_const, rngD_len, iL_take, iL_drop, Int.toNat_natCast, dataL_nil, dataL_cons, allD.eq_1, allD.eq_2, ixN_ok, rep_l, tgS_nil, rep_none, rep_none0, List.take_left, List.drop_left, any_false, all_true, eq_self, set_iL, at_last, List.drop_succ_cons, List.drop_zero, List.take_succ_cons, List.take_zero, List.getLast?_cons_cons, List.getLast?_singleton, Int.cast_ofNat_Int, rg3_ok, rngC_len, fRv_l]
  refine for_fin2 (fun _ e => ∃ a b c d f g h j k l m n o p, e = [some (.d (.list (iL ns))), a, b, c, d, f, g, h, j, k, l, m, n, o, p]) ⟨_, _, _, _, _, _, _, _, _, _, _, _, _, _, rfl⟩ ?_ ?_
  · intro i x e hx ⟨a, b, c, d, f, g, h, j, k, l, m, n, o, p, he⟩
    obtain ⟨y, h1, rfl⟩ := enumD_get' hx
    rw [iL_get] at h1
    obtain ⟨z, _, rfl⟩ := Option.map_eq_some_iff.mp h1
    subst he
    have hv := mixed_nn z (i : Int)
    generalize hw : mixed z (i : Int) = v at hv
    have hL : 0 ≤ v / 4340 / 256 := by omega
    have hmk : 0 ≤ v / 4340 % 256 ∧ v / 4340 % 256 ≤ 255 := by omega
    have hmn : 1 ≤ 1 + v % 4 ∧ 1 + v % 4 ≤ 4 := by omega
    have sz := getD_in (l := [152, 153, 154, 160, 161, 200, 248]) (n := (v / 620 % 7).toNat) (P := fun o => 0 ≤ o ∧ o ≤ 248) (by decide) (by decide)
    generalize hG : ([152, 153, 154, 160, 161, 200, 248].getD (v / 620 % 7).toNat (0 : Int)) = G at sz
    obtain ⟨S1, hS1⟩ := Int.eq_ofNat_of_zero_le (show 0 ≤ v / 4 % 31 by omega)
    obtain ⟨S2, hS2⟩ := Int.eq_ofNat_of_zero_le sz.1
    subst hS2
    by_cases c0 : v / 124 % 5 = 0
    · have hr := row_lc (v / 4340 / 256) S2 (by omega)
      obtain ⟨e', h3, h', j', k', l', h4⟩ := rest_ok ns (rowL (v / 4340 / 256) S2) (some (.d (.int i))) (some (.d (.int z))) (some (.d (.int v))) (some (.d (.int (S2 : Int)))) k l m n o p v (v / 4340 / 256) (v / 4340 % 256) (1 + v % 4) S2 hL hmk hmn (by rw [rowL_len]; omega) (rowL_in _ _)
      refine ⟨e', ?_, _, _, _, _, _, _, _, _, _, _, _, _, _, _, h4⟩
      simp (disch := (first | with_reducible assumption | omega | (simp only [iL_len, rngD_len, rngC_len, List.length_append, List.length_replicate, List.length_cons, List.length_nil, List.length_map, List.length_take, List.length_drop, List.length_range, SZ] <;> omega) | (simp only [iL_len, rngD_len, rngC_len, List.length_append, List.length_replicate, List.length_cons, List.length_nil, List.length_map, List.length_take, List.length_drop, List.length_range, SZ] at * <;> omega) | fail)) only [↓x_seq, ↓x_nil, ↓x_if, ↓x_set, ↓x_setV, ↓x_asg, ↓x_exp, ↓x_ret, ↓x_retV, ↓x_retN, ↓x_brk, ↓x_cnt, ↓x_for, ↓x_bdy, ↓x_C, ↓x_var, ↓x_dvar, ↓x_v1, ↓x_v2, ↓x_d1L, ↓x_d2L, ↓x_and, ↓x_or, ↓x_not, ↓x_ifx, ↓x_args0, ↓x_args1, ↓x_tup, ↓x_lst, ↓x_call, ↓x_vD, ↓x_dV, ↓x_slP, ↓x_opt0, ↓x_opt1, ↓x_iP, ↓x_rg1, ↓x_rg2, ↓x_rg3, ↓x_en, ↓x_zp, ↓x_rv, ↓x_ch, ↓x_lc, ↓x_aug, ↓x_app, ↓x_put, ↓x_pix, ↓x_try, ↓x_rep, ↓x_raise0, y_sq, y_sif, y_retV, y_setV, y_toV, y_ofV, y_orw, y_and, y_or, y_not, y_v1, y_v2a, y_v2b, y_finW, y_calB, sq_nx, sq_rt, sq_bk, sq_ct, sq_er, sq_no, dataL_d, allD_d, fnD, SZ, List.getElem?_cons_zero, List.getElem?_cons_succ, List.getElem?_nil, List.set_cons_zero, List.set_cons_succ, List.map_cons, List.map_nil, List.length_cons, List.length_nil, List.length_map, List.length_append, List.cons_append, List.nil_append, List.append_nil, Nat.reduceAdd, Nat.reduceSub, Nat.zero_add, Nat.add_zero, Option.map_some, Option.map_none, Option.getD_some, Option.getD_none, Bool.false_eq_true, Bool.true_eq_false, Bool.and_false, Bool.false_and, Bool.and_true, Bool.true_and, Bool.or_false, Bool.false_or, Bool.or_true, Bool.true_or, Bool.not_true, Bool.not_false, if_true, if_false, ite_true, ite_false, decide_eq_true_eq, Bool.and_eq_true, Bool.or_eq_true, Bool.not_eq_true', decide_eq_false_iff_not, decide_true, decide_false, true_and, and_true, reduceCtorEq, Int.reduceNeg, Int.reduceLT, Int.reduceLE, Int.reduceToNat, Nat.reduceLeDiff, Int.reduceAbs, Int.reduceSub, Int.reduceAdd, Int.reduceMul, Int.reduceEq, Nat.reduceMul, Nat.reduceEqDiff, Nat.reduceLT, Nat.reducePow, Int.reducePow, ↓reduceIte, ite_not, sif.eq_1, sif.eq_3, sif.eq_4, andA.eq_1, andA.eq_3, andA.eq_4, orA.eq_1, orA.eq_3, orA.eq_4, notA.eq_1, notA.eq_3, notA.eq_4, ifA.eq_1, ifA.eq_3, ifA.eq_4, orw.eq_1, orw.eq_2, orw.eq_3, v1r.eq_1, v1r.eq_2, v1a.eq_1, v1a.eq_2, v1a.eq_3, v2a.eq_1, v2a.eq_2, v2a.eq_3, v2b.eq_1, v2b.eq_2, v2b.eq_3, dlr.eq_1, dlr.eq_2, d1a.eq_1, d1a.eq_2, d1a.eq_3, d2a.eq_1, d2a.eq_2, d2a.eq_3, d2b.eq_1, d2b.eq_2, d2b.eq_3, ar1.eq_1, ar1.eq_2, ar1.eq_3, ar1.eq_4, ar2.eq_1, ar2.eq_2, ar2.eq_3, tupA.eq_1, tupA.eq_2, tupA.eq_3, lstA.eq_1, lstA.eq_2, lstA.eq_3, calA.eq_1, calA.eq_2, calA.eq_3, calB.eq_1, calB.eq_2, calB.eq_3, wOf.eq_1, varV.eq_1, varR.eq_1, varR.eq_2, varD.eq_1, setA.eq_1, setA.eq_2, setA.eq_4, setA.eq_5, setVA.eq_1, setVA.eq_2, setVA.eq_3, setVA.eq_4, asgA.eq_1, asgA.eq_2, asgA.eq_3, asgA.eq_4, asgB.eq_1, asgB.eq_2, expA.eq_1, expA.eq_2, expA.eq_3, retA.eq_1, retA.eq_2, retA.eq_3, retVA.eq_1, retVA.eq_2, retVA.eq_3, retVA.eq_4, forA.eq_1, forA.eq_2, forA.eq_3, sl0.eq_1, sl0.eq_2, sl0.eq_3, sl1.eq_1, sl1.eq_2, sl2.eq_1, sl2.eq_2, sl3.eq_1, sl3.eq_2, optA.eq_1, bdyA.eq_1, bdyA.eq_2, iPA.eq_1, iPA.eq_2, iPA.eq_3, iPA.eq_5, iPA.eq_6, rg1A.eq_3, rg1A.eq_4, rg2A.eq_3, rg2A.eq_4, rg3A.eq_3, rg3A.eq_4, enA.eq_1, enA.eq_3, enA.eq_4, zpA.eq_1, zpA.eq_3, zpA.eq_4, rvA.eq_1, rvA.eq_3, rvA.eq_4, ch1.eq_1, ch1.eq_2, ch1.eq_3, ch2.eq_1, ch2.eq_2, ch2.eq_3, chA.eq_1, chB.eq_1, chB.eq_2, chB.eq_3, chC.eq_1, chC.eq_2, lc0.eq_2, lc0.eq_3, lcA.eq_1, lcA.eq_2, augA.eq_1, augB.eq_1, augB.eq_3, augB.eq_4, appA.eq_1, appB.eq_1, appB.eq_2, appB.eq_3, putA.eq_1, putA.eq_2, putA.eq_3, putA2.eq_1, putA2.eq_2, putB.eq_1, putC.eq_1, putD.eq_1, pixA.eq_1, pixA2.eq_1, pixB.eq_1, tryA.eq_1, tryB.eq_1, tryB.eq_2, tryB.eq_3, noEr.eq_1, repA.eq_1, repA2.eq_1, repA2.eq_2, repB.eq_1, rdT.eq_1, rdT.eq_2, toV.eq_1, toV.eq_2, toV.eq_3, toV.eq_4, toV.eq_5, toV.eq_6, ofV.eq_1, ofV.eq_2, ofV.eq_4, ofV.eq_5, tOf.eq_1, tOf.eq_2, isL.eq_1, getE.eq_1, getT.eq_1, getT.eq_2, getT.eq_3, setE.eq_1, setT.eq_1, setT.eq_2, setT.eq_3, T.data.eq_1, T.data.eq_2, finW.eq_1, finW.eq_2, finW.eq_3, finW.eq_4, finW.eq_6, fin.eq_1, fin.eq_2, fin.eq_3, tgS.eq_1, wipeE.eq_1, wipeE.eq_2, fAdd.eq_1, fAdd.eq_2, fI2.eq_1, fB2.eq_1, fU.eq_1, fLen.eq_1, fLen.eq_2, fLen.eq_3, fIx.eq_1, fIx.eq_2, fIx.eq_3, fIsN.eq_1, fNotN.eq_1, isNone.eq_1, fInt.eq_1, fInt.eq_2, fInt.eq_3, fLs.eq_1, fLs.eq_2, fTp.eq_1, fTp.eq_2, fSlP.eq_3, wOf_l, wOf_o, tryA_nx, tryA_rt, tryA_bk, tryA_ct, noEr_nx, noEr_rt, noEr_bk, noEr_ct, isNone_i, isNone_b, isNone_s, isNone_l, isNone_t, iL_app, iL_len, iL_rep, iL_rev, allD_iL, dataL_iL, q_int, q_t, q_l, n_t, n_l, n_int, q_self, n_self, s_to, s_from, s_mid, sl_to, sl_from, sl_mid, add_t, add_l, cat_l, isi_t, isi_b, isi_i, isi_l, isi_s, at_0, at_1, at_2, at_3, at_4, at_5, at_6, ai_0, ai_1, ai_2, ai_3, ai_4, ai_5, ai_6, tgN_a, tgT_a, apd_ok, lc_ok, rg1_ok, rg2_ok, iL_snoc, iL_mapd, lc_const, rngD_len, iL_take, iL_drop, Int.toNat_natCast, dataL_nil, dataL_cons, allD.eq_1, allD.eq_2, ixN_ok, rep_l, tgS_nil, rep_none, rep_none0, List.take_left, List.drop_left, any_false, all_true, eq_self, set_iL, at_last, List.drop_succ_cons, List.drop_zero, List.take_succ_cons, List.take_zero, List.getLast?_cons_cons, List.getLast?_singleton, Int.cast_ofNat_Int, rg3_ok, rngC_len, fRv_l, f_mixed, hw, hS1, c0, ll7, at_g, hG, rngD_iL, hr]
      exact h3
    · by_cases c1 : v / 124 % 5 = 1
      · have hr := row_lc (v / 4340 / 256) S1 (by omega)
        obtain ⟨e', h3, h', j', k', l', h4⟩ := rest_ok ns (List.replicate ((S1 : Int) % 3).toNat 0) (some (.d (.int i))) (some (.d (.int z))) (some (.d (.int v))) (some (.d (.int (S1 : Int)))) k l m n o p v (v / 4340 / 256) (v / 4340 % 256) (1 + v % 4) S1 hL hmk hmn (by rw [List.length_replicate]; omega) (fun x hx => by have := List.eq_of_mem_replicate hx; omega)
        refine ⟨e', ?_, _, _, _, _, _, _, _, _, _, _, _, _, _, _, h4⟩
        simp (disch := (first | with_reducible assumption | omega | (simp only [iL_len, rngD_len, rngC_len, List.length_append, List.length_replicate, List.length_cons, List.length_nil, List.length_map, List.length_take, List.length_drop, List.length_range, SZ] <;> omega) | (simp only [iL_len, rngD_len, rngC_len, List.length_append, List.length_replicate, List.length_cons, List.length_nil, List.length_map, List.length_take, List.length_drop, List.length_range, SZ] at * <;> omega) | fail)) only [↓x_seq, ↓x_nil, ↓x_if, ↓x_set, ↓x_setV, ↓x_asg, ↓x_exp, ↓x_ret, ↓x_retV, ↓x_retN, ↓x_brk, ↓x_cnt, ↓x_for, ↓x_bdy, ↓x_C, ↓x_var, ↓x_dvar, ↓x_v1, ↓x_v2, ↓x_d1L, ↓x_d2L, ↓x_and, ↓x_or, ↓x_not, ↓x_ifx, ↓x_args0, ↓x_args1, ↓x_tup, ↓x_lst, ↓x_call, ↓x_vD, ↓x_dV, ↓x_slP, ↓x_opt0, ↓x_opt1, ↓x_iP, ↓x_rg1, ↓x_rg2, ↓x_rg3, ↓x_en, ↓x_zp, ↓x_rv, ↓x_ch, ↓x_lc, ↓x_aug, ↓x_app, ↓x_put, ↓x_pix, ↓x_try, ↓x_rep, ↓x_raise0, y_sq, y_sif, y_retV, y_setV, y_toV, y_ofV, y_orw, y_and, y_or, y_not, y_v1, y_v2a, y_v2b, y_finW, y_calB, sq_nx, sq_rt, sq_bk, sq_ct, sq_er, sq_no, dataL_d, allD_d, fnD, SZ, List.getElem?_cons_zero, List.getElem?_cons_succ, List.getElem?_nil, List.set_cons_zero, List.set_cons_succ, List.map_cons, List.map_nil, List.length_cons, List.length_nil, List.length_map, List.length_append, List.cons_append, List.nil_append, List.append_nil, Nat.reduceAdd, Nat.reduceSub, Nat.zero_add, Nat.add_zero, Option.map_some, Option.map_none, Option.getD_some, Option.getD_none, Bool.false_eq_true, Bool.true_eq_false, Bool.and_false, Bool.false_and, Bool.and_true, Bool.true_and, Bool.or_false, Bool.false_or, Bool.or_true, Bool.true_or, Bool.not_true, Bool.not_false, if_true, if_false, ite_true, ite_false, decide_eq_true_eq, Bool.and_eq_true, Bool.or_eq_true, Bool.not_eq_true', decide_eq_false_iff_not, decide_true, decide_false, true_and, and_true, reduceCtorEq, Int.reduceNeg, Int.reduceLT, Int.reduceLE, Int.reduceToNat, Nat.reduceLeDiff, Int.reduceAbs, Int.reduceSub, Int.reduceAdd, Int.reduceMul, Int.reduceEq, Nat.reduceMul, Nat.reduceEqDiff, Nat.reduceLT, Nat.reducePow, Int.reducePow, ↓reduceIte, ite_not, sif.eq_1, sif.eq_3, sif.eq_4, andA.eq_1, andA.eq_3, andA.eq_4, orA.eq_1, orA.eq_3, orA.eq_4, notA.eq_1, notA.eq_3, notA.eq_4, ifA.eq_1, ifA.eq_3, ifA.eq_4, orw.eq_1, orw.eq_2, orw.eq_3, v1r.eq_1, v1r.eq_2, v1a.eq_1, v1a.eq_2, v1a.eq_3, v2a.eq_1, v2a.eq_2, v2a.eq_3, v2b.eq_1, v2b.eq_2, v2b.eq_3, dlr.eq_1, dlr.eq_2, d1a.eq_1, d1a.eq_2, d1a.eq_3, d2a.eq_1, d2a.eq_2, d2a.eq_3, d2b.eq_1, d2b.eq_2, d2b.eq_3, ar1.eq_1, ar1.eq_2, ar1.eq_3, ar1.eq_4, ar2.eq_1, ar2.eq_2, ar2.eq_3, tupA.eq_1, tupA.eq_2, tupA.eq_3, lstA.eq_1, lstA.eq_2, lstA.eq_3, calA.eq_1, calA.eq_2, calA.eq_3, calB.eq_1, calB.eq_2, calB.eq_3, wOf.eq_1, varV.eq_1, varR.eq_1, varR.eq_2, varD.eq_1, setA.eq_1, setA.eq_2, setA.eq_4, setA.eq_5, setVA.eq_1, setVA.eq_2, setVA.eq_3, setVA.eq_4, asgA.eq_1, asgA.eq_2, asgA.eq_3, asgA.eq_4, asgB.eq_1, asgB.eq_2, expA.eq_1, expA.eq_2, expA.eq_3, retA.eq_1, retA.eq_2, retA.eq_3, retVA.eq_1, retVA.eq_2, retVA.eq_3, retVA.eq_4, forA.eq_1, forA.eq_2, forA.eq_3, sl0.eq_1, sl0.eq_2, sl0.eq_3, sl1.eq_1, sl1.eq_2, sl2.eq_1, sl2.eq_2, sl3.eq_1, sl3.eq_2, optA.eq_1, bdyA.eq_1, bdyA.eq_2, iPA.eq_1, iPA.eq_2, iPA.eq_3, iPA.eq_5, iPA.eq_6, rg1A.eq_3, rg1A.eq_4, rg2A.eq_3, rg2A.eq_4, rg3A.eq_3, rg3A.eq_4, enA.eq_1, enA.eq_3, enA.eq_4, zpA.eq_1, zpA.eq_3, zpA.eq_4, rvA.eq_1, rvA.eq_3, rvA.eq_4, ch1.eq_1, ch1.eq_2, ch1.eq_3, ch2.eq_1, ch2.eq_2, ch2.eq_3, chA.eq_1, chB.eq_1, chB.eq_2, chB.eq_3, chC.eq_1, chC.eq_2, lc0.eq_2, lc0.eq_3, lcA.eq_1, lcA.eq_2, augA.eq_1, augB.eq_1, augB.eq_3, augB.eq_4, appA.eq_1, appB.eq_1, appB.eq_2, appB.eq_3, putA.eq_1, putA.eq_2, putA.eq_3, putA2.eq_1, putA2.eq_2, putB.eq_1, putC.eq_1, putD.eq_1, pixA.eq_1, pixA2.eq_1, pixB.eq_1, tryA.eq_1, tryB.eq_1, tryB.eq_2, tryB.eq_3, noEr.eq_1, repA.eq_1, repA2.eq_1, repA2.eq_2, repB.eq_1, rdT.eq_1, rdT.eq_2, toV.eq_1, toV.eq_2, toV.eq_3, toV.eq_4, toV.eq_5, toV.eq_6, ofV.eq_1, ofV.eq_2, ofV.eq_4, ofV.eq_5, tOf.eq_1, tOf.eq_2, isL.eq_1, getE.eq_1, getT.eq_1, getT.eq_2, getT.eq_3, setE.eq_1, setT.eq_1, setT.eq_2, setT.eq_3, T.data.eq_1, T.data.eq_2, finW.eq_1, finW.eq_2, finW.eq_3, finW.eq_4, finW.eq_6, fin.eq_1, fin.eq_2, fin.eq_3, tgS.eq_1, wipeE.eq_1, wipeE.eq_2, fAdd.eq_1, fAdd.eq_2, fI2.eq_1, fB2.eq_1, fU.eq_1, fLen.eq_1, fLen.eq_2, fLen.eq_3, fIx.eq_1, fIx.eq_2, fIx.eq_3, fIsN.eq_1, fNotN.eq_1, isNone.eq_1, fInt.eq_1, fInt.eq_2, fInt.eq_3, fLs.eq_1, fLs.eq_2, fTp.eq_1, fTp.eq_2, fSlP.eq_3, wOf_l, wOf_o, tryA_nx, tryA_rt, tryA_bk, tryA_ct, noEr_nx, noEr_rt, noEr_bk, noEr_ct, isNone_i, isNone_b, isNone_s, isNone_l, isNone_t, iL_app, iL_len, iL_rep, iL_rev, allD_iL, dataL_iL, q_int, q_t, q_l, n_t, n_l, n_int, q_self, n_self, s_to, s_from, s_mid, sl_to, sl_from, sl_mid, add_t, add_l, cat_l, isi_t, isi_b, isi_i, isi_l, isi_s, at_0, at_1, at_2, at_3, at_4, at_5, at_6, ai_0, ai_1, ai_2, ai_3, ai_4, ai_5, ai_6, tgN_a, tgT_a, apd_ok, lc_ok, rg1_ok, rg2_ok, iL_snoc, iL_mapd, lc_const, rngD_len, iL_take, iL_drop, Int.toNat_natCast, dataL_nil, dataL_cons, allD.eq_1, allD.eq_2, ixN_ok, rep_l, tgS_nil, rep_none, rep_none0, List.take_left, List.drop_left, any_false, all_true, eq_self, set_iL, at_last, List.drop_succ_cons, List.drop_zero, List.take_succ_cons, List.take_zero, List.getLast?_cons_cons, List.getLast?_singleton, Int.cast_ofNat_Int, rg3_ok, rngC_len, fRv_l, f_mixed, hw, hS1, c1, rngD_iL, hr, List.length_range]
        exact h3
      · have hr := row_lc (v / 4340 / 256) S1 (by omega)
        obtain ⟨e', h3, h', j', k', l', h4⟩ := rest_ok ns (rowL (v / 4340 / 256) S1) (some (.d (.int i))) (some (.d (.int z))) (some (.d (.int v))) (some (.d (.int (S1 : Int)))) k l m n o p v (v / 4340 / 256) (v / 4340 % 256) (1 + v % 4) S1 hL hmk hmn (by rw [rowL_len]; omega) (rowL_in _ _)
        refine ⟨e', ?_, _, _, _, _, _, _, _, _, _, _, _, _, _, _, h4⟩
        simp (disch := (first | with_reducible assumption | omega | (simp only [iL_len, rngD_len, rngC_len, List.length_append, List.length_replicate, List.length_cons, List.length_nil, List.length_map, List.length_take, List.length_drop, List.length_range, SZ] <;> omega) | (simp only [iL_len, rngD_len, rngC_len, List.length_append, List.length_replicate, List.length_cons, List.length_nil, List.length_map, List.length_take, List.length_drop, List.length_range, SZ] at * <;> omega) | fail)) only [↓x_seq, ↓x_nil, ↓x_if, ↓x_set, ↓x_setV, ↓x_asg, ↓x_exp, ↓x_ret, ↓x_retV, ↓x_retN, ↓x_brk, ↓x_cnt, ↓x_for, ↓x_bdy, ↓x_C, ↓x_var, ↓x_dvar, ↓x_v1, ↓x_v2, ↓x_d1L, ↓x_d2L, ↓x_and, ↓x_or, ↓x_not, ↓x_ifx, ↓x_args0, ↓x_args1, ↓x_tup, ↓x_lst, ↓x_call, ↓x_vD, ↓x_dV, ↓x_slP, ↓x_opt0, ↓x_opt1, ↓x_iP, ↓x_rg1, ↓x_rg2, ↓x_rg3, ↓x_en, ↓x_zp, ↓x_rv, ↓x_ch, ↓x_lc, ↓x_aug, ↓x_app, ↓x_put, ↓x_pix, ↓x_try, ↓x_rep, ↓x_raise0, y_sq, y_sif, y_retV, y_setV, y_toV, y_ofV, y_orw, y_and, y_or, y_not, y_v1, y_v2a, y_v2b, y_finW, y_calB, sq_nx, sq_rt, sq_bk, sq_ct, sq_er, sq_no, dataL_d, allD_d, fnD, SZ, List.getElem?_cons_zero, List.getElem?_cons_succ, List.getElem?_nil, List.set_cons_zero, List.set_cons_succ, List.map_cons, List.map_nil, List.length_cons, List.length_nil, List.length_map, List.length_append, List.cons_append, List.nil_append, List.append_nil, Nat.reduceAdd, Nat.reduceSub, Nat.zero_add, Nat.add_zero, Option.map_some, Option.map_none, Option.getD_some, Option.getD_none, Bool.false_eq_true, Bool.true_eq_false, Bool.and_false, Bool.false_and, Bool.and_true, Bool.true_and, Bool.or_false, Bool.false_or, Bool.or_true, Bool.true_or, Bool.not_true, Bool.not_false, if_true, if_false, ite_true, ite_false, decide_eq_true_eq, Bool.and_eq_true, Bool.or_eq_true, Bool.not_eq_true', decide_eq_false_iff_not, decide_true, decide_false, true_and, and_true, reduceCtorEq, Int.reduceNeg, Int.reduceLT, Int.reduceLE, Int.reduceToNat, Nat.reduceLeDiff, Int.reduceAbs, Int.reduceSub, Int.reduceAdd, Int.reduceMul, Int.reduceEq, Nat.reduceMul, Nat.reduceEqDiff, Nat.reduceLT, Nat.reducePow, Int.reducePow, ↓reduceIte, ite_not, sif.eq_1, sif.eq_3, sif.eq_4, andA.eq_1, andA.eq_3, andA.eq_4, orA.eq_1, orA.eq_3, orA.eq_4, notA.eq_1, notA.eq_3, notA.eq_4, ifA.eq_1, ifA.eq_3, ifA.eq_4, orw.eq_1, orw.eq_2, orw.eq_3, v1r.eq_1, v1r.eq_2, v1a.eq_1, v1a.eq_2, v1a.eq_3, v2a.eq_1, v2a.eq_2, v2a.eq_3, v2b.eq_1, v2b.eq_2, v2b.eq_3, dlr.eq_1, dlr.eq_2, d1a.eq_1, d1a.eq_2, d1a.eq_3, d2a.eq_1, d2a.eq_2, d2a.eq_3, d2b.eq_1, d2b.eq_2, d2b.eq_3, ar1.eq_1, ar1.eq_2, ar1.eq_3, ar1.eq_4, ar2.eq_1, ar2.eq_2, ar2.eq_3, tupA.eq_1, tupA.eq_2, tupA.eq_3, lstA.eq_1, lstA.eq_2, lstA.eq_3, calA.eq_1, calA.eq_2, calA.eq_3, calB.eq_1, calB.eq_2, calB.eq_3, wOf.eq_1, varV.eq_1, varR.eq_1, varR.eq_2, varD.eq_1, setA.eq_1, setA.eq_2, setA.eq_4, setA.eq_5, setVA.eq_1, setVA.eq_2, setVA.eq_3, setVA.eq_4, asgA.eq_1, asgA.eq_2, asgA.eq_3, asgA.eq_4, asgB.eq_1, asgB.eq_2, expA.eq_1, expA.eq_2, expA.eq_3, retA.eq_1, retA.eq_2, retA.eq_3, retVA.eq_1, retVA.eq_2, retVA.eq_3, retVA.eq_4, forA.eq_1, forA.eq_2, forA.eq_3, sl0.eq_1, sl0.eq_2, sl0.eq_3, sl1.eq_1, sl1.eq_2, sl2.eq_1, sl2.eq_2, sl3.eq_1, sl3.eq_2, optA.eq_1, bdyA.eq_1, bdyA.eq_2, iPA.eq_1, iPA.eq_2, iPA.eq_3, iPA.eq_5, iPA.eq_6, rg1A.eq_3, rg1A.eq_4, rg2A.eq_3, rg2A.eq_4, rg3A.eq_3, rg3A.eq_4, enA.eq_1, enA.eq_3, enA.eq_4, zpA.eq_1, zpA.eq_3, zpA.eq_4, rvA.eq_1, rvA.eq_3, rvA.eq_4, ch1.eq_1, ch1.eq_2, ch1.eq_3, ch2.eq_1, ch2.eq_2, ch2.eq_3, chA.eq_1, chB.eq_1, chB.eq_2, chB.eq_3, chC.eq_1, chC.eq_2, lc0.eq_2, lc0.eq_3, lcA.eq_1, lcA.eq_2, augA.eq_1, augB.eq_1, augB.eq_3, augB.eq_4, appA.eq_1, appB.eq_1, appB.eq_2, appB.eq_3, putA.eq_1, putA.eq_2, putA.eq_3, putA2.eq_1, putA2.eq_2, putB.eq_1, putC.eq_1, putD.eq_1, pixA.eq_1, pixA2.eq_1, pixB.eq_1, tryA.eq_1, tryB.eq_1, tryB.eq_2, tryB.eq_3, noEr.eq_1, repA.eq_1, repA2.eq_1, repA2.eq_2, repB.eq_1, rdT.eq_1, rdT.eq_2, toV.eq_1, toV.eq_2, toV.eq_3, toV.eq_4, toV.eq_5, toV.eq_6, ofV.eq_1, ofV.eq_2, ofV.eq_4, ofV.eq_5, tOf.eq_1, tOf.eq_2, isL.eq_1, getE.eq_1, getT.eq_1, getT.eq_2, getT.eq_3, setE.eq_1, setT.eq_1, setT.eq_2, setT.eq_3, T.data.eq_1, T.data.eq_2, finW.eq_1, finW.eq_2, finW.eq_3, finW.eq_4, finW.eq_6, fin.eq_1, fin.eq_2, fin.eq_3, tgS.eq_1, wipeE.eq_1, wipeE.eq_2, fAdd.eq_1, fAdd.eq_2, fI2.eq_1, fB2.eq_1, fU.eq_1, fLen.eq_1, fLen.eq_2, fLen.eq_3, fIx.eq_1, fIx.eq_2, fIx.eq_3, fIsN.eq_1, fNotN.eq_1, isNone.eq_1, fInt.eq_1, fInt.eq_2, fInt.eq_3, fLs.eq_1, fLs.eq_2, fTp.eq_1, fTp.eq_2, fSlP.eq_3, wOf_l, wOf_o, tryA_nx, tryA_rt, tryA_bk, tryA_ct, noEr_nx, noEr_rt, noEr_bk, noEr_ct, isNone_i, isNone_b, isNone_s, isNone_l, isNone_t, iL_app, iL_len, iL_rep, iL_rev, allD_iL, dataL_iL, q_int, q_t, q_l, n_t, n_l, n_int, q_self, n_self, s_to, s_from, s_mid, sl_to, sl_from, sl_mid, add_t, add_l, cat_l, isi_t, isi_b, isi_i, isi_l, isi_s, at_0, at_1, at_2, at_3, at_4, at_5, at_6, ai_0, ai_1, ai_2, ai_3, ai_4, ai_5, ai_6, tgN_a, tgT_a, apd_ok, lc_ok, rg1_ok, rg2_ok, iL_snoc, iL_mapd, lc_const, rngD_len, iL_take, iL_drop, Int.toNat_natCast, dataL_nil, dataL_cons, allD.eq_1, allD.eq_2, ixN_ok, rep_l, tgS_nil, rep_none, rep_none0, List.take_left, List.drop_left, any_false, all_true, eq_self, set_iL, at_last, List.drop_succ_cons, List.drop_zero, List.take_succ_cons, List.take_zero, List.getLast?_cons_cons, List.getLast?_singleton, Int.cast_ofNat_Int, rg3_ok, rngC_len, fRv_l, f_mixed, hw, hS1, c0, c1, rngD_iL, hr]
        exact h3
  · intro e ⟨a, b, c, d, f, g, h, j, k, l, m, n, o, p, he⟩
    subst he
    simp (disch := (first | with_reducible assumption | omega | (simp only [iL_len, rngD_len, rngC_len, List.length_append, List.length_replicate, List.length_cons, List.length_nil, List.length_map, List.length_take, List.length_drop, List.length_range, SZ] <;> omega) | (simp only [iL_len, rngD_len, rngC_len, List.length_append, List.length_replicate, List.length_cons, List.length_nil, List.length_map, List.length_take, List.length_drop, List.length_range, SZ] at * <;> omega) | fail)) only [↓x_seq, ↓x_nil, ↓x_if, ↓x_set, ↓x_setV, ↓x_asg, ↓x_exp, ↓x_ret, ↓x_retV, ↓x_retN, ↓x_brk, ↓x_cnt, ↓x_for, ↓x_bdy, ↓x_C, ↓x_var, ↓x_dvar, ↓x_v1, ↓x_v2, ↓x_d1L, ↓x_d2L, ↓x_and, ↓x_or, ↓x_not, ↓x_ifx, ↓x_args0, ↓x_args1, ↓x_tup, ↓x_lst, ↓x_call, ↓x_vD, ↓x_dV, ↓x_slP, ↓x_opt0, ↓x_opt1, ↓x_iP, ↓x_rg1, ↓x_rg2, ↓x_rg3, ↓x_en, ↓x_zp, ↓x_rv, ↓x_ch, ↓x_lc, ↓x_aug, ↓x_app, ↓x_put, ↓x_pix, ↓x_try, ↓x_rep, ↓x_raise0, y_sq, y_sif, y_retV, y_setV, y_toV, y_ofV, y_orw, y_and, y_or, y_not, y_v1, y_v2a, y_v2b, y_finW, y_calB, sq_nx, sq_rt, sq_bk, sq_ct, sq_er, sq_no, dataL_d, allD_d, fnD, SZ, List.getElem?_cons_zero, List.getElem?_cons_succ, List.getElem?_nil, List.set_cons_zero, List.set_cons_succ, List.map_cons, List.map_nil, List.length_cons, List.length_nil, List.length_map, List.length_append, List.cons_append, List.nil_append, List.append_nil, Nat.reduceAdd, Nat.reduceSub, Nat.zero_add, Nat.add_zero, Option.map_some, Option.map_none, Option.getD_some, Option.getD_none, Bool.false_eq_true, Bool.true_eq_false, Bool.and_false, Bool.false_and, Bool.and_true, Bool.true_and, Bool.or_false, Bool.false_or, Bool.or_true, Bool.true_or, Bool.not_true, Bool.not_false, if_true, if_false, ite_true, ite_false, decide_eq_true_eq, Bool.and_eq_true, Bool.or_eq_true, Bool.not_eq_true', decide_eq_false_iff_not, decide_true, decide_false, true_and, and_true, reduceCtorEq, Int.reduceNeg, Int.reduceLT, Int.reduceLE, Int.reduceToNat, Nat.reduceLeDiff, Int.reduceAbs, Int.reduceSub, Int.reduceAdd, Int.reduceMul, Int.reduceEq, Nat.reduceMul, Nat.reduceEqDiff, Nat.reduceLT, Nat.reducePow, Int.reducePow, ↓reduceIte, ite_not, sif.eq_1, sif.eq_3, sif.eq_4, andA.eq_1, andA.eq_3, andA.eq_4, orA.eq_1, orA.eq_3, orA.eq_4, notA.eq_1, notA.eq_3, notA.eq_4, ifA.eq_1, ifA.eq_3, ifA.eq_4, orw.eq_1, orw.eq_2, orw.eq_3, v1r.eq_1, v1r.eq_2, v1a.eq_1, v1a.eq_2, v1a.eq_3, v2a.eq_1, v2a.eq_2, v2a.eq_3, v2b.eq_1, v2b.eq_2, v2b.eq_3, dlr.eq_1, dlr.eq_2, d1a.eq_1, d1a.eq_2, d1a.eq_3, d2a.eq_1, d2a.eq_2, d2a.eq_3, d2b.eq_1, d2b.eq_2, d2b.eq_3, ar1.eq_1, ar1.eq_2, ar1.eq_3, ar1.eq_4, ar2.eq_1, ar2.eq_2, ar2.eq_3, tupA.eq_1, tupA.eq_2, tupA.eq_3, lstA.eq_1, lstA.eq_2, lstA.eq_3, calA.eq_1, calA.eq_2, calA.eq_3, calB.eq_1, calB.eq_2, calB.eq_3, wOf.eq_1, varV.eq_1, varR.eq_1, varR.eq_2, varD.eq_1, setA.eq_1, setA.eq_2, setA.eq_4, setA.eq_5, setVA.eq_1, setVA.eq_2, setVA.eq_3, setVA.eq_4, asgA.eq_1, asgA.eq_2, asgA.eq_3, asgA.eq_4, asgB.eq_1, asgB.eq_2, expA.eq_1, expA.eq_2, expA.eq_3, retA.eq_1, retA.eq_2, retA.eq_3, retVA.eq_1, retVA.eq_2, retVA.eq_3, retVA.eq_4, forA.eq_1, forA.eq_2, forA.eq_3, sl0.eq_1, sl0.eq_2, sl0.eq_3, sl1.eq_1, sl1.eq_2, sl2.eq_1, sl2.eq_2, sl3.eq_1, sl3.eq_2, optA.eq_1, bdyA.eq_1, bdyA.eq_2, iPA.eq_1, iPA.eq_2, iPA.eq_3, iPA.eq_5, iPA.eq_6, rg1A.eq_3, rg1A.eq_4, rg2A.eq_3, rg2A.eq_4, rg3A.eq_3, rg3A.eq_4, enA.eq_1, enA.eq_3, enA.eq_4, zpA.eq_1, zpA.eq_3, zpA.eq_4, rvA.eq_1, rvA.eq_3, rvA.eq_4, ch1.eq_1, ch1.eq_2, ch1.eq_3, ch2.eq_1, ch2.eq_2, ch2.eq_3, chA.eq_1, chB.eq_1, chB.eq_2, chB.eq_3, chC.eq_1, chC.eq_2, lc0.eq_2, lc0.eq_3, lcA.eq_1, lcA.eq_2, augA.eq_1, augB.eq_1, augB.eq_3, augB.eq_4, appA.eq_1, appB.eq_1, appB.eq_2, appB.eq_3, putA.eq_1, putA.eq_2, putA.eq_3, putA2.eq_1, putA2.eq_2, putB.eq_1, putC.eq_1, putD.eq_1, pixA.eq_1, pixA2.eq_1, pixB.eq_1, tryA.eq_1, tryB.eq_1, tryB.eq_2, tryB.eq_3, noEr.eq_1, repA.eq_1, repA2.eq_1, repA2.eq_2, repB.eq_1, rdT.eq_1, rdT.eq_2, toV.eq_1, toV.eq_2, toV.eq_3, toV.eq_4, toV.eq_5, toV.eq_6, ofV.eq_1, ofV.eq_2, ofV.eq_4, ofV.eq_5, tOf.eq_1, tOf.eq_2, isL.eq_1, getE.eq_1, getT.eq_1, getT.eq_2, getT.eq_3, setE.eq_1, setT.eq_1, setT.eq_2, setT.eq_3, T.data.eq_1, T.data.eq_2, finW.eq_1, finW.eq_2, finW.eq_3, finW.eq_4, finW.eq_6, fin.eq_1, fin.eq_2, fin.eq_3, tgS.eq_1, wipeE.eq_1, wipeE.eq_2, fAdd.eq_1, fAdd.eq_2, fI2.eq_1, fB2.eq_1, fU.eq_1, fLen.eq_1, fLen.eq_2, fLen.eq_3, fIx.eq_1, fIx.eq_2, fIx.eq_3, fIsN.eq_1, fNotN.eq_1, isNone.eq_1, fInt.eq_1, fInt.eq_2, fInt.eq_3, fLs.eq_1, fLs.eq_2, fTp.eq_1, fTp.eq_2, fSlP.eq_3, wOf_l, wOf_o, tryA_nx, tryA_rt, tryA_bk, tryA_ct, noEr_nx, noEr_rt, noEr_bk, noEr_ct, isNone_i, isNone_b, isNone_s, isNone_l, isNone_t, iL_app, iL_len, iL_rep, iL_rev, allD_iL, dataL_iL, q_int, q_t, q_l, n_t, n_l, n_int, q_self, n_self, s_to, s_from, s_mid, sl_to, sl_from, sl_mid, add_t, add_l, cat_l, isi_t, isi_b, isi_i, isi_l, isi_s, at_0, at_1, at_2, at_3, at_4, at_5, at_6, ai_0, ai_1, ai_2, ai_3, ai_4, ai_5, ai_6, tgN_a, tgT_a, apd_ok, lc_ok, rg1_ok, rg2_ok, iL_snoc, iL_mapd, lc_const, rngD_len, iL_take, iL_drop, Int.toNat_natCast, dataL_nil, dataL_cons, allD.eq_1, allD.eq_2, ixN_ok, rep_l, tgS_nil, rep_none, rep_none0, List.take_left, List.drop_left, any_false, all_true, eq_self, set_iL, at_last, List.drop_succ_cons, List.drop_zero, List.take_succ_cons, List.take_zero, List.getLast?_cons_cons, List.getLast?_singleton, Int.cast_ofNat_Int, rg3_ok, rngC_len, fRv_l]

section
variable {P : Program} {w : World} {K : PySem.W.Frag} {mg : Str → Option Value} {base : Heap} {cl : Str → Addr} {A_JOINT : Addr}
theorem ok_bits_number {f : Addr} {fd : FuncData} (F : Fun K "bits_number" "bits_number" s_bits_number f fd) (B : BI mg) : FnOk P w K mg base (L2.CX P w) 1 f fd ["bits"] (spD K cl ["bits"].length f_bits_number) := by
  refine fn_ok F sc_bits_number (fun cdv A outer s H vs E hr => ?_)
  exact (ss_cons (se_setV (i := 1) sc_bits_number.nd rfl (Or.inl rfl) ve_int (pinsOf_no rfl))
      (ss_cons (se_for (passes_of rfl) rfl (ie_p (ve_var 0)) (pg_name (i := 2) sc_bits_number.nd rfl (Or.inl rfl)) (tg_name (pinsOf_no rfl))
      (ss_one (se_setV (i := 1) sc_bits_number.nd rfl (Or.inl rfl) (ve_bin op_addP sc_addP (ve_bin op_mul sc_mul ve_int (ve_var 1)) (ve_var 2)) (pinsOf_no rfl))))
      (ss_one (se_retV (ve_var 1)))))
theorem ok_octet_bits {f : Addr} {fd : FuncData} (F : Fun K "octet_bits" "octet_bits" s_octet_bits f fd) (B : BI mg) : FnOk P w K mg base (L2.CX P w) 1 f fd ["octets"] (spD K cl ["octets"].length f_octet_bits) := by
  refine fn_ok F sc_octet_bits (fun cdv A outer s H vs E hr => ?_)
  exact (ss_one (se_retV (pe_toV (de_lc2 (own := [("octet", 1), ("place", 2)]) (vs1 := [2]) rfl sc_octet_bits.nd (ie_p (ve_var 0)) (blkOk_by (own := [("octet", 1), ("place", 2)]) (N := ["octets", "octet", "place"]) (sc := defScope s_octet_bits) (by decide +kernel)) (by decide) (fun _ _ _ _ _ => (pg_name (i := 1) sc_octet_bits.nd rfl (Or.inl rfl))) (tg_sub (tg_name noPin0) (by decide)) (fun _ _ _ _ _ => (ie_rg1 (by rfl) B.range_ (ae_cons ve_int ae_nil))) (fun _ _ _ _ _ => (pg_name (i := 2) sc_octet_bits.nd rfl (Or.inl rfl))) (tg_name noPin0) (fun _ _ _ _ _ => (ve_bin op_and sc_I20 (ve_bin op_shr sc_shr (ve_var 1) (ve_var 2)) ve_int))))))
theorem ok_bits_octets {f : Addr} {fd : FuncData} {fbits_number : Addr} {fd_bits_number : FuncData} (F : Fun K "bits_octets" "bits_octets" s_bits_octets f fd) (B : BI mg) (X_BadBits : OwnErr K mg "BadBits" (cl "BadBits")) (c_bits_number : Cal P w K mg base (L2.CX P w) 1 "bits_number" fbits_number fd_bits_number ["bits"] (spD K cl ["bits"].length f_bits_number)) : FnOk P w K mg base (L2.CX P w) 2 f fd ["bits"] (spD K cl ["bits"].length f_bits_octets) := by
  refine fn_ok F sc_bits_octets (fun cdv A outer s H vs E hr => ?_)
  exact (ss_cons (se_if (te_cmp (op_neD hr.units) sc_ne (ve_bin op_mod sc_mod (ve_b1 call_lenA sc_len (by rfl) B.len_ (by decide +kernel) (pa_cons (ve_var 0) pa_nil)) ve_int) ve_int (nomark _)) (ss_one (se_raise0 rfl (takes_of rfl rfl rfl rfl) rfl (pmk_own0 PySem.F.excBase_ValueError X_BadBits.xP X_BadBits.gC X_BadBits.kP (raises_own X_BadBits.bP X_BadBits.tP) rfl))) ss_nil)
      (ss_one (se_retV (ve_t1 call_tuple_of sc_tuple (by rfl) B.tuple_ (by decide +kernel) (pa_cons (pe_toV (de_lc (own := [("at", 1)]) rfl sc_bits_octets.nd (ie_rg3 (by rfl) B.range_ (ae_cons ve_int (ae_cons (ve_b1 call_lenA sc_len (by rfl) B.len_ (by decide +kernel) (pa_cons (ve_var 0) pa_nil)) (ae_cons ve_int ae_nil)))) (blkOk_by (own := [("at", 1)]) (N := ["bits", "at"]) (sc := defScope s_bits_octets) (by decide +kernel)) (fun _ _ _ _ _ => (pg_name (i := 1) sc_bits_octets.nd rfl (Or.inl rfl))) (tg_name noPin0) (fun _ _ _ _ _ => pts_nil) htt_yes (fun _ _ _ _ _ => (pe_toV (de_call takes0 c_bits_number.ok rfl rfl (hr.mono (by decide)) (by rfl) c_bits_number.g c_bits_number.kp c_bits_number.b (ae_cons (pe_toV (de_rev (ve_slP (ve_var 0) (oe_some (ve_var 1)) (oe_some (ve_bin op_addP sc_addP (ve_var 1) ve_int))))) ae_nil)))))) pa_nil)))))
theorem ok_pack {f : Addr} {fd : FuncData} {fbits_octets : Addr} {fd_bits_octets : FuncData} (F : Fun K "pack" "pack" s_pack f fd) (B : BI mg) (c_bits_octets : Cal P w K mg base (L2.CX P w) 2 "bits_octets" fbits_octets fd_bits_octets ["bits"] (spD K cl ["bits"].length f_bits_octets)) : FnOk P w K mg base (L2.CX P w) 3 f fd ["row", "start"] (spD K cl ["row", "start"].length f_pack) := by
  refine fn_ok F sc_pack (fun cdv A outer s H vs E hr => ?_)
  exact (ss_cons (se_setV (i := 2) sc_pack.nd rfl (Or.inl rfl) (ve_bin op_addP sc_addP (pe_toV (de_rep (de_lst (ae_cons ve_int ae_nil)) (ve_var 1))) (pe_toV (de_lc2 (own := [("septet", 3), ("place", 4)]) (vs1 := [4]) rfl sc_pack.nd (ie_p (ve_var 0)) (blkOk_by (own := [("septet", 3), ("place", 4)]) (N := ["row", "start", "bits", "septet", "place"]) (sc := defScope s_pack) (by decide +kernel)) (by decide) (fun _ _ _ _ _ => (pg_name (i := 3) sc_pack.nd rfl (Or.inl rfl))) (tg_sub (tg_name noPin0) (by decide)) (fun _ _ _ _ _ => (ie_rg1 (by rfl) B.range_ (ae_cons ve_int ae_nil))) (fun _ _ _ _ _ => (pg_name (i := 4) sc_pack.nd rfl (Or.inl rfl))) (tg_name noPin0) (fun _ _ _ _ _ => (ve_bin op_and sc_I20 (ve_bin op_shr sc_shr (ve_var 3) (ve_var 4)) ve_int))))) (pinsOf_no rfl))
      (ss_one (se_retV (pe_toV (de_call (takes_of rfl rfl rfl rfl) c_bits_octets.ok rfl rfl (hr.mono (by decide)) (by rfl) c_bits_octets.g c_bits_octets.kp c_bits_octets.b (ae_cons (ve_bin op_addP sc_addP (ve_var 2) (pe_toV (de_rep (de_lst (ae_cons ve_int ae_nil)) (ve_bin op_mod sc_mod (ve_un un_neg sc_neg (ve_b1 call_lenA sc_len (by rfl) B.len_ (by decide +kernel) (pa_cons (ve_var 2) pa_nil))) ve_int)))) ae_nil))))))
theorem ok_unpack {f : Addr} {fd : FuncData} {foctet_bits : Addr} {fd_octet_bits : FuncData} {fbits_number : Addr} {fd_bits_number : FuncData} (F : Fun K "unpack" "unpack" s_unpack f fd) (B : BI mg) (X_BadText : OwnErr K mg "BadText" (cl "BadText")) (c_octet_bits : Cal P w K mg base (L2.CX P w) 1 "octet_bits" foctet_bits fd_octet_bits ["octets"] (spD K cl ["octets"].length f_octet_bits)) (c_bits_number : Cal P w K mg base (L2.CX P w) 1 "bits_number" fbits_number fd_bits_number ["bits"] (spD K cl ["bits"].length f_bits_number)) : FnOk P w K mg base (L2.CX P w) 2 f fd ["octets", "start", "count"] (spD K cl ["octets", "start", "count"].length f_unpack) := by
  refine fn_ok F sc_unpack (fun cdv A outer s H vs E hr => ?_)
  exact (ss_cons (se_setV (i := 3) sc_unpack.nd rfl (Or.inr rfl) (pe_toV (de_call (takes_of rfl rfl rfl rfl) c_octet_bits.ok rfl rfl (hr.mono (by decide)) (by rfl) c_octet_bits.g c_octet_bits.kp c_octet_bits.b (ae_cons (ve_var 0) ae_nil))) (pinsOf_no rfl))
      (ss_cons (se_setV (i := 4) sc_unpack.nd rfl (Or.inl rfl) (ve_bin op_addP sc_addP (ve_var 1) (ve_bin op_mul sc_mul ve_int (ve_var 2))) (pinsOf_no rfl))
      (ss_cons (se_if (te_cmp op_lt sc_B2 (ve_b1 call_lenA sc_len (by rfl) B.len_ (by decide +kernel) (pa_cons (ve_var 3) pa_nil)) (ve_var 4) (nomark _)) (ss_one (se_raise0 rfl (takes_of rfl rfl rfl rfl) rfl (pmk_own0 PySem.F.excBase_ValueError X_BadText.xP X_BadText.gC X_BadText.kP (raises_own X_BadText.bP X_BadText.tP) rfl))) ss_nil)
      (ss_one (se_retV (pe_toV (de_lc (own := [("at", 5)]) rfl sc_unpack.nd (ie_rg3 (by rfl) B.range_ (ae_cons (ve_var 1) (ae_cons (ve_var 4) (ae_cons ve_int ae_nil)))) (blkOk_by (own := [("at", 5)]) (N := ["octets", "start", "count", "bits", "end", "at"]) (sc := defScope s_unpack) (by decide +kernel)) (fun _ _ _ _ _ => (pg_name (i := 5) sc_unpack.nd rfl (Or.inl rfl))) (tg_name noPin0) (fun _ _ _ _ _ => pts_nil) htt_yes (fun _ _ _ _ _ => (pe_toV (de_call takes0 c_bits_number.ok rfl rfl (hr.mono (by decide)) (by rfl) c_bits_number.g c_bits_number.kp c_bits_number.b (ae_cons (pe_toV (de_rev (ve_slP (ve_var 3) (oe_some (ve_var 5)) (oe_some (ve_bin op_addP sc_addP (ve_var 5) ve_int))))) ae_nil)))))))))))
theorem ok__packed_septets {f : Addr} {fd : FuncData} {funpack : Addr} {fd_unpack : FuncData} {fpack : Addr} {fd_pack : FuncData} (F : Fun K "_packed_septets" "_packed_septets" s__packed_septets f fd) (B : BI mg) (X_BadText : OwnErr K mg "BadText" (cl "BadText")) (c_unpack : Cal P w K mg base (L2.CX P w) 2 "unpack" funpack fd_unpack ["octets", "start", "count"] (spD K cl ["octets", "start", "count"].length f_unpack)) (c_pack : Cal P w K mg base (L2.CX P w) 3 "pack" fpack fd_pack ["row", "start"] (spD K cl ["row", "start"].length f_pack)) : FnOk P w K mg base (L2.CX P w) 4 f fd ["octets", "start", "count"] (spD K cl ["octets", "start", "count"].length f__packed_septets) := by
  refine fn_ok F sc__packed_septets (fun cdv A outer s H vs E hr => ?_)
  exact (ss_cons (se_setV (i := 3) sc__packed_septets.nd rfl (Or.inl rfl) (pe_toV (de_call (takes_of rfl rfl rfl rfl) c_unpack.ok rfl rfl (hr.mono (by decide)) (by rfl) c_unpack.g c_unpack.kp c_unpack.b (ae_cons (ve_var 0) (ae_cons (ve_var 1) (ae_cons (ve_var 2) ae_nil))))) (pinsOf_no rfl))
      (ss_cons (se_if (te_cmp (op_neD hr.units) sc_ne (pe_toV (de_call (takes_of rfl rfl rfl rfl) c_pack.ok rfl rfl (hr.mono (by decide)) (by rfl) c_pack.g c_pack.kp c_pack.b (ae_cons (ve_var 3) (ae_cons (ve_var 1) ae_nil)))) (ve_var 0) (nomark _)) (ss_one (se_raise0 rfl (takes_of rfl rfl rfl rfl) rfl (pmk_own0 PySem.F.excBase_ValueError X_BadText.xP X_BadText.gC X_BadText.kP (raises_own X_BadText.bP X_BadText.tP) rfl))) ss_nil)
      (ss_one (se_retV (ve_var 3)))))
theorem ok__alone_septets {f : Addr} {fd : FuncData} {f_packed_septets : Addr} {fd__packed_septets : FuncData} (F : Fun K "_alone_septets" "_alone_septets" s__alone_septets f fd) (B : BI mg) (C : CI K mg A_JOINT) (X_BadText : OwnErr K mg "BadText" (cl "BadText")) (c__packed_septets : Cal P w K mg base (L2.CX P w) 4 "_packed_septets" f_packed_septets fd__packed_septets ["octets", "start", "count"] (spD K cl ["octets", "start", "count"].length f__packed_septets)) : FnOk P w K mg base (L2.CX P w) 5 f fd ["octets"] (spD K cl ["octets"].length f__alone_septets) := by
  refine fn_ok F sc__alone_septets (fun cdv A outer s H vs E hr => ?_)
  exact (ss_cons (se_if (PW.pt (tw_or (te_cmp op_lt sc_B2 (ve_b1 call_lenA sc_len (by rfl) B.len_ (by decide +kernel) (pa_cons (ve_var 0) pa_nil)) ve_int (nomark _)) (tw_or1 (te_not (te_chain op_le op_le sc_B2 sc_B2 ve_int (ve_ix ix_seq sc_ix (ve_var 0) ve_int (fun _ _ => rfl)) (ve_globI (by rfl) C.g_MOST_ALONE)))))) (ss_one (se_raise0 rfl (takes_of rfl rfl rfl rfl) rfl (pmk_own0 PySem.F.excBase_ValueError X_BadText.xP X_BadText.gC X_BadText.kP (raises_own X_BadText.bP X_BadText.tP) rfl))) ss_nil)
      (ss_one (se_retV (pe_toV (de_call (takes_of rfl rfl rfl rfl) c__packed_septets.ok rfl rfl (hr.mono (by decide)) (by rfl) c__packed_septets.g c__packed_septets.kp c__packed_septets.b (ae_cons (ve_slP (ve_var 0) (oe_some ve_int) oe_none) (ae_cons ve_int (ae_cons (ve_ix ix_seq sc_ix (ve_var 0) ve_int (fun _ _ => rfl)) ae_nil))))))))
theorem ok_read_part {f : Addr} {fd : FuncData} {f_alone_septets : Addr} {fd__alone_septets : FuncData} {f_packed_septets : Addr} {fd__packed_septets : FuncData} (F : Fun K "read_part" "read_part" s_read_part f fd) (B : BI mg) (C : CI K mg A_JOINT) (X_BadText : OwnErr K mg "BadText" (cl "BadText")) (c__alone_septets : Cal P w K mg base (L2.CX P w) 5 "_alone_septets" f_alone_septets fd__alone_septets ["octets"] (spD K cl ["octets"].length f__alone_septets)) (c__packed_septets : Cal P w K mg base (L2.CX P w) 4 "_packed_septets" f_packed_septets fd__packed_septets ["octets", "start", "count"] (spD K cl ["octets", "start", "count"].length f__packed_septets)) : FnOk P w K mg base (L2.CX P w) 6 f fd ["octets"] (spD K cl ["octets"].length f_read_part) := by
  refine fn_ok F sc_read_part (fun cdv A outer s H vs E hr => ?_)
  exact (ss_cons (se_if (te_cmp (op_eqD hr.units) sc_eq (ve_slP (ve_var 0) oe_none (oe_some ve_int)) (ve_tup (ae_cons (ve_globI (by rfl) C.g_ALONE) ae_nil)) (nomark _)) (ss_one (se_retV (ve_tup (ae_cons (ve_globI (by rfl) C.g_NO_MARK) (ae_cons ve_int (ae_cons ve_int (ae_cons (pe_toV (de_call (takes_of rfl rfl rfl rfl) c__alone_septets.ok rfl rfl (hr.mono (by decide)) (by rfl) c__alone_septets.g c__alone_septets.kp c__alone_septets.b (ae_cons (ve_var 0) ae_nil))) ae_nil))))))) ss_nil)
      (ss_cons (se_if (PW.pt (tw_or (te_cmp op_lt sc_B2 (ve_b1 call_lenA sc_len (by rfl) B.len_ (by decide +kernel) (pa_cons (ve_var 0) pa_nil)) ve_int (nomark _)) (tw_or (te_cmp (op_neD hr.units) sc_ne (ve_ix ix_seq sc_ix (ve_var 0) ve_int (fun _ _ => rfl)) (ve_globI (by rfl) C.g_SHARED) (nomark _)) (tw_or1 (te_cmp (op_neD hr.units) sc_ne (ve_slP (ve_var 0) (oe_some ve_int) (oe_some ve_int)) (ve_globT (by rfl) C.g_JOINT C.t_JOINT C.d_JOINT) (nomark _)))))) (ss_one (se_raise0 rfl (takes_of rfl rfl rfl rfl) rfl (pmk_own0 PySem.F.excBase_ValueError X_BadText.xP X_BadText.gC X_BadText.kP (raises_own X_BadText.bP X_BadText.tP) rfl))) ss_nil)
      (ss_cons (se_asg (ve_slP (ve_var 0) (oe_some ve_int) (oe_some ve_int)) (pg_tup rfl (pgs_cons (pg_name (i := 1) sc_read_part.nd rfl (Or.inl rfl)) (pgs_cons (pg_name (i := 2) sc_read_part.nd rfl (Or.inl rfl)) (pgs_cons (pg_name (i := 3) sc_read_part.nd rfl (Or.inl rfl)) pgs_nil)))) (tg_tup (is := [1, 2, 3]) (fun i hi => by simp at hi; rcases hi with rfl | rfl | rfl <;> exact pinsOf_no rfl) rfl rfl))
      (ss_cons (se_if (PW.pt (tw_or (te_not (te_chain op_le op_le sc_B2 sc_B2 ve_int (ve_var 1) (ve_globI (by rfl) C.g_MOST_MARK))) (tw_or (te_not (te_chain op_le op_le sc_B2 sc_B2 ve_int (ve_var 2) (ve_globI (by rfl) C.g_MOST_PARTS))) (tw_or1 (te_not (te_chain op_le op_le sc_B2 sc_B2 ve_int (ve_var 3) (ve_var 2))))))) (ss_one (se_raise0 rfl (takes_of rfl rfl rfl rfl) rfl (pmk_own0 PySem.F.excBase_ValueError X_BadText.xP X_BadText.gC X_BadText.kP (raises_own X_BadText.bP X_BadText.tP) rfl))) ss_nil)
      (ss_cons (se_setV (i := 4) sc_read_part.nd rfl (Or.inl rfl) (ve_bin op_sub sc_I20 (ve_ix ix_seq sc_ix (ve_var 0) ve_int (fun _ _ => rfl)) (ve_globI (by rfl) C.g_HEAD)) (pinsOf_no rfl))
      (ss_cons (se_if (te_not (te_chain op_le op_le sc_B2 sc_B2 ve_int (ve_var 4) (ve_globI (by rfl) C.g_MOST_SHARED))) (ss_one (se_raise0 rfl (takes_of rfl rfl rfl rfl) rfl (pmk_own0 PySem.F.excBase_ValueError X_BadText.xP X_BadText.gC X_BadText.kP (raises_own X_BadText.bP X_BadText.tP) rfl))) ss_nil)
      (ss_one (se_retV (ve_tup (ae_cons (ve_var 1) (ae_cons (ve_var 2) (ae_cons (ve_var 3) (ae_cons (pe_toV (de_call (takes_of rfl rfl rfl rfl) c__packed_septets.ok rfl rfl (hr.mono (by decide)) (by rfl) c__packed_septets.g c__packed_septets.kp c__packed_septets.b (ae_cons (ve_slP (ve_var 0) (oe_some ve_int) oe_none) (ae_cons ve_int (ae_cons (ve_var 4) ae_nil))))) ae_nil)))))))))))))
theorem ok__law_mixed {f : Addr} {fd : FuncData} (F : Fun K "_law_mixed" "_law_mixed" s__law_mixed f fd) (B : BI mg) : FnOk P w K mg base (L2.CX P w) 1 f fd ["cell", "turn"] (spD K cl ["cell", "turn"].length f__law_mixed) := by
  refine fn_ok F sc__law_mixed (fun cdv A outer s H vs E hr => ?_)
  exact (ss_cons (se_setV (i := 2) sc__law_mixed.nd rfl (Or.inl rfl) (ve_t1 call_intA sc_int (by rfl) B.int_ (by decide +kernel) (pa_cons (ve_var 0) pa_nil)) (pinsOf_no rfl))
      (ss_cons (se_if (te_cmp op_ge sc_B2 (ve_var 2) (ve_bin op_pow sc_pow ve_int ve_int) (nomark _)) (ss_one (se_retV (ve_var 2))) ss_nil)
      (ss_cons (se_setV (i := 3) sc__law_mixed.nd rfl (Or.inl rfl) (ve_bin op_mod sc_mod (ve_bin op_addP sc_addP (ve_bin op_mul sc_mul (ve_bin op_mod sc_mod (ve_var 2) ve_int) ve_int) (ve_bin op_mul sc_mul ve_int (ve_bin op_addP sc_addP (ve_var 1) ve_int))) ve_int) (pinsOf_no rfl))
      (ss_cons (se_setV (i := 4) sc__law_mixed.nd rfl (Or.inl rfl) (ve_bin op_mod sc_mod (ve_bin op_addP sc_addP (ve_bin op_mul sc_mul (ve_var 3) ve_int) (ve_bin op_mod sc_mod (ve_var 2) ve_int)) ve_int) (pinsOf_no rfl))
      (ss_cons (se_setV (i := 5) sc__law_mixed.nd rfl (Or.inl rfl) (ve_bin op_mod sc_mod (ve_bin op_addP sc_addP (ve_bin op_mul sc_mul (ve_var 4) ve_int) (ve_var 3)) ve_int) (pinsOf_no rfl))
      (ss_one (se_retV (ve_bin op_addP sc_addP (ve_bin op_addP sc_addP (ve_var 3) (ve_bin op_mul sc_mul ve_int (ve_var 4))) (ve_bin op_mul sc_mul ve_int (ve_var 5))))))))))
theorem ok__law_packed {f : Addr} {fd : FuncData} (F : Fun K "_law_packed" "_law_packed" s__law_packed f fd) (B : BI mg) : FnOk P w K mg base (L2.CX P w) 1 f fd ["row", "start"] (spD K cl ["row", "start"].length f__law_packed) := by
  refine fn_ok F sc__law_packed (fun cdv A outer s H vs E hr => ?_)
  exact (ss_cons (se_setLc (i := 2) (own := [("spare", 3)]) rfl sc__law_packed.nd rfl rfl (sw_true rfl rfl rfl (by decide +kernel)) (pinsOf_no rfl) (ie_rg1 (by rfl) B.range_ (ae_cons (ve_var 1) ae_nil)) (blkOk_by (own := [("spare", 3)]) (N := ["row", "start", "bits", "spare", "septet", "left", "octets", "at", "octet", "bit"]) (sc := defScope s__law_packed) (by decide +kernel)) (fun _ _ _ _ _ => (pg_name (i := 3) sc__law_packed.nd rfl (Or.inl rfl))) (tg_name noPin0) (fun _ _ _ _ _ => pts_nil) htt_yes (fun _ _ _ _ _ => ve_int))
      (ss_cons (se_for (passes_of rfl) rfl (ie_p (ve_var 0)) (pg_name (i := 4) sc__law_packed.nd rfl (Or.inl rfl)) (tg_name (pinsOf_no rfl))
      (ss_cons (se_setV (i := 5) sc__law_packed.nd rfl (Or.inl rfl) (ve_t1 call_intA sc_int (by rfl) B.int_ (by decide +kernel) (pa_cons (ve_var 4) pa_nil)) (pinsOf_no rfl))
      (ss_one (se_for (passes_of rfl) rfl (ie_rg1 (by rfl) B.range_ (ae_cons ve_int ae_nil)) (pg_name (i := 3) sc__law_packed.nd rfl (Or.inl rfl)) (tg_name (pinsOf_no rfl))
      (ss_cons (se_exp (ve_append (de_var 2) (pe_ofV (ve_bin op_mod sc_mod (ve_var 5) ve_int))))
      (ss_one (se_setV (i := 5) sc__law_packed.nd rfl (Or.inl rfl) (ve_bin op_fdiv sc_div (ve_var 5) ve_int) (pinsOf_no rfl))))))))
      (ss_cons (se_set (i := 6) sc__law_packed.nd rfl (Or.inl rfl) (de_lst ae_nil) (pinsOf_no rfl))
      (ss_cons (se_for (passes_of rfl) rfl (ie_rg3 (by rfl) B.range_ (ae_cons ve_int (ae_cons (ve_b1 call_lenA sc_len (by rfl) B.len_ (by decide +kernel) (pa_cons (ve_var 2) pa_nil)) (ae_cons ve_int ae_nil)))) (pg_name (i := 7) sc__law_packed.nd rfl (Or.inl rfl)) (tg_name (pinsOf_no rfl))
      (ss_cons (se_setV (i := 8) sc__law_packed.nd rfl (Or.inl rfl) ve_int (pinsOf_no rfl))
      (ss_cons (se_for (passes_of rfl) rfl (ie_rev (by rfl) B.reversed_ (pa_cons (ve_slP (ve_var 2) (oe_some (ve_var 7)) (oe_some (ve_bin op_addP sc_addP (ve_var 7) ve_int))) pa_nil)) (pg_name (i := 9) sc__law_packed.nd rfl (Or.inl rfl)) (tg_name (pinsOf_no rfl))
      (ss_one (se_setV (i := 8) sc__law_packed.nd rfl (Or.inl rfl) (ve_bin op_addP sc_addP (ve_bin op_mul sc_mul ve_int (ve_var 8)) (ve_var 9)) (pinsOf_no rfl))))
      (ss_one (se_exp (ve_append (de_var 6) (pe_ofV (ve_var 8))))))))
      (ss_one (se_ret (de_var 6)))))))
theorem ok__law_part {f : Addr} {fd : FuncData} {f_law_packed : Addr} {fd__law_packed : FuncData} (F : Fun K "_law_part" "_law_part" s__law_part f fd) (B : BI mg) (c__law_packed : Cal P w K mg base (L2.CX P w) 1 "_law_packed" f_law_packed fd__law_packed ["row", "start"] (spD K cl ["row", "start"].length f__law_packed)) : FnOk P w K mg base (L2.CX P w) 2 f fd ["mark", "many", "number", "row"] (spD K cl ["mark", "many", "number", "row"].length f__law_part) := by
  refine fn_ok F sc__law_part (fun cdv A outer s H vs E hr => ?_)
  exact (ss_cons (se_if (te_cmp (op_eqD hr.units) sc_eq (ve_var 1) ve_int (nomark _)) (ss_one (se_retV (ve_bin op_addP sc_addP (pe_toV (de_lst (ae_cons ve_int (ae_cons (ve_b1 call_lenA sc_len (by rfl) B.len_ (by decide +kernel) (pa_cons (ve_var 3) pa_nil)) ae_nil)))) (pe_toV (de_call (takes_of rfl rfl rfl rfl) c__law_packed.ok rfl rfl (hr.mono (by decide)) (by rfl) c__law_packed.g c__law_packed.kp c__law_packed.b (ae_cons (ve_var 3) (ae_cons ve_int ae_nil))))))) ss_nil)
      (ss_one (se_retV (ve_bin op_addP sc_addP (pe_toV (de_lst (ae_cons ve_int (ae_cons (ve_bin op_addP sc_addP (ve_b1 call_lenA sc_len (by rfl) B.len_ (by decide +kernel) (pa_cons (ve_var 3) pa_nil)) ve_int) (ae_cons ve_int (ae_cons ve_int (ae_cons ve_int (ae_cons (ve_var 0) (ae_cons (ve_var 1) (ae_cons (ve_var 2) ae_nil)))))))))) (pe_toV (de_call (takes_of rfl rfl rfl rfl) c__law_packed.ok rfl rfl (hr.mono (by decide)) (by rfl) c__law_packed.g c__law_packed.kp c__law_packed.b (ae_cons (ve_var 3) (ae_cons ve_int ae_nil))))))))
theorem ok__law_spoilt {f : Addr} {fd : FuncData} (F : Fun K "_law_spoilt" "_law_spoilt" s__law_spoilt f fd) (B : BI mg) : FnOk P w K mg base (L2.CX P w) 1 f fd ["row", "value"] (spD K cl ["row", "value"].length f__law_spoilt) := by
  refine fn_ok F sc__law_spoilt (fun cdv A outer s H vs E hr => ?_)
  exact (ss_cons (se_setV (i := 2) sc__law_spoilt.nd rfl (Or.inr rfl) (ve_bin op_mod sc_mod (ve_bin op_fdiv sc_div (ve_var 1) ve_int) (ve_b1 call_lenA sc_len (by rfl) B.len_ (by decide +kernel) (pa_cons (ve_var 0) pa_nil))) (pinsOf_no rfl))
      (ss_cons (se_setV (i := 3) sc__law_spoilt.nd rfl (Or.inr rfl) (ve_ix ix_seq sc_ix (pe_toV (de_lst (ae_cons ve_int (ae_cons ve_int (ae_cons ve_int (ae_cons ve_int (ae_cons ve_int (ae_cons ve_int (ae_cons (ve_bin op_mod sc_mod (ve_bin op_addP sc_addP (ve_ix ix_seq sc_ix (ve_var 0) (ve_var 2) (fun _ _ => rfl)) ve_int) ve_int) (ae_cons (ve_bin op_mod sc_mod (ve_bin op_fdiv sc_div (ve_var 1) ve_int) ve_int) ae_nil)))))))))) (ve_bin op_mod sc_mod (ve_bin op_fdiv sc_div (ve_var 1) ve_int) ve_int) (fun _ _ => rfl)) (pinsOf_no rfl))
      (ss_cons (se_setV (i := 4) sc__law_spoilt.nd rfl (Or.inl rfl) (ve_bin op_mod sc_mod (ve_var 1) ve_int) (pinsOf_no rfl))
      (ss_cons (se_if (te_cmp op_lt sc_B2 (ve_var 4) ve_int (nomark _)) (ss_one (se_retV (ve_bin op_addP sc_addP (ve_bin op_addP sc_addP (ve_slP (ve_var 0) oe_none (oe_some (ve_var 2))) (pe_toV (de_lst (ae_cons (ve_var 3) ae_nil)))) (ve_slP (ve_var 0) (oe_some (ve_bin op_addP sc_addP (ve_var 2) ve_int)) oe_none)))) ss_nil)
      (ss_cons (se_if (te_cmp (op_eqD hr.units) sc_eq (ve_var 4) ve_int (nomark _)) (ss_one (se_retV (ve_bin op_addP sc_addP (ve_slP (ve_var 0) oe_none (oe_some (ve_var 2))) (ve_slP (ve_var 0) (oe_some (ve_bin op_addP sc_addP (ve_var 2) ve_int)) oe_none)))) ss_nil)
      (ss_cons (se_if (te_cmp (op_eqD hr.units) sc_eq (ve_var 4) ve_int (nomark _)) (ss_one (se_retV (ve_bin op_addP sc_addP (ve_bin op_addP sc_addP (ve_slP (ve_var 0) oe_none (oe_some (ve_var 2))) (pe_toV (de_lst (ae_cons (ve_var 3) ae_nil)))) (ve_slP (ve_var 0) (oe_some (ve_var 2)) oe_none)))) ss_nil)
      (ss_cons (se_if (te_cmp (op_eqD hr.units) sc_eq (ve_var 4) ve_int (nomark _)) (ss_one (se_retV (ve_slP (ve_var 0) oe_none (oe_some (ve_var 2))))) ss_nil)
      (ss_one (se_retV (ve_bin op_addP sc_addP (pe_toV (de_lst (ae_cons (ve_bin op_mod sc_mod (ve_bin op_fdiv sc_div (ve_var 1) ve_int) ve_int) ae_nil))) (pe_toV (de_lc (own := [("k", 5)]) rfl sc__law_spoilt.nd (ie_rg1 (by rfl) B.range_ (ae_cons (ve_bin op_mod sc_mod (ve_bin op_fdiv sc_div (ve_var 1) ve_int) ve_int) ae_nil)) (blkOk_by (own := [("k", 5)]) (N := ["row", "value", "at", "octet", "kind", "k"]) (sc := defScope s__law_spoilt) (by decide +kernel)) (fun _ _ _ _ _ => (pg_name (i := 5) sc__law_spoilt.nd rfl (Or.inl rfl))) (tg_name noPin0) (fun _ _ _ _ _ => pts_nil) htt_yes (fun _ _ _ _ _ => (ve_bin op_mod sc_mod (ve_bin op_addP sc_addP (ve_var 3) (ve_bin op_mul sc_mul (ve_var 5) (ve_var 2))) ve_int))))))))))))))
theorem ok__law_read_right {f : Addr} {fd : FuncData} {fread_part : Addr} {fd_read_part : FuncData} (F : Fun K "_law_read_right" "_law_read_right" s__law_read_right f fd) (B : BI mg) (X_BadText : OwnErr K mg "BadText" (cl "BadText")) (Tb_BadText : Clause K cl "BadText" tb_BadText) (c_read_part : Cal P w K mg base (L2.CX P w) 6 "read_part" fread_part fd_read_part ["octets"] (spD K cl ["octets"].length f_read_part)) : FnOk P w K mg base (L2.CX P w) 7 f fd ["part", "mark", "many", "number", "row"] (spD K cl ["part", "mark", "many", "number", "row"].length f__law_read_right) := by
  refine fn_ok F sc__law_read_right (fun cdv A outer s H vs E hr => ?_)
  exact (ss_cons (se_setV (i := 5) sc__law_read_right.nd rfl (Or.inl rfl) (ve_cmp op_le sc_B2 (ve_b1 call_lenA sc_len (by rfl) B.len_ (by decide +kernel) (pa_cons (ve_var 4) pa_nil)) ve_int (nomark _)) (pinsOf_no rfl))
      (ss_cons (se_setV (i := 6) sc__law_read_right.nd rfl (Or.inl rfl) (ve_tup (ae_cons (ve_un un_neg sc_neg ve_int) (ae_cons ve_int (ae_cons ve_int (ae_cons (ve_var 4) ae_nil))))) (pinsOf_no rfl))
      (ss_cons (se_if (te_cmp op_gt sc_B2 (ve_var 2) ve_int (nomark _)) (ss_cons (se_setV (i := 5) sc__law_read_right.nd rfl (Or.inl rfl) (ve_chain op_le op_le sc_B2 sc_B2 ve_int (ve_b1 call_lenA sc_len (by rfl) B.len_ (by decide +kernel) (pa_cons (ve_var 4) pa_nil)) ve_int) (pinsOf_no rfl))
      (ss_one (se_setV (i := 6) sc__law_read_right.nd rfl (Or.inl rfl) (ve_tup (ae_cons (ve_var 1) (ae_cons (ve_var 2) (ae_cons (ve_var 3) (ae_cons (ve_var 4) ae_nil))))) (pinsOf_no rfl)))) ss_nil)
      (ss_one (se_try rfl rfl rfl ⟨rfl, by decide, Or.inl X_BadText.gC⟩ (takes_of rfl rfl rfl rfl) rfl Tb_BadText (fun W pn xe tk hpo => (ss_one (se_retV (ve_and (ve_cmp (op_eqD hr.units) sc_eq (pe_toV (de_call tk c_read_part.ok rfl rfl (hr.mono (by decide)) (by rfl) c_read_part.g c_read_part.kp c_read_part.b (ae_cons (ve_t1 call_tuple_of sc_tuple (by rfl) B.tuple_ (by decide +kernel) (pa_cons (ve_var 0) pa_nil)) ae_nil))) (ve_var 6) (nomark _)) (ve_one (ve_var 5)))))) (fun a oe cls d pn hz hf => (ss_one (se_retV (ve_not (ve_var 5))))))))))
theorem ok_law {f : Addr} {fd : FuncData} {f_law_mixed : Addr} {fd__law_mixed : FuncData} {f_law_part : Addr} {fd__law_part : FuncData} {f_law_read_right : Addr} {fd__law_read_right : FuncData} {f_law_spoilt : Addr} {fd__law_spoilt : FuncData} {fread_part : Addr} {fd_read_part : FuncData} (F : Fun K "law" "law" s_law f fd) (B : BI mg) (X_BadText : OwnErr K mg "BadText" (cl "BadText")) (Tb_BadText : Clause K cl "BadText" tb_BadText) (c__law_mixed : Cal P w K mg base (L2.CX P w) 1 "_law_mixed" f_law_mixed fd__law_mixed ["cell", "turn"] (spD K cl ["cell", "turn"].length f__law_mixed)) (c__law_part : Cal P w K mg base (L2.CX P w) 2 "_law_part" f_law_part fd__law_part ["mark", "many", "number", "row"] (spD K cl ["mark", "many", "number", "row"].length f__law_part)) (c__law_read_right : Cal P w K mg base (L2.CX P w) 7 "_law_read_right" f_law_read_right fd__law_read_right ["part", "mark", "many", "number", "row"] (spD K cl ["part", "mark", "many", "number", "row"].length f__law_read_right)) (c__law_spoilt : Cal P w K mg base (L2.CX P w) 1 "_law_spoilt" f_law_spoilt fd__law_spoilt ["row", "value"] (spD K cl ["row", "value"].length f__law_spoilt)) (c_read_part : Cal P w K mg base (L2.CX P w) 6 "read_part" fread_part fd_read_part ["octets"] (spD K cl ["octets"].length f_read_part)) : FnOk P w K mg base CX0 8 f fd ["script"] (fun vs H Q _ => spD K cl ["script"].length f_law vs H Q E0) := by
  refine fn_ok0 F sc_law (fun cdv A outer s H vs E hr => ?_)
  exact (ss_cons (se_for PassesOwn.never rfl (ie_enum (by rfl) B.enumerate_ (pa_cons (ve_slP (ve_var 0) oe_none (oe_some ve_int)) pa_nil)) (pg_tup rfl (pgs_cons (pg_name (i := 1) sc_law.nd rfl (Or.inl rfl)) (pgs_cons (pg_name (i := 2) sc_law.nd rfl (Or.inl rfl)) pgs_nil))) (tg_tup (is := [1, 2]) (fun i hi => by simp at hi; rcases hi with rfl | rfl <;> exact pinsOf_no rfl) rfl rfl)
      (ss_cons (se_setV (i := 3) sc_law.nd rfl (Or.inl rfl) (pe_toV (de_call takes0 c__law_mixed.ok rfl rfl (hr.mono (by decide)) (by rfl) c__law_mixed.g c__law_mixed.kp c__law_mixed.b (ae_cons (ve_var 2) (ae_cons (ve_var 1) ae_nil)))) (pinsOf_no rfl))
      (ss_cons (se_setV (i := 4) sc_law.nd rfl (Or.inl rfl) (ve_bin op_addP sc_addP ve_int (ve_bin op_mod sc_mod (ve_var 3) ve_int)) (pinsOf_no rfl))
      (ss_cons (se_setV (i := 5) sc_law.nd rfl (Or.inl rfl) (ve_bin op_mod sc_mod (ve_bin op_fdiv sc_div (ve_var 3) ve_int) ve_int) (pinsOf_no rfl))
      (ss_cons (se_if (te_cmp (op_eqD hr.units) sc_eq (ve_bin op_mod sc_mod (ve_bin op_fdiv sc_div (ve_var 3) ve_int) ve_int) ve_int (nomark _)) (ss_one (se_setV (i := 5) sc_law.nd rfl (Or.inl rfl) (ve_ix ix_seq sc_ix (pe_toV (de_lst (ae_cons ve_int (ae_cons ve_int (ae_cons ve_int (ae_cons ve_int (ae_cons ve_int (ae_cons ve_int (ae_cons ve_int ae_nil))))))))) (ve_bin op_mod sc_mod (ve_bin op_fdiv sc_div (ve_var 3) ve_int) ve_int) (fun _ _ => rfl)) (pinsOf_no rfl))) ss_nil)
      (ss_cons (se_setV (i := 6) sc_law.nd rfl (Or.inr rfl) (ve_bin op_fdiv sc_div (ve_var 3) ve_int) (pinsOf_no rfl))
      (ss_cons (se_setV (i := 7) sc_law.nd rfl (Or.inl rfl) (ve_bin op_mod sc_mod (ve_var 6) ve_int) (pinsOf_no rfl))
      (ss_cons (se_setV (i := 6) sc_law.nd rfl (Or.inr rfl) (ve_bin op_fdiv sc_div (ve_var 6) ve_int) (pinsOf_no rfl))
      (ss_cons (se_setLcV (i := 8) (own := [("k", 9)]) rfl sc_law.nd rfl rfl (sw_true rfl rfl rfl (by decide +kernel)) (pinsOf_no rfl) (ie_rg1 (by rfl) B.range_ (ae_cons (ve_var 5) ae_nil)) (blkOk_by (own := [("k", 9)]) (N := ["script", "turn", "cell", "value", "many", "size", "left", "mark", "row", "k", "spare", "number", "part", "octets", "told"]) (sc := defScope s_law) (by decide +kernel)) (fun _ _ _ _ _ => (pg_name (i := 9) sc_law.nd rfl (Or.inl rfl))) (tg_name noPin0) (fun _ _ _ _ _ => pts_nil) htt_yes (fun _ _ _ _ _ => (ve_bin op_mod sc_mod (ve_bin op_addP sc_addP (ve_bin op_fdiv sc_div (ve_var 6) (ve_bin op_addP sc_addP (ve_var 9) ve_int)) (ve_bin op_mul sc_mul ve_int (ve_var 9))) ve_int)))
      (ss_cons (se_if (te_cmp (op_eqD hr.units) sc_eq (ve_bin op_mod sc_mod (ve_bin op_fdiv sc_div (ve_var 3) ve_int) ve_int) ve_int (nomark _)) (ss_one (se_setLcV (i := 8) (own := [("spare", 10)]) rfl sc_law.nd rfl rfl (sw_true rfl rfl rfl (by decide +kernel)) (pinsOf_no rfl) (ie_rg1 (by rfl) B.range_ (ae_cons (ve_bin op_mod sc_mod (ve_var 5) ve_int) ae_nil)) (blkOk_by (own := [("spare", 10)]) (N := ["script", "turn", "cell", "value", "many", "size", "left", "mark", "row", "k", "spare", "number", "part", "octets", "told"]) (sc := defScope s_law) (by decide +kernel)) (fun _ _ _ _ _ => (pg_name (i := 10) sc_law.nd rfl (Or.inl rfl))) (tg_name noPin0) (fun _ _ _ _ _ => pts_nil) htt_yes (fun _ _ _ _ _ => ve_int))) ss_nil)
      (ss_cons (se_setV (i := 11) sc_law.nd rfl (Or.inl rfl) (ve_bin op_addP sc_addP ve_int (ve_bin op_mod sc_mod (ve_var 6) (ve_var 4))) (pinsOf_no rfl))
      (ss_cons (se_setV (i := 12) sc_law.nd rfl (Or.inl rfl) (pe_toV (de_call takes0 c__law_part.ok rfl rfl (hr.mono (by decide)) (by rfl) c__law_part.g c__law_part.kp c__law_part.b (ae_cons (ve_var 7) (ae_cons (ve_var 4) (ae_cons (ve_var 11) (ae_cons (ve_var 8) ae_nil)))))) (pinsOf_no rfl))
      (ss_cons (se_if (te_cmp (op_eqD hr.units) sc_eq (ve_bin op_mod sc_mod (ve_bin op_fdiv sc_div (ve_var 6) ve_int) ve_int) ve_int (nomark _)) (ss_cons (se_if (te_not (te_val (pe_toV (de_call takes0 c__law_read_right.ok rfl rfl (hr.mono (by decide)) (by rfl) c__law_read_right.g c__law_read_right.kp c__law_read_right.b (ae_cons (ve_var 12) (ae_cons (ve_var 7) (ae_cons (ve_var 4) (ae_cons (ve_var 11) (ae_cons (ve_var 8) ae_nil))))))))) (ss_one (se_retV ve_bl)) ss_nil)
      (ss_one se_cont)) ss_nil)
      (ss_cons (se_setV (i := 13) sc_law.nd rfl (Or.inl rfl) (ve_t1 call_tuple_of sc_tuple (by rfl) B.tuple_ (by decide +kernel) (pa_cons (pe_toV (de_call takes0 c__law_spoilt.ok rfl rfl (hr.mono (by decide)) (by rfl) c__law_spoilt.g c__law_spoilt.kp c__law_spoilt.b (ae_cons (ve_var 12) (ae_cons (ve_bin op_fdiv sc_div (ve_var 6) ve_int) ae_nil)))) pa_nil)) (pinsOf_no rfl))
      (ss_cons (se_setV (i := 14) sc_law.nd rfl (Or.inl rfl) ve_non (pinsOf_no rfl))
      (ss_cons (se_try rfl rfl rfl ⟨rfl, by decide, Or.inl X_BadText.gC⟩ takes0 rfl Tb_BadText (fun W pn xe tk hpo => (ss_one (se_setV (i := 14) sc_law.nd rfl (Or.inl rfl) (pe_toV (de_call tk c_read_part.ok rfl rfl (hr.mono (by decide)) (by rfl) c_read_part.g c_read_part.kp c_read_part.b (ae_cons (ve_var 13) ae_nil))) (pinsOf_no rfl)))) (fun a oe cls d pn hz hf => (ss_one (se_setV (i := 14) sc_law.nd rfl (Or.inl rfl) ve_non (pinsOf_no rfl)))))
      (ss_one (se_if (te_cmp op_notN sc_notN (ve_var 14) ve_non (nomark _)) (ss_cons (se_if (PW.pt (tw_or (te_not (te_val (ve_isi (by rfl) B.isinstance_ (by decide +kernel) (pa_cons (ve_var 14) (pa_cons (pe_bltn (v := .ty "tuple") (by rfl) B.tuple_ boot_tuple rfl) pa_nil))))) (tw_or (te_cmp (op_neD hr.units) sc_ne (ve_b1 call_lenA sc_len (by rfl) B.len_ (by decide +kernel) (pa_cons (ve_var 14) pa_nil)) ve_int (nomark _)) (tw_or1 (te_not (te_val (ve_isi (by rfl) B.isinstance_ (by decide +kernel) (pa_cons (ve_ix ix_seq sc_ix (ve_var 14) ve_int (fun _ _ => rfl)) (pa_cons (pe_bltn (v := .ty "list") (by rfl) B.list_ boot_list rfl) pa_nil))))))))) (ss_one (se_retV ve_bl)) ss_nil)
      (ss_cons (se_if (PW.pt (tw_or (PW.pt (tw_and (te_cmp (op_eqD hr.units) sc_eq (ve_ix ix_seq sc_ix (ve_var 14) ve_int (fun _ _ => rfl)) ve_int (nomark _)) (tw_and1 (te_cmp (op_neD hr.units) sc_ne (ve_slP (ve_var 14) oe_none (oe_some ve_int)) (ve_tup (ae_cons (ve_un un_neg sc_neg ve_int) (ae_cons ve_int (ae_cons ve_int ae_nil)))) (nomark _))))) (tw_or (te_cmp op_gt sc_B2 (ve_b1 call_lenA sc_len (by rfl) B.len_ (by decide +kernel) (pa_cons (ve_ix ix_seq sc_ix (ve_var 14) ve_int (fun _ _ => rfl)) pa_nil)) ve_int (nomark _)) (tw_or1 (PW.pt (tw_and (te_cmp (op_neD hr.units) sc_ne (ve_ix ix_seq sc_ix (ve_var 14) ve_int (fun _ _ => rfl)) ve_int (nomark _)) (tw_and1 (te_cmp (op_eqD hr.units) sc_eq (ve_ix ix_seq sc_ix (ve_var 14) ve_int (fun _ _ => rfl)) (pe_toV (de_lst ae_nil)) (nomark _))))))))) (ss_one (se_retV ve_bl)) ss_nil)
      (ss_cons (se_if (te_cmp (op_neD hr.units) sc_ne (ve_t1 call_tuple_of sc_tuple (by rfl) B.tuple_ (by decide +kernel) (pa_cons (pe_toV (de_call takes0 c__law_part.ok rfl rfl (hr.mono (by decide)) (by rfl) c__law_part.g c__law_part.kp c__law_part.b (ae_cons (ve_ix ix_seq sc_ix (ve_var 14) ve_int (fun _ _ => rfl)) (ae_cons (ve_ix ix_seq sc_ix (ve_var 14) ve_int (fun _ _ => rfl)) (ae_cons (ve_ix ix_seq sc_ix (ve_var 14) ve_int (fun _ _ => rfl)) (ae_cons (ve_ix ix_seq sc_ix (ve_var 14) ve_int (fun _ _ => rfl)) ae_nil)))))) pa_nil)) (ve_var 13) (nomark _)) (ss_one (se_retV ve_bl)) ss_nil)
      (ss_cons (se_if (PW.pt (tw_and (te_cmp (op_neD hr.units) sc_ne (ve_ix ix_seq sc_ix (ve_var 14) ve_int (fun _ _ => rfl)) ve_int (nomark _)) (tw_and1 (PW.pt (tw_or (te_cmp op_gt sc_B2 (ve_b1 call_lenA sc_len (by rfl) B.len_ (by decide +kernel) (pa_cons (ve_ix ix_seq sc_ix (ve_var 14) ve_int (fun _ _ => rfl)) pa_nil)) ve_int (nomark _)) (tw_or (te_cmp op_lt sc_B2 (ve_ix ix_seq sc_ix (ve_var 14) ve_int (fun _ _ => rfl)) ve_int (nomark _)) (tw_or1 (te_cmp op_gt sc_B2 (ve_ix ix_seq sc_ix (ve_var 14) ve_int (fun _ _ => rfl)) ve_int (nomark _))))))))) (ss_one (se_retV ve_bl)) ss_nil)
      (ss_one (se_if (PW.pt (tw_and (te_cmp (op_neD hr.units) sc_ne (ve_ix ix_seq sc_ix (ve_var 14) ve_int (fun _ _ => rfl)) ve_int (nomark _)) (tw_and1 (PW.pt (tw_or (te_cmp op_lt sc_B2 (ve_ix ix_seq sc_ix (ve_var 14) ve_int (fun _ _ => rfl)) ve_int (nomark _)) (tw_or1 (te_cmp op_gt sc_B2 (ve_ix ix_seq sc_ix (ve_var 14) ve_int (fun _ _ => rfl)) (ve_ix ix_seq sc_ix (ve_var 14) ve_int (fun _ _ => rfl)) (nomark _)))))))) (ss_one (se_retV ve_bl)) ss_nil)))))) ss_nil))))))))))))))))))
      (ss_one (se_retV ve_bl)))
end
theorem all_mk {l : PySem.W.OpenLaw} {w : World} {K : PySem.W.Frag} {h : Heap} {mg : Str → Option Value} {fa f1 f2 f3 f4 f5 f6 f7 f8 f9 f10 f11 f12 f13 f14 : Addr} (X : K.In h) (G : h.Ns mainGlobals mg) (hfa : mg "law" = some (.ref fa))
    {od1 an1 od2 an2 od3 an3 od4 an4 od5 an5 od6 an6 od7 an7 od8 an8 od9 an9 od10 an10 od11 an11 od12 an12 od13 an13 od14 an14 : Option Addr} {sl1 sl2 sl3 sl4 sl5 sl6 sl7 sl8 sl9 sl10 sl11 sl12 sl13 sl14 : Array (Option Value)} {oc1 kV1 dc1 pm1 cd1 ct1 oc2 kV2 dc2 pm2 cd2 ct2 oc3 kV3 dc3 pm3 cd3 ct3 oc4 kV4 dc4 pm4 cd4 ct4 oc5 kV5 dc5 pm5 cd5 ct5 oc6 kV6 dc6 pm6 cd6 ct6 oc7 kV7 dc7 pm7 cd7 ct7 oc8 kV8 dc8 pm8 cd8 ct8 oc9 kV9 dc9 pm9 cd9 ct9 oc10 kV10 dc10 pm10 cd10 ct10 oc11 kV11 dc11 pm11 cd11 ct11 oc12 kV12 dc12 pm12 cd12 ct12 oc13 kV13 dc13 pm13 cd13 ct13 oc14 kV14 dc14 pm14 cd14 ct14 : Value}  {C_BadBits : Addr} {C_BadText : Addr} {ct_MOST_ALONE : Tok} {ct_ALONE : Tok} {ct_NO_MARK : Tok} {A_JOINT : Addr} {it_JOINT : Array Value} {dd_JOINT : Option Addr} {sl_JOINT : Array (Option Value)} {nn_JOINT : Nat} {ct_SHARED : Tok} {ct_MOST_PARTS : Tok} {ct_MOST_MARK : Tok} {ct_HEAD : Tok} {ct_MOST_SHARED : Tok}
    (a1 : PySem.W.nsIn K mainGlobals "bits_number" = some (some (.ref f1)))
    (l1 : K.lookup f1 = some ⟨oc1, od1, .func (PySem.W.fnOf "bits_number" "bits_number" (defArgs s_bits_number) (defBody s_bits_number) (defScope s_bits_number) .none kV1 dc1 pm1 an1 cd1 ct1), sl1⟩)
    (c1 : PySem.W.codeIn K cd1 "bits_number" = true)
    (k1 : PySem.W.keepIn K (.ref f1) = true)
    (a2 : PySem.W.nsIn K mainGlobals "octet_bits" = some (some (.ref f2)))
    (l2 : K.lookup f2 = some ⟨oc2, od2, .func (PySem.W.fnOf "octet_bits" "octet_bits" (defArgs s_octet_bits) (defBody s_octet_bits) (defScope s_octet_bits) .none kV2 dc2 pm2 an2 cd2 ct2), sl2⟩)
    (c2 : PySem.W.codeIn K cd2 "octet_bits" = true)
    (k2 : PySem.W.keepIn K (.ref f2) = true)
    (a3 : PySem.W.nsIn K mainGlobals "bits_octets" = some (some (.ref f3)))
    (l3 : K.lookup f3 = some ⟨oc3, od3, .func (PySem.W.fnOf "bits_octets" "bits_octets" (defArgs s_bits_octets) (defBody s_bits_octets) (defScope s_bits_octets) .none kV3 dc3 pm3 an3 cd3 ct3), sl3⟩)
    (c3 : PySem.W.codeIn K cd3 "bits_octets" = true)
    (k3 : PySem.W.keepIn K (.ref f3) = true)
    (a4 : PySem.W.nsIn K mainGlobals "pack" = some (some (.ref f4)))
    (l4 : K.lookup f4 = some ⟨oc4, od4, .func (PySem.W.fnOf "pack" "pack" (defArgs s_pack) (defBody s_pack) (defScope s_pack) .none kV4 dc4 pm4 an4 cd4 ct4), sl4⟩)
    (c4 : PySem.W.codeIn K cd4 "pack" = true)
    (k4 : PySem.W.keepIn K (.ref f4) = true)
    (a5 : PySem.W.nsIn K mainGlobals "unpack" = some (some (.ref f5)))
    (l5 : K.lookup f5 = some ⟨oc5, od5, .func (PySem.W.fnOf "unpack" "unpack" (defArgs s_unpack) (defBody s_unpack) (defScope s_unpack) .none kV5 dc5 pm5 an5 cd5 ct5), sl5⟩)
    (c5 : PySem.W.codeIn K cd5 "unpack" = true)
    (k5 : PySem.W.keepIn K (.ref f5) = true)
    (a6 : PySem.W.nsIn K mainGlobals "_packed_septets" = some (some (.ref f6)))
    (l6 : K.lookup f6 = some ⟨oc6, od6, .func (PySem.W.fnOf "_packed_septets" "_packed_septets" (defArgs s__packed_septets) (defBody s__packed_septets) (defScope s__packed_septets) .none kV6 dc6 pm6 an6 cd6 ct6), sl6⟩)
    (c6 : PySem.W.codeIn K cd6 "_packed_septets" = true)
    (k6 : PySem.W.keepIn K (.ref f6) = true)
    (a7 : PySem.W.nsIn K mainGlobals "_alone_septets" = some (some (.ref f7)))
    (l7 : K.lookup f7 = some ⟨oc7, od7, .func (PySem.W.fnOf "_alone_septets" "_alone_septets" (defArgs s__alone_septets) (defBody s__alone_septets) (defScope s__alone_septets) .none kV7 dc7 pm7 an7 cd7 ct7), sl7⟩)
    (c7 : PySem.W.codeIn K cd7 "_alone_septets" = true)
    (k7 : PySem.W.keepIn K (.ref f7) = true)
    (a8 : PySem.W.nsIn K mainGlobals "read_part" = some (some (.ref f8)))
    (l8 : K.lookup f8 = some ⟨oc8, od8, .func (PySem.W.fnOf "read_part" "read_part" (defArgs s_read_part) (defBody s_read_part) (defScope s_read_part) .none kV8 dc8 pm8 an8 cd8 ct8), sl8⟩)
    (c8 : PySem.W.codeIn K cd8 "read_part" = true)
    (k8 : PySem.W.keepIn K (.ref f8) = true)
    (a9 : PySem.W.nsIn K mainGlobals "_law_mixed" = some (some (.ref f9)))
    (l9 : K.lookup f9 = some ⟨oc9, od9, .func (PySem.W.fnOf "_law_mixed" "_law_mixed" (defArgs s__law_mixed) (defBody s__law_mixed) (defScope s__law_mixed) .none kV9 dc9 pm9 an9 cd9 ct9), sl9⟩)
    (c9 : PySem.W.codeIn K cd9 "_law_mixed" = true)
    (k9 : PySem.W.keepIn K (.ref f9) = true)
    (a10 : PySem.W.nsIn K mainGlobals "_law_packed" = some (some (.ref f10)))
    (l10 : K.lookup f10 = some ⟨oc10, od10, .func (PySem.W.fnOf "_law_packed" "_law_packed" (defArgs s__law_packed) (defBody s__law_packed) (defScope s__law_packed) .none kV10 dc10 pm10 an10 cd10 ct10), sl10⟩)
    (c10 : PySem.W.codeIn K cd10 "_law_packed" = true)
    (k10 : PySem.W.keepIn K (.ref f10) = true)
    (a11 : PySem.W.nsIn K mainGlobals "_law_part" = some (some (.ref f11)))
    (l11 : K.lookup f11 = some ⟨oc11, od11, .func (PySem.W.fnOf "_law_part" "_law_part" (defArgs s__law_part) (defBody s__law_part) (defScope s__law_part) .none kV11 dc11 pm11 an11 cd11 ct11), sl11⟩)
    (c11 : PySem.W.codeIn K cd11 "_law_part" = true)
    (k11 : PySem.W.keepIn K (.ref f11) = true)
    (a12 : PySem.W.nsIn K mainGlobals "_law_spoilt" = some (some (.ref f12)))
    (l12 : K.lookup f12 = some ⟨oc12, od12, .func (PySem.W.fnOf "_law_spoilt" "_law_spoilt" (defArgs s__law_spoilt) (defBody s__law_spoilt) (defScope s__law_spoilt) .none kV12 dc12 pm12 an12 cd12 ct12), sl12⟩)
    (c12 : PySem.W.codeIn K cd12 "_law_spoilt" = true)
    (k12 : PySem.W.keepIn K (.ref f12) = true)
    (a13 : PySem.W.nsIn K mainGlobals "_law_read_right" = some (some (.ref f13)))
    (l13 : K.lookup f13 = some ⟨oc13, od13, .func (PySem.W.fnOf "_law_read_right" "_law_read_right" (defArgs s__law_read_right) (defBody s__law_read_right) (defScope s__law_read_right) .none kV13 dc13 pm13 an13 cd13 ct13), sl13⟩)
    (c13 : PySem.W.codeIn K cd13 "_law_read_right" = true)
    (k13 : PySem.W.keepIn K (.ref f13) = true)
    (a14 : PySem.W.nsIn K mainGlobals "law" = some (some (.ref f14)))
    (l14 : K.lookup f14 = some ⟨oc14, od14, .func (PySem.W.fnOf "law" "law" (defArgs s_law) (defBody s_law) (defScope s_law) .none kV14 dc14 pm14 an14 cd14 ct14), sl14⟩)
    (c14 : PySem.W.codeIn K cd14 "law" = true)
    (k14 : PySem.W.keepIn K (.ref f14) = true)
    (z0 : PySem.W.nsIn K mainGlobals "range" = some none)
    (z1 : PySem.W.nsIn K mainGlobals "len" = some none)
    (z2 : PySem.W.nsIn K mainGlobals "tuple" = some none)
    (z3 : PySem.W.nsIn K mainGlobals "int" = some none)
    (z4 : PySem.W.nsIn K mainGlobals "reversed" = some none)
    (z5 : PySem.W.nsIn K mainGlobals "enumerate" = some none)
    (z6 : PySem.W.nsIn K mainGlobals "isinstance" = some none)
    (z7 : PySem.W.nsIn K mainGlobals "list" = some none)
    (aC_BadBits : PySem.W.nsIn K mainGlobals "BadBits" = some (some (.ref C_BadBits)))
    (BadBits_xP : PySem.W.excIn K C_BadBits [.type "ValueError", .type "Exception", .type "BaseException", .type "object"] "ValueError.__new__" = true)
    (BadBits_kP : PySem.W.keepIn K (.ref C_BadBits) = true)
    (BadBits_bP : PySem.W.subIn K (.ref C_BadBits) (.type "BaseException") = some true)
    (BadBits_tP : PySem.W.typeIn K (.ref C_BadBits) = some (.type "type"))
    (aC_BadText : PySem.W.nsIn K mainGlobals "BadText" = some (some (.ref C_BadText)))
    (BadText_xP : PySem.W.excIn K C_BadText [.type "ValueError", .type "Exception", .type "BaseException", .type "object"] "ValueError.__new__" = true)
    (BadText_kP : PySem.W.keepIn K (.ref C_BadText) = true)
    (BadText_bP : PySem.W.subIn K (.ref C_BadText) (.type "BaseException") = some true)
    (BadText_tP : PySem.W.typeIn K (.ref C_BadText) = some (.type "type"))
    (BadText_iP : PySem.W.isClsIn K C_BadText = true)
    (BadText_sP : PySem.W.subIn K (.ref C_BadText) (.ref C_BadText) = some true)
    (gc_MOST_ALONE : PySem.W.nsIn K mainGlobals "MOST_ALONE" = some (some (.int 160 ct_MOST_ALONE)))
    (gc_ALONE : PySem.W.nsIn K mainGlobals "ALONE" = some (some (.int 0 ct_ALONE)))
    (gc_NO_MARK : PySem.W.nsIn K mainGlobals "NO_MARK" = some (some (.int (-1) ct_NO_MARK)))
    (gc_JOINT : PySem.W.nsIn K mainGlobals "JOINT" = some (some (.ref A_JOINT)))
    (lc_JOINT : K.lookup A_JOINT = some ⟨.type "tuple", dd_JOINT, .seq it_JOINT nn_JOINT, sl_JOINT⟩)
    (vc_JOINT : Paired RelV ([5, 0, 3].map V.int) it_JOINT.toList)
    (zc_JOINT : it_JOINT.size ≤ sizeLine)
    (gc_SHARED : PySem.W.nsIn K mainGlobals "SHARED" = some (some (.int 1 ct_SHARED)))
    (gc_MOST_PARTS : PySem.W.nsIn K mainGlobals "MOST_PARTS" = some (some (.int 4 ct_MOST_PARTS)))
    (gc_MOST_MARK : PySem.W.nsIn K mainGlobals "MOST_MARK" = some (some (.int 255 ct_MOST_MARK)))
    (gc_HEAD : PySem.W.nsIn K mainGlobals "HEAD" = some (some (.int 7 ct_HEAD)))
    (gc_MOST_SHARED : PySem.W.nsIn K mainGlobals "MOST_SHARED" = some (some (.int 153 ct_MOST_SHARED))) :
    ∃ fd : FuncData, (∀ (s : Shared) (v : Value), BindsTo s fd ⟨[v], []⟩ [("script", v)]) ∧ ∀ base : Heap, K.In base → base.Ns mainGlobals mg → FnOk l.prog w K mg base CX0 8 fa fd ["script"] (spLaw K) := by
  have e := hfa.symm.trans (PySem.W.mg_of X G a14)
  cases e
  have B : BI mg := ⟨PySem.W.mg_none_of X G z0, PySem.W.mg_none_of X G z1, PySem.W.mg_none_of X G z2, PySem.W.mg_none_of X G z3, PySem.W.mg_none_of X G z4, PySem.W.mg_none_of X G z5, PySem.W.mg_none_of X G z6, PySem.W.mg_none_of X G z7⟩
  let cl : Str → Addr := fun x => (([(("BadBits" : Str), C_BadBits), (("BadText" : Str), C_BadText)] : List (Str × Addr)).lookup x).getD 0
  have e_BadBits : cl "BadBits" = C_BadBits := by simp [cl, List.lookup, (show (Str.ofString "BadBits" == Str.ofString "BadBits") = true from by decide +kernel)]
  have e_BadText : cl "BadText" = C_BadText := by simp [cl, List.lookup, (show (Str.ofString "BadText" == Str.ofString "BadBits") = false from by decide +kernel), (show (Str.ofString "BadText" == Str.ofString "BadText") = true from by decide +kernel)]
  have X_BadBits : OwnErr K mg "BadBits" (cl "BadBits") := by rw [e_BadBits]; exact ⟨PySem.W.mg_of X G aC_BadBits, BadBits_xP, BadBits_kP, BadBits_bP, BadBits_tP⟩
  have X_BadText : OwnErr K mg "BadText" (cl "BadText") := by rw [e_BadText]; exact ⟨PySem.W.mg_of X G aC_BadText, BadText_xP, BadText_kP, BadText_bP, BadText_tP⟩
  have Tb_BadText : Clause K cl "BadText" tb_BadText := (clause_cons (by rw [e_BadText]; exact exm_self BadText_bP BadText_iP BadText_tP BadText_sP) clause_nil)
  have C : CI K mg A_JOINT := ⟨⟨_, PySem.W.mg_of X G gc_MOST_ALONE⟩, ⟨_, PySem.W.mg_of X G gc_ALONE⟩, ⟨_, PySem.W.mg_of X G gc_NO_MARK⟩, PySem.W.mg_of X G gc_JOINT, fun _ => .inr ⟨_, _, _, lc_JOINT, rfl, rfl, zc_JOINT, vc_JOINT⟩, fun _ => dpa_iL _, ⟨_, PySem.W.mg_of X G gc_SHARED⟩, ⟨_, PySem.W.mg_of X G gc_MOST_PARTS⟩, ⟨_, PySem.W.mg_of X G gc_MOST_MARK⟩, ⟨_, PySem.W.mg_of X G gc_HEAD⟩, ⟨_, PySem.W.mg_of X G gc_MOST_SHARED⟩⟩
  skip
  refine ⟨PySem.W.fnOf "law" "law" (defArgs s_law) (defBody s_law) (defScope s_law) .none kV14 dc14 pm14 an14 cd14 ct14, fun s v => .of_eq rfl, fun base _ _ => ?_⟩
  have F1 := fun_mk (st := s_bits_number) l1 c1 k1
  have C1 : Cal l.prog w K mg base (L2.CX l.prog w) 1 "bits_number" f1 _ ["bits"] (spD K cl ["bits"].length f_bits_number) := ⟨ok_bits_number F1 B   , F1.binds (ps := ["bits"]) fun _ _ _ _ _ _ us hl => match us, hl with | [_], _ => rfl, PySem.W.mg_of X G a1, k1⟩
  have F2 := fun_mk (st := s_octet_bits) l2 c2 k2
  have C2 : Cal l.prog w K mg base (L2.CX l.prog w) 1 "octet_bits" f2 _ ["octets"] (spD K cl ["octets"].length f_octet_bits) := ⟨ok_octet_bits F2 B   , F2.binds (ps := ["octets"]) fun _ _ _ _ _ _ us hl => match us, hl with | [_], _ => rfl, PySem.W.mg_of X G a2, k2⟩
  have F3 := fun_mk (st := s_bits_octets) l3 c3 k3
  have C3 : Cal l.prog w K mg base (L2.CX l.prog w) 2 "bits_octets" f3 _ ["bits"] (spD K cl ["bits"].length f_bits_octets) := ⟨ok_bits_octets F3 B X_BadBits  C1, F3.binds (ps := ["bits"]) fun _ _ _ _ _ _ us hl => match us, hl with | [_], _ => rfl, PySem.W.mg_of X G a3, k3⟩
  have F4 := fun_mk (st := s_pack) l4 c4 k4
  have C4 : Cal l.prog w K mg base (L2.CX l.prog w) 3 "pack" f4 _ ["row", "start"] (spD K cl ["row", "start"].length f_pack) := ⟨ok_pack F4 B   C3, F4.binds (ps := ["row", "start"]) fun _ _ _ _ _ _ us hl => match us, hl with | [_, _], _ => rfl, PySem.W.mg_of X G a4, k4⟩
  have F5 := fun_mk (st := s_unpack) l5 c5 k5
  have C5 : Cal l.prog w K mg base (L2.CX l.prog w) 2 "unpack" f5 _ ["octets", "start", "count"] (spD K cl ["octets", "start", "count"].length f_unpack) := ⟨ok_unpack F5 B X_BadText  C2 C1, F5.binds (ps := ["octets", "start", "count"]) fun _ _ _ _ _ _ us hl => match us, hl with | [_, _, _], _ => rfl, PySem.W.mg_of X G a5, k5⟩
  have F6 := fun_mk (st := s__packed_septets) l6 c6 k6
  have C6 : Cal l.prog w K mg base (L2.CX l.prog w) 4 "_packed_septets" f6 _ ["octets", "start", "count"] (spD K cl ["octets", "start", "count"].length f__packed_septets) := ⟨ok__packed_septets F6 B X_BadText  C5 C4, F6.binds (ps := ["octets", "start", "count"]) fun _ _ _ _ _ _ us hl => match us, hl with | [_, _, _], _ => rfl, PySem.W.mg_of X G a6, k6⟩
  have F7 := fun_mk (st := s__alone_septets) l7 c7 k7
  have C7 : Cal l.prog w K mg base (L2.CX l.prog w) 5 "_alone_septets" f7 _ ["octets"] (spD K cl ["octets"].length f__alone_septets) := ⟨ok__alone_septets F7 B C X_BadText  C6, F7.binds (ps := ["octets"]) fun _ _ _ _ _ _ us hl => match us, hl with | [_], _ => rfl, PySem.W.mg_of X G a7, k7⟩
  have F8 := fun_mk (st := s_read_part) l8 c8 k8
  have C8 : Cal l.prog w K mg base (L2.CX l.prog w) 6 "read_part" f8 _ ["octets"] (spD K cl ["octets"].length f_read_part) := ⟨ok_read_part F8 B C X_BadText  C7 C6, F8.binds (ps := ["octets"]) fun _ _ _ _ _ _ us hl => match us, hl with | [_], _ => rfl, PySem.W.mg_of X G a8, k8⟩
  have F9 := fun_mk (st := s__law_mixed) l9 c9 k9
  have C9 : Cal l.prog w K mg base (L2.CX l.prog w) 1 "_law_mixed" f9 _ ["cell", "turn"] (spD K cl ["cell", "turn"].length f__law_mixed) := ⟨ok__law_mixed F9 B   , F9.binds (ps := ["cell", "turn"]) fun _ _ _ _ _ _ us hl => match us, hl with | [_, _], _ => rfl, PySem.W.mg_of X G a9, k9⟩
  have F10 := fun_mk (st := s__law_packed) l10 c10 k10
  have C10 : Cal l.prog w K mg base (L2.CX l.prog w) 1 "_law_packed" f10 _ ["row", "start"] (spD K cl ["row", "start"].length f__law_packed) := ⟨ok__law_packed F10 B   , F10.binds (ps := ["row", "start"]) fun _ _ _ _ _ _ us hl => match us, hl with | [_, _], _ => rfl, PySem.W.mg_of X G a10, k10⟩
  have F11 := fun_mk (st := s__law_part) l11 c11 k11
  have C11 : Cal l.prog w K mg base (L2.CX l.prog w) 2 "_law_part" f11 _ ["mark", "many", "number", "row"] (spD K cl ["mark", "many", "number", "row"].length f__law_part) := ⟨ok__law_part F11 B   C10, F11.binds (ps := ["mark", "many", "number", "row"]) fun _ _ _ _ _ _ us hl => match us, hl with | [_, _, _, _], _ => rfl, PySem.W.mg_of X G a11, k11⟩
  have F12 := fun_mk (st := s__law_spoilt) l12 c12 k12
  have C12 : Cal l.prog w K mg base (L2.CX l.prog w) 1 "_law_spoilt" f12 _ ["row", "value"] (spD K cl ["row", "value"].length f__law_spoilt) := ⟨ok__law_spoilt F12 B   , F12.binds (ps := ["row", "value"]) fun _ _ _ _ _ _ us hl => match us, hl with | [_, _], _ => rfl, PySem.W.mg_of X G a12, k12⟩
  have F13 := fun_mk (st := s__law_read_right) l13 c13 k13
  have C13 : Cal l.prog w K mg base (L2.CX l.prog w) 7 "_law_read_right" f13 _ ["part", "mark", "many", "number", "row"] (spD K cl ["part", "mark", "many", "number", "row"].length f__law_read_right) := ⟨ok__law_read_right F13 B X_BadText Tb_BadText C8, F13.binds (ps := ["part", "mark", "many", "number", "row"]) fun _ _ _ _ _ _ us hl => match us, hl with | [_, _, _, _, _], _ => rfl, PySem.W.mg_of X G a13, k13⟩
  have F14 := fun_mk (st := s_law) l14 c14 k14
  exact law_imp (cl := cl) rfl (ok_law F14 B X_BadText Tb_BadText C9 C11 C13 C12 C8) law_main
end Lw
open PySem PySem.W PyProof.Rows
set_option pp.maxSteps 300 in
set_option maxHeartbeats 0 in
theorem PySem.Challenge.cw_mobileair_k29_parts_refused_holds : PySem.Challenge.rw_mobileair_k29_parts_refused.Holds := by
  w_on; o_law; k_head; (case hw => w_witness2)
  k_fill
  refine L2.walk_of (l := PySem.Challenge.rw_mobileair_k29_parts_refused) (n := 63) (k := 8) (x := "script") (CX := fun _ => L2.CX0) (sp := fun w => Dn.spLaw _) rfl (by decide) rfl ⟨rfl, by decide, by decide⟩ (fun w h Y => PySem.W.kIn_of Y) ?F (fun _ _ a ns hl _ hS => ⟨a, ns, rfl, hS, hl, fun _ => rfl⟩) (fun _ _ _ _ _ h => h)
  case F =>
    intro w mg fa h KX G hmg
    refine' Lw.all_mk KX G hmg ?a1 ?l1 ?c1 ?k1 ?a2 ?l2 ?c2 ?k2 ?a3 ?l3 ?c3 ?k3 ?a4 ?l4 ?c4 ?k4 ?a5 ?l5 ?c5 ?k5 ?a6 ?l6 ?c6 ?k6 ?a7 ?l7 ?c7 ?k7 ?a8 ?l8 ?c8 ?k8 ?a9 ?l9 ?c9 ?k9 ?a10 ?l10 ?c10 ?k10 ?a11 ?l11 ?c11 ?k11 ?a12 ?l12 ?c12 ?k12 ?a13 ?l13 ?c13 ?k13 ?a14 ?l14 ?c14 ?k14 ?z0 ?z1 ?z2 ?z3 ?z4 ?z5 ?z6 ?z7 ?aC_BadBits ?BadBits_xP ?BadBits_kP ?BadBits_bP ?BadBits_tP ?aC_BadText ?BadText_xP ?BadText_kP ?BadText_bP ?BadText_tP ?BadText_iP ?BadText_sP ?gc_MOST_ALONE ?gc_ALONE ?gc_NO_MARK ?gc_JOINT ?lc_JOINT ?vc_JOINT ?zc_JOINT ?gc_SHARED ?gc_MOST_PARTS ?gc_MOST_MARK ?gc_HEAD ?gc_MOST_SHARED
    (case a1 => k_is); (case l1 => k_is); (case c1 => k_is); (case k1 => k_is); (case a2 => k_is); (case l2 => k_is); (case c2 => k_is); (case k2 => k_is); (case a3 => k_is); (case l3 => k_is); (case c3 => k_is); (case k3 => k_is); (case a4 => k_is); (case l4 => k_is); (case c4 => k_is); (case k4 => k_is); (case a5 => k_is); (case l5 => k_is); (case c5 => k_is); (case k5 => k_is); (case a6 => k_is); (case l6 => k_is); (case c6 => k_is); (case k6 => k_is); (case a7 => k_is); (case l7 => k_is); (case c7 => k_is); (case k7 => k_is); (case a8 => k_is); (case l8 => k_is); (case c8 => k_is); (case k8 => k_is); (case a9 => k_is); (case l9 => k_is); (case c9 => k_is); (case k9 => k_is); (case a10 => k_is); (case l10 => k_is); (case c10 => k_is); (case k10 => k_is); (case a11 => k_is); (case l11 => k_is); (case c11 => k_is); (case k11 => k_is); (case a12 => k_is); (case l12 => k_is); (case c12 => k_is); (case k12 => k_is); (case a13 => k_is); (case l13 => k_is); (case c13 => k_is); (case k13 => k_is); (case a14 => k_is); (case l14 => k_is); (case c14 => k_is); (case k14 => k_is); (case z0 => k_is); (case z1 => k_is); (case z2 => k_is); (case z3 => k_is); (case z4 => k_is); (case z5 => k_is); (case z6 => k_is); (case z7 => k_is); (case aC_BadBits => k_is); (case BadBits_xP => first | k_exc | k_is); (case BadBits_kP => k_is); (case BadBits_bP => k_is); (case BadBits_tP => k_is); (case aC_BadText => k_is); (case BadText_xP => first | k_exc | k_is); (case BadText_kP => k_is); (case BadText_bP => k_is); (case BadText_tP => k_is); (case BadText_iP => k_is); (case BadText_sP => first | rfl | k_is); (case gc_MOST_ALONE => k_is); (case gc_ALONE => k_is); (case gc_NO_MARK => k_is); (case gc_JOINT => k_is); (case lc_JOINT => k_is); (case vc_JOINT => (repeat (first | exact .nil | refine .cons ⟨_, rfl⟩ ?_))); (case zc_JOINT => decide +kernel); (case gc_SHARED => k_is); (case gc_MOST_PARTS => k_is); (case gc_MOST_MARK => k_is); (case gc_HEAD => k_is); (case gc_MOST_SHARED => k_is)
