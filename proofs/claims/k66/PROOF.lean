import PyProof.Rows.All
import Wide.All
import OpenK.AllK
import Wide.FinOn
import HandS.ForMost
import HandS.Evl
import HandS.IsInst
import HandS.Wide
import HandS.TupAny
import HandS.Exc
import KE.LtData
import HandS.Defaults
import HandS.Style
import HandS.SortInts
import PyProof.ReprLen
import HandS.Dict
import HandS.SetKeys
import HandS.WordsDict
import HandS.Conv
import HandS.Small
import KE.SortData
import HandS.Iter
import HandS.ExcInit
import HandS.ExcValue
import HandS.TryOnly
import HandS.ExcOwn
import HandS.ExcField
import KE.KExcSuper
import KE.KExcIs
import KE.DataEq
import HandS.TupSets
import KE.KDictCopyH
import KE.DataMinMax
import KE.DataCmp
import HandS.SetBool
import HandS.Strs
import KE.KDictSum
import PyProof.LongRange
import PyProof.ListRange
import KE.KTupSum
import PySem.Challenge.RW_latewood_k66_whole_bounds_for_all
set_option Elab.async false
set_option linter.all false
set_option maxRecDepth 100000
set_option maxHeartbeats 4000000
/-! A layer without heaps over HandS: what a name, an item holds is a datum, or an object of one's own that may change. -/
namespace DL
open PySem PySem.Spec PyProof.Rows L2
open Evl (Ex)
abbrev Dt := PyData
/-- the script; an exception that was made; what stood still at a def's entry -/
inductive Fx where
  | scr (K : PySem.W.Frag) (xs : List Int)
  | exc (C : Addr) (fs : List (Str × Dt))
  | base (H0 : Hp)
/-- what a slot or an item holds -/
inductive Sl where
  | dat (d : Dt)
  | own (a : Addr)
  | raw (v : V)
  | fix (x : Fx)
abbrev Sl.scr (K : PySem.W.Frag) (xs : List Int) : Sl := .fix (.scr K xs)
abbrev Sl.exc (C : Addr) (fs : List (Str × Dt)) : Sl := .fix (.exc C fs)
abbrev Sl.base (H0 : Hp) : Sl := .fix (.base H0)
/-- an object of ours that may change (a tuple of what may change, too) -/
inductive MO where
  | lst (xs : List Sl)
  | dct (kvs : List (Key × Sl))
  | tup (xs : List Sl)
  | raw (o : HO)
  | ins (C : Addr) (N : List Str) (vs : List Sl)
abbrev Mem := Addr → Option MO
def put (M : Mem) (a : Addr) (o : MO) : Mem := fun b => if b = a then some o else M b
def del (M : Mem) (a : Addr) : Mem := fun b => if b = a then none else M b
theorem put_at {M : Mem} {a : Addr} {o : MO} : put M a o a = some o := by unfold put; rw [if_pos rfl]
theorem put_ne {M : Mem} {a b : Addr} {o : MO} (h : b ≠ a) : put M a o b = M b := by unfold put; rw [if_neg h]
theorem del_at {M : Mem} {a : Addr} : del M a a = none := by unfold del; rw [if_pos rfl]
theorem del_ne {M : Mem} {a b : Addr} (h : b ≠ a) : del M a b = M b := by unfold del; rw [if_neg h]
theorem put_put {M : Mem} {a : Addr} {o u : MO} : put (put M a o) a u = put M a u := by
  funext b; unfold put; split <;> rfl
theorem del_put {M : Mem} {a : Addr} {o : MO} (h : M a = none) : del (put M a o) a = M := by
  funext b
  by_cases e : b = a
  · rw [e, del_at, h]
  · rw [del_ne e, put_ne e]
theorem ne_mem {M : Mem} {a b : Addr} {o : MO} (h : M a = some o) (h' : M b = none) : a ≠ b := by
  intro e; subst e; rw [h] at h'; cases h'
abbrev Fm := List (Option Sl)
mutual
/-- v is the datum d: all its lists and tuples are tracked -/
inductive Dq (H : Hp) : V → PyData → Prop
  | non : Dq H .non .none
  | bl (b : Bool) : Dq H (.bl b) (.bool b)
  | int (i : Int) : Dq H (.int i) (.int i)
  | str (x : Str) : Dq H (.str x) (.str x)
  | lst {a : Addr} {xs : List V} {ds : List PyData} : H a = some (.lst xs) → DqAll H xs ds → Dq H (.ref a) (.list ds)
  | tup {a : Addr} {xs : List V} {ds : List PyData} : H a = some (.tup xs) → DqAll H xs ds → Dq H (.ref a) (.tuple ds)
inductive DqAll (H : Hp) : List V → List PyData → Prop
  | nil : DqAll H [] []
  | cons {v : V} {vs : List V} {d : PyData} {ds : List PyData} : Dq H v d → DqAll H vs ds → DqAll H (v :: vs) (d :: ds)
end
/-- at a: an exception that was made, of the class at C, its own dict -/
def Kx (a C : Addr) (d : Option Addr) (h : Heap) : Prop := ∃ (oe : Obj) (vs : Array Value), h.get? a = some oe ∧ Zc (.ref C) d oe ∧ oe.data = .fields vs
def exk (a C : Addr) (d : Option Addr) : HO := .ext (Kx a C d)
/-- its fields -/
def FsAt (H : Hp) (d : Option Addr) (fs : List (Str × Dt)) : Prop := match d with
  | none => fs = []
  | some dd => ∃ ws : List (Str × V), H dd = some (.xd ws) ∧ Paired (fun (p : Str × Dt) (q : Str × V) => p.1 = q.1 ∧ Dq H q.2 p.2) fs ws
section
def RpF (H : Hp) (v : V) : Fx → Prop
  | .scr K xs => ∃ a, v = .ref a ∧ SqL K H a (xs.map .int)
  | .exc C fs => ∃ a d φ, v = .ref a ∧ H a = some (.ext φ) ∧ (∀ h, φ h → Kx a C d h) ∧ FsAt H d fs
  | .base _ => False
/-- v is what s says, in the heap H of what stands still -/
def Rp (H : Hp) : Sl → V → Prop
  | .dat d, v => Dq H v d
  | .own a, v => v = .ref a
  | .raw u, v => v = u
  | .fix x, v => RpF H v x
abbrev Rps (H : Hp) : List Sl → List V → Prop := Paired (Rp H)
def RpO (H : Hp) (Hc : Option HO) : MO → Prop
  | .lst xs => xs.length ≤ sizeLine ∧ ∃ vs, Hc = some (.lst vs) ∧ Rps H xs vs
  | .dct kvs => ∃ ws, Hc = some (.dK ws) ∧ Paired (fun (p : Key × Sl) (q : Key × V) => p.1 = q.1 ∧ Rp H p.2 q.2) kvs ws
  | .tup xs => ∃ vs, Hc = some (.tup vs) ∧ Rps H xs vs
  | .raw o => Hc = some o
  | .ins C N ss => ss.length ≤ N.length ∧ ∃ dx vs, Hc = some (.ins C dx (N.zip vs)) ∧ Rps H ss vs
structure Own (H Hc : Hp) (M : Mem) : Prop where
  ex : Ex H Hc
  no : ∀ a o, M a = some o → H a = none
  ob : ∀ a o, M a = some o → RpO H (Hc a) o
structure Fr (H : Hp) (σ : L2.St) (Γ : Fm) : Prop where
  len : σ.length ≤ Γ.length
  sl : ∀ (i : Nat) (s : Sl), i < σ.length → Γ[i]? = some (some s) → ∃ v, σ[i]? = some (some v) ∧ Rp H s v
  gh : ∀ (i : Nat) (H0 : Hp), Γ[i]? = some (some (.base H0)) → Ex H0 H
end
section
variable {H H' Hc Hc' : Hp} {M M' : Mem} {s : Sl} {v : V} {a : Addr}
mutual
theorem dp_ex (e : Ex H H') : ∀ {d : Dt} {v : V}, Dq H v d → Dq H' v d
  | .none, _, h => by cases h; exact .non
  | .bool b, _, h => by cases h; exact .bl b
  | .int i, _, h => by cases h; exact .int i
  | .str x, _, h => by cases h; exact .str x
  | .list ds, _, h => by cases h with | lst hs ha => exact .lst (e _ _ hs) (dps_ex e ha)
  | .tuple ds, _, h => by cases h with | tup hs ha => exact .tup (e _ _ hs) (dps_ex e ha)
  | .dict _, _, h => by cases h
theorem dps_ex (e : Ex H H') : ∀ {ds : List Dt} {vs : List V}, DqAll H vs ds → DqAll H' vs ds
  | [], _, h => by cases h; exact .nil
  | d :: ds, _, h => by cases h with | cons h1 h2 => exact .cons (dp_ex e h1) (dps_ex e h2)
end
mutual
theorem dq_dp {K : PySem.W.Frag} : ∀ {d : Dt} {v : V}, Dq H v d → Dp K H v d
  | .none, _, h => by cases h; exact .non
  | .bool b, _, h => by cases h; exact .bl b
  | .int i, _, h => by cases h; exact .int i
  | .str x, _, h => by cases h; exact .str x
  | .list ds, _, h => by cases h with | lst hs ha => exact .lst (SqL.of hs) (dqs_dps ha)
  | .tuple ds, _, h => by cases h with | tup hs ha => exact .tup (SqT.of hs) (dqs_dps ha)
  | .dict _, _, h => by cases h
theorem dqs_dps {K : PySem.W.Frag} : ∀ {ds : List Dt} {vs : List V}, DqAll H vs ds → DpAll K H vs ds
  | [], _, h => by cases h; exact .nil
  | d :: ds, _, h => by cases h with | cons h1 h2 => exact .cons (dq_dp h1) (dqs_dps h2)
end
theorem fs_ex {d : Option Addr} {fs : List (Str × Dt)} (e : Ex H H') (h : FsAt H d fs) : FsAt H' d fs := by
  cases d with
  | none => exact h
  | some dd => obtain ⟨ws, h1, h2⟩ := h; exact ⟨ws, e _ _ h1, Paired.mapP h2 fun p q r => ⟨r.1, dp_ex e r.2⟩⟩
theorem rp_ex (e : Ex H H') (h : Rp H s v) : Rp H' s v := by
  cases s with
  | dat d => exact dp_ex e h
  | own a => exact h
  | raw u => exact h
  | fix x => cases x with
    | scr K xs => obtain ⟨a, h1, h2⟩ := h; exact ⟨a, h1, Evl.ex_l e h2⟩
    | exc C fs => obtain ⟨a, d, φ, h1, h2, h3, h4⟩ := h; exact ⟨a, d, φ, h1, e _ _ h2, h3, fs_ex e h4⟩
    | base H0 => exact h.elim
theorem rps_ex (e : Ex H H') : ∀ {ss : List Sl} {vs : List V}, Rps H ss vs → Rps H' ss vs
  | [], _, .nil => .nil
  | _ :: _, _, .cons r t => .cons (rp_ex e r) (rps_ex e t)
theorem rpo_ex {c : Option HO} {o : MO} (e : Ex H H') (h : RpO H c o) : RpO H' c o := by
  cases o with
  | lst xs => obtain ⟨z, vs, h1, h2⟩ := h; exact ⟨z, vs, h1, rps_ex e h2⟩
  | dct kvs => obtain ⟨ws, h1, h2⟩ := h; exact ⟨ws, h1, Paired.mapP h2 fun p q r => ⟨r.1, rp_ex e r.2⟩⟩
  | tup xs => obtain ⟨vs, h1, h2⟩ := h; exact ⟨vs, h1, rps_ex e h2⟩
  | raw o => exact h
  | ins C N ss => obtain ⟨hl, dx, vs, h1, h2⟩ := h; exact ⟨hl, dx, vs, h1, rps_ex e h2⟩
theorem Fr.ex {σ : L2.St} {Γ : Fm} (e : Ex H H') (F : Fr H σ Γ) : Fr H' σ Γ :=
  ⟨F.len, fun i s hi h => by obtain ⟨v, h1, h2⟩ := F.sl i s hi h; exact ⟨v, h1, rp_ex e h2⟩, fun i H0 h => (F.gh i H0 h).trans e⟩
theorem Fr.set {σ : L2.St} {Γ : Fm} (F : Fr H σ Γ) {i : Nat} (r : Rp H s v) : Fr H (σ.set i (some v)) (Γ.set i (some s)) := by
  refine ⟨by rw [List.length_set, List.length_set]; exact F.len, fun j t hj h => ?_, fun j H0 h => ?_⟩
  · rw [List.length_set] at hj
    by_cases e : i = j
    · subst e
      rw [List.getElem?_set_self (Nat.lt_of_lt_of_le hj F.len)] at h
      cases h
      exact ⟨v, List.getElem?_set_self hj, r⟩
    · rw [List.getElem?_set_ne e] at h ⊢
      exact F.sl j t hj h
  · by_cases e : i = j
    · subst e
      by_cases hl : i < Γ.length
      · rw [List.getElem?_set_self hl] at h
        cases h
        exact r.elim
      · rw [List.getElem?_eq_none (by rw [List.length_set]; omega)] at h
        cases h
    · rw [List.getElem?_set_ne e] at h
      exact F.gh j H0 h
/-- forgetting -/
theorem Fr.weak {σ : L2.St} {Γ Γ' : Fm} (F : Fr H σ Γ) (hl : Γ'.length = Γ.length) (h : ∀ (i : Nat) s, Γ'[i]? = some (some s) → Γ[i]? = some (some s)) : Fr H σ Γ' :=
  ⟨by rw [hl]; exact F.len, fun i s hi e => F.sl i s hi (h i s e), fun i H0 e => F.gh i H0 (h i _ e)⟩
/-! ### the heaps grow -/
theorem Own.grow {p : Addr} {o : HO} (O : Own H Hc M) (h : Hc p = none) : Own (upd H p o) (upd Hc p o) M ∧ Ex H (upd H p o) := by
  have h0 : H p = none := Evl.fresh_back O.ex h
  have e0 : Ex H (upd H p o) := Evl.Ex.new h0
  refine ⟨⟨fun b u e => ?_, fun b u e => ?_, fun b u e => ?_⟩, e0⟩
  · by_cases hb : b = p
    · subst hb; rw [upd_same] at e ⊢; exact e
    · rw [upd_ne hb] at e ⊢; exact O.ex b u e
  · have hb : b ≠ p := by
      rintro rfl
      have := O.ob b u e
      cases u with
      | lst xs => obtain ⟨_, vs, q, _⟩ := this; rw [h] at q; cases q
      | dct kvs => obtain ⟨ws, q, _⟩ := this; rw [h] at q; cases q
      | tup xs => obtain ⟨vs, q, _⟩ := this; rw [h] at q; cases q
      | raw o => have q := this; dsimp only [RpO] at q; rw [h] at q; cases q
      | ins C N ss => obtain ⟨_, dx, vs, q, _⟩ := this; rw [h] at q; cases q
    rw [upd_ne hb]; exact O.no b u e
  · have hb : b ≠ p := by
      rintro rfl
      have := O.ob b u e
      cases u with
      | lst xs => obtain ⟨_, vs, q, _⟩ := this; rw [h] at q; cases q
      | dct kvs => obtain ⟨ws, q, _⟩ := this; rw [h] at q; cases q
      | tup xs => obtain ⟨vs, q, _⟩ := this; rw [h] at q; cases q
      | raw o => have q := this; dsimp only [RpO] at q; rw [h] at q; cases q
      | ins C N ss => obtain ⟨_, dx, vs, q, _⟩ := this; rw [h] at q; cases q
    rw [upd_ne hb]; exact rpo_ex e0 (O.ob b u e)
theorem Own.freeM {p : Addr} (O : Own H Hc M) (h : Hc p = none) : M p = none := by
  cases e : M p with
  | none => rfl
  | some u =>
    have := O.ob p u e
    cases u with
    | lst xs => obtain ⟨_, vs, q, _⟩ := this; rw [h] at q; cases q
    | dct kvs => obtain ⟨ws, q, _⟩ := this; rw [h] at q; cases q
    | tup xs => obtain ⟨vs, q, _⟩ := this; rw [h] at q; cases q
    | raw o => have q := this; dsimp only [RpO] at q; rw [h] at q; cases q
    | ins C N ss => obtain ⟨_, dx, vs, q, _⟩ := this; rw [h] at q; cases q
/-- what nobody speaks of any more -/
theorem Own.waste {p : Addr} {o : HO} (O : Own H Hc M) (h : Hc p = none) : Own H (upd Hc p o) M := by
  have h0 : H p = none := Evl.fresh_back O.ex h
  have hm := O.freeM h
  refine ⟨fun b u e => ?_, O.no, fun b u e => ?_⟩
  · rw [upd_ne (ne_of_none e h0)]; exact O.ex b u e
  · rw [upd_ne (ne_mem e hm)]; exact O.ob b u e
/-- a new object of ours -/
theorem Own.born {p : Addr} {o : HO} {u : MO} (O : Own H Hc M) (h : Hc p = none) (r : RpO H (some o) u) : Own H (upd Hc p o) (put M p u) := by
  have h0 : H p = none := Evl.fresh_back O.ex h
  refine ⟨fun b x e => ?_, fun b x e => ?_, fun b x e => ?_⟩
  · rw [upd_ne (ne_of_none e h0)]; exact O.ex b x e
  · by_cases hb : b = p
    · subst hb; exact h0
    · rw [put_ne hb] at e; exact O.no b x e
  · by_cases hb : b = p
    · subst hb; rw [put_at] at e; cases e; rw [upd_same]; exact r
    · rw [put_ne hb] at e; rw [upd_ne hb]; exact O.ob b x e
/-- an object of ours changes -/
theorem Own.turn {p : Addr} {o : HO} {u u0 : MO} (O : Own H Hc M) (h : M p = some u0) (r : RpO H (some o) u) : Own H (upd Hc p o) (put M p u) := by
  have h0 : H p = none := O.no p u0 h
  refine ⟨fun b x e => ?_, fun b x e => ?_, fun b x e => ?_⟩
  · rw [upd_ne (ne_of_none e h0)]; exact O.ex b x e
  · by_cases hb : b = p
    · subst hb; exact h0
    · rw [put_ne hb] at e; exact O.no b x e
  · by_cases hb : b = p
    · subst hb; rw [put_at] at e; cases e; rw [upd_same]; exact r
    · rw [put_ne hb] at e; rw [upd_ne hb]; exact O.ob b x e
theorem rps_dat : ∀ {ds : List Dt} {vs : List V}, Rps H (ds.map .dat) vs → DqAll H vs ds
  | [], _, .nil => .nil
  | d :: ds, _, .cons r t => .cons r (rps_dat t)
theorem dat_rps : ∀ {ds : List Dt} {vs : List V}, DqAll H vs ds → Rps H (ds.map .dat) vs
  | [], _, .nil => .nil
  | d :: ds, _, .cons r t => .cons r (dat_rps t)
theorem dps_len : ∀ {ds : List Dt} {vs : List V}, DqAll H vs ds → vs.length = ds.length
  | [], _, .nil => rfl
  | d :: ds, _, .cons r t => congrArg (· + 1) (dps_len t)
/-- a list of ours is given away: it stands still from now on -/
theorem Own.freeze {p : Addr} {ds : List Dt} (O : Own H Hc M) (h : M p = some (.lst (ds.map .dat))) :
    ∃ H', Ex H H' ∧ Own H' Hc (del M p) ∧ Dq H' (.ref p) (.list ds) := by
  have h0 : H p = none := O.no p _ h
  obtain ⟨z, vs, h1, h2⟩ := O.ob p _ h
  have e0 : Ex H (upd H p (.lst vs)) := Evl.Ex.new h0
  refine ⟨upd H p (.lst vs), e0, ⟨fun b x e => ?_, fun b x e => ?_, fun b x e => ?_⟩, .lst upd_same (dps_ex e0 (rps_dat h2))⟩
  · by_cases hb : b = p
    · subst hb; rw [upd_same] at e; rw [h1]; exact e
    · rw [upd_ne hb] at e; exact O.ex b x e
  · by_cases hb : b = p
    · subst hb; rw [del_at] at e; cases e
    · rw [del_ne hb] at e; rw [upd_ne hb]; exact O.no b x e
  · by_cases hb : b = p
    · subst hb; rw [del_at] at e; cases e
    · rw [del_ne hb] at e; exact rpo_ex e0 (O.ob b x e)
/-- an object of ours that nobody speaks of any more -/
theorem Own.drop {p : Addr} (O : Own H Hc M) : Own H Hc (del M p) := by
  refine ⟨O.ex, fun b x e => ?_, fun b x e => ?_⟩
  · by_cases hb : b = p
    · subst hb; rw [del_at] at e; cases e
    · rw [del_ne hb] at e; exact O.no b x e
  · by_cases hb : b = p
    · subst hb; rw [del_at] at e; cases e
    · rw [del_ne hb] at e; exact O.ob b x e
end
/-! ### the judgements, by values of the heapless kind -/
abbrev DK := Sl → Mem → Prop
abbrev DE := Fm → Mem → DK → Prop
abbrev DB := Fm → Mem → (Bool → Mem → Prop) → Prop
abbrev DA := Fm → Mem → (List Sl → Mem → Prop) → Prop
structure DEnds where
  nx : Fm → Mem → Prop
  rt : DK
  bk : Fm → Mem → Prop := fun _ _ => False
  ct : Fm → Mem → Prop := fun _ _ => False
abbrev DS := DEnds → Fm → Mem → Prop
/-- the way on, asked of the heaps -/
def On (H : Hp) (k : DK) (Q : VK) : Prop := ∀ v s M' H' Hc', Ex H H' → Own H' Hc' M' → Rp H' s v → k s M' → Q v Hc'
def OnB (H : Hp) (k : Bool → Mem → Prop) (Q : Bool → Hp → Prop) : Prop := ∀ b M' H' Hc', Ex H H' → Own H' Hc' M' → k b M' → Q b Hc'
def OnA (H : Hp) (k : List Sl → Mem → Prop) (Q : List V → Hp → Prop) : Prop := ∀ vs ss M' H' Hc', Ex H H' → Own H' Hc' M' → Rps H' ss vs → k ss M' → Q vs Hc'
def OnF (H : Hp) (k : Fm → Mem → Prop) (Q : L2.St → Hp → Prop) : Prop := ∀ σ' Γ' M' H' Hc', Ex H H' → Fr H' σ' Γ' → Own H' Hc' M' → k Γ' M' → Q σ' Hc'
structure OnD (H : Hp) (D : DEnds) (E : Ends) : Prop where
  nx : OnF H D.nx E.nx
  rt : On H D.rt E.rt
  bk : OnF H D.bk E.bk
  ct : OnF H D.ct E.ct
def SimE (te : TE) (de : DE) : Prop := ∀ Γ M k σ H Hc Q, de Γ M k → Fr H σ Γ → Own H Hc M → On H k Q → te σ Hc Q
def SimB (te : TT) (de : DB) : Prop := ∀ Γ M k σ H Hc Q, de Γ M k → Fr H σ Γ → Own H Hc M → OnB H k Q → te σ Hc Q
def SimA (te : TA) (de : DA) : Prop := ∀ Γ M k σ H Hc Q, de Γ M k → Fr H σ Γ → Own H Hc M → OnA H k Q → te σ Hc Q
def SimS (ts : TS) (ds : DS) : Prop := ∀ Γ M D σ H Hc E, ds D Γ M → Fr H σ Γ → Own H Hc M → OnD H D E → ts E σ Hc
theorem On.ex {H H' : Hp} {k : DK} {Q : VK} (e : Ex H H') (h : On H k Q) : On H' k Q := fun v s M' H2 Hc' e2 => h v s M' H2 Hc' (e.trans e2)
theorem OnF.ex {H H' : Hp} {k : Fm → Mem → Prop} {Q : L2.St → Hp → Prop} (e : Ex H H') (h : OnF H k Q) : OnF H' k Q := fun v s M' H2 Hc' e2 => h v s M' H2 Hc' (e.trans e2)
theorem OnB.ex {H H' : Hp} {k : Bool → Mem → Prop} {Q : Bool → Hp → Prop} (e : Ex H H') (h : OnB H k Q) : OnB H' k Q := fun b M' H2 Hc' e2 => h b M' H2 Hc' (e.trans e2)
theorem OnA.ex {H H' : Hp} {k : List Sl → Mem → Prop} {Q : List V → Hp → Prop} (e : Ex H H') (h : OnA H k Q) : OnA H' k Q := fun v s M' H2 Hc' e2 => h v s M' H2 Hc' (e.trans e2)
theorem OnD.ex {H H' : Hp} {D : DEnds} {E : Ends} (e : Ex H H') (h : OnD H D E) : OnD H' D E := ⟨h.nx.ex e, h.rt.ex e, h.bk.ex e, h.ct.ex e⟩
/-- the heapless reading, as a reading of the layer -/
def LE (de : DE) : TE := fun σ Hc Q => ∃ Γ M H k, de Γ M k ∧ Fr H σ Γ ∧ Own H Hc M ∧ On H k Q
def LB (de : DB) : TT := fun σ Hc Q => ∃ Γ M H k, de Γ M k ∧ Fr H σ Γ ∧ Own H Hc M ∧ OnB H k Q
def LA (de : DA) : TA := fun σ Hc Q => ∃ Γ M H k, de Γ M k ∧ Fr H σ Γ ∧ Own H Hc M ∧ OnA H k Q
def LS (ds : DS) : TS := fun E σ Hc => ∃ Γ M H D, ds D Γ M ∧ Fr H σ Γ ∧ Own H Hc M ∧ OnD H D E
theorem simLE {de : DE} : SimE (LE de) de := fun Γ M k _ H _ _ h F O q => ⟨Γ, M, H, k, h, F, O, q⟩
theorem simLB {de : DB} : SimB (LB de) de := fun Γ M k _ H _ _ h F O q => ⟨Γ, M, H, k, h, F, O, q⟩
theorem simLA {de : DA} : SimA (LA de) de := fun Γ M k _ H _ _ h F O q => ⟨Γ, M, H, k, h, F, O, q⟩
theorem simLS {ds : DS} : SimS (LS ds) ds := fun Γ M D _ H _ _ h F O q => ⟨Γ, M, H, D, h, F, O, q⟩
abbrev XE (X : Cx) (e : Expr) (de : DE) : Prop := PE X e (LE de)
abbrev XB (X : Cx) (e : Expr) (de : DB) : Prop := PT X e (LB de)
abbrev XW (X : Cx) (e : Expr) (de : DB) : Prop := PW X e (LB de)
abbrev XA (X : Cx) (es : List Expr) (de : DA) : Prop := PA X es (LA de)
abbrev XS (X : Cx) (st : Stmt) (ds : DS) : Prop := PS X st (LS ds)
abbrev XSs (X : Cx) (st : List Stmt) (ds : DS) : Prop := PSs X st (LS ds)
section
variable {X : Cx}
theorem xe_of {e : Expr} {te : TE} {de : DE} (h : PE X e te) (s : SimE te de) : XE X e de :=
  ⟨fun pins st σ Hc Q I ⟨Γ, M, H, k, hd, F, O, q⟩ => h.run pins st σ Hc Q I (s Γ M k σ H Hc Q hd F O q)⟩
theorem xb_of {e : Expr} {te : TT} {de : DB} (h : PT X e te) (s : SimB te de) : XB X e de :=
  ⟨fun pins st σ Hc Q I ⟨Γ, M, H, k, hd, F, O, q⟩ => h.run pins st σ Hc Q I (s Γ M k σ H Hc Q hd F O q)⟩
theorem xw_of {e : Expr} {te : TT} {de : DB} (h : PW X e te) (s : SimB te de) : XW X e de :=
  ⟨fun wh pins st σ Hc Q I ⟨Γ, M, H, k, hd, F, O, q⟩ => h.run wh pins st σ Hc Q I (s Γ M k σ H Hc Q hd F O q)⟩
theorem xa_of {e : List Expr} {te : TA} {de : DA} (h : PA X e te) (s : SimA te de) : XA X e de :=
  ⟨fun pos pins st σ Hc Q I ⟨Γ, M, H, k, hd, F, O, q⟩ => h.run pos pins st σ Hc Q I (s Γ M k σ H Hc Q hd F O q)⟩
theorem xs_of {st : Stmt} {ts : TS} {ds : DS} (h : PS X st ts) (s : SimS ts ds) : XS X st ds :=
  ⟨fun pins sh σ Hc E I ⟨Γ, M, H, D, hd, F, O, q⟩ => h.run pins sh σ Hc E I (s Γ M D σ H Hc E hd F O q)⟩
theorem xss_of {st : List Stmt} {ts : TS} {ds : DS} (h : PSs X st ts) (s : SimS ts ds) : XSs X st ds :=
  ⟨fun pins sh σ Hc E I ⟨Γ, M, H, D, hd, F, O, q⟩ => h.run pins sh σ Hc E I (s Γ M D σ H Hc E hd F O q)⟩
end
theorem dp_int_inv {H : Hp} {v : V} {i : Int} (h : Dq H v (.int i)) : v = .int i := by cases h; rfl
theorem dp_bl_inv {H : Hp} {v : V} {i : Bool} (h : Dq H v (.bool i)) : v = .bl i := by cases h; rfl
theorem dp_str_inv {H : Hp} {v : V} {i : Str} (h : Dq H v (.str i)) : v = .str i := by cases h; rfl
theorem dp_non_inv {H : Hp} {v : V} (h : Dq H v .none) : v = .non := by cases h; rfl
theorem dp_lst_inv {H : Hp} {v : V} {ds : List Dt} (h : Dq H v (.list ds)) : ∃ a vs, v = .ref a ∧ H a = some (.lst vs) ∧ DqAll H vs ds := by cases h with | lst h1 h2 => exact ⟨_, _, rfl, h1, h2⟩
theorem dp_tup_inv {H : Hp} {v : V} {ds : List Dt} (h : Dq H v (.tuple ds)) : ∃ a vs, v = .ref a ∧ H a = some (.tup vs) ∧ DqAll H vs ds := by cases h with | tup h1 h2 => exact ⟨_, _, rfl, h1, h2⟩
end DL
namespace DL
open PySem PySem.Spec PyProof.Rows L2
open Evl (Ex)
/-- s is a list of these (a datum, or ours) -/
def IsL (M : Mem) (s : Sl) (xs : List Sl) : Prop := (∃ ds, s = .dat (.list ds) ∧ xs = ds.map .dat) ∨ ∃ a, s = .own a ∧ M a = some (.lst xs)
theorem IsL.dat {M : Mem} {ds : List Dt} : IsL M (.dat (.list ds)) (ds.map .dat) := .inl ⟨ds, rfl, rfl⟩
theorem IsL.own {M : Mem} {a : Addr} {xs : List Sl} (h : M a = some (.lst xs)) : IsL M (.own a) xs := .inr ⟨a, rfl, h⟩
theorem dqs_rps {H : Hp} : ∀ {ds : List Dt} {vs : List V}, DqAll H vs ds → Rps H (ds.map .dat) vs := dat_rps
theorem IsL.at_ {H Hc : Hp} {M : Mem} {s : Sl} {xs : List Sl} {x : V} (h : IsL M s xs) (O : Own H Hc M) (r : Rp H s x) : ∃ a vs, x = .ref a ∧ Hc a = some (.lst vs) ∧ Rps H xs vs := by
  rcases h with ⟨ds, rfl, rfl⟩ | ⟨a, rfl, h⟩
  · obtain ⟨a, vs, rfl, h1, h2⟩ := dq_lst r
    exact ⟨a, vs, rfl, O.ex _ _ h1, dat_rps h2⟩
  · cases r
    obtain ⟨_, vs, h1, h2⟩ := O.ob a _ h
    exact ⟨a, vs, rfl, h1, h2⟩
where dq_lst {H : Hp} {x : V} {ds : List Dt} (h : Rp H (.dat (.list ds)) x) : ∃ a vs, x = .ref a ∧ H a = some (.lst vs) ∧ DqAll H vs ds := dp_lst_inv h
theorem rps_len {H : Hp} : ∀ {ss : List Sl} {vs : List V}, Rps H ss vs → vs.length = ss.length
  | _, _, .nil => rfl
  | _, _, .cons _ t => congrArg (· + 1) (rps_len t)
theorem rps_get {H : Hp} : ∀ {ss : List Sl} {vs : List V} {i : Nat} {v : V}, Rps H ss vs → vs[i]? = some v → ∃ s, ss[i]? = some s ∧ Rp H s v
  | _, _, _, _, .nil, e => by simp at e
  | _, _, 0, _, .cons r _, e => by simp at e; subst e; exact ⟨_, rfl, r⟩
  | _, _, i + 1, x, .cons _ t, e => by
    obtain ⟨u, h1, h2⟩ := rps_get (i := i) (v := x) t (by simpa using e)
    exact ⟨u, by simpa using h1, h2⟩
theorem rps_get' {H : Hp} : ∀ {ss : List Sl} {vs : List V} {i : Nat} {s : Sl}, Rps H ss vs → ss[i]? = some s → ∃ v, vs[i]? = some v ∧ Rp H s v
  | _, _, _, _, .nil, e => by simp at e
  | _, _, 0, _, .cons r _, e => by simp at e; subst e; exact ⟨_, rfl, r⟩
  | _, _, i + 1, x, .cons _ t, e => by
    obtain ⟨u, h1, h2⟩ := rps_get' (i := i) (s := x) t (by simpa using e)
    exact ⟨u, by simpa using h1, h2⟩
theorem rps_app {H : Hp} : ∀ {ss ts : List Sl} {vs ws : List V}, Rps H ss vs → Rps H ts ws → Rps H (ss ++ ts) (vs ++ ws)
  | _, _, _, _, .nil, h => h
  | _, _, _, _, .cons r t, h => .cons r (rps_app t h)
theorem rps_take {H : Hp} : ∀ {ss : List Sl} {vs : List V} (n : Nat), Rps H ss vs → Rps H (ss.take n) (vs.take n)
  | _, _, 0, _ => .nil
  | _, _, _ + 1, .nil => .nil
  | _, _, n + 1, .cons r t => .cons r (rps_take n t)
theorem rps_drop {H : Hp} : ∀ {ss : List Sl} {vs : List V} (n : Nat), Rps H ss vs → Rps H (ss.drop n) (vs.drop n)
  | _, _, 0, h => h
  | _, _, _ + 1, .nil => .nil
  | _, _, n + 1, .cons _ t => rps_drop n t
theorem rps_set {H : Hp} {s : Sl} {v : V} (q : Rp H s v) : ∀ {ss : List Sl} {vs : List V} (n : Nat), Rps H ss vs → Rps H (ss.set n s) (vs.set n v)
  | _, _, _, .nil => .nil
  | _, _, 0, .cons r t => .cons q t
  | _, _, n + 1, .cons r t => .cons r (rps_set q n t)
theorem dqs_rev {H : Hp} : ∀ {ds : List Dt} {vs : List V}, DqAll H vs ds → ∀ {es : List Dt} {ws : List V}, DqAll H ws es → DqAll H (vs.reverseAux ws) (ds.reverseAux es)
  | [], _, .nil, _, _, q => q
  | d :: ds, _, .cons r t, _, _, q => dqs_rev t (.cons r q)
def cut {α : Type} (xs : List α) (lo hi : Option Int) : List α := (xs.drop (HT.sIx xs.length 0 lo)).take (HT.sIx xs.length xs.length hi - HT.sIx xs.length 0 lo)
theorem rps_cut {H : Hp} {ss : List Sl} {vs : List V} (lo hi : Option Int) (h : Rps H ss vs) : Rps H (cut ss lo hi) (cutV vs lo hi) := by
  unfold cut cutV
  rw [rps_len h]
  exact rps_take _ (rps_drop _ h)
theorem dqs_cut {H : Hp} {ds : List Dt} {vs : List V} (lo hi : Option Int) (h : DqAll H vs ds) : DqAll H (cutV vs lo hi) (cut ds lo hi) := by
  have h2 := rps_cut lo hi (dat_rps h)
  have e : cut (ds.map Sl.dat) lo hi = (cut ds lo hi).map Sl.dat := by
    unfold cut
    rw [List.length_map, List.map_take, List.map_drop]
  rw [e] at h2
  exact rps_dat h2
theorem dqs_app {H : Hp} {ds es : List Dt} {vs ws : List V} (h : DqAll H vs ds) (h' : DqAll H ws es) : DqAll H (vs ++ ws) (ds ++ es) := by
  have h2 := rps_app (dat_rps h) (dat_rps h')
  rw [← List.map_append] at h2
  exact rps_dat h2
theorem atI_rp {H : Hp} {ss : List Sl} {vs : List V} {i : Int} {s : Sl} (h : Rps H ss vs) (e : atI ss i = some s) : ∃ v, atI vs i = some v ∧ Rp H s v := by
  unfold atI at e ⊢
  rw [rps_len h]
  cases q : ixN ss.length i with
  | none => rw [q] at e; cases e
  | some j =>
    rw [q] at e
    obtain ⟨v, h1, h2⟩ := rps_get' h e
    exact ⟨v, h1, h2⟩
theorem atI_dq {H : Hp} {ds : List Dt} {vs : List V} {i : Int} {d : Dt} (h : DqAll H vs ds) (e : atI ds i = some d) : ∃ v, atI vs i = some v ∧ Dq H v d := by
  have e2 : atI (ds.map Sl.dat) i = some (.dat d) := by
    unfold atI at e ⊢
    rw [List.length_map]
    cases q : ixN ds.length i with
    | none => rw [q] at e; cases e
    | some j =>
      rw [q] at e
      have e' : ds[j]? = some d := e
      show (ds.map Sl.dat)[j]? = _
      rw [List.getElem?_map, e'] <;> rfl
  obtain ⟨v, h1, h2⟩ := atI_rp (dat_rps h) e2
  exact ⟨v, h1, h2⟩
def datOf : Sl → Option Dt
  | .dat d => some d
  | _ => none
def datsOf : List Sl → Option (List Dt)
  | [] => some []
  | s :: ss => match datOf s, datsOf ss with
    | some d, some ds => some (d :: ds)
    | _, _ => none
theorem datsOf_eq : ∀ {ss : List Sl} {ds : List Dt}, datsOf ss = some ds → ss = ds.map .dat
  | [], ds, h => by cases h; rfl
  | s :: ss, ds, h => by
    unfold datsOf at h
    cases e1 : datOf s with
    | none => rw [e1] at h; cases h
    | some d =>
      cases e2 : datsOf ss with
      | none => rw [e1, e2] at h; cases h
      | some es =>
        rw [e1, e2] at h
        cases h
        rw [datsOf_eq e2]
        cases s with
        | dat d' => cases e1; rfl
        | own a => cases e1
        | raw v => cases e1
        | fix _ => cases e1
section
variable {X : Cx} {e a b c : Expr} {de da db dc : DE} {pos : Pos} {es : List Expr} {das : DA}
/-! ### names and constants -/
def dV (i : Nat) : DE := fun Γ M k => ∃ s, Γ[i]? = some (some s) ∧ k s M
def dC (d : Dt) : DE := fun _ M k => k (.dat d) M
def dR (v : V) : DE := fun _ M k => k (.raw v) M
theorem slot_lt {σ : L2.St} {pins : List (Addr × Obj)} {H : Hp} {s : Shared} {i : Nat} {x : Str} (I : Inv X pins σ H s) (hN : X.N[i]? = some x) : i < σ.length := by
  rw [I.len]
  exact (List.getElem?_eq_some_iff.mp hN).1
theorem xe_var {i : Nat} {x : Str} {pos : Pos} (hN : X.N[i]? = some x) (h : PE X (.Name x pos) (tVar i)) : XE X (.Name x pos) (dV i) :=
  ⟨fun pins st σ Hc Q I ⟨Γ, M, H, k, ⟨s, h1, h2⟩, F, O, q⟩ => by
    obtain ⟨v, h3, h4⟩ := F.sl i s (slot_lt I hN) h1
    exact h.run pins st σ Hc Q I ⟨v, h3, q v s M H Hc (Evl.Ex.refl H) O h4 h2⟩⟩
theorem xv (i : Nat) {x : Str} {pos : Pos} (hN : X.N[i]? = some x := by rfl) (hv : Vis X.env.scope x := by first | exact Or.inl rfl | exact Or.inr (Or.inl rfl) | exact Or.inr (Or.inr rfl)) (hd : (x == ("__debug__" : Str)) = false := by decide)
    (hcd : (x == ("__classdict__" : Str)) = false := by decide) : XE X (.Name x pos) (dV i) := xe_var hN (pv i hN hv hd hcd)
theorem sim_c {v : V} {d : Dt} (h : ∀ H, Dq H v d) : SimE (tC v) (dC d) := fun Γ M k σ H Hc Q hk F O q => q v (.dat d) M H Hc (Evl.Ex.refl H) O (h H) hk
theorem xe_int {i : Int} {j pos} : XE X (.Constant (.int i) j pos) (dC (.int i)) := xe_of pe_int (sim_c fun _ => .int i)
theorem xe_bl {b : Bool} {j pos} : XE X (.Constant (.bool b) j pos) (dC (.bool b)) := xe_of pe_bl (sim_c fun _ => .bl b)
theorem xe_non {j pos} : XE X (.Constant .none j pos) (dC .none) := xe_of pe_non (sim_c fun _ => .non)
theorem xe_str {x : Str} {j pos} : XE X (.Constant (.str x) j pos) (dC (.str x)) := xe_of pe_str (sim_c fun _ => .str x)
theorem xe_globI {x : Str} {pos : Pos} {i : Int} {t : Tok} (hm : X.mg x = some (.int i t)) (hg : Gl X x := by rfl) (hdb : (x == ("__debug__" : Str)) = false := by decide) : XE X (.Name x pos) (dC (.int i)) :=
  xe_of (pe_glob (v := .int i) hg hm ⟨t, rfl⟩ hdb) (sim_c fun _ => .int i)
theorem xe_raw {v : V} (h : PE X e (tC v)) : XE X e (dR v) := xe_of h fun Γ M k σ H Hc Q hk F O q => q v (.raw v) M H Hc (Evl.Ex.refl H) O rfl hk
/-! ### two-place operations by values -/
abbrev D2 := Sl → Sl → Mem → DK → Prop
def Sim2 (r : R2) (f : D2) : Prop := ∀ s t M k x y H Hc Q, f s t M k → Rp H s x → Rp H t y → Own H Hc M → On H k Q → r x y Hc Q
def dOp (f : D2) (da db : DE) : DE := fun Γ M k => da Γ M fun s M1 => db Γ M1 fun t M2 => f s t M2 k
theorem sim_op {r : R2} {f : D2} {ta tb : TE} (hr : Sim2 r f) (ha : SimE ta da) (hb : SimE tb db) : SimE (tOp r ta tb) (dOp f da db) := by
  intro Γ M k σ H Hc Q h F O q
  refine ha Γ M _ σ H Hc _ h F O fun x s M1 H1 Hc1 e1 O1 r1 h1 => ?_
  refine hb Γ M1 _ σ H1 Hc1 _ h1 (F.ex e1) O1 fun y t M2 H2 Hc2 e2 O2 r2 h2 => ?_
  exact hr s t M2 k x y H2 Hc2 Q h2 (rp_ex e2 r1) r2 O2 (q.ex (e1.trans e2))
theorem xe_op {op : Operator} {r : R2} {f : D2} (ho : OpR X (binaryOp op) r) (hr : Sim2 r f) (ha : XE X a da) (hb : XE X b db) : XE X (.BinOp a op b pos) (dOp f da db) :=
  xe_of (pe_op ho ha hb) (sim_op hr simLE simLE)
theorem xe_cmp {op : CmpOp} {r : R2} {f : D2} (ho : OpR X (compareOp op) r) (hm : behindInMarks op b = false) (hr : Sim2 r f) (ha : XE X a da) (hb : XE X b db) : XE X (.Compare a [op] [b] pos) (dOp f da db) :=
  xe_of (pe_cmpR ho ha hb hm) (sim_op hr simLE simLE)
theorem OpR.or {f : Value → Value → Sem Value} {r r' : R2} (h : OpR X f r) (h' : OpR X f r') : OpR X f (fun x y H Q => r x y H Q ∨ r' x y H Q) := by
  intro pins s σ H x y v u Q I rx ry q
  rcases q with q | q
  · exact h pins s σ H x y v u Q I rx ry q
  · exact h' pins s σ H x y v u Q I rx ry q
/-- a datum found -/
theorem On.dat {H Hc : Hp} {M : Mem} {k : DK} {Q : VK} {v : V} {d : Dt} (q : On H k Q) (O : Own H Hc M) (r : Dq H v d) (h : k (.dat d) M) : Q v Hc := q v (.dat d) M H Hc (Evl.Ex.refl H) O r h
/-- a new tuple -/
theorem On.tup {H Hc : Hp} {M : Mem} {k : DK} {Q : VK} {vs : List V} {ds : List Dt} {p : Addr} (q : On H k Q) (O : Own H Hc M) (r : DqAll H vs ds) (hp : Hc p = none) (h : k (.dat (.tuple ds)) M) : Q (.ref p) (upd Hc p (.tup vs)) := by
  obtain ⟨O', e⟩ := O.grow (o := .tup vs) hp
  exact q _ (.dat (.tuple ds)) _ _ _ e O' (Dq.tup upd_same (dps_ex e r)) h
/-- a new list that stands still -/
theorem On.lst {H Hc : Hp} {M : Mem} {k : DK} {Q : VK} {vs : List V} {ds : List Dt} {p : Addr} (q : On H k Q) (O : Own H Hc M) (r : DqAll H vs ds) (hp : Hc p = none) (h : k (.dat (.list ds)) M) : Q (.ref p) (upd Hc p (.lst vs)) := by
  obtain ⟨O', e⟩ := O.grow (o := .lst vs) hp
  exact q _ (.dat (.list ds)) _ _ _ e O' (Dq.lst upd_same (dps_ex e r)) h
/-- a new list of ours -/
theorem On.own {H Hc : Hp} {M : Mem} {k : DK} {Q : VK} {vs : List V} {ss : List Sl} {p : Addr} (q : On H k Q) (O : Own H Hc M) (r : Rps H ss vs) (hz : ss.length ≤ sizeLine) (hp : Hc p = none) (h : k (.own p) (put M p (.lst ss))) : Q (.ref p) (upd Hc p (.lst vs)) :=
  q _ (.own p) _ H _ (Evl.Ex.refl H) (O.born (u := .lst ss) hp ⟨hz, vs, rfl, r⟩) rfl h
/-- ints by a function -/
def fI (C : Int → Int → Prop) (g : Int → Int → Dt) : D2 := fun s t M k => match s, t with
  | .dat (.int i), .dat (.int j) => C i j ∧ k (.dat (g i j)) M
  | _, _ => False
def fI0 (g : Int → Int → Dt) : D2 := fun s t M k => match s, t with
  | .dat (.int i), .dat (.int j) => k (.dat (g i j)) M
  | _, _ => False
theorem sim_I {C : Int → Int → Prop} {g : Int → Int → V} {g' : Int → Int → Dt} (hg : ∀ i j H, Dq H (g i j) (g' i j)) : Sim2 (rI C g) (fI C g') := by
  intro s t M k x y H Hc Q h rx ry O q
  unfold fI at h
  split at h
  · exact ⟨_, _, dp_int_inv rx, dp_int_inv ry, h.1, q.dat O (hg _ _ H) h.2⟩
  · exact h.elim
theorem sim_I0 {g : Int → Int → V} {g' : Int → Int → Dt} (hg : ∀ i j H, Dq H (g i j) (g' i j)) : Sim2 (rI0 g) (fI0 g') := by
  intro s t M k x y H Hc Q h rx ry O q
  unfold fI0 at h
  split at h
  · exact ⟨_, _, dp_int_inv rx, dp_int_inv ry, q.dat O (hg _ _ H) h⟩
  · exact h.elim
theorem xe_sub (ha : XE X a da) (hb : XE X b db) : XE X (.BinOp a .Sub b pos) (dOp (fI0 fun i j => .int (i - j)) da db) := xe_op op_sub (sim_I0 fun _ _ _ => .int _) ha hb
theorem xe_mul (ha : XE X a da) (hb : XE X b db) : XE X (.BinOp a .Mult b pos) (dOp (fI CMul fun i j => .int (i * j)) da db) := xe_op op_mul (sim_I fun _ _ _ => .int _) ha hb
theorem xe_mulW (ha : XE X a da) (hb : XE X b db) : XE X (.BinOp a .Mult b pos) (dOp (fI CMulW fun i j => .int (i * j)) da db) := xe_op op_mulW (sim_I fun _ _ _ => .int _) ha hb
theorem xe_mod (ha : XE X a da) (hb : XE X b db) : XE X (.BinOp a .Mod b pos) (dOp (fI (fun _ j => 0 < j) fun i j => .int (i % j)) da db) := xe_op op_mod (sim_I fun _ _ _ => .int _) ha hb
theorem xe_fdiv (ha : XE X a da) (hb : XE X b db) : XE X (.BinOp a .FloorDiv b pos) (dOp (fI CDivW fun i j => .int (i / j)) da db) := xe_op op_fdivW (sim_I fun _ _ _ => .int _) ha hb
theorem xe_pow (ha : XE X a da) (hb : XE X b db) : XE X (.BinOp a .Pow b pos) (dOp (fI CPow fun i j => .int (i ^ j.toNat)) da db) := xe_op op_pow (sim_I fun _ _ _ => .int _) ha hb
theorem xe_le (ha : XE X a da) (hb : XE X b db) : XE X (.Compare a [.LtE] [b] pos) (dOp (fI0 fun i j => .bool (decide (i ≤ j))) da db) := xe_cmp op_le (nomark _) (sim_I0 fun _ _ _ => .bl _) ha hb
theorem xe_gt (ha : XE X a da) (hb : XE X b db) : XE X (.Compare a [.Gt] [b] pos) (dOp (fI0 fun i j => .bool (decide (j < i))) da db) := xe_cmp op_gt (nomark _) (sim_I0 fun _ _ _ => .bl _) ha hb
theorem xe_ge (ha : XE X a da) (hb : XE X b db) : XE X (.Compare a [.GtE] [b] pos) (dOp (fI0 fun i j => .bool (decide (j ≤ i))) da db) := xe_cmp op_ge (nomark _) (sim_I0 fun _ _ _ => .bl _) ha hb
theorem xe_ltI (ha : XE X a da) (hb : XE X b db) : XE X (.Compare a [.Lt] [b] pos) (dOp (fI0 fun i j => .bool (decide (i < j))) da db) := xe_cmp op_lt (nomark _) (sim_I0 fun _ _ _ => .bl _) ha hb
/-! ### a + b -/
/-- new lists are ours -/
def fAdd : D2 := fun s t M k => match s, t with
  | .dat (.int i), .dat (.int j) => k (.dat (.int (i + j))) M
  | .dat (.str i), .dat (.str j) => i.length + j.length ≤ 16777216 ∧ k (.dat (.str (i ++ j))) M
  | .dat (.tuple i), .dat (.tuple j) => i.length + j.length ≤ 16777216 ∧ k (.dat (.tuple (i ++ j))) M
  | s, t => ∃ xs ys, IsL M s xs ∧ IsL M t ys ∧ xs.length + ys.length ≤ 16777216 ∧ ∀ p, M p = none → k (.own p) (put M p (.lst (xs ++ ys)))
/-- new lists stand still -/
def fAddD : D2 := fun s t M k => match s, t with
  | .dat (.int i), .dat (.int j) => k (.dat (.int (i + j))) M
  | .dat (.str i), .dat (.str j) => i.length + j.length ≤ 16777216 ∧ k (.dat (.str (i ++ j))) M
  | .dat (.tuple i), .dat (.tuple j) => i.length + j.length ≤ 16777216 ∧ k (.dat (.tuple (i ++ j))) M
  | s, t => ∃ xs ys, IsL M s (xs.map .dat) ∧ IsL M t (ys.map .dat) ∧ xs.length + ys.length ≤ 16777216 ∧ k (.dat (.list (xs ++ ys))) M
abbrev rStrAdd : R2 := fun x y H Q => ∃ i j, x = .str i ∧ y = .str j ∧ i.length + j.length ≤ sizeLine ∧ Q (.str (i ++ j)) H
theorem op_addAll : OpR X (binaryOp .Add) (fun x y H Q => (rI0 fun i j => .int (i + j)) x y H Q ∨ rStrAdd x y H Q ∨ rCatA X.K x y H Q ∨ rCat x y H Q) := OpR.or op_add (OpR.or op_add_str (OpR.or op_catA op_cat))
theorem cat_tup {K : PySem.W.Frag} {H Hc : Hp} {M : Mem} {k : DK} {Q : VK} {i j : List Dt} {x y : V} (rx : Rp H (.dat (.tuple i)) x) (ry : Rp H (.dat (.tuple j)) y) (O : Own H Hc M) (q : On H k Q) (hz : i.length + j.length ≤ sizeLine) (h : k (.dat (.tuple (i ++ j))) M) : rCatA K x y Hc Q := by
  obtain ⟨a, vs, rfl, h1, h2⟩ := dp_tup_inv rx
  obtain ⟨b, ws, rfl, h3, h4⟩ := dp_tup_inv ry
  refine ⟨a, b, vs, ws, rfl, rfl, SqT.of (O.ex _ _ h1), SqT.of (O.ex _ _ h3), by rw [dps_len h2, dps_len h4]; exact hz, fun e => ?_, fun _ e => ?_, fun _ _ p hp => ?_⟩
  · subst e
    cases h2
    exact q.dat O ry h
  · subst e
    cases h4
    rw [List.append_nil] at h
    exact q.dat O rx h
  · exact q.tup O (dqs_app h2 h4) hp h
theorem sim_add {K : PySem.W.Frag} : Sim2 (fun x y H Q => (rI0 fun i j => .int (i + j)) x y H Q ∨ rStrAdd x y H Q ∨ rCatA K x y H Q ∨ rCat x y H Q) fAdd := by
  intro s t M k x y H Hc Q h rx ry O q
  have lists : (∃ xs ys, IsL M s xs ∧ IsL M t ys ∧ xs.length + ys.length ≤ 16777216 ∧ ∀ p, M p = none → k (.own p) (put M p (.lst (xs ++ ys)))) → rCat x y Hc Q := by
    rintro ⟨xs, ys, l1, l2, hz, k1⟩
    obtain ⟨a, vs, rfl, h1, h2⟩ := l1.at_ O rx
    obtain ⟨b, ws, rfl, h3, h4⟩ := l2.at_ O ry
    exact ⟨a, b, vs, ws, rfl, rfl, h1, h3, by rw [rps_len h2, rps_len h4]; exact hz, fun p hp => q.own O (rps_app h2 h4) (by rw [List.length_append]; exact hz) hp (k1 p (O.freeM hp))⟩
  unfold fAdd at h
  split at h
  · exact .inl ⟨_, _, dp_int_inv rx, dp_int_inv ry, q.dat O (.int _) h⟩
  · exact .inr (.inl ⟨_, _, dp_str_inv rx, dp_str_inv ry, h.1, q.dat O (.str _) h.2⟩)
  · exact .inr (.inr (.inl (cat_tup rx ry O q h.1 h.2)))
  · exact .inr (.inr (.inr (lists h)))
theorem sim_addD {K : PySem.W.Frag} : Sim2 (fun x y H Q => (rI0 fun i j => .int (i + j)) x y H Q ∨ rStrAdd x y H Q ∨ rCatA K x y H Q ∨ rCat x y H Q) fAddD := by
  intro s t M k x y H Hc Q h rx ry O q
  have lists : (∃ xs ys, IsL M s (xs.map .dat) ∧ IsL M t (ys.map .dat) ∧ xs.length + ys.length ≤ 16777216 ∧ k (.dat (.list (xs ++ ys))) M) → rCat x y Hc Q := by
    rintro ⟨xs, ys, l1, l2, hz, k1⟩
    obtain ⟨a, vs, rfl, h1, h2⟩ := l1.at_ O rx
    obtain ⟨b, ws, rfl, h3, h4⟩ := l2.at_ O ry
    exact ⟨a, b, vs, ws, rfl, rfl, h1, h3, by rw [rps_len h2, rps_len h4, List.length_map, List.length_map]; exact hz, fun p hp => q.lst O (dqs_app (rps_dat h2) (rps_dat h4)) hp k1⟩
  unfold fAddD at h
  split at h
  · exact .inl ⟨_, _, dp_int_inv rx, dp_int_inv ry, q.dat O (.int _) h⟩
  · exact .inr (.inl ⟨_, _, dp_str_inv rx, dp_str_inv ry, h.1, q.dat O (.str _) h.2⟩)
  · exact .inr (.inr (.inl (cat_tup rx ry O q h.1 h.2)))
  · exact .inr (.inr (.inr (lists h)))
theorem xe_add (ha : XE X a da) (hb : XE X b db) : XE X (.BinOp a .Add b pos) (dOp fAdd da db) := xe_op op_addAll sim_add ha hb
theorem xe_addD (ha : XE X a da) (hb : XE X b db) : XE X (.BinOp a .Add b pos) (dOp fAddD da db) := xe_op op_addAll sim_addD ha hb
/-! ### a == b -/
/-- as a datum -/
def IsD (M : Mem) (s : Sl) (d : Dt) : Prop := s = .dat d ∨ ∃ a ds, s = .own a ∧ M a = some (.lst (ds.map .dat)) ∧ d = .list ds
theorem IsD.at_ {K : PySem.W.Frag} {H Hc : Hp} {M : Mem} {s : Sl} {d : Dt} {x : V} (h : IsD M s d) (O : Own H Hc M) (r : Rp H s x) : Dp K Hc x d := by
  rcases h with rfl | ⟨a, ds, rfl, h, rfl⟩
  · exact dq_dp (dp_ex O.ex r)
  · cases r
    obtain ⟨_, vs, h1, h2⟩ := O.ob a _ h
    exact .lst (SqL.of h1) (dqs_dps (dps_ex O.ex (rps_dat h2)))
def fEq (neg : Bool) : D2 := fun s t M k => match s, t with
  | .dat (.int i), .dat (.int j) => k (.dat (.bool (if neg = true then !decide (i = j) else decide (i = j)))) M
  | .dat (.str i), .dat (.str j) => k (.dat (.bool (if neg = true then !decide (i = j) else decide (i = j)))) M
  | s, t => ∃ d e, IsD M s d ∧ IsD M t e ∧ SeqAt.shaped d = true ∧ SeqAt.shaped e = true ∧ k (.dat (.bool (if neg = true then !PyData.eqv d e else PyData.eqv d e))) M
theorem op_eqAll (hu : X.A.units + 64 < cLine) : OpR X (compareOp .Eq) (fun x y H Q => rEq x y H Q ∨ rEqD X.K x y H Q) := OpR.or op_eq (op_eqD hu)
theorem op_neAll (hu : X.A.units + 64 < cLine) : OpR X (compareOp .NotEq) (fun x y H Q => rNe x y H Q ∨ rNeD X.K x y H Q) := OpR.or op_ne (op_neD hu)
theorem dec_V {i j : Int} : decide (V.int i = V.int j) = decide (i = j) := by
  by_cases h : i = j
  · rw [decide_eq_true h, decide_eq_true (by rw [h])]
  · rw [decide_eq_false h, decide_eq_false (fun q => h (V.int.inj q))]
theorem dec_VS {i j : Str} : decide (V.str i = V.str j) = decide (i = j) := by
  by_cases h : i = j
  · rw [decide_eq_true h, decide_eq_true (by rw [h])]
  · rw [decide_eq_false h, decide_eq_false (fun q => h (V.str.inj q))]
theorem sim_eq {K : PySem.W.Frag} : Sim2 (fun x y H Q => rEq x y H Q ∨ rEqD K x y H Q) (fEq false) := by
  intro s t M k x y H Hc Q h rx ry O q
  unfold fEq at h
  split at h
  · left
    rw [dp_int_inv rx, dp_int_inv ry]
    refine ⟨rfl, ?_⟩
    rw [dec_V]
    exact q.dat O (.bl _) h
  · left
    rw [dp_str_inv rx, dp_str_inv ry]
    refine ⟨rfl, ?_⟩
    rw [dec_VS]
    exact q.dat O (.bl _) h
  · right
    obtain ⟨d, e, h1, h2, s1, s2, h3⟩ := h
    exact ⟨d, e, h1.at_ O rx, h2.at_ O ry, s1, s2, q.dat O (.bl _) h3⟩
theorem sim_ne {K : PySem.W.Frag} : Sim2 (fun x y H Q => rNe x y H Q ∨ rNeD K x y H Q) (fEq true) := by
  intro s t M k x y H Hc Q h rx ry O q
  unfold fEq at h
  split at h
  · left
    rw [dp_int_inv rx, dp_int_inv ry]
    refine ⟨rfl, ?_⟩
    rw [dec_V]
    exact q.dat O (.bl _) h
  · left
    rw [dp_str_inv rx, dp_str_inv ry]
    refine ⟨rfl, ?_⟩
    rw [dec_VS]
    exact q.dat O (.bl _) h
  · right
    obtain ⟨d, e, h1, h2, s1, s2, h3⟩ := h
    exact ⟨d, e, h1.at_ O rx, h2.at_ O ry, s1, s2, q.dat O (.bl _) h3⟩
theorem xe_eq (hu : X.A.units + 64 < cLine) (ha : XE X a da) (hb : XE X b db) : XE X (.Compare a [.Eq] [b] pos) (dOp (fEq false) da db) := xe_cmp (op_eqAll hu) (nomark _) sim_eq ha hb
theorem xe_ne (hu : X.A.units + 64 < cLine) (ha : XE X a da) (hb : XE X b db) : XE X (.Compare a [.NotEq] [b] pos) (dOp (fEq true) da db) := xe_cmp (op_neAll hu) (nomark _) sim_ne ha hb
/-! ### and, or, not, if; tests -/
def dT (de : DE) : DB := fun Γ M k => de Γ M fun s M1 => match s with
  | .dat (.bool b) => k b M1
  | _ => False
theorem sim_t {te : TE} (h : SimE te de) : SimB (tB te) (dT de) := by
  intro Γ M k σ H Hc Q hd F O q
  refine h Γ M _ σ H Hc _ hd F O fun v s M1 H1 Hc1 e1 O1 r1 h1 => ?_
  split at h1
  · exact ⟨_, dp_bl_inv r1, q _ M1 H1 Hc1 e1 O1 h1⟩
  · exact h1.elim
theorem xb_val (h : XE X e de) (he : ∀ whole, isTrue e X.env whole = (do let v ← whole; standAt e.pos; holding [v] (truthy v)) := by intro _; rfl) : XB X e (dT de) := xb_of (pt_val h he) (sim_t simLE)
theorem sim_tt {te : TE} (h : SimE te de) : SimB (tTest te) (dT de) := by
  intro Γ M k σ H Hc Q hd F O q
  refine h Γ M _ σ H Hc _ hd F O fun v s M1 H1 Hc1 e1 O1 r1 h1 => ?_
  split at h1
  · exact ⟨_, dp_bl_inv r1, q _ M1 H1 Hc1 e1 O1 h1⟩
  · exact h1.elim
theorem xb_cmp {r : R2} {f : D2} (hr : Sim2 r f) (h : PT X e (tTest (tOp r (LE da) (LE db)))) : XB X e (dT (dOp f da db)) := xb_of h (sim_tt (sim_op hr simLE simLE))
def dAnd (t u : DB) : DB := fun Γ M k => t Γ M fun b M1 => (b = true → u Γ M1 k) ∧ (b = false → k false M1)
def dOr (t u : DB) : DB := fun Γ M k => t Γ M fun b M1 => (b = true → k true M1) ∧ (b = false → u Γ M1 k)
def dNot (t : DB) : DB := fun Γ M k => t Γ M fun b M1 => k (!b) M1
theorem sim_and {ta tb : TT} {ba bb : DB} (ha : SimB ta ba) (hb : SimB tb bb) : SimB (tAnd ta tb) (dAnd ba bb) := by
  intro Γ M k σ H Hc Q hd F O q
  refine ha Γ M _ σ H Hc _ hd F O fun v M1 H1 Hc1 e1 O1 h1 => ?_
  cases v with
  | true => rw [if_pos rfl]; exact hb Γ M1 k σ H1 Hc1 Q (h1.1 rfl) (F.ex e1) O1 (q.ex e1)
  | false => rw [if_neg Bool.false_ne_true]; exact q _ _ _ _ e1 O1 (h1.2 rfl)
theorem sim_or {ta tb : TT} {ba bb : DB} (ha : SimB ta ba) (hb : SimB tb bb) : SimB (tOr ta tb) (dOr ba bb) := by
  intro Γ M k σ H Hc Q hd F O q
  refine ha Γ M _ σ H Hc _ hd F O fun v M1 H1 Hc1 e1 O1 h1 => ?_
  cases v with
  | true => rw [if_pos rfl]; exact q _ _ _ _ e1 O1 (h1.1 rfl)
  | false => rw [if_neg Bool.false_ne_true]; exact hb Γ M1 k σ H1 Hc1 Q (h1.2 rfl) (F.ex e1) O1 (q.ex e1)
theorem sim_not {ta : TT} {ba : DB} (ha : SimB ta ba) : SimB (tNot ta) (dNot ba) := by
  intro Γ M k σ H Hc Q hd F O q
  exact ha Γ M _ σ H Hc _ hd F O fun v M1 H1 Hc1 e1 O1 h1 => q _ _ _ _ e1 O1 h1
section
variable {ba bb : DB} {rest : List Expr}
theorem xw_one {op} (h : XB X a ba) (h2 : PT X a (LB ba) → PW X (.BoolOp op [a] pos) (LB ba)) : XW X (.BoolOp op [a] pos) ba := h2 h
theorem xw_and1 (h : XB X a ba) : XW X (.BoolOp .And [a] pos) ba := pw_and1 h
theorem xw_or1 (h : XB X a ba) : XW X (.BoolOp .Or [a] pos) ba := pw_or1 h
theorem xw_and (ha : XB X a ba) (hb : XW X (.BoolOp .And (b :: rest) pos) bb) : XW X (.BoolOp .And (a :: b :: rest) pos) (dAnd ba bb) := xw_of (pw_and ha hb) (sim_and simLB simLB)
theorem xw_or (ha : XB X a ba) (hb : XW X (.BoolOp .Or (b :: rest) pos) bb) : XW X (.BoolOp .Or (a :: b :: rest) pos) (dOr ba bb) := xw_of (pw_or ha hb) (sim_or simLB simLB)
theorem xb_w (h : XW X e ba) : XB X e ba := h.pt
theorem xb_not (h : XB X a ba) : XB X (.UnaryOp .Not a pos) (dNot ba) := xb_of (pt_not h) (sim_not simLB)
end
/-- as values -/
def dAndV (da db : DE) : DE := fun Γ M k => dT da Γ M fun b M1 => (b = true → db Γ M1 k) ∧ (b = false → k (.dat (.bool false)) M1)
def dOrV (da db : DE) : DE := fun Γ M k => dT da Γ M fun b M1 => (b = true → k (.dat (.bool true)) M1) ∧ (b = false → db Γ M1 k)
def dNotV (da : DE) : DE := fun Γ M k => dT da Γ M fun b M1 => k (.dat (.bool (!b))) M1
theorem sim_andV {ta tb : TE} (ha : SimE ta da) (hb : SimE tb db) : SimE (tAndV ta tb) (dAndV da db) := by
  intro Γ M k σ H Hc Q hd F O q
  refine ha Γ M _ σ H Hc _ hd F O fun v s M1 H1 Hc1 e1 O1 r1 h1 => ?_
  split at h1
  · rename_i b
    refine ⟨b, dp_bl_inv r1, ?_⟩
    cases b with
    | true => rw [if_pos rfl]; exact hb Γ M1 k σ H1 Hc1 Q (h1.1 rfl) (F.ex e1) O1 (q.ex e1)
    | false => rw [if_neg Bool.false_ne_true]; exact q _ (.dat (.bool false)) _ _ _ e1 O1 (Dq.bl _) (h1.2 rfl)
  · exact h1.elim
theorem sim_orV {ta tb : TE} (ha : SimE ta da) (hb : SimE tb db) : SimE (tOrV ta tb) (dOrV da db) := by
  intro Γ M k σ H Hc Q hd F O q
  refine ha Γ M _ σ H Hc _ hd F O fun v s M1 H1 Hc1 e1 O1 r1 h1 => ?_
  split at h1
  · rename_i b
    refine ⟨b, dp_bl_inv r1, ?_⟩
    cases b with
    | true => rw [if_pos rfl]; exact q _ (.dat (.bool true)) _ _ _ e1 O1 (Dq.bl _) (h1.1 rfl)
    | false => rw [if_neg Bool.false_ne_true]; exact hb Γ M1 k σ H1 Hc1 Q (h1.2 rfl) (F.ex e1) O1 (q.ex e1)
  · exact h1.elim
theorem sim_notV {ta : TE} (ha : SimE ta da) : SimE (tNotV ta) (dNotV da) := by
  intro Γ M k σ H Hc Q hd F O q
  refine ha Γ M _ σ H Hc _ hd F O fun v s M1 H1 Hc1 e1 O1 r1 h1 => ?_
  split at h1
  · rename_i b
    exact ⟨b, dp_bl_inv r1, q _ (.dat (.bool (!b))) _ _ _ e1 O1 (Dq.bl _) h1⟩
  · exact h1.elim
theorem xe_one {op} (h : XE X a da) : XE X (.BoolOp op [a] pos) da := pe_one h
theorem xe_and {rest : List Expr} (ha : XE X a da) (hb : XE X (.BoolOp .And (b :: rest) pos) db) : XE X (.BoolOp .And (a :: b :: rest) pos) (dAndV da db) := xe_of (pe_and ha hb) (sim_andV simLE simLE)
theorem xe_or {rest : List Expr} (ha : XE X a da) (hb : XE X (.BoolOp .Or (b :: rest) pos) db) : XE X (.BoolOp .Or (a :: b :: rest) pos) (dOrV da db) := xe_of (pe_or ha hb) (sim_orV simLE simLE)
theorem xe_not (ha : XE X a da) : XE X (.UnaryOp .Not a pos) (dNotV da) := xe_of (pe_not ha) (sim_notV simLE)
def dIf (t : DB) (da db : DE) : DE := fun Γ M k => t Γ M fun b M1 => (b = true → da Γ M1 k) ∧ (b = false → db Γ M1 k)
theorem xe_if {ba : DB} (hc : XB X c ba) (ha : XE X a da) (hb : XE X b db) : XE X (.IfExp c a b pos) (dIf ba da db) := xe_of (pe_ifExp hc ha hb) (by
  intro Γ M k σ H Hc Q hd F O q
  refine simLB Γ M _ σ H Hc _ hd F O fun v M1 H1 Hc1 e1 O1 h1 => ?_
  cases v with
  | true => rw [if_pos rfl]; exact simLE Γ M1 k σ H1 Hc1 Q (h1.1 rfl) (F.ex e1) O1 (q.ex e1)
  | false => rw [if_neg Bool.false_ne_true]; exact simLE Γ M1 k σ H1 Hc1 Q (h1.2 rfl) (F.ex e1) O1 (q.ex e1))
/-- a < b < c -/
def dChain (f g : D2) (da db dc : DE) : DE := fun Γ M k => da Γ M fun s M1 => db Γ M1 fun t M2 => f s t M2 fun r M3 => match r with
  | .dat (.bool b) => (b = true → dc Γ M3 fun u M4 => g t u M4 k) ∧ (b = false → k (.dat (.bool false)) M3)
  | _ => False
theorem sim_chain {r r' : R2} {f g : D2} (hf : Sim2 r f) (hg : Sim2 r' g) : SimE (tChain r r' (LE da) (LE db) (LE dc)) (dChain f g da db dc) := by
  intro Γ M k σ H Hc Q hd F O q
  refine simLE Γ M _ σ H Hc _ hd F O fun x s M1 H1 Hc1 e1 O1 r1 h1 => ?_
  refine simLE Γ M1 _ σ H1 Hc1 _ h1 (F.ex e1) O1 fun y t M2 H2 Hc2 e2 O2 r2 h2 => ?_
  refine hf s t M2 _ x y H2 Hc2 _ h2 (rp_ex e2 r1) r2 O2 fun z u M3 H3 Hc3 e3 O3 r3 h3 => ?_
  split at h3
  · rename_i b
    refine ⟨b, dp_bl_inv r3, ?_⟩
    cases b with
    | true =>
      rw [if_pos rfl]
      refine simLE Γ M3 _ σ H3 Hc3 _ (h3.1 rfl) (F.ex (e1.trans (e2.trans e3))) O3 fun z' u' M4 H4 Hc4 e4 O4 r4 h4 => ?_
      exact hg t u' M4 k y z' H4 Hc4 Q h4 (rp_ex (e3.trans e4) r2) r4 O4 (q.ex (e1.trans (e2.trans (e3.trans e4))))
    | false =>
      rw [if_neg Bool.false_ne_true]
      exact q _ (.dat (.bool false)) _ _ _ (e1.trans (e2.trans e3)) O3 (Dq.bl _) (h3.2 rfl)
  · exact h3.elim
theorem xe_chainI {g g' : Int → Int → Bool} (h : PE X e (tChain (rI0 fun i j => .bl (g i j)) (rI0 fun i j => .bl (g' i j)) (LE da) (LE db) (LE dc))) : XE X e (dChain (fI0 fun i j => .bool (g i j)) (fI0 fun i j => .bool (g' i j)) da db dc) :=
  xe_of h (sim_chain (sim_I0 fun _ _ _ => .bl _) (sim_I0 fun _ _ _ => .bl _))
theorem xb_chainI {g g' : Int → Int → Bool} (h : PT X e (tTest (tChain (rI0 fun i j => .bl (g i j)) (rI0 fun i j => .bl (g' i j)) (LE da) (LE db) (LE dc)))) : XB X e (dT (dChain (fI0 fun i j => .bool (g i j)) (fI0 fun i j => .bool (g' i j)) da db dc)) :=
  xb_of h (sim_tt (sim_chain (sim_I0 fun _ _ _ => .bl _) (sim_I0 fun _ _ _ => .bl _)))
end
end DL
namespace DL
open PySem PySem.Spec PyProof.Rows L2
open Evl (Ex)
section
variable {X : Cx} {e a b c : Expr} {de da db dc : DE} {pos : Pos} {es : List Expr} {das : DA}
/-! ### subscripts -/
def fIx : D2 := fun s t M k => match s, t with
  | .dat (.tuple ds), .dat (.int i) => ∃ d, atI ds i = some d ∧ k (.dat d) M
  | .dat (.list ds), .dat (.int i) => ∃ d, atI ds i = some d ∧ k (.dat d) M
  | .dat (.str z), .dat (.int i) => z.length ≤ 16777216 ∧ ∃ c, atI z.cps.toList i = some c ∧ k (.dat (.str ⟨#[c]⟩)) M
  | .own a, .dat (.int i) => ∃ xs v, M a = some (.lst xs) ∧ atI xs i = some v ∧ k v M
  | _, _ => False
theorem sim_ix {K : PySem.W.Frag} : Sim2 (rIx K) fIx := by
  intro s t M k x y H Hc Q h rx ry O q
  unfold fIx at h
  split at h
  · obtain ⟨d, e1, h⟩ := h
    obtain ⟨p, vs, rfl, h1, h2⟩ := dp_tup_inv rx
    obtain ⟨v, e2, h3⟩ := atI_dq h2 e1
    exact .inr (.inl ⟨p, vs, _, v, rfl, dp_int_inv ry, SqT.of (O.ex _ _ h1), e2, q.dat O h3 h⟩)
  · obtain ⟨d, e1, h⟩ := h
    obtain ⟨p, vs, rfl, h1, h2⟩ := dp_lst_inv rx
    obtain ⟨v, e2, h3⟩ := atI_dq h2 e1
    exact .inl ⟨p, vs, _, v, rfl, dp_int_inv ry, SqL.of (O.ex _ _ h1), e2, q.dat O h3 h⟩
  · obtain ⟨hz, c, e1, h⟩ := h
    exact .inr (.inr ⟨_, _, c, dp_str_inv rx, dp_int_inv ry, by rw [sizeLine_eq]; exact hz, e1, q.dat O (.str _) h⟩)
  · obtain ⟨xs, v, e1, e2, h⟩ := h
    cases rx
    obtain ⟨_, vs, h1, h2⟩ := O.ob _ _ e1
    obtain ⟨w, e3, h3⟩ := atI_rp h2 e2
    exact .inl ⟨_, vs, _, w, rfl, dp_int_inv ry, SqL.of h1, e3, q w v M H Hc (Evl.Ex.refl H) O h3 h⟩
  · exact h.elim
theorem xe_ix (ha : XE X a da) (hb : XE X b db) (hs : PlainIx b := by exact fun _ _ => rfl) : XE X (.Subscript a b pos) (dOp fIx da db) := xe_of (pe_ix ix_seq ha hb hs) (sim_op sim_ix simLE simLE)
/-! ### slices -/
abbrev DO := Fm → Mem → (Option Int → Mem → Prop) → Prop
def SimO (t : TO) (d : DO) : Prop := ∀ Γ M (k : Option Int → Mem → Prop) σ H Hc (Q : Option Int → Hp → Prop), d Γ M k → Fr H σ Γ → Own H Hc M → (∀ o M' H' Hc', Ex H H' → Own H' Hc' M' → k o M' → Q o Hc') → t σ Hc Q
def LO (d : DO) : TO := fun σ Hc Q => ∃ Γ M H k, d Γ M k ∧ Fr H σ Γ ∧ Own H Hc M ∧ ∀ o M' H' Hc', Ex H H' → Own H' Hc' M' → k o M' → Q o Hc'
abbrev XO (X : Cx) (e : Option Expr) (d : DO) : Prop := PO X e (LO d)
def dNo : DO := fun _ M k => k none M
def dPt (de : DE) : DO := fun Γ M k => de Γ M fun s M1 => match s with
  | .dat (.int i) => k (some i) M1
  | _ => False
theorem xo_none : XO X none dNo := ⟨fun pins st σ Hc Q I ⟨Γ, M, H, k, hd, F, O, q⟩ => po_none.run pins st σ Hc Q I (q none M H Hc (Evl.Ex.refl H) O hd)⟩
theorem xo_some (h : XE X e de) : XO X (some e) (dPt de) := ⟨fun pins st σ Hc Q I ⟨Γ, M, H, k, hd, F, O, q⟩ => (po_some h).run pins st σ Hc Q I (by
  refine simLE Γ M _ σ H Hc _ hd F O fun v s M1 H1 Hc1 e1 O1 r1 h1 => ?_
  split at h1
  · exact ⟨_, dp_int_inv r1, q _ _ _ _ e1 O1 h1⟩
  · exact h1.elim)⟩
abbrev D3 := Sl → Option Int → Option Int → Mem → DK → Prop
def Sim3 (r : V → Option Int → Option Int → Hp → VK → Prop) (f : D3) : Prop := ∀ s lo hi M k x H Hc Q, f s lo hi M k → Rp H s x → Own H Hc M → On H k Q → r x lo hi Hc Q
def dSl (f : D3) (de : DE) (dl dh : DO) : DE := fun Γ M k => de Γ M fun s M1 => dl Γ M1 fun lo M2 => dh Γ M2 fun hi M3 => f s lo hi M3 k
def fSl : D3 := fun s lo hi M k => match s with
  | .dat (.tuple ds) => k (.dat (.tuple (cut ds lo hi))) M
  | .dat (.str z) => z.length ≤ 16777216 ∧ k (.dat (.str (cutS z lo hi))) M
  | s => ∃ xs, IsL M s xs ∧ xs.length ≤ 16777216 ∧ ∀ p, M p = none → k (.own p) (put M p (.lst (cut xs lo hi)))
def fSlD : D3 := fun s lo hi M k => match s with
  | .dat (.tuple ds) => k (.dat (.tuple (cut ds lo hi))) M
  | .dat (.str z) => z.length ≤ 16777216 ∧ k (.dat (.str (cutS z lo hi))) M
  | s => ∃ xs, IsL M s (xs.map .dat) ∧ k (.dat (.list (cut xs lo hi))) M
theorem cut_whole {α : Type} {xs : List α} {lo hi : Option Int} (h : HT.sIx xs.length 0 lo = 0 ∧ HT.sIx xs.length xs.length hi = xs.length) : cut xs lo hi = xs := by
  unfold cut
  rw [h.1, h.2, List.drop_zero, Nat.sub_zero, List.take_length]
theorem cut_len {α : Type} (xs : List α) (lo hi : Option Int) : (cut xs lo hi).length ≤ xs.length := by
  unfold cut
  rw [List.length_take, List.length_drop]
  omega
theorem sl_all : SlR X (fun x lo hi H Q => rSlA X.K x lo hi H Q ∨ rSlS x lo hi H Q ∨ rSlL X.K x lo hi H Q) := SlR.or sl_tupA (SlR.or sl_str sl_list)
theorem sl_tupD {K : PySem.W.Frag} {H Hc : Hp} {M : Mem} {k : DK} {Q : VK} {ds : List Dt} {lo hi : Option Int} {x : V} (rx : Rp H (.dat (.tuple ds)) x) (O : Own H Hc M) (q : On H k Q) (h : k (.dat (.tuple (cut ds lo hi))) M) : rSlA K x lo hi Hc Q := by
  obtain ⟨p, vs, rfl, h1, h2⟩ := dp_tup_inv rx
  have hl := dps_len h2
  refine ⟨p, vs, rfl, SqT.of (O.ex _ _ h1), fun w => ?_, fun _ p hp => q.tup O (dqs_cut lo hi h2) hp h⟩
  rw [hl] at w
  rw [cut_whole w] at h
  exact q.dat O rx h
theorem sim_sl {K : PySem.W.Frag} : Sim3 (fun x lo hi H Q => rSlA K x lo hi H Q ∨ rSlS x lo hi H Q ∨ rSlL K x lo hi H Q) fSl := by
  intro s lo hi M k x H Hc Q h rx O q
  unfold fSl at h
  split at h
  · exact .inl (sl_tupD rx O q h)
  · exact .inr (.inl ⟨_, dp_str_inv rx, by rw [sizeLine_eq]; exact h.1, q.dat O (.str _) h.2⟩)
  · obtain ⟨xs, l, hz, h⟩ := h
    obtain ⟨a, vs, rfl, h1, h2⟩ := l.at_ O rx
    exact .inr (.inr ⟨a, vs, rfl, SqL.of h1, fun p hp => q.own O (rps_cut lo hi h2) (by rw [sizeLine_eq]; exact Nat.le_trans (cut_len xs lo hi) hz) hp (h p (O.freeM hp))⟩)
theorem sim_slD {K : PySem.W.Frag} : Sim3 (fun x lo hi H Q => rSlA K x lo hi H Q ∨ rSlS x lo hi H Q ∨ rSlL K x lo hi H Q) fSlD := by
  intro s lo hi M k x H Hc Q h rx O q
  unfold fSlD at h
  split at h
  · exact .inl (sl_tupD rx O q h)
  · exact .inr (.inl ⟨_, dp_str_inv rx, by rw [sizeLine_eq]; exact h.1, q.dat O (.str _) h.2⟩)
  · obtain ⟨xs, l, h⟩ := h
    obtain ⟨a, vs, rfl, h1, h2⟩ := l.at_ O rx
    exact .inr (.inr ⟨a, vs, rfl, SqL.of h1, fun p hp => q.lst O (dqs_cut lo hi (rps_dat h2)) hp h⟩)
theorem xe_slF {f : D3} {lo hi : Option Expr} {dl dh : DO} {p2 : Pos} (hf : Sim3 (fun x lo hi H Q => rSlA X.K x lo hi H Q ∨ rSlS x lo hi H Q ∨ rSlL X.K x lo hi H Q) f) (he : XE X e de) (hl : XO X lo dl) (hu : XO X hi dh) : XE X (.Subscript e (.Slice lo hi none p2) pos) (dSl f de dl dh) :=
  xe_of (pe_slice sl_all he hl hu) (by
    intro Γ M k σ H Hc Q hd F O q
    refine simLE Γ M _ σ H Hc _ hd F O fun v s M1 H1 Hc1 e1 O1 r1 h1 => ?_
    refine ⟨Γ, M1, H1, _, h1, F.ex e1, O1, fun lo M2 H2 Hc2 e2 O2 h2 => ?_⟩
    refine ⟨Γ, M2, H2, _, h2, F.ex (e1.trans e2), O2, fun hi M3 H3 Hc3 e3 O3 h3 => ?_⟩
    exact hf s lo hi M3 k v H3 Hc3 Q h3 (rp_ex (e2.trans e3) r1) O3 (q.ex (e1.trans (e2.trans e3))))
theorem xe_sl {lo hi : Option Expr} {dl dh : DO} {p2 : Pos} (he : XE X e de) (hl : XO X lo dl) (hu : XO X hi dh) : XE X (.Subscript e (.Slice lo hi none p2) pos) (dSl fSl de dl dh) := xe_slF sim_sl he hl hu
theorem xe_slD {lo hi : Option Expr} {dl dh : DO} {p2 : Pos} (he : XE X e de) (hl : XO X lo dl) (hu : XO X hi dh) : XE X (.Subscript e (.Slice lo hi none p2) pos) (dSl fSlD de dl dh) := xe_slF sim_slD he hl hu
/-! ### arguments, displays -/
def dNil : DA := fun _ M k => k [] M
def dCons (de : DE) (das : DA) : DA := fun Γ M k => de Γ M fun s M1 => das Γ M1 fun ss M2 => k (s :: ss) M2
theorem xa_nil : XA X [] dNil := xa_of pa_nil fun Γ M k σ H Hc Q h F O q => q [] [] M H Hc (Evl.Ex.refl H) O .nil h
theorem xa_cons (he : XE X e de) (hr : XA X es das) (hs : starEach (e :: es) X.env = (false, eval e X.env) :: starEach es X.env := by rfl) : XA X (e :: es) (dCons de das) := xa_of (pa_cons he hr hs) (by
  intro Γ M k σ H Hc Q hd F O q
  refine simLE Γ M _ σ H Hc _ hd F O fun v s M1 H1 Hc1 e1 O1 r1 h1 => ?_
  refine simLA Γ M1 _ σ H1 Hc1 _ h1 (F.ex e1) O1 fun vs ss M2 H2 Hc2 e2 O2 r2 h2 => ?_
  exact q _ (s :: ss) _ _ _ (e1.trans e2) O2 (.cons (rp_ex e2 r1) r2) h2)
def dTup (das : DA) : DE := fun Γ M k => das Γ M fun ss M1 => Nat.ble ss.length 100000 = true ∧ ∃ ds, datsOf ss = some ds ∧ k (.dat (.tuple ds)) M1
def dLst (das : DA) : DE := fun Γ M k => das Γ M fun ss M1 => Nat.ble ss.length 100000 = true ∧ ∀ p, M1 p = none → k (.own p) (put M1 p (.lst ss))
def dLstD (das : DA) : DE := fun Γ M k => das Γ M fun ss M1 => Nat.ble ss.length 100000 = true ∧ ∃ ds, datsOf ss = some ds ∧ k (.dat (.list ds)) M1
theorem ble_size {n : Nat} (h : Nat.ble n 100000 = true) : n ≤ sizeLine := by
  have := Nat.le_of_ble_eq_true h
  rw [sizeLine_eq]; omega
theorem xe_tup {x1} (h : XA X es das) : XE X (.Tuple es x1 pos) (dTup das) := xe_of (pe_tup h) (by
  intro Γ M k σ H Hc Q hd F O q
  refine simLA Γ M _ σ H Hc _ hd F O fun vs ss M1 H1 Hc1 e1 O1 r1 h1 => ?_
  obtain ⟨hz, ds, e2, h2⟩ := h1
  have := datsOf_eq e2
  subst this
  exact ⟨by rw [rps_len r1]; exact ble_size hz, fun p hp => (q.ex e1).tup O1 (rps_dat r1) hp h2⟩)
theorem xe_lst (h : XA X es das) : XE X (.List es pos) (dLst das) := xe_of (pe_lst h) (by
  intro Γ M k σ H Hc Q hd F O q
  refine simLA Γ M _ σ H Hc _ hd F O fun vs ss M1 H1 Hc1 e1 O1 r1 h1 => ?_
  exact ⟨by rw [rps_len r1]; exact ble_size h1.1, fun p hp => (q.ex e1).own O1 r1 (ble_size h1.1) hp (h1.2 p (O1.freeM hp))⟩)
theorem xe_lstD (h : XA X es das) : XE X (.List es pos) (dLstD das) := xe_of (pe_lst h) (by
  intro Γ M k σ H Hc Q hd F O q
  refine simLA Γ M _ σ H Hc _ hd F O fun vs ss M1 H1 Hc1 e1 O1 r1 h1 => ?_
  obtain ⟨hz, ds, e2, h2⟩ := h1
  have := datsOf_eq e2
  subst this
  exact ⟨by rw [rps_len r1]; exact ble_size hz, fun p hp => (q.ex e1).lst O1 (rps_dat r1) hp h2⟩)
/-! ### calls of built-ins -/
abbrev DC := List Sl → Mem → DK → Prop
def SimC (r : List V → Hp → VK → Prop) (f : DC) : Prop := ∀ ss M k xs H Hc Q, f ss M k → Rps H ss xs → Own H Hc M → On H k Q → r xs Hc Q
def dCB (f : DC) (das : DA) : DE := fun Γ M k => das Γ M fun ss M1 => f ss M1 k
theorem sim_cb {r : List V → Hp → VK → Prop} {f : DC} {t : TA} (h : SimC r f) (ha : SimA t das) : SimE (tCB r t) (dCB f das) := by
  intro Γ M k σ H Hc Q hd F O q
  exact ha Γ M _ σ H Hc _ hd F O fun vs ss M1 H1 Hc1 e1 O1 r1 h1 => h ss M1 k vs H1 Hc1 Q h1 r1 O1 (q.ex e1)
theorem xe_callB {r : List V → Hp → VK → Prop} {f : DC} {ex : Expr} (hf : SimC r f) (h : PE X ex (tCB r (LA das))) : XE X ex (dCB f das) := xe_of h (sim_cb hf simLA)
def fLen : DC := fun ss M k => match ss with
  | [.dat (.tuple ds)] => k (.dat (.int ds.length)) M
  | [.dat (.list ds)] => k (.dat (.int ds.length)) M
  | [.own a] => ∃ xs, M a = some (.lst xs) ∧ k (.dat (.int xs.length)) M
  | [.dat (.str z)] => z.length ≤ 16777216 ∧ k (.dat (.int z.length)) M
  | _ => False
theorem CallR.or {f : Value} {r r' : List V → Hp → VK → Prop} (h : CallR X f r) (h' : CallR X f r') : CallR X f (fun x H Q => r x H Q ∨ r' x H Q) := by
  intro pins s σ H x u Q I rx q
  rcases q with q | q
  · exact h pins s σ H x u Q I rx q
  · exact h' pins s σ H x u Q I rx q
abbrev rLenA (K : PySem.W.Frag) : List V → Hp → VK → Prop := fun xs H Q => (∃ p ys, xs = [.ref p] ∧ (SqL K H p ys ∨ SqT K H p ys) ∧ Q (.int ys.length) H) ∨ ∃ z, xs = [.str z] ∧ z.length ≤ sizeLine ∧ Q (.int z.length) H
theorem call_lenA : CallR X (.builtin "len") (rLenA X.K) := CallR.or call_len_seq call_len_str
theorem rps1 {H : Hp} {s : Sl} {xs : List V} (h : Rps H [s] xs) : ∃ x, xs = [x] ∧ Rp H s x := by
  cases h with
  | cons r t => cases t; exact ⟨_, rfl, r⟩
theorem rps2 {H : Hp} {s t : Sl} {xs : List V} (h : Rps H [s, t] xs) : ∃ x y, xs = [x, y] ∧ Rp H s x ∧ Rp H t y := by
  cases h with
  | cons r q => obtain ⟨y, rfl, h2⟩ := rps1 q; exact ⟨_, _, rfl, r, h2⟩
theorem sim_len {K : PySem.W.Frag} : SimC (rLenA K) fLen := by
  intro ss M k xs H Hc Q h r O q
  unfold fLen at h
  split at h
  · obtain ⟨x, rfl, rx⟩ := rps1 r
    obtain ⟨p, vs, rfl, h1, h2⟩ := dp_tup_inv rx
    rw [← dps_len h2] at h
    exact .inl ⟨p, vs, rfl, .inr (SqT.of (O.ex _ _ h1)), q.dat O (.int _) h⟩
  · obtain ⟨x, rfl, rx⟩ := rps1 r
    obtain ⟨p, vs, rfl, h1, h2⟩ := dp_lst_inv rx
    rw [← dps_len h2] at h
    exact .inl ⟨p, vs, rfl, .inl (SqL.of (O.ex _ _ h1)), q.dat O (.int _) h⟩
  · obtain ⟨x, rfl, rx⟩ := rps1 r
    obtain ⟨ys, e1, h⟩ := h
    cases rx
    obtain ⟨_, vs, h1, h2⟩ := O.ob _ _ e1
    rw [← rps_len h2] at h
    exact .inl ⟨_, vs, rfl, .inl (SqL.of h1), q.dat O (.int _) h⟩
  · obtain ⟨x, rfl, rx⟩ := rps1 r
    exact .inr ⟨_, by rw [dp_str_inv rx], by rw [sizeLine_eq]; exact h.1, q.dat O (.int _) h.2⟩
  · exact h.elim
/-- isinstance -/
def tyD : Dt → String
  | .none => "NoneType" | .bool _ => "bool" | .int _ => "int" | .str _ => "str" | .list _ => "list" | .tuple _ => "tuple" | .dict _ => "dict"
def isiD (T : String) (d : Dt) : Bool := tyD d == T || (tyD d == "bool" && T == "int")
def fIsi : DC := fun ss M k => match ss with
  | [.dat d, .raw (.ty T)] => (T = "int" ∨ T = "bool" ∨ T = "tuple" ∨ T = "list" ∨ T = "str") ∧ k (.dat (.bool (isiD T d))) M
  | _ => False
theorem kit_tab : ∀ a ∈ ["NoneType", "bool", "int", "str", "list", "tuple"], ∀ T ∈ ["int", "bool", "tuple", "list", "str"], kitB a T = some (a == T || (a == "bool" && T == "int")) := by decide +kernel
theorem kit_all {K : PySem.W.Frag} (d : Dt) (hd : ∀ kvs, d ≠ .dict kvs) {T : String} (hT : T = "int" ∨ T = "bool" ∨ T = "tuple" ∨ T = "list" ∨ T = "str") : PySem.W.kitOne K (.type (tyD d)) (.type T) = some (isiD T d) := by
  refine kit_ty (kit_tab (tyD d) ?_ T ?_)
  · cases d with
    | dict kvs => exact absurd rfl (hd kvs)
    | _ => simp [tyD]
  · rcases hT with rfl | rfl | rfl | rfl | rfl <;> simp
theorem ty_of_dq {K : PySem.W.Frag} {H : Hp} {x : V} {d : Dt} (r : Dq H x d) : TyX K H x (.type (tyD d)) := by
  cases r with
  | non => exact .base .non
  | bl b => exact .base (.bl b)
  | int i => exact .base (.int i)
  | str x => exact .base (.str x)
  | lst h _ => exact .base (.lst h)
  | tup h _ => exact .base (.tup h)
theorem dq_no_dict {H : Hp} {x : V} {d : Dt} (r : Dq H x d) : ∀ kvs, d ≠ .dict kvs := by
  rintro kvs rfl
  cases r
theorem sim_isi {K : PySem.W.Frag} : SimC (rIsi K) fIsi := by
  intro ss M k xs H Hc Q h r O q
  unfold fIsi at h
  split at h
  · obtain ⟨x, y, rfl, rx, ry⟩ := rps2 r
    have ry' : y = V.ty _ := ry
    subst ry'
    have rc := dp_ex O.ex rx
    exact ⟨x, _, _, _, _, rfl, .ty _, ty_of_dq rc, kit_all _ (dq_no_dict rc) h.1, q.dat O (.bl _) h.2⟩
  · exact h.elim
/-- list(xs): a new one, ours -/
def fList : DC := fun ss M k => match ss with
  | [.dat (.tuple ds)] => ds.length ≤ 16777216 ∧ ∀ p, M p = none → k (.own p) (put M p (.lst (ds.map .dat)))
  | [.dat (.list ds)] => ds.length ≤ 16777216 ∧ ∀ p, M p = none → k (.own p) (put M p (.lst (ds.map .dat)))
  | [.own a] => ∃ xs, M a = some (.lst xs) ∧ xs.length ≤ 16777216 ∧ ∀ p, M p = none → k (.own p) (put M p (.lst xs))
  | _ => False
abbrev rListA (K : PySem.W.Frag) : List V → Hp → VK → Prop := fun xs H Q => ∃ p ys, xs = [.ref p] ∧ (SqL K H p ys ∨ SqT K H p ys) ∧ ∀ l, H l = none → Q (.ref l) (upd H l (.lst ys))
theorem sim_list {K : PySem.W.Frag} : SimC (rListA K) fList := by
  intro ss M k xs H Hc Q h r O q
  unfold fList at h
  split at h
  · obtain ⟨x, rfl, rx⟩ := rps1 r
    obtain ⟨p, vs, rfl, h1, h2⟩ := dp_tup_inv rx
    exact ⟨p, vs, rfl, .inr (SqT.of (O.ex _ _ h1)), fun l hl => q.own O (dat_rps h2) (by rw [sizeLine_eq, List.length_map]; exact h.1) hl (h.2 l (O.freeM hl))⟩
  · obtain ⟨x, rfl, rx⟩ := rps1 r
    obtain ⟨p, vs, rfl, h1, h2⟩ := dp_lst_inv rx
    exact ⟨p, vs, rfl, .inl (SqL.of (O.ex _ _ h1)), fun l hl => q.own O (dat_rps h2) (by rw [sizeLine_eq, List.length_map]; exact h.1) hl (h.2 l (O.freeM hl))⟩
  · obtain ⟨x, rfl, rx⟩ := rps1 r
    obtain ⟨ys, e1, hz, h⟩ := h
    cases rx
    obtain ⟨_, vs, h1, h2⟩ := O.ob _ _ e1
    exact ⟨_, vs, rfl, .inl (SqL.of h1), fun l hl => q.own O h2 (by rw [sizeLine_eq]; exact hz) hl (h l (O.freeM hl))⟩
  · exact h.elim
/-- repr -/
def fRepr : DC := fun ss M k => match ss with
  | [.dat d] => d.showable = true ∧ d.shown.length ≤ 16777216 ∧ d.depth ≤ 40 ∧ k (.dat (.str d.shown)) M
  | _ => False
def rRepr (K : PySem.W.Frag) : List V → Hp → VK → Prop := fun xs H Q => ∃ x d, xs = [x] ∧ Dq H x d ∧ d.showable = true ∧ d.shown.length ≤ 16777216 ∧ d.depth ≤ 40 ∧ Q (.str d.shown) H
theorem sim_repr {K : PySem.W.Frag} : SimC (rRepr K) fRepr := by
  intro ss M k xs H Hc Q h r O q
  unfold fRepr at h
  split at h
  · obtain ⟨x, rfl, rx⟩ := rps1 r
    exact ⟨x, _, rfl, dp_ex O.ex rx, h.1, h.2.1, h.2.2.1, q.dat O (.str _) h.2.2.2⟩
  · exact h.elim
/-- all([..]) -/
def boolsOf : List Dt → Option (List Bool)
  | [] => some []
  | .bool b :: ds => (boolsOf ds).map (b :: ·)
  | _ => none
end
end DL
namespace DL
open PySem PySem.Spec PyProof.Rows L2
open Evl (Ex)
/-! ### defs, where no repr is under way around -/
/-- room, and no repr under way -/
structure Rm (k : Nat) (A : Around) : Prop where
  rm : Room k A
  gu : A.guards = some []
theorem Rm.mono {j k : Nat} {A : Around} (r : Rm k A) (h : j ≤ k) : Rm j A := ⟨r.rm.mono h, r.gu⟩
/-- a promise without heaps: arguments, what is ours, the way on; the way out by an error -/
abbrev Pr := List Sl → Mem → DK → Prop
structure Holds (P : Program) (w : World) (K : PySem.W.Frag) (mg : Str → Option Value) (base : Heap) (k : Nat) (f : Addr) (fd : FuncData) (ps : List Str) (pr : Pr) : Prop where
  len : ∀ ss M q, pr ss M q → ss.length = ps.length
  go : ∀ (A : Around) (outer : List Env) (s : Shared) (Hc : Hp) (args : Args) (us : List Value) (vs : List V) (ss : List Sl) (M : Mem) (H : Hp) (q : DK) (Q : VK), Rm k A → Env0 P w K mg base A outer s Hc →
    BindsTo s fd args (ps.zip us) → Vals vs us → Rps H ss vs → Own H Hc M → pr ss M q → On H q Q →
    codeAny (model P w) A (.call (.ref f) args) (CR CX0 outer P w Hc s Q fun _ _ _ => False) s
theorem Holds.mono {P : Program} {w : World} {K : PySem.W.Frag} {mg : Str → Option Value} {base : Heap} {j k : Nat} {f : Addr} {fd : FuncData} {ps : List Str} {pr : Pr} (F : Holds P w K mg base j f fd ps pr) (h : j ≤ k) : Holds P w K mg base k f fd ps pr :=
  ⟨F.len, fun A outer s Hc args us vs ss M H q Q r => F.go A outer s Hc args us vs ss M H q Q (r.mono h)⟩
theorem Holds.imp {P : Program} {w : World} {K : PySem.W.Frag} {mg : Str → Option Value} {base : Heap} {k : Nat} {f : Addr} {fd : FuncData} {ps : List Str} {pr pr' : Pr} (F : Holds P w K mg base k f fd ps pr) (h : ∀ ss M q, pr' ss M q → pr ss M q) : Holds P w K mg base k f fd ps pr' :=
  ⟨fun ss M q z => F.len ss M q (h _ _ _ z), fun A outer s Hc args us vs ss M H q Q a1 a2 a3 a4 a5 a6 a7 => F.go A outer s Hc args us vs ss M H q Q a1 a2 a3 a4 a5 a6 (h _ _ _ a7)⟩
section
variable {X : Cx} {e : Expr} {es : List Expr} {de : DE} {das : DA} {pos p : Pos} {x : Str} {k : Nat} {f : Addr} {fd : FuncData} {ps : List Str} {pr : Pr}
def dCall (pr : Pr) (das : DA) : DE := fun Γ M k => das Γ M fun ss M1 => pr ss M1 k
/-- the callee goes its way -/
theorem call_go {pins : List (Addr × Obj)} {σ : L2.St} {Hc H : Hp} {M : Mem} {s : Shared} {Q : VK} {q : DK} {us : List Value} {vs : List V} {ss : List Sl} (F : Holds X.prog X.w X.K X.mg X.base k f fd ps pr) (hr : Rm k X.A) (hb : Binds X.K fd ps [])
    (I : Inv X pins σ Hc s) (r : Vals vs us) (rs : Rps H ss vs) (O : Own H Hc M) (h : pr ss M q) (on : On H q Q) : wpAny (model X.prog X.w) X.A (call (.ref f) us) (EP X pins σ Q) X.xe s := by
  have e1 : us.length = ps.length := by rw [← r.length, rps_len rs]; exact F.len _ _ _ h
  have e2 : BindsTo s fd ⟨us, []⟩ (ps.zip us) := by
    have z := hb s us I.kIn (by rw [List.append_nil]; exact e1)
    rw [List.append_nil] at z
    exact z
  refine wpAny_call (codeAny_mono (F.go X.A X.stack s Hc ⟨us, []⟩ us vs ss M H q Q hr I.env0 e2 r rs O h on) fun res s' hq => ?_)
  match res, hq with
  | .ok (.ret u), hq => exact I.after hq
theorem xe_call (F : Holds X.prog X.w X.K X.mg X.base k f fd ps pr) (hr : Rm k X.A) (hm : X.mg x = some (.ref f)) (hk : PySem.W.keepIn X.K (.ref f) = true) (hb : Binds X.K fd ps []) (ha : XA X (e :: es) das) (hg : Gl X x := by rfl)
    (hdb : (x == ("__debug__" : Str)) = false := by decide) (he : starEach (e :: es) X.env = (false, eval e X.env) :: starEach es X.env := by rfl) (hpl : (backTo pos (starEach es X.env)).any (·.1) = false := by rfl) : XE X (.Call (.Name x p) (e :: es) [] pos) (dCall pr das) := by
  refine ⟨fun pins s σ Hc Q I ⟨Γ, M, H, q, hd, F', O, on⟩ => ?_⟩
  have ha' : PA X (e :: es) (LA das) := ha
  have hR : LA das σ Hc fun vs H1 => ∃ ss M1 H2, Rps H2 ss vs ∧ Own H2 H1 M1 ∧ pr ss M1 q ∧ On H2 q Q :=
    ⟨Γ, M, H, _, hd, F', O, fun vs ss M' H' Hc' e1 O1 r1 h1 => ⟨ss, M', H', r1, O1, h1, on.ex e1⟩⟩
  refine wpAny_Call_Name_kw (ld_glob I hg hm ?_ hdb)
  refine PySem.W.callWith_K (h₀ := X.base) I.ok.mod.kin hk (thn (ha'.run pos pins s σ Hc _ I hR) fun us s1 z => ?_) he hpl
  obtain ⟨vs, H1, I1, r, ss, M1, H2, z1, z2, z3, z4⟩ := z
  exact ⟨I1.kIn, call_go F hr hb I1 r z1 z2 z3 z4⟩
theorem xe_call0 (F : Holds X.prog X.w X.K X.mg X.base k f fd ps pr) (hr : Rm k X.A) (hm : X.mg x = some (.ref f)) (hk : PySem.W.keepIn X.K (.ref f) = true) (hb : Binds X.K fd ps []) (hg : Gl X x := by rfl)
    (hdb : (x == ("__debug__" : Str)) = false := by decide) : XE X (.Call (.Name x p) [] [] pos) (dCall pr dNil) := by
  refine ⟨fun pins s σ Hc Q I ⟨Γ, M, H, q, hd, F', O, on⟩ => ?_⟩
  refine wpAny_Call_Name_kw (ld_glob I hg hm ?_ hdb)
  refine PySem.W.callWith_K0 I.kIn hk ?_
  exact call_go F hr hb (us := []) (vs := []) (ss := []) I .nil .nil O hd on
end
def startF (N : List Str) (ss : List Sl) : Fm := ss.map some ++ List.replicate (N.length - ss.length) none
theorem fr_start {H : Hp} {ss : List Sl} {vs : List V} (N : List Str) (r : Rps H ss vs) : Fr H (L2.start N vs) (startF N ss) := by
  have hl := rps_len r
  have key : ∀ (i : Nat) (s : Sl), (startF N ss)[i]? = some (some s) → ∃ v, (L2.start N vs)[i]? = some (some v) ∧ Rp H s v := fun i s h => by
    unfold startF at h
    by_cases hi : i < ss.length
    · rw [List.getElem?_append_left (by simpa using hi), List.getElem?_map] at h
      cases e : ss[i]? with
      | none => rw [e] at h; cases h
      | some s' =>
        rw [e] at h
        cases h
        obtain ⟨v, h1, h2⟩ := rps_get' r e
        refine ⟨v, ?_, h2⟩
        unfold L2.start
        rw [List.getElem?_append_left (by simpa [hl] using hi), List.getElem?_map, h1] <;> rfl
    · rw [List.getElem?_append_right (by simpa using hi), List.getElem?_replicate] at h
      split at h <;> cases h
  refine ⟨by unfold L2.start startF; simp [hl], fun i s _ h => key i s h, fun i H0 h => ?_⟩
  obtain ⟨v, _, r⟩ := key i _ h
  exact r.elim
/-! ### a def of the text, whatever its defaults are (its callers give them all) -/
structure FunV (K : PySem.W.Frag) (x qual : Str) (st : Stmt) (f : Addr) (fd : FuncData) : Prop where
  ex : ∃ (oc : Value) (od : Option Addr) (dV kV doc pm : Value) (an : Option Addr) (cdv ct : Value) (osl : Array (Option Value)),
    fd = PySem.W.fnOf x qual (defArgs st) (defBody st) (defScope st) dV kV doc pm an cdv ct ∧ K.lookup f = some ⟨oc, od, .func fd, osl⟩ ∧ PySem.W.codeIn K cdv qual = true
  kp : PySem.W.keepIn K (.ref f) = true
theorem funV_mk {K : PySem.W.Frag} {x qual : Str} {st : Stmt} {f : Addr} {oc : Value} {od an : Option Addr} {osl : Array (Option Value)} {dV kV doc pm cdv ct : Value} (l : K.lookup f = some ⟨oc, od, .func (PySem.W.fnOf x qual (defArgs st) (defBody st) (defScope st) dV kV doc pm an cdv ct), osl⟩)
    (c : PySem.W.codeIn K cdv qual = true) (k : PySem.W.keepIn K (.ref f) = true) : FunV K x qual st f (PySem.W.fnOf x qual (defArgs st) (defBody st) (defScope st) dV kV doc pm an cdv ct) := ⟨⟨oc, od, dV, kV, doc, pm, an, cdv, ct, osl, rfl, l, c⟩, k⟩
/-- T is a tuple of n values -/
def dfB (K : PySem.W.Frag) (T : Addr) (n : Nat) : Bool := match K.lookup T with
  | some ⟨_, _, .seq its _, _⟩ => its.size == n
  | _ => false
theorem binds_dfl {K : PySem.W.Frag} {fd : FuncData} {ps : List Str} {T : Addr} {n : Nat} (d : dfB K T n = true)
    (h : ∀ us its : List Value, us.length = ps.length → its.length = n → ∃ k, bindArgs fd ⟨us, []⟩ = seqItems? (.ref T) >>= k ∧ k (some its.toArray) = pure (ps.zip us)) : Binds K fd ps [] := fun s us X hl => by
  rw [List.append_nil] at hl ⊢
  unfold dfB at d
  split at d
  · rename_i oc od its m sl e
    obtain ⟨k, e1, e2⟩ := h us its.toList hl (by simpa using d)
    refine BindsTo.of_looks fun M => ?_
    rw [e1]
    exact looks_items X e rfl (.of_pure (by simpa using e2))
  · cases d
section
variable {P : Program} {w : World} {K : PySem.W.Frag} {mg : Str → Option Value} {base : Heap}
/-- where a body stands -/
abbrev Bd (P : Program) (w : World) (K : PySem.W.Frag) (mg : Str → Option Value) (base : Heap) (N : List Str) (qual : Str) (st : Stmt) (f : Addr) (cdv : Value) (A : Around) (outer : List Env) (s : Shared) (H : Hp) : Cx :=
  (cxOf CX0 P w K mg base N qual (defScope st) f cdv A outer s H fun _ _ _ => False).nox
/-- a def by its body: a term of rules, its reading -/
theorem holds_of {nm qual : Str} {st : Stmt} {f : Addr} {fd : FuncData} {N ps : List Str} {k : Nat} {pr : Pr} {ds : DS} (F : FunV K nm qual st f fd) (S : FnScope N ps (defScope st)) (len : ∀ ss M q, pr ss M q → ss.length = ps.length)
    (body : ∀ (cdv : Value) (A : Around) (outer : List Env) (s : Shared) (H : Hp), Rm k (Bd P w K mg base N qual st f cdv A outer s H).A → XSs (Bd P w K mg base N qual st f cdv A outer s H) (defBody st) ds)
    (read : ∀ ss M q, pr ss M q → ds { nx := fun _ M' => q (.dat .none) M', rt := q } (startF N ss) M) : Holds P w K mg base (k + 1) f fd ps pr := by
  obtain ⟨oc, od, dV, kV, doc, pm, an, cdv, ct, osl, rfl, lk, hcd⟩ := F.ex
  refine ⟨len, fun A outer s Hc args us vs ss M H q Q hr e0 hb r rs O hp on => ?_⟩
  have gu2 : (A.deeper (envOfC qual (defScope st) s.heap.objs.size f cdv)).guards = some [] := hr.gu
  -- the library's rule at this very caller: its room, and the guards that it does not speak of
  have KX : K.In s.heap := e0.mod.kin.keeps fun b o e => (e0.bs b o e).1
  have lim : s.heap.NoLimit := e0.mod.nolimit.keeps fun b o z => (e0.bs b o z).1
  have hl : vs.length = ps.length := by rw [rps_len rs]; exact len _ _ _ hp
  have kinds : ∀ y ∈ ps.zip us, (defScope st).names.lookup y.1 = some .local ∨ ((defScope st).names.lookup y.1 = some .cell ∧ ((cellsFrom (s.heap.objs.size + 1) (defScope st).names []).lookup y.1).isSome = true) := by
    rintro ⟨n, v⟩ hy
    rcases S.par n (List.of_mem_zip hy).1 with z | z
    · exact .inl z
    · exact .inr ⟨z, PySem.W.cellsFrom_some _ _ _ (.inl z)⟩
  refine codeAny_call_function hr.rm.depth (KX _ _ lk) rfl S.co S.gen rfl (PySem.W.codeRec_of KX hcd) (hb _ _ _ _ (wpAny_newFunctionEnv_cells S.kind kinds fun env he s1 z => ?_))
  subst he
  refine ⟨lim.keeps z.toInCall.keep, codeAny_func ?_⟩
  have B := body cdv A outer s Hc ⟨hr.rm.deeper _, gu2⟩
  have I : Inv (cxOf CX0 P w K mg base N qual (defScope st) f cdv A outer s Hc fun _ _ _ => False) [] (L2.start N vs) Hc s1 := inv_start S hr.rm.hd e0 hl r z
  have B' : PSs (cxOf CX0 P w K mg base N qual (defScope st) f cdv A outer s Hc fun _ _ _ => False) (defBody st) (LS ds) := B.nox
  have here : LS ds { nx := fun _ H' => Q .non H', rt := Q } (L2.start N vs) Hc := ⟨_, M, H, _, read ss M q hp, fr_start N rs, O,
    ⟨fun σ' Γ' M' H' Hc' e1 _ O1 h1 => on .non (.dat .none) M' H' Hc' e1 O1 .non h1, on, fun _ _ _ _ _ _ _ _ h1 => h1.elim, fun _ _ _ _ _ _ _ _ h1 => h1.elim⟩⟩
  refine wpAny_mono (B'.run [] s1 (L2.start N vs) Hc _ I here) (fun fl s' hs => ?_) fun _ _ z => z
  match fl, hs with
  | .ret u, ⟨v, _, H', J, rv, h1⟩ => exact ⟨v, H', J.os, J.bare, J.base, J.hok, rv, h1⟩
  | .next, ⟨_, H', J, h1⟩ => exact ⟨.non, H', J.os, J.bare, J.base, J.hok, rfl, h1⟩
  | .brk, ⟨_, _, _, h1⟩ => exact h1.elim
  | .cont, ⟨_, _, _, h1⟩ => exact h1.elim
end
/-! ### repr -/
section
variable {X : Cx}
theorem call_repr (hg : X.A.guards = some []) (hu : X.A.units + 64 < cLine) : CallR X (.builtin "repr") (rRepr X.K) := by
  intro pins s σ H xs us Q I r h
  obtain ⟨x, d, rfl, hd, h1, h2, h3, q⟩ := h
  obtain ⟨u, rfl, ru⟩ := vals1 r
  have h2' : d.shown.length ≤ sizeLine := by rw [sizeLine_eq]; exact h2
  obtain ⟨as, rd⟩ := Dp.reads I d x u (dq_dp hd) ru
  have big : ∀ a, u = .ref a → (∀ kvs, d ≠ .dict kvs) → wpAny (model X.prog X.w) X.A (call (.builtin "repr") [u]) (EP X pins σ Q) X.xe s := fun a e nd => by
    subst e
    refine repr_of_reads' rd h1 (fun z => ?_) hg (by omega) (fun _ _ z => z) (fun h' u tk kp => ⟨.str _, H, I.kept (t' := tk) kp, ⟨_, rfl⟩, q⟩) h2'
    exact absurd z (by rw [nodict hd]; decide)
  cases hd with
  | non => cases ru; exact PySem.P.repr_of_none ⟨.str _, H, I.tok _, ⟨_, rfl⟩, q⟩
  | bl b => cases ru; exact PySem.P.repr_of_bool ⟨.str _, H, I.tok _, ⟨_, rfl⟩, q⟩
  | int i =>
    obtain ⟨t, rfl⟩ := ru
    exact PySem.P.repr_of_int (by simpa [PyData.showable] using h1) ⟨.str _, H, I.tok _, ⟨_, rfl⟩, q⟩
  | str z =>
    obtain ⟨t, rfl⟩ := ru
    exact PySem.P.repr_of_str ⟨.str _, H, I.tok _, ⟨_, rfl⟩, q⟩ h2'
  | lst _ _ => exact big _ ru fun _ z => by cases z
  | tup _ _ => exact big _ ru fun _ z => by cases z
where
  nodict {H : Hp} {x : V} {d : Dt} (h : Dq H x d) : d.hasDict = false := nd1 d x h
  nd1 {H : Hp} : ∀ (d : Dt) (x : V), Dq H x d → d.hasDict = false
    | .none, _, _ => rfl
    | .bool _, _, _ => rfl
    | .int _, _, _ => rfl
    | .str _, _, _ => rfl
    | .list ds, _, h => by cases h with | lst _ ha => unfold PyData.hasDict; exact nd2 ds _ ha
    | .tuple ds, _, h => by cases h with | tup _ ha => unfold PyData.hasDict; exact nd2 ds _ ha
    | .dict _, _, h => by cases h
  nd2 {H : Hp} : ∀ (ds : List Dt) (xs : List V), DqAll H xs ds → PyData.hasDictAll ds = false
    | [], _, _ => rfl
    | d :: ds, _, h => by cases h with | cons h1 h2 => unfold PyData.hasDictAll; rw [nd1 d _ h1, nd2 ds _ h2] <;> rfl
end
end DL
namespace DL
open PySem PySem.Spec PyProof.Rows L2
open Evl (Ex)
section
variable {X : Cx} {e a b c : Expr} {es : List Expr} {de da db : DE} {das : DA} {pos p : Pos} {st : Stmt} {rest body : List Stmt} {d1 d2 : DS} {x : Str}
/-! ### statements -/
def dNext : DS := fun D Γ M => D.nx Γ M
def dSeq (t u : DS) : DS := fun D Γ M => t { D with nx := u D } Γ M
theorem OnD.seq {H : Hp} {D : DEnds} {E : Ends} {u : TS} {v : DS} (o : OnD H D E) (h : SimS u v) : OnD H { D with nx := v D } { E with nx := u E } :=
  ⟨fun σ' Γ' M' H' Hc' e1 F1 O1 h1 => h Γ' M' D σ' H' Hc' E h1 F1 O1 (o.ex e1), o.rt, o.bk, o.ct⟩
theorem xss_nil : XSs X [] dNext := xss_of pss_nil fun Γ M D σ H Hc E h F O q => q.nx σ Γ M H Hc (Evl.Ex.refl H) F O h
theorem xss_cons (h1 : XS X st d1) (h2 : XSs X rest d2) : XSs X (st :: rest) (dSeq d1 d2) := xss_of (pss_cons h1 h2) fun Γ M D σ H Hc E h F O q => simLS Γ M _ σ H Hc _ h F O (q.seq simLS)
theorem xss_one (h1 : XS X st d1) : XSs X [st] d1 := pss_one h1
/-- a statement, then the rest from a word between them -/
def dCut (t u : DS) : DS := fun D Γ M => ∃ Mid : Fm → Mem → Prop, t { D with nx := Mid } Γ M ∧ ∀ Γ' M', Mid Γ' M' → u D Γ' M'
theorem xss_cut (h1 : XS X st d1) (h2 : XSs X rest d2) : XSs X (st :: rest) (dCut d1 d2) := xss_of (pss_cons h1 h2) fun Γ M D σ H Hc E h F O q => by
  obtain ⟨Mid, h, hm⟩ := h
  exact simLS Γ M _ σ H Hc _ h F O ⟨fun σ' Γ' M' H' Hc' e1 F1 O1 g => simLS Γ' M' D σ' H' Hc' E (hm Γ' M' g) F1 O1 (q.ex e1), q.rt, q.bk, q.ct⟩
def dDrop (de : DE) : DS := fun D Γ M => de Γ M fun _ M1 => D.nx Γ M1
theorem xs_expr (he : XE X e de) (hs : swapsWith e none pos.line X.env = pure false := by rfl) : XS X (.Expr e pos) (dDrop de) := xs_of (ps_expr he hs) fun Γ M D σ H Hc E h F O q =>
  simLE Γ M _ σ H Hc _ h F O fun v s M1 H1 Hc1 e1 O1 r1 h1 => q.nx σ Γ M1 H1 Hc1 e1 (F.ex e1) O1 h1
def dRet (de : DE) : DS := fun D Γ M => de Γ M D.rt
theorem xs_ret (he : XE X e de) : XS X (.Return (some e) pos) (dRet de) := xs_of (ps_ret he) fun Γ M D σ H Hc E h F O q => simLE Γ M _ σ H Hc _ h F O q.rt
def dRetN : DS := fun D _ M => D.rt (.dat .none) M
theorem xs_retN : XS X (.Return none pos) dRetN := xs_of ps_retN fun Γ M D σ H Hc E h F O q => q.rt .non (.dat .none) M H Hc (Evl.Ex.refl H) O .non h
def dPass : DS := fun D Γ M => D.nx Γ M
theorem xs_pass : XS X (.Pass pos) dPass := xs_of ps_pass fun Γ M D σ H Hc E h F O q => q.nx σ Γ M H Hc (Evl.Ex.refl H) F O h
def dBrk : DS := fun D Γ M => D.bk Γ M
theorem xs_brk : XS X (.Break pos) dBrk := xs_of ps_break fun Γ M D σ H Hc E h F O q => q.bk σ Γ M H Hc (Evl.Ex.refl H) F O h
def dCt : DS := fun D Γ M => D.ct Γ M
theorem xs_ct : XS X (.Continue pos) dCt := xs_of ps_continue fun Γ M D σ H Hc E h F O q => q.ct σ Γ M H Hc (Evl.Ex.refl H) F O h
def dIfS (t : DB) (u v : DS) : DS := fun D Γ M => t Γ M fun b M1 => (b = true → u D Γ M1) ∧ (b = false → v D Γ M1)
theorem xs_if {ba : DB} {sa sb : List Stmt} (hc : XB X c ba) (ha : XSs X sa d1) (hb : XSs X sb d2) : XS X (.If c sa sb pos) (dIfS ba d1 d2) := xs_of (ps_if hc ha hb) fun Γ M D σ H Hc E h F O q =>
  simLB Γ M _ σ H Hc _ h F O fun v M1 H1 Hc1 e1 O1 h1 => by
    cases v with
    | true => rw [if_pos rfl]; exact simLS Γ M1 D σ H1 Hc1 E (h1.1 rfl) (F.ex e1) O1 (q.ex e1)
    | false => rw [if_neg Bool.false_ne_true]; exact simLS Γ M1 D σ H1 Hc1 E (h1.2 rfl) (F.ex e1) O1 (q.ex e1)
/-! ### targets -/
abbrev DG := Sl → Fm → Mem → (Fm → Mem → Prop) → Prop
def LG (g : DG) : TG := fun v σ Hc Q => ∃ s Γ M H k, g s Γ M k ∧ Rp H s v ∧ Fr H σ Γ ∧ Own H Hc M ∧ OnF H k Q
abbrev XG (X : Cx) (tg : Expr) (g : DG) : Prop := PG X tg (LG g)
def gN (i : Nat) : DG := fun s Γ M k => k (Γ.set i (some s)) M
theorem pg_of {tg : Expr} {t t' : TG} (h : PG X tg t) (s : ∀ v σ Hc Q, t' v σ Hc Q → t v σ Hc Q) : PG X tg t' := by
  obtain ⟨h⟩ := h
  exact ⟨by first | exact fun a b c d e f g i j k => h a b c d e f g i j (s _ _ _ _ k) | exact fun a b c d e f g i j => h a b c d e f g i (s _ _ _ _ j) | exact fun a b c d e f g i => h a b c d e f g (s _ _ _ _ i) | exact fun a b c d e f g i j k l => h a b c d e f g i j k (s _ _ _ _ l)⟩
theorem xg_name {i : Nat} (h : PG X e (gName i)) : XG X e (gN i) := pg_of h fun v σ Hc Q ⟨s, Γ, M, H, k, h1, r, F, O, q⟩ => q _ _ M H Hc (Evl.Ex.refl H) (F.set r) O h1
abbrev DGs := List Dt → Fm → Mem → (Fm → Mem → Prop) → Prop
def LGs (g : DGs) : TGs := fun vs σ Hc Q => ∃ ds Γ M H k, g ds Γ M k ∧ DqAll H vs ds ∧ Fr H σ Γ ∧ Own H Hc M ∧ OnF H k Q
def gT (n : Nat) (g : DGs) : DG := fun s Γ M k => match s with
  | .dat (.tuple ds) => ds.length = n ∧ g ds Γ M k
  | _ => False
def gsN : DGs := fun ds Γ M k => match ds with
  | [] => k Γ M
  | _ => False
def gsC (g : DG) (gs : DGs) : DGs := fun ds Γ M k => match ds with
  | [] => False
  | d :: ds => g (.dat d) Γ M fun Γ1 M1 => gs ds Γ1 M1 k
theorem pgs_of {tg : List Expr} {t t' : TGs} (h : PGs X tg t) (s : ∀ v σ Hc Q, t' v σ Hc Q → t v σ Hc Q) : PGs X tg t' := by
  obtain ⟨h⟩ := h
  exact ⟨by first | exact fun a b c d e f g i j k => h a b c d e f g i j (s _ _ _ _ k) | exact fun a b c d e f g i j => h a b c d e f g i (s _ _ _ _ j) | exact fun a b c d e f g i => h a b c d e f g (s _ _ _ _ i) | exact fun a b c d e f g i j k l => h a b c d e f g i j k (s _ _ _ _ l)⟩
abbrev XGs (X : Cx) (tg : List Expr) (g : DGs) : Prop := PGs X tg (LGs g)
theorem xgs_nil : XGs X [] gsN := pgs_of pgs_nil fun v σ Hc Q ⟨ds, Γ, M, H, k, h1, r, F, O, q⟩ => by
  cases r with
  | nil => exact ⟨rfl, q _ _ M H Hc (Evl.Ex.refl H) F O h1⟩
  | cons _ _ => exact h1.elim
theorem xgs_cons {t : Expr} {ts : List Expr} {g : DG} {gs : DGs} (h : PGs X (t :: ts) (gCons (LG g) (LGs gs))) : XGs X (t :: ts) (gsC g gs) := pgs_of h fun v σ Hc Q ⟨ds, Γ, M, H, k, h1, r, F, O, q⟩ => by
  cases r with
  | nil => exact h1.elim
  | @cons v vs d ds r1 r2 =>
    refine ⟨v, vs, rfl, .dat d, Γ, M, H, _, h1, r1, F, O, fun σ' Γ' M' H' Hc' e1 F1 O1 h2 => ?_⟩
    exact ⟨ds, Γ', M', H', k, h2, dps_ex e1 r2, F1, O1, q.ex e1⟩
theorem xg_tup {n : Nat} {t : Expr} {gs : DGs} (h : PG X t (gTup X.K n (LGs gs))) : XG X t (gT n gs) := pg_of h fun v σ Hc Q ⟨s, Γ, M, H, k, h1, r, F, O, q⟩ => by
  unfold gT at h1
  split at h1
  · obtain ⟨a, vs, rfl, h2, h3⟩ := dp_tup_inv r
    exact ⟨a, vs, rfl, SqT.of (O.ex _ _ h2), by rw [dps_len h3]; exact h1.1, _, Γ, M, H, k, h1.2, h3, F, O, q⟩
  · exact h1.elim
def dAsg (de : DE) (g : DG) : DS := fun D Γ M => de Γ M fun s M1 => g s Γ M1 D.nx
theorem sim_asg {te : TE} {g : DG} (h : SimE te de) : SimS (tAsg te (LG g)) (dAsg de g) := fun Γ M D σ H Hc E hd F O q =>
  h Γ M _ σ H Hc _ hd F O fun v s M1 H1 Hc1 e1 O1 r1 h1 => ⟨s, Γ, M1, H1, _, h1, r1, F.ex e1, O1, q.nx.ex e1⟩
theorem xs_asg {st : Stmt} {g : DG} (h : PS X st (tAsg (LE de) (LG g))) : XS X st (dAsg de g) := xs_of h (sim_asg simLE)
/-- y = .. -/
theorem xs_asgN {st : Stmt} {te : TE} {i : Nat} (h : PS X st (tAsg te (gName i))) (s : SimE te de) : XS X st (dAsg de (gN i)) := xs_of h fun Γ M D σ H Hc E hd F O q => s Γ M _ σ H Hc _ hd F O fun v s M1 H1 Hc1 e1 O1 r1 h1 => q.nx _ _ M1 H1 Hc1 e1 ((F.ex e1).set r1) O1 h1
/-- o[i] = e: a list of ours -/
def dSetL (de do_ di : DE) : DS := fun D Γ M => de Γ M fun s M1 => do_ Γ M1 fun o M2 => di Γ M2 fun i M3 => ∃ a k xs j, o = .own a ∧ i = .dat (.int k) ∧ M3 a = some (.lst xs) ∧ ixN xs.length k = some j ∧ D.nx Γ (put M3 a (.lst (xs.set j s)))
theorem xs_setL {o i : Expr} {do_ di : DE} {p2 : Pos} (h : PS X (.Assign [.Subscript o i p2] e pos) (tAsg (LE de) (gSub (LE do_) (LE di) rSetL))) : XS X (.Assign [.Subscript o i p2] e pos) (dSetL de do_ di) := xs_of h fun Γ M D σ H Hc E hd F O q => by
  refine simLE Γ M _ σ H Hc _ hd F O fun v s M1 H1 Hc1 e1 O1 r1 h1 => ?_
  refine simLE Γ M1 _ σ H1 Hc1 _ h1 (F.ex e1) O1 fun vo so M2 H2 Hc2 e2 O2 r2 h2 => ?_
  refine simLE Γ M2 _ σ H2 Hc2 _ h2 (F.ex (e1.trans e2)) O2 fun vi si M3 H3 Hc3 e3 O3 r3 h3 => ?_
  obtain ⟨a, k, xs, j, rfl, rfl, hm, hj, hn⟩ := h3
  cases r2
  obtain ⟨hz, vs, g1, g2⟩ := O3.ob _ _ hm
  refine ⟨a, vs, k, j, rfl, dp_int_inv r3, g1, by rw [rps_len g2]; exact hj, ?_⟩
  exact q.nx σ Γ _ H3 _ (e1.trans (e2.trans e3)) (F.ex (e1.trans (e2.trans e3))) (O3.turn (u := .lst _) hm ⟨by rw [List.length_set]; exact hz, _, rfl, rps_set (rp_ex (e2.trans e3) r1) j g2⟩) hn
/-! ### methods of lists of ours -/
def dBM (f : Sl → List Sl → Mem → DK → Prop) (do_ : DE) (das : DA) : DE := fun Γ M k => do_ Γ M fun o M1 => das Γ M1 fun ss M2 => f o ss M2 k
def SimM (K : PySem.W.Frag) (T : String) (r : V → List V → Hp → VK → Prop) (f : Sl → List Sl → Mem → DK → Prop) : Prop := (∀ s ss M k x xs H Hc Q, f s ss M k → Rp H s x → Rps H ss xs → Own H Hc M → On H k Q → r x xs Hc Q)
/-- what f takes is of the type's own -/
def OfTy (T : String) (s : Sl) : Prop := match s with
  | .dat (.list _) => T = "list"
  | .dat (.str _) => T = "str"
  | .own _ => T = "list"
  | _ => False
def dBM' (T : String) (f : Sl → List Sl → Mem → DK → Prop) (do_ : DE) (das : DA) : DE := fun Γ M k => do_ Γ M fun o M1 => (∃ xs, IsL M1 o xs) ∧ das Γ M1 fun ss M2 => f o ss M2 k
theorem xe_bmL {r : V → List V → Hp → VK → Prop} {f : Sl → List Sl → Mem → DK → Prop} {do_ : DE} {ex : Expr} (hf : SimM X.K "list" r f) (h : PE X ex (tBM X.K "list" r (LE do_) (LA das))) : XE X ex (dBM' "list" f do_ das) := xe_of h fun Γ M k σ H Hc Q hd F O q => by
  refine simLE Γ M _ σ H Hc _ hd F O fun v s M1 H1 Hc1 e1 O1 r1 h1 => ?_
  obtain ⟨⟨xs, l⟩, h1⟩ := h1
  obtain ⟨a, vs, rfl, g1, _⟩ := l.at_ O1 r1
  refine ⟨.inl ⟨rfl, vs, SqL.of g1⟩, ?_⟩
  refine simLA Γ M1 _ σ H1 Hc1 _ h1 (F.ex e1) O1 fun ws ss M2 H2 Hc2 e2 O2 r2 h2 => ?_
  exact hf s ss M2 k _ ws H2 Hc2 Q h2 (rp_ex e2 r1) r2 O2 (q.ex (e1.trans e2))
def fApp : Sl → List Sl → Mem → DK → Prop := fun o ss M k => match o, ss with
  | .own a, [s] => ∃ xs, M a = some (.lst xs) ∧ xs.length < 16777216 ∧ k (.dat .none) (put M a (.lst (xs ++ [s])))
  | _, _ => False
theorem sim_app {K : PySem.W.Frag} : SimM K "list" rAppend fApp := by
  intro s ss M k x xs H Hc Q h rx rs O q
  unfold fApp at h
  split at h
  · obtain ⟨ys, hm, hz, h⟩ := h
    obtain ⟨y, rfl, ry⟩ := rps1 rs
    cases rx
    obtain ⟨z, vs, g1, g2⟩ := O.ob _ _ hm
    refine ⟨_, vs, y, rfl, rfl, g1, by rw [rps_len g2, sizeLine_eq]; exact hz, ?_⟩
    exact q _ (.dat .none) _ H _ (Evl.Ex.refl H) (O.turn (u := .lst _) hm ⟨by rw [List.length_append, sizeLine_eq]; exact hz, _, rfl, rps_app g2 (.cons ry .nil)⟩) Dq.non h
  · exact h.elim
/-! ### loops -/
/-- for g in (a list): the word Inv of the turn, what the frame and ours hold -/
def dForL (de : DE) (g : DG) (tb : DS) : DS := fun D Γ M => de Γ M fun s M1 => ∃ xs, IsL M1 s xs ∧ ∃ Inv : Nat → Fm → Mem → Prop, Inv 0 Γ M1 ∧ (∀ i Γ' M', i ≤ xs.length → Inv i Γ' M' → IsL M' s xs) ∧
  (∀ i x Γ' M', xs[i]? = some x → Inv i Γ' M' → g x Γ' M' fun Γ2 M2 => tb { D with nx := Inv (i + 1), ct := Inv (i + 1), bk := D.nx } Γ2 M2) ∧ ∀ Γ' M', Inv xs.length Γ' M' → D.nx Γ' M'
theorem OnD.loop {H : Hp} {D : DEnds} {E : Ends} {I : Fm → Mem → Prop} {P : L2.St → Hp → Prop} (o : OnD H D E) (h : OnF H I P) : OnD H { D with nx := I, ct := I, bk := D.nx } { E with nx := P, ct := P, bk := E.nx } := ⟨h, o.rt, o.nx, h⟩
theorem sim_forL {K : PySem.W.Frag} {te : TE} {g : DG} {tb : TS} (h : SimE te de) (hb : SimS tb d1) : SimS (tFor (iList K te) (LG g) tb) (dForL de g d1) := fun Γ M D σ H Hc E hd F O q => by
  refine h Γ M _ σ H Hc _ hd F O fun v s M1 H1 Hc1 e1 O1 r1 h1 => ?_
  obtain ⟨xs, l, W, w0, wl, ws, wd⟩ := h1
  obtain ⟨a, vs, rfl, g1, g2⟩ := l.at_ O1 r1
  refine ⟨a, rfl, ⟨vs, SqL.of g1⟩, fun i m σ' Hc' => m = xs.length - i ∧ i ≤ xs.length ∧ ∃ Γ' M' H', Ex H1 H' ∧ Fr H' σ' Γ' ∧ Own H' Hc' M' ∧ W i Γ' M', ⟨_, rfl, Nat.zero_le _, Γ, M1, H1, Evl.Ex.refl _, F.ex e1, O1, w0⟩, ?_⟩
  rintro i m σ' Hc' ⟨rfl, hi, Γ', M', H', e2, F2, O2, w⟩
  obtain ⟨a', vs', e3, g3, g4⟩ := (wl i Γ' M' hi w).at_ O2 (rp_ex e2 r1)
  cases e3
  have hl := rps_len g4
  rcases Nat.lt_or_ge i xs.length with hlt | hge
  · obtain ⟨x0, hx0⟩ : ∃ x0, vs'[i]? = some x0 := ⟨vs'[i]'(by omega), List.getElem?_eq_getElem (by omega)⟩
    obtain ⟨sx, hs, rx⟩ := rps_get g4 hx0
    refine .inr ⟨⟨vs', x0, SqL.of g3, hx0⟩, fun σ2 Hc2 => ∃ Γ2 M2 H2, Ex H1 H2 ∧ Fr H2 σ2 Γ2 ∧ Own H2 Hc2 M2 ∧ W (i + 1) Γ2 M2, fun σ2 Hc2 z => ⟨xs.length - (i + 1), by omega, rfl, by omega, z⟩, fun x Hy y => ?_⟩
    obtain ⟨rfl, y⟩ := y
    have ex : x = x0 := Option.some.inj ((y vs' (SqL.of g3)).symm.trans hx0)
    subst ex
    refine ⟨sx, Γ', M', H', _, ws i sx Γ' M' hs w, rx, F2, O2, fun σ2 Γ2 M2 H2 Hc2 e3 F3 O3 h3 => ?_⟩
    refine hb Γ2 M2 _ σ2 H2 Hc2 _ h3 F3 O3 ((q.ex (e1.trans (e2.trans e3))).loop fun σ4 Γ4 M4 H4 Hc4 e4 F4 O4 h4 => ?_)
    exact ⟨Γ4, M4, H4, e2.trans (e3.trans e4), F4, O4, h4⟩
  · have ei : i = xs.length := Nat.le_antisymm hi hge
    subst ei
    exact .inl ⟨⟨vs', SqL.of g3, by omega⟩, q.nx σ' Γ' M' H' Hc' (e1.trans e2) F2 O2 (wd Γ' M' w)⟩
theorem xs_forL {tg : Expr} {g : DG} (h : PS X (.For tg e body [] pos) (tFor (iList X.K (LE de)) (LG g) (LS d1))) : XS X (.For tg e body [] pos) (dForL de g d1) := xs_of h (sim_forL simLE simLS)
end
end DL
namespace DL
open PySem PySem.Spec PyProof.Rows L2
open Evl (Ex)
section
variable {X : Cx} {e a b c : Expr} {es : List Expr} {de da db : DE} {das : DA} {pos p : Pos} {st : Stmt} {rest body : List Stmt} {d1 d2 : DS} {x : Str}
/-! ### for x in range(n), range(a, b) -/
def rg1 (ss : List Sl) : Option (Int × Int) := match ss with
  | [.dat (.int j)] => some (0, j)
  | _ => none
def rg2 (ss : List Sl) : Option (Int × Int) := match ss with
  | [.dat (.int i), .dat (.int j)] => some (i, j)
  | _ => none
def dForR (rgEnds : List Sl → Option (Int × Int)) (da : DA) (g : DG) (tb : DS) : DS := fun D Γ M => da Γ M fun ss M1 => ∃ lo hi, rgEnds ss = some (lo, hi) ∧ (-(2 ^ 62) ≤ lo ∧ lo < 2 ^ 62 ∧ -(2 ^ 62) ≤ hi ∧ hi < 2 ^ 62) ∧ ∃ Inv : Nat → Fm → Mem → Prop, Inv 0 Γ M1 ∧
  (∀ (i : Nat) Γ' M', i < (hi - lo).toNat → Inv i Γ' M' → g (.dat (.int (lo + i))) Γ' M' fun Γ2 M2 => tb { D with nx := Inv (i + 1), ct := Inv (i + 1), bk := D.nx } Γ2 M2) ∧ ∀ Γ' M', Inv (hi - lo).toNat Γ' M' → D.nx Γ' M'
theorem loop_rng {lo : Int} {n : Nat} {g : DG} {tb : TS} (hb : SimS tb d1) {D : DEnds} {E : Ends} {σ : L2.St} {H1 Hc1 : Hp} {Γ : Fm} {M1 : Mem} (F : Fr H1 σ Γ) (O : Own H1 Hc1 M1) (q : OnD H1 D E) (W : Nat → Fm → Mem → Prop) (w0 : W 0 Γ M1)
    (ws : ∀ (i : Nat) Γ' M', i < n → W i Γ' M' → g (.dat (.int (lo + i))) Γ' M' fun Γ2 M2 => d1 { D with nx := W (i + 1), ct := W (i + 1), bk := D.nx } Γ2 M2) (wd : ∀ Γ' M', W n Γ' M' → D.nx Γ' M') :
    ∃ W : Nat → Nat → L2.St → Hp → Prop, (∃ m, W 0 m σ Hc1) ∧ ∀ i m σ H, W i m σ H → ((Itr lo n).stop i H ∧ E.nx σ H) ∨
      ((Itr lo n).go i H ∧ ∃ N : L2.St → Hp → Prop, (∀ σ' H', N σ' H' → ∃ m', m' < m ∧ W (i + 1) m' σ' H') ∧ ∀ x H', (Itr lo n).yld i H x H' → LG g x σ H' fun σ2 H2 => tb { E with nx := N, ct := N, bk := E.nx } σ2 H2) := by
  refine for_range (fun i σ' Hc' => ∃ Γ' M' H', Ex H1 H' ∧ Fr H' σ' Γ' ∧ Own H' Hc' M' ∧ W i Γ' M') ⟨Γ, M1, H1, Evl.Ex.refl _, F, O, w0⟩ ?_ ?_
  · rintro i σ' Hc' hi ⟨Γ', M', H', e2, F2, O2, w⟩
    refine ⟨.dat (.int (lo + i)), Γ', M', H', _, ws i Γ' M' hi w, Dq.int _, F2, O2, fun σ2 Γ2 M2 H2 Hc2 e3 F3 O3 h3 => ?_⟩
    refine hb Γ2 M2 _ σ2 H2 Hc2 _ h3 F3 O3 ((q.ex (e2.trans e3)).loop fun σ4 Γ4 M4 H4 Hc4 e4 F4 O4 h4 => ?_)
    exact ⟨Γ4, M4, H4, e2.trans (e3.trans e4), F4, O4, h4⟩
  · rintro σ' Hc' ⟨Γ', M', H', e2, F2, O2, w⟩
    exact q.nx σ' Γ' M' H' Hc' e2 F2 O2 (wd Γ' M' w)
theorem xs_forR1 {tg a : Expr} {g : DG} {p1 p2 : Pos} (h : PS X (.For tg (.Call (.Name "range" p1) [a] [] p2) body [] pos) (tFor (iRng1 (LA das)) (LG g) (LS d1))) : XS X (.For tg (.Call (.Name "range" p1) [a] [] p2) body [] pos) (dForR rg1 das g d1) := xs_of h fun Γ M D σ H Hc E hd F O q => by
  refine simLA Γ M _ σ H Hc _ hd F O fun vs ss M1 H1 Hc1 e1 O1 r1 h1 => ?_
  obtain ⟨lo, hi, er, hz, W, w0, ws, wd⟩ := h1
  unfold rg1 at er
  split at er
  · cases er
    obtain ⟨v, rfl, rv⟩ := rps1 r1
    refine ⟨hi, by rw [dp_int_inv rv], hz.2.2.1, hz.2.2.2, ?_⟩
    rw [Int.sub_zero] at ws wd
    exact loop_rng simLS (F.ex e1) O1 (q.ex e1) W w0 ws wd
  · cases er
theorem xs_forR2 {tg a b : Expr} {g : DG} {p1 p2 : Pos} (h : PS X (.For tg (.Call (.Name "range" p1) [a, b] [] p2) body [] pos) (tFor (iRng2 (LA das)) (LG g) (LS d1))) : XS X (.For tg (.Call (.Name "range" p1) [a, b] [] p2) body [] pos) (dForR rg2 das g d1) := xs_of h fun Γ M D σ H Hc E hd F O q => by
  refine simLA Γ M _ σ H Hc _ hd F O fun vs ss M1 H1 Hc1 e1 O1 r1 h1 => ?_
  obtain ⟨lo, hi, er, hz, W, w0, ws, wd⟩ := h1
  unfold rg2 at er
  split at er
  · cases er
    obtain ⟨v, u, rfl, rv, ru⟩ := rps2 r1
    exact ⟨lo, hi, by rw [dp_int_inv rv, dp_int_inv ru], hz, loop_rng simLS (F.ex e1) O1 (q.ex e1) W w0 ws wd⟩
  · cases er
/-! ### comprehensions -/
def wipeF (Γ : Fm) : List Nat → Fm
  | [] => Γ
  | v :: vs => (wipeF Γ vs).set v none
theorem Fr.forget {H : Hp} {σ : L2.St} {Γ : Fm} (F : Fr H σ Γ) (i : Nat) : Fr H (σ.set i none) (Γ.set i none) := by
  have key : ∀ (j : Nat) (s : Sl), (Γ.set i none)[j]? = some (some s) → i ≠ j ∧ Γ[j]? = some (some s) := fun j s h => by
    by_cases hj : i = j
    · subst hj
      by_cases hl : i < Γ.length
      · rw [List.getElem?_set_self hl] at h; cases h
      · rw [List.getElem?_eq_none (by rw [List.length_set]; omega)] at h; cases h
    · rw [List.getElem?_set_ne hj] at h
      exact ⟨hj, h⟩
  refine ⟨by rw [List.length_set, List.length_set]; exact F.len, fun j s hl h => ?_, fun j H0 h => F.gh j H0 (key j _ h).2⟩
  obtain ⟨hj, h⟩ := key j s h
  rw [List.length_set] at hl
  rw [List.getElem?_set_ne hj]
  exact F.sl j s hl h
theorem Fr.wipe {H : Hp} {σ : L2.St} {Γ : Fm} (F : Fr H σ Γ) : ∀ vs, Fr H (wipe σ vs) (wipeF Γ vs)
  | [] => F
  | v :: vs => (F.wipe vs).forget v
theorem wipe_none {σ : L2.St} : ∀ {vs : List Nat} {i : Nat}, i ∈ vs → i < σ.length → (wipe σ vs)[i]? = some none
  | v :: vs, i, h, hl => by
    unfold L2.wipe
    by_cases e : v = i
    · subst e
      rw [List.getElem?_set_self (by rw [wipe_length]; exact hl)]
    · rw [List.getElem?_set_ne e]
      rcases List.mem_cons.mp h with z | z
      · exact absurd z.symm e
      · exact wipe_none z hl
theorem wipe_ext {σ τ : L2.St} (vs : List Nat) (hl : σ.length = τ.length) (h : ∀ i, i ∉ vs → σ[i]? = τ[i]?) : wipe σ vs = wipe τ vs := by
  refine List.ext_getElem? fun i => ?_
  by_cases hi : i ∈ vs
  · by_cases hz : i < σ.length
    · rw [wipe_none hi hz, wipe_none hi (hl ▸ hz)]
    · rw [List.getElem?_eq_none (by rw [wipe_length]; omega), List.getElem?_eq_none (by rw [wipe_length]; omega)]
  · rw [wipe_out hi, wipe_out hi, h i hi]
theorem wipe_back {σ : L2.St} {vs : List Nat} {j : Nat} (hj : j ∈ vs) (o : Option V) : wipe ((wipe σ vs).set j o) vs = wipe σ vs := by
  refine wipe_ext vs (by rw [List.length_set, wipe_length]) fun i hi => ?_
  rw [List.getElem?_set_ne (show j ≠ i from fun z => hi (by rw [← z]; exact hj)), wipe_out hi]
/-- one turn: the item's name at j; the list that grows stands at p -/
def lcTurn (p : Addr) (Γ : Fm) (vs : List Nat) (j : Nat) (t : DB) (el : DE) (Nx : Mem → Prop) (x : Sl) (M : Mem) : Prop := t ((wipeF Γ vs).set j (some x)) M fun b M3 =>
  (b = true → el ((wipeF Γ vs).set j (some x)) M3 fun y M4 => ∃ acc, M4 p = some (.lst acc) ∧ acc.length < 16777216 ∧ Nx (put M4 p (.lst (acc ++ [y])))) ∧ (b = false → Nx M3)
def dLcL (de : DE) (j : Nat) (t : DB) (el : DE) (vs : List Nat) : DE := fun Γ M k => de Γ M fun s M1 => ∃ xs, IsL M1 s xs ∧ ∀ p, M1 p = none → ∃ Inv : Nat → Mem → Prop, Inv 0 (put M1 p (.lst [])) ∧ (∀ i M', i ≤ xs.length → Inv i M' → IsL M' s xs) ∧
  (∀ i x M', xs[i]? = some x → Inv i M' → lcTurn p Γ vs j t el (Inv (i + 1)) x M') ∧ ∀ M', Inv xs.length M' → k (.own p) M'
def dLcR (rg : List Sl → Option (Int × Int)) (da : DA) (j : Nat) (t : DB) (el : DE) (vs : List Nat) : DE := fun Γ M k => da Γ M fun ss M1 => ∃ lo hi, rg ss = some (lo, hi) ∧ (-(2 ^ 62) ≤ lo ∧ lo < 2 ^ 62 ∧ -(2 ^ 62) ≤ hi ∧ hi < 2 ^ 62) ∧
  ∀ p, M1 p = none → ∃ Inv : Nat → Mem → Prop, Inv 0 (put M1 p (.lst [])) ∧ (∀ (i : Nat) M', i < (hi - lo).toNat → Inv i M' → lcTurn p Γ vs j t el (Inv (i + 1)) (.dat (.int (lo + i))) M') ∧ ∀ M', Inv (hi - lo).toNat M' → k (.own p) M'
theorem lc_turn {p : Addr} {Γ : Fm} {vs : List Nat} {j : Nat} {t : DB} {el : DE} {tt : TT} {te : TE} (ht : SimB tt t) (hel : SimE te el) (hj : j ∈ vs) {Nx : Mem → Prop} {sx : Sl} {x : V} {M' : Mem} {σ : L2.St} {H1 H' Hc' : Hp} (e2 : Ex H1 H') (rx : Rp H' sx x) (F : Fr H' σ Γ) (O2 : Own H' Hc' M') (h : lcTurn p Γ vs j t el Nx sx M') :
    gName j x (wipe σ vs) Hc' fun σ2 H2 => wipe σ2 vs = wipe σ vs ∧ tt σ2 H2 fun b H3 => if b = true then te σ2 H3 fun y H4 => ∃ acc, H4 p = some (.lst acc) ∧ acc.length < sizeLine ∧ ∃ M5 H5, Ex H1 H5 ∧ Own H5 (upd H4 p (.lst (acc ++ [y]))) M5 ∧ Nx M5 else ∃ M5 H5, Ex H1 H5 ∧ Own H5 H3 M5 ∧ Nx M5 := by
  refine ⟨wipe_back hj _, ?_⟩
  have F2 : Fr H' ((wipe σ vs).set j (some x)) ((wipeF Γ vs).set j (some sx)) := (F.wipe vs).set rx
  refine ht _ M' _ _ H' Hc' _ h F2 O2 fun b M3 H3 Hc3 e3 O3 h3 => ?_
  cases b with
  | true =>
    rw [if_pos rfl]
    refine hel _ M3 _ _ H3 Hc3 _ (h3.1 rfl) (F2.ex e3) O3 fun y sy M4 H4 Hc4 e4 O4 r4 h4 => ?_
    obtain ⟨acc, hm, hz, hn⟩ := h4
    obtain ⟨z, ws, g1, g2⟩ := O4.ob _ _ hm
    refine ⟨ws, g1, by rw [rps_len g2, sizeLine_eq]; exact hz, _, H4, e2.trans (e3.trans e4), O4.turn (u := .lst _) hm ⟨by rw [List.length_append, sizeLine_eq]; exact hz, _, rfl, rps_app g2 (.cons r4 .nil)⟩, hn⟩
  | false =>
    rw [if_neg Bool.false_ne_true]
    exact ⟨M3, H3, e2.trans e3, O3, h3.2 rfl⟩
theorem sim_lcL {K : PySem.W.Frag} {te : TE} {j : Nat} {t : DB} {el : DE} {tt : TT} {tel : TE} {vs : List Nat} (h : SimE te de) (ht : SimB tt t) (hel : SimE tel el) (hj : j ∈ vs) : SimE (tLc (iList K te) (gName j) tt tel vs) (dLcL de j t el vs) := fun Γ M k σ H Hc Q hd F O q => by
  refine h Γ M _ σ H Hc _ hd F O fun v s M1 H1 Hc1 e1 O1 r1 h1 => ?_
  obtain ⟨xs, l, h1⟩ := h1
  obtain ⟨a, ws, rfl, g1, g2⟩ := l.at_ O1 r1
  refine ⟨a, rfl, ⟨ws, SqL.of g1⟩, fun p hp => ?_⟩
  obtain ⟨W, w0, wl, wt, wd⟩ := h1 p (O1.freeM hp)
  refine ⟨fun i m Hc' => m = xs.length - i ∧ i ≤ xs.length ∧ ∃ M' H', Ex H1 H' ∧ Own H' Hc' M' ∧ W i M', ⟨_, rfl, Nat.zero_le _, _, H1, Evl.Ex.refl _, O1.born (u := .lst []) hp ⟨Nat.zero_le _, [], rfl, .nil⟩, w0⟩, ?_⟩
  rintro i m Hc' ⟨rfl, hi, M', H', e2, O2, w⟩
  obtain ⟨a', vs', e3, g3, g4⟩ := (wl i M' hi w).at_ O2 (rp_ex e2 r1)
  cases e3
  have hl := rps_len g4
  rcases Nat.lt_or_ge i xs.length with hlt | hge
  · obtain ⟨x0, hx0⟩ : ∃ x0, vs'[i]? = some x0 := ⟨vs'[i]'(by omega), List.getElem?_eq_getElem (by omega)⟩
    obtain ⟨sx, hs, rx⟩ := rps_get g4 hx0
    refine .inr ⟨⟨vs', x0, SqL.of g3, hx0⟩, fun Hc2 => ∃ M2 H2, Ex H1 H2 ∧ Own H2 Hc2 M2 ∧ W (i + 1) M2, fun Hc2 z => ⟨xs.length - (i + 1), by omega, rfl, by omega, z⟩, fun x Hy y => ?_⟩
    obtain ⟨rfl, y⟩ := y
    have ex : x = x0 := Option.some.inj ((y vs' (SqL.of g3)).symm.trans hx0)
    subst ex
    exact lc_turn ht hel hj e2 rx (F.ex (e1.trans e2)) O2 (wt i sx M' hs w)
  · have ei : i = xs.length := Nat.le_antisymm hi hge
    subst ei
    exact .inl ⟨⟨vs', SqL.of g3, by omega⟩, q _ (.own p) M' H' Hc' (e1.trans e2) O2 rfl (wd M' w)⟩
theorem lc_rngD {lo : Int} {n : Nat} {j : Nat} {t : DB} {el : DE} {tt : TT} {tel : TE} {vs : List Nat} (ht : SimB tt t) (hel : SimE tel el) (hj : j ∈ vs) {p : Addr} {Γ : Fm} {M1 : Mem} {σ : L2.St} {H1 Hc1 : Hp} {Q : VK} {k : DK} (F : Fr H1 σ Γ) (O1 : Own H1 Hc1 M1) (q : On H1 k Q) (hp : Hc1 p = none)
    (W : Nat → Mem → Prop) (w0 : W 0 (put M1 p (.lst []))) (wt : ∀ (i : Nat) M', i < n → W i M' → lcTurn p Γ vs j t el (W (i + 1)) (.dat (.int (lo + i))) M') (wd : ∀ M', W n M' → k (.own p) M') :
    ∃ W : Nat → Nat → Hp → Prop, (∃ m, W 0 m (upd Hc1 p (.lst []))) ∧ ∀ i m H, W i m H → ((Itr lo n).stop i H ∧ Q (.ref p) H) ∨ ((Itr lo n).go i H ∧ ∃ Nx : Hp → Prop, (∀ H', Nx H' → ∃ m', m' < m ∧ W (i + 1) m' H') ∧ ∀ x H', (Itr lo n).yld i H x H' → gName j x (wipe σ vs) H' fun σ2 H2 => wipe σ2 vs = wipe σ vs ∧ tt σ2 H2 fun b H3 =>
      if b = true then tel σ2 H3 fun y H4 => ∃ acc, H4 p = some (.lst acc) ∧ acc.length < sizeLine ∧ Nx (upd H4 p (.lst (acc ++ [y]))) else Nx H3) := by
  refine lc_range (D := p) (fun i Hc' => ∃ M' H', Ex H1 H' ∧ Own H' Hc' M' ∧ W i M') ⟨_, H1, Evl.Ex.refl _, O1.born (u := .lst []) hp ⟨Nat.zero_le _, [], rfl, .nil⟩, w0⟩ ?_ ?_
  · rintro i Hc' hi ⟨M', H', e2, O2, w⟩
    exact lc_turn ht hel hj e2 (sx := .dat (.int (lo + i))) (Dq.int _) (F.ex e2) O2 (wt i M' hi w)
  · rintro Hc' ⟨M', H', e2, O2, w⟩
    exact q _ (.own p) M' H' Hc' e2 O2 rfl (wd M' w)
theorem sim_lcR1 {j : Nat} {t : DB} {el : DE} {tt : TT} {tel : TE} {vs : List Nat} {ta : TA} (h : SimA ta das) (ht : SimB tt t) (hel : SimE tel el) (hj : j ∈ vs) : SimE (tLc (iRng1 ta) (gName j) tt tel vs) (dLcR rg1 das j t el vs) := fun Γ M k σ H Hc Q hd F O q => by
  refine h Γ M _ σ H Hc _ hd F O fun ws ss M1 H1 Hc1 e1 O1 r1 h1 => ?_
  obtain ⟨lo, hi, er, hz, h1⟩ := h1
  unfold rg1 at er
  split at er
  · cases er
    obtain ⟨v, rfl, rv⟩ := rps1 r1
    refine ⟨hi, by rw [dp_int_inv rv], hz.2.2.1, hz.2.2.2, fun p hp => ?_⟩
    obtain ⟨W, w0, wt, wd⟩ := h1 p (O1.freeM hp)
    rw [Int.sub_zero] at wt wd
    exact lc_rngD ht hel hj (F.ex e1) O1 (q.ex e1) hp W w0 wt wd
  · cases er
theorem sim_lcR2 {j : Nat} {t : DB} {el : DE} {tt : TT} {tel : TE} {vs : List Nat} {ta : TA} (h : SimA ta das) (ht : SimB tt t) (hel : SimE tel el) (hj : j ∈ vs) : SimE (tLc (iRng2 ta) (gName j) tt tel vs) (dLcR rg2 das j t el vs) := fun Γ M k σ H Hc Q hd F O q => by
  refine h Γ M _ σ H Hc _ hd F O fun ws ss M1 H1 Hc1 e1 O1 r1 h1 => ?_
  obtain ⟨lo, hi, er, hz, h1⟩ := h1
  unfold rg2 at er
  split at er
  · cases er
    obtain ⟨v, u, rfl, rv, ru⟩ := rps2 r1
    refine ⟨lo, hi, by rw [dp_int_inv rv, dp_int_inv ru], hz, fun p hp => ?_⟩
    obtain ⟨W, w0, wt, wd⟩ := h1 p (O1.freeM hp)
    exact lc_rngD ht hel hj (F.ex e1) O1 (q.ex e1) hp W w0 wt wd
  · cases er
def dYes : DB := fun _ M k => k true M
theorem sim_yes : SimB tYes dYes := fun Γ M k σ H Hc Q h F O q => q true M H Hc (Evl.Ex.refl H) O h
abbrev XTs (X : Cx) (ifs : List Expr) (t : DB) : Prop := PTs X ifs (LB t)
theorem xts_nil : XTs X [] dYes := ⟨fun pins s σ Hc Q I ⟨Γ, M, H, k, hd, F, O, q⟩ => pts_nil.run pins s σ Hc Q I (sim_yes Γ M k σ H Hc Q hd F O q)⟩
theorem xts_one {c : Expr} {t : DB} (h : XB X c t) : XTs X [c] t := pts_one h
theorem xe_lcL {ex : Expr} {j : Nat} {t : DB} {el : DE} {vs : List Nat} (h : PE X ex (tLc (iList X.K (LE de)) (gName j) (LB t) (LE el) vs)) (hj : j ∈ vs) : XE X ex (dLcL de j t el vs) := xe_of h (sim_lcL simLE simLB simLE hj)
theorem xe_lcR1 {ex : Expr} {j : Nat} {t : DB} {el : DE} {vs : List Nat} (h : PE X ex (tLc (iRng1 (LA das)) (gName j) (LB t) (LE el) vs)) (hj : j ∈ vs) : XE X ex (dLcR rg1 das j t el vs) := xe_of h (sim_lcR1 simLA simLB simLE hj)
theorem xe_lcR2 {ex : Expr} {j : Nat} {t : DB} {el : DE} {vs : List Nat} (h : PE X ex (tLc (iRng2 (LA das)) (gName j) (LB t) (LE el) vs)) (hj : j ∈ vs) : XE X ex (dLcR rg2 das j t el vs) := xe_of h (sim_lcR2 simLA simLB simLE hj)
/-- what was ours is given away -/
def dFz (de : DE) : DE := fun Γ M k => de Γ M fun s M1 => match s with
  | .own a => ∃ ds, M1 a = some (.lst (ds.map .dat)) ∧ k (.dat (.list ds)) (del M1 a)
  | s => k s M1
theorem xe_fz (h : XE X e de) : XE X e (dFz de) := xe_of h fun Γ M k σ H Hc Q hd F O q => simLE Γ M _ σ H Hc _ hd F O fun v s M1 H1 Hc1 e1 O1 r1 h1 => by
  split at h1
  · obtain ⟨ds, hm, h1⟩ := h1
    obtain ⟨H2, e2, O2, r2⟩ := O1.freeze hm
    cases r1
    exact q _ (.dat (.list ds)) _ H2 Hc1 (e1.trans e2) O2 r2 h1
  · exact q _ _ _ _ _ e1 O1 r1 h1
/-- x = e, given away at once -/
def dFzS (i : Nat) (ds : DS) : DS := fun D Γ M => ds { D with nx := fun Γ1 M1 => ∃ a es, Γ1[i]? = some (some (.own a)) ∧ M1 a = some (.lst (es.map .dat)) ∧ D.nx (Γ1.set i (some (.dat (.list es)))) (del M1 a) } Γ M
/-- the lengths of the frames are the names' -/
theorem xs_len {ds : DS} (h : ∀ pins s σ Hc E, L2.Inv X pins σ Hc s → σ.length = X.N.length → LS ds E σ Hc → ∃ t : TS, PS X st t ∧ t { nx := fun σ' H' => σ'.length = X.N.length → E.nx σ' H', rt := E.rt, bk := fun σ' H' => σ'.length = X.N.length → E.bk σ' H', ct := fun σ' H' => σ'.length = X.N.length → E.ct σ' H' } σ Hc) : XS X st ds :=
  ⟨fun pins s σ Hc E I hd => by
    obtain ⟨t, ht, q⟩ := h pins s σ Hc E I I.len hd
    refine wpAny_mono (ht.run pins s σ Hc _ I q) (fun fl s' hs => ?_) fun _ _ z => z
    match fl, hs with
    | .next, ⟨σ', H', J, q⟩ => exact ⟨σ', H', J, q J.len⟩
    | .ret u, ⟨v, σ', H', J, r, q⟩ => exact ⟨v, σ', H', J, r, q⟩
    | .brk, ⟨σ', H', J, q⟩ => exact ⟨σ', H', J, q J.len⟩
    | .cont, ⟨σ', H', J, q⟩ => exact ⟨σ', H', J, q J.len⟩⟩
theorem xs_fz {i : Nat} {xn : Str} (h : XS X st d1) (hN : X.N[i]? = some xn := by rfl) : XS X st (dFzS i d1) := xs_len fun pins s σ Hc E I hl ⟨Γ, M, H, D, hd, F, O, q⟩ => ⟨_, h, Γ, M, H, _, hd, F, O, ⟨fun σ' Γ' M' H' Hc' e1 F1 O1 h1 hl' => by
  obtain ⟨a, es, g1, g2, g3⟩ := h1
  obtain ⟨v, v1, v2⟩ := F1.sl i _ (by rw [hl']; exact (List.getElem?_eq_some_iff.mp hN).1) g1
  cases v2
  obtain ⟨H2, e2, O2, r2⟩ := O1.freeze g2
  have F2 : Fr H2 (σ'.set i (some (.ref a))) (Γ'.set i (some (.dat (.list es)))) := (F1.ex e2).set r2
  have same : σ'.set i (some (.ref a)) = σ' := by
    refine List.ext_getElem? fun j => ?_
    by_cases hj : i = j
    · subst hj
      rw [v1, List.getElem?_set_self (List.getElem?_eq_some_iff.mp v1).1]
    · rw [List.getElem?_set_ne hj]
  rw [same] at F2
  exact q.nx σ' _ _ H2 Hc' (e1.trans e2) F2 O2 g3, q.rt, fun σ' Γ' M' H' Hc' e1 F1 O1 h1 _ => q.bk σ' Γ' M' H' Hc' e1 F1 O1 h1, fun σ' Γ' M' H' Hc' e1 F1 O1 h1 _ => q.ct σ' Γ' M' H' Hc' e1 F1 O1 h1⟩⟩
/-! ### all, is, sorted of whole numbers, [::-1] -/
def boolsD : List Sl → Option (List Bool)
  | [] => some []
  | .dat (.bool b) :: ds => (boolsD ds).map (b :: ·)
  | _ => none
theorem boolsD_rps {H : Hp} : ∀ {ss : List Sl} {bs : List Bool} {vs : List V}, boolsD ss = some bs → Rps H ss vs → vs = bs.map V.bl
  | [], bs, _, h, .nil => by cases h; rfl
  | .dat (.bool b) :: ss, bs, _, h, .cons r t => by
    unfold boolsD at h
    cases e : boolsD ss with
    | none => rw [e] at h; cases h
    | some cs =>
      rw [e] at h
      cases h
      rw [dp_bl_inv r, boolsD_rps e t]
      rfl
def fAll : DC := fun ss M k => match ss with
  | [.own a] => ∃ xs bs, M a = some (.lst xs) ∧ boolsD xs = some bs ∧ k (.dat (.bool (bs.all id))) (del M a)
  | [.dat (.list ds)] => ∃ bs, boolsD (ds.map .dat) = some bs ∧ k (.dat (.bool (bs.all id))) M
  | _ => False
def fAny : DC := fun ss M k => match ss with
  | [.own a] => ∃ xs bs, M a = some (.lst xs) ∧ boolsD xs = some bs ∧ k (.dat (.bool (bs.any id))) (del M a)
  | [.dat (.list ds)] => ∃ bs, boolsD (ds.map .dat) = some bs ∧ k (.dat (.bool (bs.any id))) M
  | _ => False
theorem sim_all {K : PySem.W.Frag} : SimC (rAll K) fAll := by
  intro ss M k xs H Hc Q h r O q
  unfold fAll at h
  split at h
  · obtain ⟨x, rfl, rx⟩ := rps1 r
    obtain ⟨ys, bs, hm, eb, h⟩ := h
    obtain ⟨a, vs, rfl, g1, g2⟩ := (IsL.own hm).at_ O rx
    exact ⟨a, bs, rfl, by rw [← boolsD_rps eb g2]; exact SqL.of g1, q.dat O.drop (.bl _) h⟩
  · obtain ⟨x, rfl, rx⟩ := rps1 r
    obtain ⟨bs, eb, h⟩ := h
    obtain ⟨a, vs, rfl, g1, g2⟩ := IsL.dat.at_ O rx
    exact ⟨a, bs, rfl, by rw [← boolsD_rps eb g2]; exact SqL.of g1, q.dat O (.bl _) h⟩
  · exact h.elim
theorem sim_any {K : PySem.W.Frag} : SimC (rAny K) fAny := by
  intro ss M k xs H Hc Q h r O q
  unfold fAny at h
  split at h
  · obtain ⟨x, rfl, rx⟩ := rps1 r
    obtain ⟨ys, bs, hm, eb, h⟩ := h
    obtain ⟨a, vs, rfl, g1, g2⟩ := (IsL.own hm).at_ O rx
    exact ⟨a, bs, rfl, by rw [← boolsD_rps eb g2]; exact SqL.of g1, q.dat O.drop (.bl _) h⟩
  · obtain ⟨x, rfl, rx⟩ := rps1 r
    obtain ⟨bs, eb, h⟩ := h
    obtain ⟨a, vs, rfl, g1, g2⟩ := IsL.dat.at_ O rx
    exact ⟨a, bs, rfl, by rw [← boolsD_rps eb g2]; exact SqL.of g1, q.dat O (.bl _) h⟩
  · exact h.elim
def isNoD : Dt → Bool
  | .none => true
  | _ => false
/-- x is y: of truths; of anything and None -/
def fIs (neg : Bool) : D2 := fun s t M k => match s, t with
  | .dat (.bool a), .dat (.bool b) => k (.dat (.bool (if neg = true then !decide (a = b) else decide (a = b)))) M
  | .dat d, .dat .none => k (.dat (.bool (if neg = true then !isNoD d else isNoD d))) M
  | .own _, .dat .none => k (.dat (.bool neg)) M
  | _, _ => False
theorem isNo_eq {H : Hp} {x : V} {d : Dt} (r : Dq H x d) : decide (x = V.non) = isNoD d := by
  cases r <;> simp [isNoD]
abbrev rIsA : R2 := fun x y H Q => (rIsB x y H Q) ∨ (y = .non ∧ Q (.bl (decide (x = .non))) H)
abbrev rNotA : R2 := fun x y H Q => (rNotB x y H Q) ∨ (y = .non ∧ Q (.bl (!decide (x = .non))) H)
theorem sim_is : Sim2 rIsA (fIs false) := by
  intro s t M k x y H Hc Q h rx ry O q
  unfold fIs at h
  split at h
  · exact .inl ⟨_, _, dp_bl_inv rx, dp_bl_inv ry, q.dat O (.bl _) h⟩
  · refine .inr ⟨dp_non_inv ry, ?_⟩
    rw [isNo_eq rx]
    exact q.dat O (.bl _) h
  · refine .inr ⟨dp_non_inv ry, ?_⟩
    cases rx
    rw [decide_eq_false (fun z => nomatch z)]
    exact q.dat O (.bl _) h
  · exact h.elim
theorem sim_isnot : Sim2 rNotA (fIs true) := by
  intro s t M k x y H Hc Q h rx ry O q
  unfold fIs at h
  split at h
  · exact .inl ⟨_, _, dp_bl_inv rx, dp_bl_inv ry, q.dat O (.bl _) h⟩
  · refine .inr ⟨dp_non_inv ry, ?_⟩
    rw [isNo_eq rx]
    exact q.dat O (.bl _) h
  · refine .inr ⟨dp_non_inv ry, ?_⟩
    cases rx
    rw [decide_eq_false (fun z => nomatch z)]
    exact q.dat O (.bl _) h
  · exact h.elim
theorem xe_is (ha : XE X a da) (hb : XE X b db) : XE X (.Compare a [.Is] [b] pos) (dOp (fIs false) da db) := xe_cmp (OpR.or op_isBl op_isN) (nomark _) sim_is ha hb
theorem xe_isnot (ha : XE X a da) (hb : XE X b db) : XE X (.Compare a [.IsNot] [b] pos) (dOp (fIs true) da db) := xe_cmp (OpR.or op_notBl op_notN) (nomark _) sim_isnot ha hb
/-- -n -/
def dNeg (de : DE) : DE := fun Γ M k => de Γ M fun s M1 => match s with
  | .dat (.int i) => k (.dat (.int (-i))) M1
  | _ => False
theorem xe_neg (ha : XE X a da) : XE X (.UnaryOp .USub a pos) (dNeg da) := xe_of (pe_un un_neg ha) fun Γ M k σ H Hc Q hd F O q => simLE Γ M _ σ H Hc _ hd F O fun v s M1 H1 Hc1 e1 O1 r1 h1 => by
  split at h1
  · exact ⟨_, dp_int_inv r1, (q.ex e1).dat O1 (.int _) h1⟩
  · exact h1.elim
/-- abs(n) -/
def fAbs : DC := fun ss M k => match ss with
  | [.dat (.int i)] => k (.dat (.int (if i < 0 then -i else i))) M
  | _ => False
theorem sim_abs : SimC (fun xs H Q => ∃ i, xs = [.int i] ∧ Q (.int (if i < 0 then -i else i)) H) fAbs := by
  intro ss M k xs H Hc Q h r O q
  unfold fAbs at h
  split at h
  · obtain ⟨x, rfl, rx⟩ := rps1 r
    exact ⟨_, by rw [dp_int_inv rx], q.dat O (.int _) h⟩
  · exact h.elim
/-- the script's cells -/
def fSlS (K : PySem.W.Frag) : D3 := fun s lo hi M k => match s with
  | .fix (.scr K' xs) => K' = K ∧ k (.dat (.list ((cut xs lo hi).map .int))) M
  | _ => False
theorem dqs_int {H : Hp} : ∀ ns : List Int, DqAll H (ns.map V.int) (ns.map PyData.int)
  | [] => .nil
  | n :: ns => .cons (.int n) (dqs_int ns)
theorem xe_slS {lo hi : Option Expr} {dl dh : DO} {p2 : Pos} {K : PySem.W.Frag} (hK : X.K = K) (he : XE X e de) (hl : XO X lo dl) (hu : XO X hi dh) : XE X (.Subscript e (.Slice lo hi none p2) pos) (dSl (fSlS K) de dl dh) := xe_slF (f := fSlS K) (by
  subst hK
  intro s lo hi M k x H Hc Q h rx O q
  unfold fSlS at h
  split at h
  · rename_i K' ns
    obtain ⟨rfl, h⟩ := h
    obtain ⟨a, rfl, hs⟩ := rx
    refine .inr (.inr ⟨a, _, rfl, Evl.ex_l O.ex hs, fun p hp => ?_⟩)
    have e : cutV (ns.map V.int) lo hi = (cut ns lo hi).map V.int := by
      unfold cutV cut
      rw [List.length_map, List.map_take, List.map_drop]
    rw [e]
    exact q.lst O (dqs_int _) hp h
  · exact h.elim) he hl hu
end
end DL
namespace DL
open PySem PySem.Spec PyProof.Rows L2
open Evl (Ex)
/-- what a law promises: of its script True, and nothing that is ours is left to tell -/
def prLaw (K : PySem.W.Frag) : Pr := fun ss _ q => ∃ ns, ss = [.scr K ns] ∧ ns.length ≤ 63 ∧ ∀ M', q (.dat (.bool true)) M'
section
variable {P : Program} {w : World} {K : PySem.W.Frag} {mg mb : Str → Option Value} {k : Nat} {fa a : Addr} {fd : FuncData} {x : Str} {s : Shared} {vs : List Value} {ns : List Int}
/-- the script, tracked as what stands still -/
def scrH (a : Addr) (vs : List Value) (ns : List Int) : Hp := fun b => if b = a then some (.frz { cls := .type "list", data := .seq vs.toArray } (.lst (ns.map V.int))) else none
theorem scrH_at {a : Addr} {vs : List Value} {ns : List Int} : scrH a vs ns a = some (.frz { cls := .type "list", data := .seq vs.toArray } (.lst (ns.map V.int))) := if_pos rfl
theorem scrH_ne {a b : Addr} {vs : List Value} {ns : List Int} (h : b ≠ a) : scrH a vs ns b = none := if_neg h
/-- the run of a law from an abstract heap in which the script alone may stand -/
theorem law_run {H : Hp} (KX : K.In s.heap) (hns : s.heap.Ns mainGlobals mg) (hb : s.heap.Ns builtinsNs mb) (hbb : ∀ x : Str, x ≠ "__name__" → mb x = bootBuiltins x) (lim : s.heap.NoLimit) (hg : s.gens = #[]) (ha : s.heap.get? a = some { cls := .type "list", data := .seq vs.toArray })
    (hr : Room k callerA) (F : ∀ base : Heap, K.In base → base.Ns mainGlobals mg → Holds P w K mg base k fa fd [x] (prLaw K)) (bind : ∀ (s : Shared) (u : Value), BindsTo s fd ⟨[u], []⟩ [(x, u)]) (hl : ns.length ≤ 63)
    (hS : SqL K H a (ns.map V.int)) (hok : HOk P w H s.heap) (only : ∀ b u, H b = some u → b = a ∧ (∃ o z, u = .frz o z) ∧ K.lookup a = none) :
    codeAny (model P w) callerA (.call (.ref fa) ⟨[.ref a], []⟩) (fun r s' => r = .ok (.ret (.bool true)) ∧ OldK s.heap s'.heap ∧ s'.os = s.os ∧ AllBare s'.gens) s := by
  have keep : ∀ {b : Addr} {o : Obj}, s.heap.get? b = some o → H b = none → (hidT s.heap H).get? b = some o := fun h n => hidT_get h n
  have notS : ∀ {b : Addr} {o : Obj} {es : Array DictEntry} {ep : Nat}, s.heap.get? b = some o → o.data = .dict es ep → H b = none := by
    intro b o es ep h1 h2
    cases z : H b with
    | none => rfl
    | some u =>
      obtain ⟨rfl, _, _⟩ := only b u z
      rw [ha] at h1
      cases h1
      cases h2
  have dicts : ∀ {b : Addr} {m : Str → Option Value}, s.heap.Ns b m → (hidT s.heap H).Ns b m := by
    rintro b m ⟨o, es, ep, h1, h2, r⟩
    exact ⟨o, es, ep, keep h1 (notS h1 h2), h2, r⟩
  have KB : K.In (hidT s.heap H) := fun b o h1 => keep (KX b o h1) (by
    cases z : H b with
    | none => rfl
    | some u =>
      obtain ⟨rfl, _, h2⟩ := only b u z
      rw [h2] at h1
      cases h1)
  have md : Mod K mg (hidT s.heap H) := by
    obtain ⟨mc, c1, c2⟩ := lim
    exact ⟨KB, dicts hns, ⟨mb, dicts hb, hbb⟩, ⟨mc, dicts c1, c2⟩⟩
  have at0 : Env0 P w K mg (hidT s.heap H) callerA [] s H := { frames := rfl, mod := md, bs := fun b o z => of_hidT z, bsz := Nat.le_of_eq (hidT_size _ _), funs := trivial, frf := (fun b z => (nomatch z)), hok := hok, bare := .of_eq hg }
  have G := F _ KB (dicts hns)
  refine codeAny_mono (G.go callerA [] s H ⟨[.ref a], []⟩ [.ref a] [.ref a] [.scr K ns] (fun _ => none) H (fun t _ => t = .dat (.bool true)) (fun v _ => v = .bl true) ⟨hr, rfl⟩ at0 (bind s (.ref a)) (.cons rfl .nil) (.cons ⟨a, rfl, hS⟩ .nil)
    ⟨Evl.Ex.refl H, (fun _ _ z => (nomatch z)), (fun _ _ z => (nomatch z))⟩ ⟨ns, rfl, hl, fun _ => rfl⟩ (fun v t M' H' Hc' _ _ r z => by subst z; exact dp_bl_inv r)) fun r s' h => ?_
  match r, h with
  | .ok (.ret u), ⟨v, H', os, bare, un, hok', rv, hv⟩ =>
    subst hv
    cases (show u = Value.bool true from rv)
    refine ⟨rfl, OldK.of_keep fun b o h1 => ?_, os, bare⟩
    cases z : H b with
    | none => exact un.keep b o h1 z (fun y => (nomatch y)) (fun y => (nomatch y))
    | some u =>
      obtain ⟨rfl, ⟨o', z', rfl⟩, _⟩ := only b u z
      have h2 := un.frzs b _ _ z
      have q1 := (hok b _ z).1
      have q2 := (hok' b _ h2).1
      rw [h1] at q1
      cases q1
      exact q2
/-- the goal that k_head leaves -/
theorem walk_law {l : PySem.W.OpenLaw} {q : Program} {loose : List Str} {XP : (Str → Option Value) → Heap → Prop} {YP : World → Heap → Prop} {d : DefRec} {K : Params → PySem.W.Frag}
    (hn : l.most = some 63) (hdf : d.params.defaults = []) (hr : Room k callerA) (hY : ∀ (w : World) (h : Heap), YP w h → (K w.params).In h)
    (F : ∀ (w : World) (mg : Str → Option Value) (fa : Addr) (h : Heap), (K w.params).In h → h.Ns mainGlobals mg → mg d.name = some (.ref fa) →
      ∃ fd : FuncData, (∀ (s : Shared) (u : Value), BindsTo s fd ⟨[u], []⟩ [(x, u)]) ∧ ∀ base : Heap, (K w.params).In base → base.Ns mainGlobals mg → Holds l.prog w (K w.params) mg base k fa fd [x] (prLaw (K w.params))) :
    PySem.W.WalkO q loose XP YP l.row.toRowW d [] (fun f vs => PySem.call f vs) := by
  refine Att.attach_call hn hdf fun w s₀ s₁ mg mb fa o pm cd doc a vs ns G Y ho hd hcd hmg hobj hints hlen hg => ?_
  have KX := hY w _ Y
  obtain ⟨fd, bind, hF⟩ := F w mg fa _ KX G.T.g hmg
  cases hk : (K w.params).lookup a with
  | some o' =>
    have e := KX a o' hk
    rw [hobj] at e
    cases e
    refine law_run (H := fun _ => none) KX G.T.g G.T.b G.T.builtins G.T.nolimit hg hobj hr hF bind hlen (.inr ⟨_, vs.toArray, _, hk, rfl, rfl, rfl, ?_, by simpa using vals_ints hints⟩) (fun b u z => (nomatch z)) (fun b u z => (nomatch z))
    rw [List.size_toArray, hints.length, sizeLine_eq]
    omega
  | none =>
    refine law_run (H := scrH a vs ns) KX G.T.g G.T.b G.T.builtins G.T.nolimit hg hobj hr hF bind hlen (.inl (.inr ⟨_, scrH_at⟩)) (fun b u z => ?_) fun b u z => ?_
    · by_cases hb : b = a
      · subst hb
        rw [scrH_at] at z
        cases z
        exact ⟨hobj, by rw [List.length_map, sizeLine_eq]; omega, vs, _, vals_ints hints, hobj⟩
      · rw [scrH_ne hb] at z
        cases z
    · by_cases hb : b = a
      · subst hb
        rw [scrH_at] at z
        cases z
        exact ⟨rfl, ⟨_, _, rfl⟩, hk⟩
      · rw [scrH_ne hb] at z
        cases z
end
end DL
namespace DL
open PySem PySem.Spec PyProof.Rows L2
open Evl (Ex)
theorem IsL.put {M : Mem} {s : Sl} {xs : List Sl} {p : Addr} {o : MO} (l : IsL M s xs) (h : M p = none) : IsL (put M p o) s xs := by
  rcases l with ⟨ds, rfl, rfl⟩ | ⟨a, rfl, e⟩
  · exact .dat
  · exact .own ((put_ne (ne_mem e h)).trans e)
/-- a comprehension whose element is a function of the item -/
theorem lc_map {s : Sl} {xs : List Sl} {M1 : Mem} {Γ : Fm} {vs : List Nat} {j : Nat} {el : DE} {K : Addr → Mem → Prop} (f : Sl → Sl) (l : IsL M1 s xs) (hz : xs.length < 16777216)
    (he : ∀ x ∈ xs, ∀ (M' : Mem) (k' : DK), k' (f x) M' → el ((wipeF Γ vs).set j (some x)) M' k') (hk : ∀ p, M1 p = none → K p (put M1 p (.lst (xs.map f)))) :
    ∃ xs, IsL M1 s xs ∧ ∀ p, M1 p = none → ∃ Inv : Nat → Mem → Prop, Inv 0 (put M1 p (.lst [])) ∧ (∀ i M', i ≤ xs.length → Inv i M' → IsL M' s xs) ∧
      (∀ i x M', xs[i]? = some x → Inv i M' → lcTurn p Γ vs j dYes el (Inv (i + 1)) x M') ∧ ∀ M', Inv xs.length M' → K p M' := by
  refine ⟨xs, l, fun p hp => ⟨fun i M' => M' = put M1 p (.lst ((xs.take i).map f)), rfl, fun i M' _ e => by rw [e]; exact l.put hp, fun i x M' hx e => ?_, fun M' e => by rw [e, List.take_length]; exact hk p hp⟩⟩
  subst e
  refine ⟨fun _ => he x (List.mem_of_getElem? hx) _ _ ?_, fun z => nomatch z⟩
  have hi : i < xs.length := (List.getElem?_eq_some_iff.mp hx).1
  refine ⟨_, put_at, by rw [List.length_map, List.length_take]; omega, ?_⟩
  show put (put M1 p (.lst ((xs.take i).map f))) p (.lst ((xs.take i).map f ++ [f x])) = put M1 p (.lst ((xs.take (i + 1)).map f))
  rw [put_put, List.take_add_one, hx]
  simp
theorem boolsD_map {α : Type} (g : α → Bool) : ∀ xs : List α, boolsD (xs.map fun x => Sl.dat (.bool (g x))) = some (xs.map g)
  | [] => rfl
  | x :: xs => by
    show (boolsD (xs.map fun x => Sl.dat (.bool (g x)))).map (g x :: ·) = _
    rw [boolsD_map g xs] <;> rfl
theorem not_t {b : Bool} (h : (!b) = true) : b = false := by cases b <;> simp_all
theorem not_f {b : Bool} (h : (!b) = false) : b = true := by cases b <;> simp_all
theorem isi_int (d : Dt) : isiD "int" d = match d with | .int _ => true | .bool _ => true | _ => false := by cases d <;> rfl
theorem isi_bool (d : Dt) : isiD "bool" d = match d with | .bool _ => true | _ => false := by cases d <;> rfl
theorem isi_tuple (d : Dt) : isiD "tuple" d = match d with | .tuple _ => true | _ => false := by cases d <;> rfl
/-! ### over a tuple -/
section
variable {X : Cx} {de : DE} {das : DA} {d1 : DS} {body : List Stmt} {pos : Pos} {e : Expr}
def dLcT (de : DE) (j : Nat) (t : DB) (el : DE) (vs : List Nat) : DE := fun Γ M k => de Γ M fun s M1 => ∃ ds, s = .dat (.tuple ds) ∧ ∀ p, M1 p = none → ∃ Inv : Nat → Mem → Prop, Inv 0 (put M1 p (.lst [])) ∧
  (∀ i x M', ds[i]? = some x → Inv i M' → lcTurn p Γ vs j t el (Inv (i + 1)) (.dat x) M') ∧ ∀ M', Inv ds.length M' → k (.own p) M'
theorem dps_get {H : Hp} : ∀ {ds : List Dt} {vs : List V} {i : Nat} {v : V}, DqAll H vs ds → vs[i]? = some v → ∃ d, ds[i]? = some d ∧ Dq H v d
  | [], _, _, _, .nil, h => by simp at h
  | d :: ds, _, 0, _, .cons r _, h => by simp at h; subst h; exact ⟨_, rfl, r⟩
  | d :: ds, _, i + 1, v, .cons _ t, h => by
    obtain ⟨u, h1, h2⟩ := dps_get (i := i) (v := v) t (by simpa using h)
    exact ⟨u, by simpa using h1, h2⟩
theorem sim_lcT {K : PySem.W.Frag} {te : TE} {j : Nat} {t : DB} {el : DE} {tt : TT} {tel : TE} {vs : List Nat} (h : SimE te de) (ht : SimB tt t) (hel : SimE tel el) (hj : j ∈ vs) : SimE (tLc (iTup K te) (gName j) tt tel vs) (dLcT de j t el vs) := fun Γ M k σ H Hc Q hd F O q => by
  refine h Γ M _ σ H Hc _ hd F O fun v s M1 H1 Hc1 e1 O1 r1 h1 => ?_
  obtain ⟨ds, rfl, h1⟩ := h1
  obtain ⟨a, ws, rfl, g1, g2⟩ := dp_tup_inv r1
  have hl := dps_len g2
  refine ⟨a, rfl, ⟨ws, SqT.of (O1.ex _ _ g1)⟩, fun p hp => ?_⟩
  obtain ⟨W, w0, wt, wd⟩ := h1 p (O1.freeM hp)
  refine lc_tup (xs := ws) (fun i Hc' => ∃ M' H', Ex H1 H' ∧ Own H' Hc' M' ∧ W i M') ⟨_, H1, Evl.Ex.refl _, O1.born (u := .lst []) hp ⟨Nat.zero_le _, [], rfl, .nil⟩, w0⟩ ?_ ?_ ?_
  · rintro i Hc' hi ⟨M', H', e2, O2, w⟩
    exact SqT.of (O2.ex _ _ (e2 _ _ g1))
  · rintro i x Hc' hx ⟨M', H', e2, O2, w⟩
    obtain ⟨d, hd', rd⟩ := dps_get g2 hx
    exact lc_turn ht hel hj e2 (sx := .dat d) (dp_ex e2 rd) (F.ex (e1.trans e2)) O2 (wt i d M' hd' w)
  · rintro Hc' ⟨M', H', e2, O2, w⟩
    rw [hl] at w
    exact q _ (.own p) M' H' Hc' (e1.trans e2) O2 rfl (wd M' w)
theorem xe_lcT {ex : Expr} {j : Nat} {t : DB} {el : DE} {vs : List Nat} (h : PE X ex (tLc (iTup X.K (LE de)) (gName j) (LB t) (LE el) vs)) (hj : j ∈ vs) : XE X ex (dLcT de j t el vs) := xe_of h (sim_lcT simLE simLB simLE hj)
/-- a comprehension over a tuple whose element is a function of the item -/
theorem lc_mapT {ds : List Dt} {M1 : Mem} {Γ : Fm} {vs : List Nat} {j : Nat} {el : DE} {K : Addr → Mem → Prop} (f : Dt → Sl) (hz : ds.length < 16777216)
    (he : ∀ x ∈ ds, ∀ (M' : Mem) (k' : DK), k' (f x) M' → el ((wipeF Γ vs).set j (some (.dat x))) M' k') (hk : ∀ p, M1 p = none → K p (put M1 p (.lst (ds.map f)))) :
    ∃ es, Sl.dat (.tuple ds) = .dat (.tuple es) ∧ ∀ p, M1 p = none → ∃ Inv : Nat → Mem → Prop, Inv 0 (put M1 p (.lst [])) ∧
      (∀ i x M', es[i]? = some x → Inv i M' → lcTurn p Γ vs j dYes el (Inv (i + 1)) (.dat x) M') ∧ ∀ M', Inv es.length M' → K p M' := by
  refine ⟨ds, rfl, fun p hp => ⟨fun i M' => M' = put M1 p (.lst ((ds.take i).map f)), rfl, fun i x M' hx e => ?_, fun M' e => by rw [e, List.take_length]; exact hk p hp⟩⟩
  subst e
  refine ⟨fun _ => he x (List.mem_of_getElem? hx) _ _ ?_, fun z => nomatch z⟩
  have hi : i < ds.length := (List.getElem?_eq_some_iff.mp hx).1
  refine ⟨_, put_at, by rw [List.length_map, List.length_take]; omega, ?_⟩
  show put (put M1 p (.lst ((ds.take i).map f))) p (.lst ((ds.take i).map f ++ [f x])) = put M1 p (.lst ((ds.take (i + 1)).map f))
  rw [put_put, List.take_add_one, hx]
  simp
/-- t[::-1], xs[::-1] -/
def dRev (de : DE) : DE := fun Γ M k => de Γ M fun s M1 => match s with
  | .dat (.tuple ds) => k (.dat (.tuple ds.reverse)) M1
  | .dat (.list ds) => k (.dat (.list ds.reverse)) M1
  | .own a => ∃ ds : List Dt, M1 a = some (.lst (ds.map .dat)) ∧ k (.dat (.list ds.reverse)) M1
  | _ => False
end
end DL
namespace DL
open PySem PySem.Spec PyProof.Rows L2 HT
open Evl (Ex)
section
variable {prog : Program} {w : World} {A : Around} {E : Value → Shared → Prop} {s : Shared}
theorem back_bounds (n : Nat) : Builtin.Slice.sliceAdjust none none (-1) (n : Int) = ((n : Int) - 1, -1) := by
  unfold Builtin.Slice.sliceAdjust
  simp
theorem back_places (n : Nat) : Builtin.Slice.slicePlaces ((n : Int) - 1) (-1) (-1) = n := by
  unfold Builtin.Slice.slicePlaces
  simp
  try omega
theorem back_applied {sl : Addr} {vl vu vs : Value} {n : Nat} {Q : Int × Int × Nat → Shared → Prop} (hs : s.heap.IsSliceOf sl vl vu vs) (pl : IsPart vl none) (pu : IsPart vu none) (ps : IsPart vs (some (-1))) (h : Q ((n : Int) - 1, -1, n) s) :
    wpAny (model prog w) A (Builtin.Slice.sliceApplied (.ref sl) (pure (n : Int))) Q E s := by
  obtain ⟨os, h1, h2, h3⟩ := id hs
  unfold Builtin.Slice.sliceApplied Builtin.Slice.sliceFields
  refine wpAny_bind (wpAny_bind (wpAny_field h1 h3 (x := vl) rfl (wpAny_bind (wpAny_field h1 h3 (x := vu) rfl (wpAny_bind (wpAny_field h1 h3 (x := vs) rfl (wpAny_pure ?_)))))))
  refine wpAny_bind (slicePart_ ps ?_)
  show wpAny _ _ (if ((-1 : Int) == 0) = true then _ else _) _ _ s
  rw [if_neg (by decide)]
  refine wpAny_bind (slicePart_ pl (wpAny_bind (slicePart_ pu (wpAny_bind (wpAny_pure ?_)))))
  show wpAny _ _ (match Builtin.Slice.sliceAdjust none none (-1) (n : Int) with | (a, b) => pure (a, (-1 : Int), Builtin.Slice.slicePlaces a b (-1))) _ _ s
  rw [back_bounds]
  show wpAny _ _ (pure ((n : Int) - 1, (-1 : Int), Builtin.Slice.slicePlaces ((n : Int) - 1) (-1) (-1))) _ _ s
  rw [back_places]
  exact wpAny_pure h
theorem back_pick (xs : List Value) : ((List.range xs.length).filterMap fun (m : Nat) => xs.toArray[((xs.length : Int) - 1 + (m : Int) * (-1)).toNat]?) = xs.reverse := by
  refine List.ext_getElem? fun i => ?_
  have key : (List.range xs.length).filterMap (fun (m : Nat) => xs.toArray[((xs.length : Int) - 1 + (m : Int) * (-1)).toNat]?) = (List.range xs.length).map fun m => xs.getD (xs.length - 1 - m) .none := by
    have e : ∀ m ∈ List.range xs.length, xs.toArray[((xs.length : Int) - 1 + (m : Int) * (-1)).toNat]? = some (xs.getD (xs.length - 1 - m) .none) := by
      intro m hm
      have hm' := List.mem_range.mp hm
      have e1 : ((xs.length : Int) - 1 + (m : Int) * (-1)).toNat = xs.length - 1 - m := by omega
      rw [e1]
      have hlt : xs.length - 1 - m < xs.length := by omega
      simp [List.getD_eq_getElem?_getD, List.getElem?_eq_getElem hlt]
    generalize hL : List.range xs.length = L at e ⊢
    clear hL
    induction L with
    | nil => rfl
    | cons m L ih =>
      rw [List.filterMap_cons, e m List.mem_cons_self, List.map_cons]
      simp only
      rw [ih fun k hk => e k (List.mem_cons_of_mem _ hk)]
  rw [key]
  by_cases hi : i < xs.length
  · rw [List.getElem?_map, List.getElem?_range hi, List.getElem?_reverse hi]
    have hlt : xs.length - 1 - i < xs.length := by omega
    simp [List.getD_eq_getElem?_getD, List.getElem?_eq_getElem hlt]
  · rw [List.getElem?_eq_none (by simp; omega), List.getElem?_eq_none (by simp; omega)]
theorem getItem_tuple_back {t sl : Addr} {its : List Value} {vl vu vs : Value} {Q : Value → Shared → Prop} (ht : IsTup s.heap t its.toArray) (hs : s.heap.IsSliceOf sl vl vu vs) (pl : IsPart vl none) (pu : IsPart vu none) (ps : IsPart vs (some (-1))) (hz : its.length ≤ sizeLine)
    (h : Q (.ref s.heap.objs.size) { s with heap := s.heap.push { cls := .type "tuple", data := .seq its.reverse.toArray } }) : wpAny (model prog w) A (getItem (.ref t) (.ref sl)) Q E s := by
  have room : sizeOk (.seq its.reverse.toArray) := by
    show its.reverse.toArray.size ≤ sizeLine
    rw [List.size_toArray, List.length_reverse]
    exact hz
  obtain ⟨os, h1, h2, h3⟩ := id hs
  have hT : s.TypeIs (.ref sl) "slice" := ⟨os, h1, h2⟩
  unfold getItem
  try with_reducible refine wpAny_holding ?_
  first | refine wpAny_bind (wpAny_pure ?_) | skip
  refine wpAny_bind (wpAny_sequenceKey ht.typeIs (by decide) ?_)
  refine wpAny_bind (wpAny_callSpecial?_slot (name := Str.ofString "__getitem__") ht.typeIs PyProof.Rows.slot_tuple_getitem (wpAny_call_entry PyProof.Rows.slot_tuple_getitem ht.typeIs entry_tuple_getitem ?_ (args_tuple_getitem _ _)))
  show wpAny _ _ (Builtin.Tuple.tupleItemsOf (.ref t) >>= _) _ _ s
  refine wpAny_bind (tupleItemsOf_ ht ?_)
  refine wpAny_bind (wpAny_typeOf hT ?_)
  rw [if_pos (by decide)]
  refine wpAny_bind (back_applied hs pl pu ps ?_)
  have no : ¬ ((((its.toArray.size : Int) - 1 == 0) && ((-1 : Int) == 1) && (its.toArray.size == its.toArray.size)) = true) := by simp
  show wpAny _ _ (if (((its.toArray.size : Int) - 1 == 0) && ((-1 : Int) == 1) && (its.toArray.size == its.toArray.size)) = true then _ else _) _ _ s
  rw [if_neg no]
  have e := back_pick its
  have e2 : ((List.range its.toArray.size).filterMap fun (m : Nat) => its.toArray[((its.toArray.size : Int) - 1 + (m : Int) * (-1)).toNat]?).toArray = its.reverse.toArray := by
    rw [List.size_toArray, e]
  rw [e2]
  first
    | exact wpAny_bind (m := Builtin.Tuple.tupleExact _) (wpAny_newObj_type (wpAny_pure ⟨_, rfl, wpAny_pure h⟩) room)
    | exact wpAny_bind (m := Builtin.Tuple.tupleExact _) (wpAny_newObj_type (wpAny_bind (wpAny_pure (wpAny_pure ⟨_, rfl, wpAny_pure h⟩))) room)
    | exact wpAny_bind (wpAny_bind (m := Builtin.Tuple.tupleExact _) (wpAny_newObj_type (wpAny_pure (wpAny_pure ⟨_, rfl, wpAny_pure h⟩)) room))
    | exact wpAny_bind (wpAny_bind (m := Builtin.Tuple.tupleExact _) (wpAny_newObj_type (wpAny_pure ⟨_, rfl, wpAny_pure h⟩) room))
end
section
variable {X : Cx} {e : Expr} {te : TE} {de : DE}
/-- x[::-1], x a list or a tuple -/
def tBack (K : PySem.W.Frag) (te : TE) : TE := fun σ H Q => te σ H fun x H1 => ∃ a xs, x = .ref a ∧ ((SqL K H1 a xs ∧ ∀ p, H1 p = none → Q (.ref p) (upd H1 p (.lst xs.reverse))) ∨ (SqT K H1 a xs ∧ ∀ p, H1 p = none → Q (.ref p) (upd H1 p (.tup xs.reverse))))
theorem pe_back {k : Nat} {p1 p2 p3 pos : Pos} (he : PE X e te) : PE X (.Subscript e (.Slice none none (some (.UnaryOp .USub (.Constant (.int 1) k p1) p2)) p3) pos) (tBack X.K te) := by
  have step : PO X (some (.UnaryOp .USub (.Constant (.int 1) k p1) p2)) (tPart (tUn (rU fun i => .int (-i)) (tC (.int 1)))) := po_some (pe_un un_neg pe_int)
  constructor
  intro pins s σ H Q I h
  refine Subscript_ (thn (he.run pins s σ H _ I h) fun v s1 ⟨x, H1, I1, r1, a, xs, hx, q⟩ => ?_)
  subst hx
  cases r1
  refine wpAny_Slice (thn (po_none.run pins s1 σ H1 (fun o G => o = none ∧ G = H1) I1 ⟨rfl, rfl⟩) fun u1 s2 z1 => ?_)
  obtain ⟨_, _, I2, w1, rfl, rfl⟩ := z1
  refine thn (po_none.run pins s2 σ _ (fun o G => o = none ∧ G = _) I2 ⟨rfl, rfl⟩) fun u2 s3 z2 => ?_
  obtain ⟨_, _, I3, w2, rfl, rfl⟩ := z2
  refine thn (step.run pins s3 σ _ (fun o G => o = some (-1) ∧ G = _) I3 ⟨1, rfl, -1, rfl, rfl, rfl⟩) fun u3 s4 z3 => ?_
  obtain ⟨_, G, I4, w3, rfl, rfl⟩ := z3
  have I5 : Inv X pins σ G { s4 with heap := s4.heap.push { cls := .type "slice", data := .fields #[u1, u2, u3] } } := I4.kept (t' := s4.toks) fun b ob z => Heap.get?_push_of_some _ z
  rcases q with ⟨hq, q⟩ | ⟨hq, q⟩
  · obtain ⟨its, r, ht, hz⟩ := I5.list hq
    have hlen := r.length
    refine tail_any (ops := [.ref a, .ref s4.heap.objs.size]) ht.isList.typeIs (PySem.slot_list_getitem.lookup) ?_ (by with_unfolding_all rfl)
    refine wpAny_getItem_list_slice ht.isList (Heap.IsSliceOf.new _ u1 u2 u3) w1 w2 w3 (by decide) ?_ (by rw [List.size_toArray]; omega)
    rw [PySem.W.krv_pick]
    refine ⟨.ref _, upd G _ (.lst xs.reverse), I5.laid (t' := s4.toks) (o := .lst xs.reverse) (fun b ob z => Heap.get?_push_of_some _ z) (Nat.le_refl _) ⟨by rw [List.length_reverse]; exact hz, _, 0, r.reverse, Heap.get?_push_size _ rfl⟩, rfl, q _ (I5.hok.fresh (Nat.le_refl _))⟩
  · obtain ⟨its, r, ht, hz⟩ := I5.tuple hq
    have hlen := r.length
    refine tail_any (ops := [.ref a, .ref s4.heap.objs.size]) ht.typeIs (PyProof.Rows.slot_tuple_getitem.lookup) ?_ (by with_unfolding_all rfl)
    refine getItem_tuple_back ht (Heap.IsSliceOf.new _ u1 u2 u3) w1 w2 w3 (by omega) ?_
    exact ⟨.ref _, upd G _ (.tup xs.reverse), I5.laid (t' := s4.toks) (o := .tup xs.reverse) (fun b ob z => Heap.get?_push_of_some _ z) (Nat.le_refl _) ⟨by rw [List.length_reverse]; exact hz, _, r.reverse, IsTup.new _ _⟩, rfl, q _ (I5.hok.fresh (Nat.le_refl _))⟩
theorem dqs_reverse {H : Hp} {ds : List Dt} {vs : List V} (h : DqAll H vs ds) : DqAll H vs.reverse ds.reverse := by
  exact dqs_rev h (.nil : DqAll H [] [])
theorem xe_rev {k : Nat} {p1 p2 p3 pos : Pos} (he : XE X e de) : XE X (.Subscript e (.Slice none none (some (.UnaryOp .USub (.Constant (.int 1) k p1) p2)) p3) pos) (dRev de) := xe_of (pe_back he) fun Γ M k σ H Hc Q hd F O q => simLE Γ M _ σ H Hc _ hd F O fun v s M1 H1 Hc1 e1 O1 r1 h1 => by
  split at h1
  · obtain ⟨a, vs, rfl, g1, g2⟩ := dp_tup_inv r1
    exact ⟨a, vs, rfl, .inr ⟨SqT.of (O1.ex _ _ g1), fun p hp => (q.ex e1).tup O1 (dqs_reverse g2) hp h1⟩⟩
  · obtain ⟨a, vs, rfl, g1, g2⟩ := dp_lst_inv r1
    exact ⟨a, vs, rfl, .inl ⟨SqL.of (O1.ex _ _ g1), fun p hp => (q.ex e1).lst O1 (dqs_reverse g2) hp h1⟩⟩
  · obtain ⟨ds, hm, h1⟩ := h1
    cases r1
    obtain ⟨_, vs, g1, g2⟩ := O1.ob _ _ hm
    exact ⟨_, vs, rfl, .inl ⟨SqL.of g1, fun p hp => (q.ex e1).lst O1 (dqs_reverse (rps_dat g2)) hp h1⟩⟩
  · exact h1.elim
end
/-! ### sorted of whole numbers -/
def fSortI : DC := fun ss M k => match ss with
  | [s] => ∃ ns : List Int, IsL M s (ns.map fun n => .dat (.int n)) ∧ ns.length ≤ 1000000 ∧ ∀ (ns' : List Int) p, ns'.Perm ns → ns'.Pairwise (· ≤ ·) → M p = none → k (.own p) (put M p (.lst (ns'.map fun n => .dat (.int n))))
  | _ => False
theorem rps_ints {H : Hp} : ∀ {ns : List Int} {vs : List V}, Rps H (ns.map fun n => Sl.dat (.int n)) vs → vs = ns.map V.int
  | [], _, .nil => rfl
  | n :: ns, _, .cons r t => by rw [dp_int_inv r, rps_ints t] <;> rfl
theorem ints_rps {H : Hp} : ∀ ns : List Int, Rps H (ns.map fun n => Sl.dat (.int n)) (ns.map V.int)
  | [] => .nil
  | n :: ns => .cons (Dq.int n) (ints_rps ns)
theorem sim_sortI {K : PySem.W.Frag} : SimC (rSortedI K) fSortI := by
  intro ss M k xs H Hc Q h r O q
  unfold fSortI at h
  split at h
  · obtain ⟨x, rfl, rx⟩ := rps1 r
    obtain ⟨ns, l, hz, h⟩ := h
    obtain ⟨a, vs, rfl, g1, g2⟩ := l.at_ O rx
    rw [rps_ints g2] at g1
    refine ⟨a, ns, rfl, SqL.of g1, fun ns' p h1 h2 hp => ?_⟩
    exact q.own O (ints_rps ns') (by rw [List.length_map, h1.length_eq, sizeLine_eq]; omega) hp (h ns' p h1 h2 (O.freeM hp))
  · exact h.elim
/-! ### how long a repr is -/
mutual
def sz : Dt → Nat
  | .none => 4
  | .bool _ => 5
  | .int _ => 2000
  | .str x => (reprText x).length
  | .list xs => szAll xs + 3
  | .tuple xs => szAll xs + 3
  | .dict _ => 0
def szAll : List Dt → Nat
  | [] => 0
  | x :: xs => sz x + 2 + szAll xs
end
def noDict : Dt → Bool
  | .dict _ => false
  | _ => true
mutual
theorem shown_sz : ∀ d : Dt, d.showable = true → d.hasDict = false → d.shown.length ≤ sz d
  | .none, _, _ => by decide +kernel
  | .bool b, _, _ => by cases b <;> decide +kernel
  | .int i, h, _ => by
    have e : i.natAbs.log2 < 1920 := by simpa [PyData.showable] using h
    have := int_text_len_1921 e
    show (Str.ofString (toString i)).length ≤ 2000
    omega
  | .str x, _, _ => Nat.le_refl _
  | .list xs, h, h2 => by
    have z := shown_szAll xs (by simpa [PyData.showable] using h) (by simpa [PyData.hasDict] using h2)
    have y := listText_len_le (PyData.shownAll xs)
    show (listText (PyData.shownAll xs)).length ≤ szAll xs + 3
    omega
  | .tuple xs, h, h2 => by
    have z := shown_szAll xs (by simpa [PyData.showable] using h) (by simpa [PyData.hasDict] using h2)
    have y := tupleText_len_le (PyData.shownAll xs)
    show (tupleText (PyData.shownAll xs)).length ≤ szAll xs + 3
    omega
  | .dict _, _, h => by simp [PyData.hasDict] at h
theorem shown_szAll : ∀ ds : List Dt, PyData.showableAll ds = true → PyData.hasDictAll ds = false → ((PyData.shownAll ds).map (·.length)).sum + 2 * (PyData.shownAll ds).length ≤ szAll ds
  | [], _, _ => Nat.le_refl _
  | d :: ds, h, h2 => by
    rw [PyData.showableAll, Bool.and_eq_true] at h
    rw [PyData.hasDictAll, Bool.or_eq_false_iff] at h2
    have a := shown_sz d h.1 h2.1
    have b := shown_szAll ds h.2 h2.2
    show ((d.shown :: PyData.shownAll ds).map (·.length)).sum + 2 * (d.shown :: PyData.shownAll ds).length ≤ sz d + 2 + szAll ds
    rw [List.map_cons, List.sum_cons, List.length_cons]
    omega
end
/-- small enough to be shown: k levels -/
structure Sm (k : Nat) (d : Dt) : Prop where
  sh : d.showable = true
  nd : d.hasDict = false
  sz : sz d ≤ 3000 * 40 ^ k
  dp : d.depth ≤ k
theorem Sm.mono {j k : Nat} {d : Dt} (h : Sm j d) (le : j ≤ k) : Sm k d := ⟨h.sh, h.nd, Nat.le_trans h.sz (Nat.mul_le_mul_left _ (Nat.pow_le_pow_right (by decide) le)), Nat.le_trans h.dp le⟩
theorem Sm.int {i : Int} (h : i.natAbs < 2 ^ 1000) : Sm 0 (.int i) := by
  refine ⟨?_, rfl, (show 2000 ≤ 3000 * 40 ^ 0 by decide), Nat.le_refl _⟩
  have e : i.natAbs.log2 < 1920 := Nat.lt_of_lt_of_le (PySem.Flt.log2_lt_of (by decide) h) (by decide)
  simpa [PyData.showable] using e
theorem Sm.bool {b : Bool} : Sm 0 (.bool b) := ⟨rfl, rfl, by show 5 ≤ 3000 * 40 ^ 0; decide, Nat.le_refl _⟩
theorem Sm.none : Sm 0 .none := ⟨rfl, rfl, by show 4 ≤ 3000 * 40 ^ 0; decide, Nat.le_refl _⟩
theorem Sm.str {x : Str} (h : (reprText x).length ≤ 3000) : Sm 0 (.str x) := ⟨rfl, rfl, h, Nat.le_refl _⟩
theorem sm_all {k : Nat} : ∀ {ds : List Dt}, (∀ d ∈ ds, Sm k d) → PyData.showableAll ds = true ∧ PyData.hasDictAll ds = false ∧ szAll ds ≤ ds.length * (3000 * 40 ^ k + 2) ∧ PyData.depthAll ds ≤ k
  | [], _ => ⟨rfl, rfl, Nat.zero_le _, Nat.zero_le _⟩
  | d :: ds, h => by
    obtain ⟨a, b, c, e⟩ := sm_all fun x hx => h x (List.mem_cons_of_mem _ hx)
    have g := h d List.mem_cons_self
    refine ⟨?_, ?_, ?_, ?_⟩
    · rw [PyData.showableAll, g.sh, a] <;> rfl
    · rw [PyData.hasDictAll, g.nd, b] <;> rfl
    · show sz d + 2 + szAll ds ≤ (ds.length + 1) * (3000 * 40 ^ k + 2)
      rw [Nat.succ_mul]
      have := g.sz
      omega
    · show max d.depth (PyData.depthAll ds) ≤ k
      have := g.dp
      omega
theorem sm_bound (k n : Nat) (h : n ≤ 38) : n * (3000 * 40 ^ k + 2) + 3 ≤ 3000 * 40 ^ (k + 1) := by
  have e : 1 ≤ 40 ^ k := Nat.pos_of_ne_zero (by simp)
  rw [Nat.pow_succ]
  have : n * (3000 * 40 ^ k + 2) ≤ 38 * (3000 * 40 ^ k + 2) := Nat.mul_le_mul_right _ h
  omega
theorem Sm.tup {k : Nat} {ds : List Dt} (h : ∀ d ∈ ds, Sm k d) (hl : ds.length ≤ 38) : Sm (k + 1) (.tuple ds) := by
  obtain ⟨a, b, c, e⟩ := sm_all h
  refine ⟨a, b, ?_, Nat.succ_le_succ e⟩
  show szAll ds + 3 ≤ _
  have := sm_bound k ds.length hl
  omega
theorem Sm.list {k : Nat} {ds : List Dt} (h : ∀ d ∈ ds, Sm k d) (hl : ds.length ≤ 38) : Sm (k + 1) (.list ds) := by
  obtain ⟨a, b, c, e⟩ := sm_all h
  refine ⟨a, b, ?_, Nat.succ_le_succ e⟩
  show szAll ds + 3 ≤ _
  have := sm_bound k ds.length hl
  omega
theorem Sm.fits {d : Dt} (h : Sm 2 d) : d.shown.length ≤ 16777216 := Nat.le_trans (shown_sz d h.sh h.nd) (Nat.le_trans h.sz (by decide))
theorem cut_mem {α : Type} {xs : List α} {lo hi : Option Int} {x : α} (h : x ∈ cut xs lo hi) : x ∈ xs := by
  unfold cut at h
  exact List.mem_of_mem_drop (List.mem_of_mem_take h)
/-- an item of a list at a drawn place -/
theorem pick {α : Type} {P : α → Prop} {xs : List α} {i : Int} (h : ∀ x ∈ xs, P x) (h0 : 0 ≤ i) (h1 : i < xs.length) : ∃ x, atI xs i = some x ∧ P x := by
  obtain ⟨j, rfl⟩ := Int.eq_ofNat_of_zero_le h0
  have hj : j < xs.length := by omega
  exact ⟨xs[j], atI_nat (List.getElem?_eq_getElem hj), h _ (List.getElem_mem hj)⟩
theorem pickI {P : Int → Prop} {xs : List Int} {i : Int} (h : ∀ x ∈ xs, P x) (h0 : 0 ≤ i) (h1 : i < xs.length) : ∃ x, atI (xs.map PyData.int) i = some (.int x) ∧ P x := by
  obtain ⟨j, rfl⟩ := Int.eq_ofNat_of_zero_le h0
  have hj : j < xs.length := by omega
  exact ⟨xs[j], atI_nat (by rw [List.getElem?_map, List.getElem?_eq_getElem hj] <;> rfl), h _ (List.getElem_mem hj)⟩
end DL
namespace DL
open PySem PySem.Spec PyProof.Rows L2
open Evl (Ex)
/-! ### dicts of ours, their keys whole numbers or texts -/
def keyD : Dt → Option Key
  | .int i => some (.inl i)
  | .str x => some (.inr x)
  | _ => none
theorem key_rp {H : Hp} {d : Dt} {key : Key} {v : V} (r : Dq H v d) (h : keyD d = some key) : v = kV key := by
  cases d <;> first | (cases h <;> first | exact dp_int_inv r | exact dp_str_inv r) | (cases h)
abbrev Kvs := List (Key × Sl)
def dval (kvs : Kvs) (k : Key) : Option Sl := (kvs.find? fun kv => decide (kv.1 = k)).map (·.2)
def dput (kvs : Kvs) (k : Key) (s : Sl) : Kvs := if (kvs.any fun kv => decide (kv.1 = k)) = true then kvs.map (fun kv => if kv.1 = k then (kv.1, s) else kv) else kvs ++ [(k, s)]
abbrev RpK (H : Hp) : Kvs → List (Key × V) → Prop := Paired (fun (p : Key × Sl) (q : Key × V) => p.1 = q.1 ∧ Rp H p.2 q.2)
theorem rpk_len {H : Hp} : ∀ {kvs : Kvs} {ws : List (Key × V)}, RpK H kvs ws → ws.length = kvs.length
  | [], _, .nil => rfl
  | _ :: _, _, .cons _ t => congrArg (· + 1) (rpk_len t)
theorem rpk_val {H : Hp} {k : Key} : ∀ {kvs : Kvs} {ws : List (Key × V)}, RpK H kvs ws → (dval kvs k = none ∧ valV ws k = none) ∨ ∃ s v, dval kvs k = some s ∧ valV ws k = some v ∧ Rp H s v
  | [], _, .nil => .inl ⟨rfl, rfl⟩
  | (a, s) :: kvs, _, .cons (b := (b, v)) r t => by
    obtain ⟨rfl, r2⟩ := r
    rename_i ws
    by_cases e : a = k
    · subst e
      refine .inr ⟨s, v, ?_, ?_, r2⟩
      · unfold dval
        rw [List.find?_cons, decide_eq_true rfl]
        rfl
      · unfold valV
        rw [List.find?_cons, decide_eq_true rfl]
        rfl
    · have e1 : dval ((a, s) :: kvs) k = dval kvs k := by
        unfold dval
        rw [List.find?_cons, decide_eq_false e]
      have e2 : valV ((a, v) :: ws) k = valV ws k := by
        unfold valV
        rw [List.find?_cons, decide_eq_false e]
      rw [e1, e2]
      exact rpk_val t
theorem rpk_map {H : Hp} {k : Key} {s : Sl} {v : V} (r : Rp H s v) : ∀ {kvs : Kvs} {ws : List (Key × V)}, RpK H kvs ws → RpK H (kvs.map (fun kv => if kv.1 = k then (kv.1, s) else kv)) (ws.map (fun kv => if kv.1 = k then (kv.1, v) else kv))
  | [], _, .nil => .nil
  | (a, x) :: kvs, _, .cons (b := (b, y)) q t => by
    obtain ⟨rfl, q2⟩ := q
    refine .cons ?_ (rpk_map r t)
    show ((if a = k then (a, s) else (a, x)) : Key × Sl).1 = ((if a = k then (a, v) else (a, y)) : Key × V).1 ∧ Rp H ((if a = k then (a, s) else (a, x)) : Key × Sl).2 ((if a = k then (a, v) else (a, y)) : Key × V).2
    by_cases e : a = k
    · rw [if_pos e, if_pos e]
      exact ⟨rfl, r⟩
    · rw [if_neg e, if_neg e]
      exact ⟨rfl, q2⟩
theorem rpk_any {H : Hp} {k : Key} : ∀ {kvs : Kvs} {ws : List (Key × V)}, RpK H kvs ws → (kvs.any fun kv => decide (kv.1 = k)) = (ws.any fun kv => decide (kv.1 = k))
  | [], _, .nil => rfl
  | (a, x) :: kvs, _, .cons (b := (b, y)) q t => by
    obtain ⟨rfl, q2⟩ := q
    rw [List.any_cons, List.any_cons, rpk_any t]
theorem rpk_app {H : Hp} : ∀ {kvs kvs2 : Kvs} {ws ws2 : List (Key × V)}, RpK H kvs ws → RpK H kvs2 ws2 → RpK H (kvs ++ kvs2) (ws ++ ws2)
  | [], _, _, _, .nil, h => h
  | _ :: _, _, _, _, .cons r t, h => .cons r (rpk_app t h)
theorem rpk_put {H : Hp} {k : Key} {s : Sl} {v : V} {kvs : Kvs} {ws : List (Key × V)} (h : RpK H kvs ws) (r : Rp H s v) : RpK H (dput kvs k s) (putK ws k v) := by
  unfold dput putK
  rw [rpk_any h]
  by_cases e : (ws.any fun kv => decide (kv.1 = k)) = true
  · rw [if_pos e, if_pos e]
    exact rpk_map r h
  · rw [if_neg e, if_neg e]
    exact rpk_app h (.cons ⟨rfl, r⟩ .nil)
section
variable {X : Cx} {e f o i : Expr} {de df do_ di : DE} {das : DA} {pos apos : Pos}
def dDct0 : DE := fun _ M k => ∀ p, M p = none → k (.own p) (put M p (.dct []))
theorem xe_dct0 : XE X (.Dict [] [] pos) dDct0 := xe_of pe_dnewK fun Γ M k σ H Hc Q hd F O q p hp => q (.ref p) (.own p) _ H _ (Ex.refl H) (O.born (u := .dct []) hp ⟨[], rfl, .nil⟩) rfl (hd p (O.freeM hp))
/-- d.get(key, other) -/
def dGet2 (do_ di de : DE) : DE := fun Γ M k => do_ Γ M fun o M1 => (∃ a kvs, o = .own a ∧ M1 a = some (.dct kvs)) ∧ di Γ M1 fun i M2 => de Γ M2 fun z M3 => ∃ a kvs d key, o = .own a ∧ M3 a = some (.dct kvs) ∧ i = .dat d ∧ keyD d = some key ∧ k ((dval kvs key).getD z) M3
theorem xe_get2 (h : PE X e (tDGet2 (LE do_) (LE di) (LE de))) : XE X e (dGet2 do_ di de) := xe_of h fun Γ M k σ H Hc Q hd F O q => by
  refine simLE Γ M _ σ H Hc _ hd F O fun vo so M1 H1 Hc1 e1 O1 r1 h1 => ?_
  obtain ⟨⟨a, kvs, rfl, hm⟩, h1⟩ := h1
  cases r1
  obtain ⟨ws, g1, _⟩ := O1.ob _ _ hm
  refine ⟨a, rfl, .inl ⟨ws, .inl g1⟩, ?_⟩
  refine simLE Γ M1 _ σ H1 Hc1 _ h1 (F.ex e1) O1 fun vi si M2 H2 Hc2 e2 O2 r2 h2 => ?_
  refine simLE Γ M2 _ σ H2 Hc2 _ h2 (F.ex (e1.trans e2)) O2 fun vz sz M3 H3 Hc3 e3 O3 r3 h3 => ?_
  obtain ⟨a', kvs', d, key, ea, hm3, rfl, hk, h3⟩ := h3
  cases ea
  obtain ⟨ws', g1', g2'⟩ := O3.ob _ _ hm3
  have r2' : Dq H2 vi d := r2
  have ek := key_rp r2' hk
  subst ek
  refine ⟨valV ws' key, DGet.k g1', ?_⟩
  rcases rpk_val (k := key) g2' with ⟨z1, z2⟩ | ⟨s, v, z1, z2, z3⟩
  · rw [z2]
    rw [z1] at h3
    exact q vz sz M3 H3 Hc3 (e1.trans (e2.trans e3)) O3 r3 h3
  · rw [z2]
    rw [z1] at h3
    exact q v s M3 H3 Hc3 (e1.trans (e2.trans e3)) O3 z3 h3
/-- d[key] -/
def fDIx : D2 := fun o i M k => ∃ a kvs d key s, o = .own a ∧ M a = some (.dct kvs) ∧ i = .dat d ∧ keyD d = some key ∧ dval kvs key = some s ∧ k s M
theorem xe_dix (h : PE X e (tDGet (LE do_) (LE di))) : XE X e (dOp fDIx do_ di) := xe_of h fun Γ M k σ H Hc Q hd F O q => by
  refine simLE Γ M _ σ H Hc _ hd F O fun vo so M1 H1 Hc1 e1 O1 r1 h1 => ?_
  refine simLE Γ M1 _ σ H1 Hc1 _ h1 (F.ex e1) O1 fun vi si M2 H2 Hc2 e2 O2 r2 h2 => ?_
  obtain ⟨a, kvs, d, key, s, rfl, hm, rfl, hk, hv, h2⟩ := h2
  cases r1
  obtain ⟨ws, g1, g2⟩ := O2.ob _ _ hm
  have r2' : Dq H2 vi d := r2
  have ek := key_rp r2' hk
  subst ek
  rcases rpk_val (k := key) g2 with ⟨z1, z2⟩ | ⟨s', v, z1, z2, z3⟩
  · rw [z1] at hv
    cases hv
  · rw [z1] at hv
    cases hv
    refine ⟨a, v, rfl, ?_, q v s M2 H2 Hc2 (e1.trans e2) O2 z3 h2⟩
    rw [← z2]
    exact DGet.k g1
/-- d[key] = e -/
def dSetD (de do_ di : DE) : DS := fun D Γ M => de Γ M fun s M1 => do_ Γ M1 fun o M2 => di Γ M2 fun i M3 => ∃ a kvs d key, o = .own a ∧ i = .dat d ∧ keyD d = some key ∧ M3 a = some (.dct kvs) ∧ kvs.length < 16777216 ∧ D.nx Γ (put M3 a (.dct (dput kvs key s)))
theorem xs_setD {st : Stmt} (h : PS X st (tAsg (LE de) (gSub (LE do_) (LE di) rSetD))) : XS X st (dSetD de do_ di) := xs_of h fun Γ M D σ H Hc E hd F O q => by
  refine simLE Γ M _ σ H Hc _ hd F O fun v s M1 H1 Hc1 e1 O1 r1 h1 => ?_
  refine simLE Γ M1 _ σ H1 Hc1 _ h1 (F.ex e1) O1 fun vo so M2 H2 Hc2 e2 O2 r2 h2 => ?_
  refine simLE Γ M2 _ σ H2 Hc2 _ h2 (F.ex (e1.trans e2)) O2 fun vi si M3 H3 Hc3 e3 O3 r3 h3 => ?_
  obtain ⟨a, kvs, d, key, rfl, rfl, hk, hm, hz, hn⟩ := h3
  cases r2
  obtain ⟨ws, g1, g2⟩ := O3.ob _ _ hm
  have r3' : Dq H3 vi d := r3
  have ek := key_rp r3' hk
  subst ek
  refine ⟨a, _, rfl, DPut.k g1 (by rw [rpk_len g2, sizeLine_eq]; exact hz), ?_⟩
  exact q.nx σ Γ _ H3 _ (e1.trans (e2.trans e3)) (F.ex (e1.trans (e2.trans e3))) (O3.turn (u := .dct _) hm ⟨_, rfl, rpk_put g2 (rp_ex (e2.trans e3) r1)⟩) hn
/-- d.setdefault(key, e) -/
def dSetd (do_ di de : DE) : DE := fun Γ M k => do_ Γ M fun o M1 => (∃ a kvs, o = .own a ∧ M1 a = some (.dct kvs)) ∧ di Γ M1 fun i M2 => de Γ M2 fun z M3 => ∃ a kvs d key, o = .own a ∧ M3 a = some (.dct kvs) ∧ i = .dat d ∧ keyD d = some key ∧ kvs.length < 16777216 ∧ (∀ s, dval kvs key = some s → k s M3) ∧ (dval kvs key = none → k z (put M3 a (.dct (dput kvs key z))))
theorem xe_setd (h : PE X e (tDSetd (LE do_) (LE di) (LE de))) : XE X e (dSetd do_ di de) := xe_of h fun Γ M k σ H Hc Q hd F O q => by
  refine simLE Γ M _ σ H Hc _ hd F O fun vo so M1 H1 Hc1 e1 O1 r1 h1 => ?_
  obtain ⟨⟨a, kvs, rfl, hm⟩, h1⟩ := h1
  cases r1
  obtain ⟨ws, g1, _⟩ := O1.ob _ _ hm
  refine ⟨a, rfl, .inl ⟨ws, .inl g1⟩, ?_⟩
  refine simLE Γ M1 _ σ H1 Hc1 _ h1 (F.ex e1) O1 fun vi si M2 H2 Hc2 e2 O2 r2 h2 => ?_
  refine simLE Γ M2 _ σ H2 Hc2 _ h2 (F.ex (e1.trans e2)) O2 fun vz sz M3 H3 Hc3 e3 O3 r3 h3 => ?_
  obtain ⟨a', kvs', d, key, ea, hm3, rfl, hk, hz, hs, hn⟩ := h3
  cases ea
  obtain ⟨ws', g1', g2'⟩ := O3.ob _ _ hm3
  have r2' : Dq H2 vi d := r2
  have ek := key_rp r2' hk
  subst ek
  refine ⟨ws', key, g1', rfl, by rw [rpk_len g2', sizeLine_eq]; exact hz, fun v hv => ?_, fun hv => ?_⟩
  · rcases rpk_val (k := key) g2' with ⟨z1, z2⟩ | ⟨s, v', z1, z2, z3⟩
    · rw [z2] at hv
      cases hv
    · rw [z2] at hv
      cases hv
      exact q v s M3 H3 Hc3 (e1.trans (e2.trans e3)) O3 z3 (hs s z1)
  · rcases rpk_val (k := key) g2' with ⟨z1, z2⟩ | ⟨s, v', z1, z2, z3⟩
    · exact q vz sz _ H3 _ (e1.trans (e2.trans e3)) (O3.turn (u := .dct _) hm3 ⟨_, rfl, rpk_put g2' r3⟩) r3 (hn z1)
    · rw [z2] at hv
      cases hv
def fLenD : DC := fun ss M k => match ss with
  | [.own a] => ∃ kvs, M a = some (.dct kvs) ∧ k (.dat (.int kvs.length)) M
  | _ => False
theorem sim_lenD : SimC (fun xs H Q => ∃ a kvs, xs = [V.ref a] ∧ H a = some (.dK kvs) ∧ Q (.int kvs.length) H) fLenD := by
  intro ss M k xs H Hc Q h r O q
  unfold fLenD at h
  split at h
  · obtain ⟨kvs, hm, h⟩ := h
    obtain ⟨x, rfl, rx⟩ := rps1 r
    cases rx
    obtain ⟨ws, g1, g2⟩ := O.ob _ _ hm
    refine ⟨_, ws, rfl, g1, ?_⟩
    rw [rpk_len g2]
    exact q _ (.dat (.int _)) M H Hc (Ex.refl H) O (Dq.int _) h
  · exact h.elim
/-- {key: e} -/
def dDct1 (di de : DE) : DE := fun Γ M k => ∀ p, M p = none → di Γ (put M p (.dct [])) fun i M1 => de Γ M1 fun s M2 => ∃ d key, i = .dat d ∧ keyD d = some key ∧ M2 p = some (.dct []) ∧ k (.own p) (put M2 p (.dct [(key, s)]))
theorem xe_dct1 (hi : XE X i di) (he : XE X e de) : XE X (.Dict [some i] [e] pos) (dDct1 di de) := xe_of (pe_disp (pps_cons hi he pps_nil) rfl rfl (by simp) (show 1 ≤ 15 by decide)) fun Γ M k σ H Hc Q hd F O q p hp => by
  have hm := O.freeM hp
  have O0 := O.born (u := .dct []) hp ⟨[], rfl, .nil⟩
  refine simLE Γ _ _ σ H _ _ (hd p hm) F O0 fun vi si M1 H1 Hc1 e1 O1 r1 h1 => ?_
  refine simLE Γ M1 _ σ H1 Hc1 _ h1 (F.ex e1) O1 fun v s M2 H2 Hc2 e2 O2 r2 h2 => ?_
  obtain ⟨d, key, rfl, hk, hp2, h2⟩ := h2
  obtain ⟨ws, g1, g2⟩ := O2.ob _ _ hp2
  cases g2
  have r1' : Dq H1 vi d := r1
  have ek := key_rp r1' hk
  subst ek
  refine ⟨g1, [(key, v)], rfl, by show 1 ≤ 15; decide, ?_⟩
  exact q (.ref p) (.own p) _ H2 _ (e1.trans e2) (O2.turn (u := .dct _) hp2 ⟨_, rfl, .cons ⟨rfl, r2⟩ .nil⟩) rfl h2
/-! ### list(range(n)), pop, in, times -/
def dListR (de : DE) : DE := fun Γ M k => de Γ M fun s M1 => ∃ n, s = .dat (.int n) ∧ 0 ≤ n ∧ n ≤ 16777216 ∧ ∀ p, M1 p = none → k (.own p) (put M1 p (.lst ((List.range n.toNat).map fun (i : Nat) => .dat (.int (i : Int)))))
theorem rg_rps {H : Hp} : ∀ (ns : List Nat), Rps H (ns.map fun (i : Nat) => Sl.dat (.int (i : Int))) (ns.map fun i => V.int (0 + (i : Nat)))
  | [] => .nil
  | n :: ns => .cons (by show Dq H (V.int (0 + (n : Int))) (.int (n : Int)); rw [Int.zero_add]; exact Dq.int _) (rg_rps ns)
theorem xe_listR (h : PE X e (tLstRg (tRg1 (LE de)))) : XE X e (dListR de) := xe_of h fun Γ M k σ H Hc Q hd F O q => by
  refine simLE Γ M _ σ H Hc _ hd F O fun v s M1 H1 Hc1 e1 O1 r1 h1 => ?_
  obtain ⟨n, rfl, h0, hz, h1⟩ := h1
  refine ⟨n, dp_int_inv r1, RgOk.of_le (Int.le_refl 0) hz (by decide) h0, fun p hp => ?_⟩
  have er : rgV 0 n = (List.range n.toNat).map fun i => V.int (0 + (i : Nat)) := by
    unfold rgV
    rw [Int.sub_zero]
  rw [er]
  exact (q.ex e1).own O1 (rg_rps _) (by rw [List.length_map, List.length_range, sizeLine_eq]; omega) hp (h1 p (O1.freeM hp))
def fPopAt : Sl → List Sl → Mem → DK → Prop := fun o ss M k => match o, ss with
  | .own a, [.dat (.int i)] => ∃ xs j y, M a = some (.lst xs) ∧ i = ((j : Nat) : Int) ∧ xs[j]? = some y ∧ j < 16777216 ∧ k y (put M a (.lst (xs.eraseIdx j)))
  | _, _ => False
theorem rps_getS {H : Hp} : ∀ {ss : List Sl} {vs : List V} {j : Nat} {y : Sl}, Rps H ss vs → ss[j]? = some y → ∃ v, vs[j]? = some v ∧ Rp H y v
  | _ :: _, _, 0, _, .cons r t, h => by cases h; exact ⟨_, rfl, r⟩
  | _ :: _, _, j + 1, _, .cons r t, h => rps_getS (j := j) t h
theorem rps_erase {H : Hp} : ∀ {ss : List Sl} {vs : List V} (j : Nat), Rps H ss vs → Rps H (ss.eraseIdx j) (vs.eraseIdx j)
  | [], _, _, .nil => .nil
  | _ :: _, _, 0, .cons r t => t
  | _ :: _, _, j + 1, .cons r t => .cons r (rps_erase j t)
theorem sim_popAt {K : PySem.W.Frag} : SimM K "list" rPopAt fPopAt := by
  intro s ss M k x xs H Hc Q h rx rs O q
  unfold fPopAt at h
  split at h
  · obtain ⟨ys, j, y, hm, rfl, hy, hj, h⟩ := h
    obtain ⟨u, rfl, ru⟩ := rps1 rs
    cases rx
    obtain ⟨z, vs, g1, g2⟩ := O.ob _ _ hm
    obtain ⟨v, gv, rv⟩ := rps_getS g2 hy
    have hlt : j < vs.length := (List.getElem?_eq_some_iff.mp gv).1
    refine ⟨_, vs, (j : Int), j, v, rfl, by rw [dp_int_inv ru], g1, by omega, by omega, ?_, gv, ?_⟩
    · unfold seqIndex?
      simp
      omega
    · exact q v y _ H _ (Ex.refl H) (O.turn (u := .lst _) hm ⟨Nat.le_trans (List.length_eraseIdx_le ..) z, _, rfl, rps_erase j g2⟩) rv h
  · exact h.elim
end
end DL
namespace DL
open PySem PySem.Spec PyProof.Rows L2
open Evl (Ex)
/-! ### sorted of data -/
/-- in order, alike ones in their old order -/
def sortD (ds : List Dt) : List Dt := ds.mergeSort (PySem.W.dataLe false fun d => d)
def rSortedD (K : PySem.W.Frag) : List V → Hp → VK → Prop := fun vs H Q => ∃ (a : Addr) (xs : List V) (ds : List Dt) (R : V → Dt → Prop), vs = [.ref a] ∧ SqL K H a xs ∧ Paired R xs ds ∧ (∀ x d, R x d → Dp K H x d) ∧ PySem.W.AllAlike ds ∧ PySem.W.Sortable ds ∧ (∀ d ∈ ds, d.depth ≤ 60) ∧ ∀ ys p, Paired R ys (sortD ds) → H p = none → Q (.ref p) (upd H p (.lst ys))
theorem each_two {R : V → Dt → Prop} : ∀ {xs : List V} {us : List Value} {ds : List Dt}, Vals xs us → Paired R xs ds → PySem.W.EachIs (fun v d => ∃ x, RelV x v ∧ R x d) us ds
  | [], _, _, .nil, .nil => .nil
  | _ :: _, _, _, .cons r t, .cons r2 t2 => .cons ⟨_, r, r2⟩ (each_two t t2)
theorem two_each {R : V → Dt → Prop} : ∀ {us : List Value} {ds : List Dt}, PySem.W.EachIs (fun v d => ∃ x, RelV x v ∧ R x d) us ds → ∃ xs, Vals xs us ∧ Paired R xs ds
  | _, _, .nil => ⟨[], .nil, .nil⟩
  | _, _, .cons ⟨x, h1, h2⟩ t => by
    obtain ⟨xs, h3, h4⟩ := two_each t
    exact ⟨x :: xs, .cons h1 h3, .cons h2 h4⟩
section
variable {X : Cx}
theorem cr_sortedD (hu : X.A.units + 64 < cLine) : CallR X (.builtin "sorted") (rSortedD X.K) := by
  intro pins s σ H vs us Q I r h
  obtain ⟨a, xs, ds, R, rfl, hs, hp, hd, hal, hk, hdep, q⟩ := h
  obtain ⟨its, rv, hl, hz⟩ := I.list hs
  obtain ⟨u, rfl, ru⟩ := vals1 r
  obtain rfl : u = Value.ref a := ru
  have e := each_two rv hp
  have er : PySem.W.EachIs (fun v d => ∃ as, Reads s.heap v ((fun d : Dt => d) d) as) its ds := e.mono fun v d ⟨x, h1, h2⟩ => Dp.reads I d x v (hd _ _ h2) h1
  have hid : ds.map (fun d : Dt => d) = ds := List.map_id' ds
  refine PySem.W.sorted_data (enc := fun d : Dt => d) hl.isList e er (by rw [hid]; exact hal) (by rw [hid]; exact hk) (by rw [← e.length, ← rv.length]; exact hz) (fun d hm => by have := hdep d hm; show _ + 2 + d.depth < _; omega) fun out ho eo => ?_
  obtain ⟨ys, h1, h2⟩ := two_each eo
  obtain ⟨n, hn⟩ := sortedAll_at s.heap its out.toArray
  have hd' : s.heap.objs.size ≤ s.heap.objs.size + 1 := Nat.le_succ _
  refine ⟨.ref _, upd H _ (.lst ys), I.laid (t' := s.toks) (fun b o z => sortedAll_old z) hd' ⟨?_, out, n, h1, hn⟩, rfl, q _ _ h2 (I.hok.fresh hd')⟩
  rw [h1.length, ho, ← e.length, ← rv.length]
  exact hz
end
def fSortD : DC := fun ss M k => match ss with
  | [s] => ∃ ds : List Dt, IsL M s (ds.map .dat) ∧ ds.length ≤ 16777216 ∧ PySem.W.AllAlike ds ∧ PySem.W.Sortable ds ∧ (∀ d ∈ ds, d.depth ≤ 60) ∧ ∀ p, M p = none → k (.own p) (put M p (.lst ((sortD ds).map .dat)))
  | _ => False
theorem dps_pair {H : Hp} : ∀ {ds : List Dt} {vs : List V}, DqAll H vs ds → Paired (Dq H) vs ds
  | [], _, .nil => .nil
  | _ :: _, _, .cons r t => .cons r (dps_pair t)
theorem pair_dps {H : Hp} : ∀ {ds : List Dt} {vs : List V}, Paired (Dq H) vs ds → DqAll H vs ds
  | [], _, .nil => .nil
  | _ :: _, _, .cons r t => .cons r (pair_dps t)
theorem sortD_len (ds : List Dt) : (sortD ds).length = ds.length := List.length_mergeSort ds
theorem sim_sortD {K : PySem.W.Frag} : SimC (rSortedD K) fSortD := by
  intro ss M k xs H Hc Q h r O q
  unfold fSortD at h
  split at h
  · obtain ⟨x, rfl, rx⟩ := rps1 r
    obtain ⟨ds, l, hz, hal, hk, hdep, h⟩ := h
    obtain ⟨a, vs, rfl, g1, g2⟩ := l.at_ O rx
    refine ⟨a, vs, ds, Dq H, rfl, SqL.of g1, dps_pair (rps_dat g2), fun x d hx => dq_dp (dp_ex O.ex hx), hal, hk, hdep, fun ys p hy hp => ?_⟩
    exact q.own O (dat_rps (pair_dps hy)) (by rw [List.length_map, sortD_len, sizeLine_eq]; exact hz) hp (h p (O.freeM hp))
  · exact h.elim
/-! ### in, of whole numbers; a list so many times -/
def fInI (neg : Bool) : D2 := fun s t M k => ∃ (i : Int) (ns : List Int), s = .dat (.int i) ∧ IsL M t (ns.map fun n => .dat (.int n)) ∧ k (.dat (.bool (if neg = true then !decide (i ∈ ns) else decide (i ∈ ns)))) M
theorem inV_ints (i : Int) : ∀ ns : List Int, inV (.int i) (ns.map V.int) = decide (i ∈ ns)
  | [] => rfl
  | n :: ns => by
    show ((n == i) || inV (.int i) (ns.map V.int)) = decide (i ∈ n :: ns)
    rw [inV_ints i ns]
    by_cases e : n = i
    · subst e
      simp
    · have e2 : ¬ i = n := fun z => e z.symm
      simp [e, e2]
theorem flat_ints : ∀ ns : List Int, (ns.map V.int).all flatV = true
  | [] => rfl
  | n :: ns => by
    show (flatV (.int n) && (ns.map V.int).all flatV) = true
    rw [flat_ints ns] <;> rfl
theorem sim_inI {K : PySem.W.Frag} (neg : Bool) : Sim2 (rIn K neg) (fInI neg) := by
  intro s t M k x y H Hc Q h rx ry O q
  obtain ⟨i, ns, rfl, l, h⟩ := h
  obtain ⟨a, vs, rfl, g1, g2⟩ := l.at_ O ry
  rw [rps_ints g2] at g1
  refine ⟨a, _, rfl, .inl (SqL.of g1), by rw [dp_int_inv rx] <;> rfl, flat_ints ns, ?_⟩
  rw [dp_int_inv rx, inV_ints]
  exact q _ (.dat (.bool _)) M H Hc (Ex.refl H) O (Dq.bl _) h
def fRep : D2 := fun s t M k => ∃ (xs : List Sl) (n : Int), IsL M s xs ∧ t = .dat (.int n) ∧ 0 ≤ n ∧ n < 16777216 ∧ xs.length * n.toNat ≤ 16777216 ∧ ∀ p, M p = none → k (.own p) (put M p (.lst (List.replicate n.toNat xs).flatten))
theorem rps_rep {H : Hp} {ss : List Sl} {vs : List V} (h : Rps H ss vs) : ∀ n : Nat, Rps H (List.replicate n ss).flatten (List.replicate n vs).flatten
  | 0 => .nil
  | n + 1 => rps_app h (rps_rep h n)
theorem flat_len {α : Type} (xs : List α) : ∀ n : Nat, (List.replicate n xs).flatten.length = xs.length * n
  | 0 => rfl
  | n + 1 => by
    rw [List.replicate_succ, List.flatten_cons, List.length_append, flat_len xs n, Nat.mul_succ, Nat.add_comm]
theorem sim_rep : Sim2 rRep fRep := by
  intro s t M k x y H Hc Q h rx ry O q
  obtain ⟨xs, n, l, rfl, h0, h1, hz, h⟩ := h
  obtain ⟨a, vs, rfl, g1, g2⟩ := l.at_ O rx
  refine ⟨a, n, vs, rfl, dp_int_inv ry, g1, by omega, by omega, by rw [rps_len g2, sizeLine_eq]; exact hz, fun p hp => ?_⟩
  exact q.own O (rps_rep g2 _) (by rw [flat_len, sizeLine_eq]; exact hz) hp (h p (O.freeM hp))
end DL
namespace DL
open PySem PySem.Spec PyProof.Rows L2
open Evl (Ex)
section
variable {X : Cx} {e : Expr} {da : DA} {d1 : DS} {pos : Pos} {body : List Stmt}
/-- for (i, x) in enumerate(a list of data) -/
def dForE (da : DA) (g : DG) (tb : DS) : DS := fun D Γ M => da Γ M fun ss M1 => ∃ (ds : List Dt) (s : Sl), ss = [s] ∧ IsL M1 s (ds.map .dat) ∧ ∃ Inv : Nat → Fm → Mem → Prop, Inv 0 Γ M1 ∧ (∀ i Γ' M', i ≤ ds.length → Inv i Γ' M' → IsL M' s (ds.map .dat)) ∧
  (∀ (i : Nat) d Γ' M', ds[i]? = some d → Inv i Γ' M' → g (.dat (.tuple [.int (i : Int), d])) Γ' M' fun Γ2 M2 => tb { D with nx := Inv (i + 1), ct := Inv (i + 1), bk := D.nx } Γ2 M2) ∧ ∀ Γ' M', Inv ds.length Γ' M' → D.nx Γ' M'
theorem sim_forE {K : PySem.W.Frag} {ta : TA} {g : DG} {tb : TS} (h : SimA ta da) (hb : SimS tb d1) : SimS (tFor (iEnum K ta) (LG g) tb) (dForE da g d1) := fun Γ M D σ H Hc E hd F O q => by
  refine h Γ M _ σ H Hc _ hd F O fun ws ss M1 H1 Hc1 e1 O1 r1 h1 => ?_
  obtain ⟨ds, s, rfl, l, W, w0, wl, ws', wd⟩ := h1
  obtain ⟨v, rfl, rv⟩ := rps1 r1
  obtain ⟨a, vs, rfl, g1, g2⟩ := l.at_ O1 rv
  refine ⟨a, vs, rfl, SqL.of g1, fun i m σ' Hc' => m = ds.length - i ∧ i ≤ ds.length ∧ ∃ Γ' M' H', Ex H1 H' ∧ Fr H' σ' Γ' ∧ Own H' Hc' M' ∧ W i Γ' M', ⟨_, rfl, Nat.zero_le _, Γ, M1, H1, Ex.refl _, F.ex e1, O1, w0⟩, ?_⟩
  rintro i m σ' Hc' ⟨rfl, hi, Γ', M', H', e2, F2, O2, w⟩
  obtain ⟨a', vs', e3, g3, g4⟩ := (wl i Γ' M' hi w).at_ O2 (rp_ex e2 rv)
  cases e3
  have hl := rps_len g4
  rw [List.length_map] at hl
  rcases Nat.lt_or_ge i ds.length with hlt | hge
  · obtain ⟨x0, hx0⟩ : ∃ x0, vs'[i]? = some x0 := ⟨vs'[i]'(by omega), List.getElem?_eq_getElem (by omega)⟩
    obtain ⟨d, hd, rx⟩ := dps_get (rps_dat g4) hx0
    refine .inr ⟨⟨vs', x0, SqL.of g3, hx0⟩, fun σ2 Hc2 => ∃ Γ2 M2 H2, Ex H1 H2 ∧ Fr H2 σ2 Γ2 ∧ Own H2 Hc2 M2 ∧ W (i + 1) Γ2 M2, fun σ2 Hc2 z => ⟨ds.length - (i + 1), by omega, rfl, by omega, z⟩, fun x Hy y => ?_⟩
    obtain ⟨T, x, rfl, hT, rfl, y⟩ := y
    have ex : x = x0 := Option.some.inj ((y vs' (SqL.of g3)).symm.trans hx0)
    subst ex
    obtain ⟨O3, e3⟩ := O2.grow (o := .tup [.int ((i : Nat) : Int), x]) hT
    refine ⟨.dat (.tuple [.int (i : Int), d]), Γ', M', _, _, ws' i d Γ' M' hd w, .tup upd_same (.cons (.int _) (.cons (dp_ex e3 rx) .nil)), F2.ex e3, O3, fun σ2 Γ2 M2 H2 Hc2 e4 F3 O4 h3 => ?_⟩
    refine hb Γ2 M2 _ σ2 H2 Hc2 _ h3 F3 O4 ((q.ex (e1.trans (e2.trans (e3.trans e4)))).loop fun σ4 Γ4 M4 H4 Hc4 e5 F4 O5 h4 => ?_)
    exact ⟨Γ4, M4, H4, e2.trans (e3.trans (e4.trans e5)), F4, O5, h4⟩
  · have ei : i = ds.length := Nat.le_antisymm hi hge
    subst ei
    exact .inl ⟨⟨vs', SqL.of g3, by omega⟩, q.nx σ' Γ' M' H' Hc' (e1.trans e2) F2 O2 (wd Γ' M' w)⟩
theorem xs_forE {tg : Expr} {g : DG} (h : PS X (.For tg e body [] pos) (tFor (iEnum X.K (LA da)) (LG g) (LS d1))) : XS X (.For tg e body [] pos) (dForE da g d1) := xs_of h (sim_forE simLA simLS)
end
end DL
namespace DL
open PySem PySem.Spec PyProof.Rows L2
open Evl (Ex)
/-! ### an own exception whose __init__ says super().__init__(a text) and keeps its argument as a field -/
/-- what the written part says of such a class, over ValueError -/
structure SupC (P : Program) (K : PySem.W.Frag) (mg : Str → Option Value) (C : Addr) (f : Str) : Prop where
  T : OexC K C
  no : PySem.W.findIn K (.ref C) f = some none
  ve : PySem.W.subIn K (.ref C) (.type "ValueError") = some true
  self : PySem.W.mroIn K C (.ref C) = some true
  sup : PySem.W.ks_superIn K C C "__init__" = some (some (.builtin "ValueError.__init__"))
  any : PySem.W.nsIn K cStatics "thirdparty.any" = some none
  gsup : mg "super" = none
  top : (P.main.scope.names.lookup ("super" : Str)).isSome = false
  fn : ∃ (fI cda cc : Addr) (nm qual : Str) (params : Arguments) (scope : Scope) (dV kV doc pm ct oc ccl cl : Value) (an od cdd cld : Option Addr) (osl ccs csl : Array (Option Value)) (vs : Array Value) (file m : Str) (tf : Tok) (j : Nat) (ar : Arg) (p0 p1 p2 p3 p4 p5 p6 p7 p8 p9 : Pos),
    PySem.W.findIn K (.ref C) "__init__" = some (some (.ref fI)) ∧ PySem.W.typeIn K (.ref fI) = some (.type "function") ∧
    K.lookup fI = some ⟨oc, od, .func (PySem.W.ksFn nm qual params [.Expr (.Call (.Attribute (.Call (.Name "super" p0) [] [] p1) "__init__" p2) [.Constant (.str m) j p3] [] p4) p5, .Assign [.Attribute (.Name "self" p6) f p7] (.Name f p8) p9] scope dV kV doc pm an (.ref cda) ct cc), osl⟩ ∧
    PySem.W.codeIn K (.ref cda) qual = true ∧ K.lookup cda = some ⟨ccl, cdd, .fields vs, ccs⟩ ∧ vs[2]? = some (.str file tf) ∧ ((P.main.file : Str) == file) = true ∧ K.lookup cc = some ⟨cl, cld, .cell (some (.ref C)), csl⟩ ∧
    (params.posonlyargs ++ params.args).head? = some ar ∧ ar.arg = "self" ∧ scope.names.lookup ("super" : Str) = some .globalImplicit ∧ scope.names.lookup ("__class__" : Str) = some .free ∧ scope.names.lookup ("self" : Str) = some .local ∧ scope.names.lookup f = some .local ∧
    (∀ x ∈ scope.names, x.2 ≠ .cell) ∧ scope.kind = .function ∧ scope.isCoroutine = false ∧ scope.isGenerator = false ∧
    (∀ (s : Shared) (u v : Value), BindsTo s (PySem.W.ksFn nm qual params [.Expr (.Call (.Attribute (.Call (.Name "super" p0) [] [] p1) "__init__" p2) [.Constant (.str m) j p3] [] p4) p5, .Assign [.Attribute (.Name "self" p6) f p7] (.Name f p8) p9] scope dV kV doc pm an (.ref cda) ct cc) ⟨[u, v], []⟩ [("self", u), (f, v)]) ∧
    f ≠ "self" ∧ (f == ("__debug__" : Str)) = false ∧
    (∀ env : Env, ∃ pl : Sem Bool, eval (.Call (.Attribute (.Call (.Name "super" p0) [] [] p1) "__init__" p2) [.Constant (.str m) j p3] [] p4) env = (do
      let ov ← attributeBase (.Call (.Name "super" p0) [] [] p1) "__init__" env (eval (.Call (.Name "super" p0) [] [] p1) env)
      standAt p2.atName
      let (f, first) ← holding [ov] (getMethod ov "__init__" pl)
      callWith p4 f first (backTo p4 (starEach [.Constant (.str m) j p3] env)) [])) ∧
    (∀ env : Env, swapsWith (.Call (.Attribute (.Call (.Name "super" p0) [] [] p1) "__init__" p2) [.Constant (.str m) j p3] [] p4) none p5.line env = pure false) ∧
    (∀ env : Env, swapsWith (.Name f p8) (some (.Attribute (.Name "self" p6) f p7)) p9.line env = pure false)
section
variable {X : Cx} {pins : List (Addr × Obj)} {σ : L2.St} {H : Hp} {s : Shared} {C : Addr} {f : Str}
/-- two new objects are tracked -/
theorem inv_two {h' : Heap} {a d : Addr} {o u : HO} {t' : Nat} (I : L2.Inv X pins σ H s) (k : ∀ b ob, s.heap.get? b = some ob → h'.get? b = some ob) (ha : s.heap.objs.size ≤ a) (hd : s.heap.objs.size ≤ d)
    (new : ObjOk X.prog X.w (upd (upd H d u) a o) h' a o) (new2 : ObjOk X.prog X.w (upd (upd H d u) a o) h' d u) : L2.Inv X pins σ (upd (upd H d u) a o) { s with heap := h', toks := t' } := by
  have na : H a = none := I.hok.fresh ha
  have nd : H d = none := I.hok.fresh hd
  have la : ∀ {b : Addr} {ob : Obj}, s.heap.get? b = some ob → b ≠ a := fun {b ob} e => Nat.ne_of_lt (Nat.lt_of_lt_of_le (Heap.lt_size e) ha)
  have ld : ∀ {b : Addr} {ob : Obj}, s.heap.get? b = some ob → b ≠ d := fun {b ob} e => Nat.ne_of_lt (Nat.lt_of_lt_of_le (Heap.lt_size e) hd)
  refine I.un ⟨fun b ob e _ _ _ => k b ob e, fun b ob e _ _ _ => ⟨ob.slots, k b ob e⟩, fun b ob e n _ => by rw [upd_ne (la e), upd_ne (ld e)]; exact n, fun b ob e _ => ⟨ob, k b ob e⟩, fun b xs e => ?_, fun b ob x e => ?_, fun b ps e => ⟨#[], ?_⟩⟩ fun b w e => ?_
  · rw [upd_ne (ne_of_none e na), upd_ne (ne_of_none e nd)]; exact e
  · rw [upd_ne (ne_of_none e na), upd_ne (ne_of_none e nd)]; exact e
  · rw [upd_ne (ne_of_none e na), upd_ne (ne_of_none e nd), e]; simp
  · by_cases hb : b = a
    · subst hb
      rw [upd_same] at e
      cases e
      exact new
    · rw [upd_ne hb] at e
      by_cases hbd : b = d
      · subst hbd
        rw [upd_same] at e
        cases e
        exact new2
      · rw [upd_ne hbd] at e
        exact (I.hok b w e).stay (fun c v _ q => k c v q) (fun c q => by rw [upd_ne (ne_of_none q na), upd_ne (ne_of_none q nd)]; exact q) fun c xs q => by rw [upd_ne (ne_of_none q na), upd_ne (ne_of_none q nd)]; exact q
/-- ValueError.__init__ bound to an exception, called: its args are laid anew -/
theorem mw_call {prog : Program} {w : World} {A : Around} {E : Value → Shared → Prop} {hp : Heap} {g : Array GenState} {dr : Drawn} {tk : Nat} {os : OsState} {nm q : Str} {C N e u t0 : Addr} {bs bm : List Value} {hdct : Bool} {sn : List Str} {sub : List Value} {ab : Bool} {col : Option Bool} {dd : Option Addr} {k0 k1 k2 k3 k5 : Option Value} {rest : List Value} {Q : Value → Shared → Prop}
    (hC : hp.get? C = some (excClassObj nm q C N bs bm hdct sn sub ab col dd k0 k1 k2 k3 k5 "ValueError.__new__")) (he : hp.get? e = some (PySem.HandSPX.excO C t0)) (hu : hp.get? u = some (PySem.W.kxs_mw "ValueError.__init__" e)) (hz : rest.length ≤ sizeLine)
    (hq : ∀ h' t1, (∀ b o, b ≠ e → hp.get? b = some o → h'.get? b = some o) → h'.get? e = some (PySem.HandSPX.excO C t1) → Q .none ⟨h', g, dr, tk, os⟩) :
    wpAny (model prog w) A (call (.ref u) rest) Q E ⟨hp, g, dr, tk, os⟩ := by
  refine wpAny_call (codeAny_of_tree ?_)
  show wpAny _ A.in1 (callAny (.ref u) ⟨rest, []⟩) _ _ _
  unfold callAny
  refine wpAny_bind (wpAny_load hu ?_)
  have c1 : (Value.type "method-wrapper" == Value.type "method" || Value.type "method-wrapper" == Value.type "builtin_function_or_method" || Value.type "method-wrapper" == Value.type "method-wrapper") = true := by decide
  simp only [PySem.W.kxs_mw, c1, if_true]
  refine PySem.W.KFB.if_so (by decide) (wpAny_bind (PySem.W.check_bound_init F.excBase_ValueError.toExcCallFacts hC he rfl (wpAny_bind (wpAny_pure (wpAny_pure ?_)))))
  refine ⟨plainId_quiet F.excBase_ValueError.init.plain _, codeAny_builtin F.excBase_ValueError.initEntry ?_⟩
  exact PySem.W.exc_init_tree (cls := .ref C) (t0 := t0) (dv := none) (c2 := .none) (c3 := .none) (b4 := .bool false) he hz fun h' k1 k2 _ => hq h' _ k1 k2
theorem ns_at {h h' : Heap} {a : Addr} {m : Str → Option Value} (hn : h.Ns a m) (k : ∀ o, h.get? a = some o → h'.get? a = some o) : h'.Ns a m := by
  obtain ⟨o, es, ep, ho, r⟩ := hn
  exact ⟨o, es, ep, k o ho, r⟩
/-- the class called with its field's value -/
theorem mk_sup (S : SupC X.prog X.K X.mg C f) (hr : Room 2 X.A) (I : L2.Inv X pins σ H s) {u : Value} {Q : Value → Shared → Prop} {E : Value → Shared → Prop}
    (h : ∀ h' tk a d, (∀ b o, s.heap.get? b = some o → h'.get? b = some o) → s.heap.objs.size ≤ a → s.heap.objs.size ≤ d → d ≠ a → Kx a C (some d) h' → (∃ oe vs, h'.get? a = some oe ∧ oe.data = .fields vs ∧ vs[1]? = some .none) →
      h'.Ns1 d (fun y => if y = f then some u else none) → Q (.ref a) { s with heap := h', toks := tk }) :
    wpAny (model X.prog X.w) X.A (call (.ref C) [u]) Q E s := by
  obtain ⟨cnm, cq, N, bs, bm, sn, sub, ab, col, dd, k0, k1, k2, k3, k5, hC, hbm⟩ := S.T.cls
  obtain ⟨fI, cda, cc, nm, qual, params, scope, dV, kV, doc, pm, ct, oc, ccl, cl, an, od, cdd, cld, osl, ccs, csl, vs, file, m, tf, j, ar, p0, p1, p2, p3, p4, p5, p6, p7, p8, p9, iC, tI, lf, hcd, lcda, hvs, hfile, lcc, hpar, har, ks1, ks2, ks3, ks4, hcell, hkind, hco, hgen, hb, hne, hdb, hev, hsw1, hsw2⟩ := S.fn
  obtain ⟨mb, hmb1, hmb2⟩ := I.mod.blt
  have bk := I.bk
  have lim : s.heap.NoLimit := I.mod.nolimit.keeps bk
  have gl : s.heap.Ns mainGlobals X.mg := I.mod.glob.keeps bk
  have bl : s.heap.Ns builtinsNs mb := hmb1.keeps bk
  have kin := I.kIn
  obtain ⟨hp, g, dr, tk, os⟩ := s
  have hsz : hp.objs.size ≤ hp.objs.size + 1 := Nat.le_succ _
  refine wpAny_call (PySem.HandSPX.call_own F.excBase_ValueError (fun Y => PySem.HandSPX.refsVE_contains Y bm hbm) (kin _ _ hC) (PySem.W.looks_findIn kin iC) (fun self => PySem.W.bind_fn kin self tI) (by show 1 ≤ sizeLine; rw [sizeLine_eq]; omega) ?_)
  have kk : ∀ b o, hp.get? b = some o → ((hp.push (PySem.W.kdv_tup [u])).push (PySem.HandSPX.excO C hp.objs.size)).get? b = some o := fun b o e => Heap.get?_push_of_some _ (Heap.get?_push_of_some _ e)
  have hget : ((hp.push (PySem.W.kdv_tup [u])).push (PySem.HandSPX.excO C hp.objs.size)).get? (hp.objs.size + 1) = some (PySem.HandSPX.excO C hp.objs.size) := by heap_get
  have K2 := kin.keeps kk
  refine ks_codeAny_call_defAt (binds := [("self", .ref (hp.objs.size + 1)), (f, u)]) (hr.make C [u] []).depth (K2 _ _ lf) rfl (lim.keeps kk) (PySem.W.codeRec_of K2 hcd) rfl (hb _ _ _) hcell (fun x hx => ?_) (fun h0 hns h0k => ?_) hco hgen hkind
  · rcases List.mem_cons.mp hx with e | hx
    · rw [e]; exact ks3
    · rw [List.mem_singleton.mp hx]; exact ks4
  have k0 : ∀ b o, hp.get? b = some o → h0.get? b = some o := fun b o e => h0k b o (kk b o e)
  have K0 := kin.keeps k0
  have he0 := h0k _ _ hget
  have hself : (fun x => ([("self", Value.ref (hp.objs.size + 1)), (f, u)] : List (Str × Value)).reverse.lookup x) "self" = some (.ref (hp.objs.size + 1)) := by
    show List.lookup ("self" : Str) [(f, u), ("self", Value.ref (hp.objs.size + 1))] = _
    have e1 : (("self" : Str) == f) = false := by simpa using fun e => hne e.symm
    simp [List.lookup, e1]
  have hfu : (fun x => ([("self", Value.ref (hp.objs.size + 1)), (f, u)] : List (Str × Value)).reverse.lookup x) f = some u := by
    show List.lookup f [(f, u), ("self", Value.ref (hp.objs.size + 1))] = _
    simp [List.lookup]
  have hL : ((hp.push (PySem.W.kdv_tup [u])).push (PySem.HandSPX.excO C hp.objs.size)).objs.size ≠ hp.objs.size + 1 := by
    rw [Heap.size_push, Heap.size_push]
    omega
  obtain ⟨pl, hevE⟩ := hev (callEnv (PySem.W.ksFn nm qual params [.Expr (.Call (.Attribute (.Call (.Name "super" p0) [] [] p1) "__init__" p2) [.Constant (.str m) j p3] [] p4) p5, .Assign [.Attribute (.Name "self" p6) f p7] (.Name f p8) p9] scope dV kV doc pm an (.ref cda) ct cc) ((hp.push (PySem.W.kdv_tup [u])).push (PySem.HandSPX.excO C hp.objs.size)).objs.size fI)
  have hint : interactive (callEnv (PySem.W.ksFn nm qual params [.Expr (.Call (.Attribute (.Call (.Name "super" p0) [] [] p1) "__init__" p2) [.Constant (.str m) j p3] [] p4) p5, .Assign [.Attribute (.Name "self" p6) f p7] (.Name f p8) p9] scope dV kV doc pm an (.ref cda) ct cc) ((hp.push (PySem.W.kdv_tup [u])).push (PySem.HandSPX.excO C hp.objs.size)).objs.size fI) = false := by
    unfold interactive
    show (scope.kind == .module && _) = false
    rw [hkind]
    rfl
  refine ks_wpAt_execs_cons (ks_wpAt_Expr_any (ks_wpAt_MethodCall (ks_wpAt_super_base ks1 ks2 (by decide) rfl (K0 _ _ lf) rfl hpar rfl (K0 _ _ lcda) rfl hvs hfile S.top ?_) hevE) hint (hsw1 _))
  refine PySem.W.ks_loadName_global hkind ks1 (Calls.loadGlobal_builtin (gl.keeps k0) S.gsup (bl.keeps k0) ((hmb2 "super" (by decide)).trans Boot.«super») ⟨rfl, ?_⟩)
  refine wpAny_loadName_free hkind ks2 rfl ⟨_, K0 _ _ lcc, rfl⟩ ?_
  rw [har]
  refine wpAny_loadName_local hkind ks3 hns hself ?_
  refine ks_wpAny_isType_cls (K0 _ _ hC) rfl ⟨rfl, ?_⟩
  refine ks_wpAny_call_super (K0 _ _ hC) rfl he0 rfl (fun c z => nomatch z) (PySem.W.looks_mroIn K0 S.self) (fun h1 so1 k1 => ?_)
  have K1 := K0.keeps k1
  have he1 := k1 _ _ he0
  have hns1 : h1.Ns ((hp.push (PySem.W.kdv_tup [u])).push (PySem.HandSPX.excO C hp.objs.size)).objs.size _ := ns_at hns fun o e => k1 _ _ e
  have hcl : PySem.W.clsIn X.K C = some { name := cnm, bases := bs, mro := .ref C :: bm, ns := N, qualname := cq, hasDict := true, slotNames := sn, subclasses := sub, abstract := ab, collection := col, hasDel := false } := by
    unfold PySem.W.clsIn
    rw [hC] <;> rfl
  have I1 : PySem.W.InstAt h1 (hp.objs.size + 1) (PySem.HandSPX.excO C hp.objs.size) C none := ⟨he1, rfl, rfl, trivial⟩
  have hm : PySem.W.alongIn X.K "__init__" (((Value.ref C :: bm).dropWhile (· != .ref C)).drop 1) = some (some (.builtin "ValueError.__init__")) := by
    have z := S.sup
    unfold PySem.W.ks_superIn at z
    rw [hcl] at z
    exact z
  refine PySem.W.kxs_getMethod PySem.W.kxs_ValueError so1 (PySem.W.looks_opaque K1 S.any) (l₀ := .ref C :: bm) ((PySem.W.looks_clsIn K1 hcl).andThen .now) rfl K1 hm (I1.type.andThen (PySem.W.looks_subIn K1 S.ve)) (PySem.W.ks_ne K1 I1 hcl) (by decide) ?_
  have u1 : ∀ b o, h1.get? b = some o → (h1.push (PySem.W.kxs_mw "ValueError.__init__" (hp.objs.size + 1))).get? b = some o := fun b o e => Heap.get?_push_of_some _ e
  have hu1 : (h1.push (PySem.W.kxs_mw "ValueError.__init__" (hp.objs.size + 1))).get? h1.objs.size = some (PySem.W.kxs_mw "ValueError.__init__" (hp.objs.size + 1)) := Heap.get?_push_at rfl rfl
  refine PySem.W.kxs_callWith (i := "ValueError.__init__") (x := hp.objs.size + 1) rfl (Calls.evalArgs_plain (Calls.spliced_cons (Calls.Constant_str (x := m) (k := j) (pos := p3) (Calls.spliced_nil ⟨hu1, ?_⟩))))
  refine mw_call (K1.keeps u1 _ _ hC) (u1 _ _ he1) hu1 (by show 1 ≤ sizeLine; rw [sizeLine_eq]; omega) fun h2 t1 k2 he2 => ?_
  have hns2 : h2.Ns ((hp.push (PySem.W.kdv_tup [u])).push (PySem.HandSPX.excO C hp.objs.size)).objs.size _ := ns_at hns1 fun o e => k2 _ _ hL (u1 _ _ e)
  have kp2 : ∀ b o, hp.get? b = some o → h2.get? b = some o := fun b o e => k2 b o (Nat.ne_of_lt (Nat.lt_succ_of_lt (Heap.lt_size e))) (u1 _ _ (k1 _ _ (k0 _ _ e)))
  have K2' := kin.keeps kp2
  show PySem.wpAt _ _ _ (execs _ _) _ _ _
  refine ks_wpAt_execs_cons (ks_wpAt_Assign_Attr ?_ (hsw2 _))
  refine PySem.wpAt_of_wpAny ?_
  refine wpAny_Name (wpAny_loadName_local (by exact hkind) (by exact ks4) hns2 hfu ?_) hdb
  refine wpAny_Name (wpAny_loadName_local (by exact hkind) (by exact ks3) hns2 hself ?_) (by decide)
  refine PySem.W.set_plain K2' (ox := PySem.HandSPX.excO C t1) (od := none) ⟨he2, rfl, rfl, trivial⟩ S.T.sa ?_
  refine PySem.HandSPX.exc_osa K2' he2 hcl (show PySem.HandSPX.refsVE (.ref C :: bm) = true from hbm) rfl S.no (fun h3 tk3 dx k3 dn dne hx hn => ?_)
  have sz2 : hp.objs.size ≤ h2.objs.size := Nat.le_of_lt (Nat.lt_of_succ_lt (Heap.lt_size he2))
  refine PySem.wpAt_of_wpAny (wpAny_execs_nil ⟨rfl, ?_⟩)
  exact h h3 tk3 (hp.objs.size + 1) dx (fun b o e => k3 b o (Nat.ne_of_lt (Nat.lt_succ_of_lt (Heap.lt_size e))) (kp2 b o e)) hsz (Nat.le_trans sz2 dn) dne ⟨_, _, hx, ⟨rfl, rfl⟩, rfl⟩ ⟨_, _, hx, rfl, rfl⟩ hn
end
end DL
namespace DL
open PySem PySem.Spec PyProof.Rows L2
open Evl (Ex)
/-! ### exceptions: wishes -/
/-- the class, its fields, what is ours -/
abbrev DX := Addr → List (Str × Dt) → Mem → Prop
/-- what is known where an exception leaves: H0 stood still at the entry, G0 the frame (where it is asked for) -/
def Wof (H0 : Hp) (G0 : Option Fm) (kx : DX) (cls : Value) (d : Option Addr) (σ : L2.St) (Hc : Hp) : Prop :=
  ∃ C fs M' H', cls = .ref C ∧ Ex H0 H' ∧ (∀ Γ0, G0 = some Γ0 → Fr H' σ Γ0) ∧ Own H' Hc M' ∧ FsAt H' d fs ∧ kx C fs M'
theorem Wof.ex {H0 H1 : Hp} {kx : DX} {cls : Value} {d : Option Addr} {σ : L2.St} {Hc : Hp} (e : Ex H0 H1) (h : Wof H1 none kx cls d σ Hc) : Wof H0 none kx cls d σ Hc := by
  obtain ⟨C, fs, M', H', h1, h2, _, r⟩ := h
  exact ⟨C, fs, M', H', h1, e.trans h2, fun _ z => (nomatch z), r⟩
/-- the frame is the one that is asked for -/
def At0 (G0 : Option Fm) (Γ : Fm) : Prop := match G0 with
  | none => True
  | some Γ0 => Γ0 = Γ
/-- a promise that may be broken by an exception -/
abbrev PrX := List Sl → Mem → DK → DX → Prop
structure HoldsX (P : Program) (w : World) (K : PySem.W.Frag) (mg : Str → Option Value) (base : Heap) (k : Nat) (f : Addr) (fd : FuncData) (ps : List Str) (pr : PrX) : Prop where
  len : ∀ ss M q kx, pr ss M q kx → ss.length = ps.length
  go : ∀ (A : Around) (outer : List Env) (s : Shared) (Hc : Hp) (args : Args) (us : List Value) (vs : List V) (ss : List Sl) (M : Mem) (H : Hp) (q : DK) (kx : DX) (Q : VK) (E : XK), Rm k A → Env0 P w K mg base A outer s Hc →
    BindsTo s fd args (ps.zip us) → Vals vs us → Rps H ss vs → Own H Hc M → pr ss M q kx → On H q Q → (∀ cls d σ Hc', Wof H none kx cls d σ Hc' → E cls d Hc') →
    codeAny (model P w) A (.call (.ref f) args) (CR (L2.CX P w) outer P w Hc s Q E) s
theorem HoldsX.mono {P : Program} {w : World} {K : PySem.W.Frag} {mg : Str → Option Value} {base : Heap} {j k : Nat} {f : Addr} {fd : FuncData} {ps : List Str} {pr : PrX} (F : HoldsX P w K mg base j f fd ps pr) (h : j ≤ k) : HoldsX P w K mg base k f fd ps pr :=
  ⟨F.len, fun A outer s Hc args us vs ss M H q kx Q E r => F.go A outer s Hc args us vs ss M H q kx Q E (r.mono h)⟩
section
variable {X : Cx} {e : Expr} {es : List Expr} {de : DE} {das : DA} {pos p : Pos} {x : Str} {k : Nat} {f : Addr} {fd : FuncData} {ps : List Str} {pr : PrX}
theorem callX_go {pins : List (Addr × Obj)} {σ : L2.St} {Hc H : Hp} {M : Mem} {s : Shared} {Q : VK} {q : DK} {kx : DX} {W : WX} {us : List Value} {vs : List V} {ss : List Sl} (tk : Takes X W) (F : HoldsX X.prog X.w X.K X.mg X.base k f fd ps pr) (hr : Rm k X.A) (hb : Binds X.K fd ps [])
    (I : L2.Inv X pins σ Hc s) (r : Vals vs us) (rs : Rps H ss vs) (O : Own H Hc M) (h : pr ss M q kx) (on : On H q Q) (hW : ∀ cls d σ' Hc', Wof H none kx cls d σ' Hc' → W cls d σ Hc') : wpAny (model X.prog X.w) X.A (call (.ref f) us) (EP X pins σ Q) X.xe s := by
  have e1 : us.length = ps.length := by rw [← r.length, rps_len rs]; exact F.len _ _ _ _ h
  have e2 : BindsTo s fd ⟨us, []⟩ (ps.zip us) := by
    have z := hb s us I.kIn (by rw [List.append_nil]; exact e1)
    rw [List.append_nil] at z
    exact z
  refine wpAny_call (codeAny_mono (F.go X.A X.stack s Hc ⟨us, []⟩ us vs ss M H q kx Q (WE W σ) hr I.env0 e2 r rs O h on hW) fun res s' hq => ?_)
  cases res with
  | error er => exact passAt tk σ pins Hc s er s' I hq
  | ok fl =>
    cases fl with
    | ret u => exact I.after hq
    | next => exact hq.elim
    | brk => exact hq.elim
    | cont => exact hq.elim
/-- f(..), where f raises nothing -/
def dCallN (pr : PrX) (das : DA) : DE := fun Γ M k => das Γ M fun ss M1 => pr ss M1 k fun _ _ _ => False
theorem run_args {pins : List (Addr × Obj)} {σ : L2.St} {Hc : Hp} {s : Shared} {das : DA} {Γ : Fm} {M : Mem} {H : Hp} {k0 : List Sl → Mem → Prop} (ha : XA X (e :: es) das) (I : L2.Inv X pins σ Hc s) (hd : das Γ M k0) (F' : Fr H σ Γ) (O : Own H Hc M) {R : List Value → Shared → Prop}
    (hR : ∀ us s1 vs ss H1 H2 M1, L2.Inv X pins σ H1 s1 → Vals vs us → Rps H2 ss vs → Own H2 H1 M1 → Ex H H2 → k0 ss M1 → R us s1) :
    wpAny (model X.prog X.w) X.A (spliced (backTo pos (starEach (e :: es) X.env))) R X.xe s := by
  have ha' : PA X (e :: es) (LA das) := ha
  have hR0 : LA das σ Hc fun vs H1 => ∃ ss M1 H2, Rps H2 ss vs ∧ Own H2 H1 M1 ∧ k0 ss M1 ∧ Ex H H2 :=
    ⟨Γ, M, H, k0, hd, F', O, fun vs ss M' H' Hc' e1 O1 r1 h1 => ⟨ss, M', H', r1, O1, h1, e1⟩⟩
  refine thn (ha'.run pos pins s σ Hc _ I hR0) fun us s1 z => ?_
  obtain ⟨vs, H1, I1, r, ss, M1, H2, z1, z2, z3, z4⟩ := z
  exact hR us s1 vs ss H1 H2 M1 I1 r z1 z2 z4 z3
theorem takes_false (X : Cx) : Takes X fun _ _ _ _ => False := fun u s' ⟨_, _, _, _, _, _, _, _, _, _, _, _, _, _, _, _, z⟩ => z.elim
theorem xe_callN (F : HoldsX X.prog X.w X.K X.mg X.base k f fd ps pr) (hr : Rm k X.A) (hm : X.mg x = some (.ref f)) (hk : PySem.W.keepIn X.K (.ref f) = true) (hb : Binds X.K fd ps []) (ha : XA X (e :: es) das) (hg : Gl X x := by rfl)
    (hdb : (x == ("__debug__" : Str)) = false := by decide) (he : starEach (e :: es) X.env = (false, eval e X.env) :: starEach es X.env := by rfl) (hpl : (backTo pos (starEach es X.env)).any (·.1) = false := by rfl) : XE X (.Call (.Name x p) (e :: es) [] pos) (dCallN pr das) := by
  refine ⟨fun pins s σ Hc Q I ⟨Γ, M, H, q, hd, F', O, on⟩ => ?_⟩
  refine wpAny_Call_Name_kw (ld_glob I hg hm ?_ hdb)
  refine PySem.W.callWith_K (h₀ := X.base) I.ok.mod.kin hk (run_args ha I hd F' O fun us s1 vs ss H1 H2 M1 I1 r z1 z2 z4 z3 => ?_) he hpl
  exact ⟨I1.kIn, callX_go (takes_false X) F hr hb I1 r z1 z2 z3 (on.ex z4) fun _ _ _ _ ⟨_, _, _, _, _, _, _, _, _, z⟩ => z⟩
/-- f(..), where f may raise: i the ghost's place -/
def dCallX (i : Nat) (H0 : Hp) (G0 : Option Fm) (kx : DX) (pr : PrX) (das : DA) : DE := fun Γ M k => (Γ[i]? = some (some (.base H0)) ∧ At0 G0 Γ) ∧ das Γ M fun ss M1 => pr ss M1 k kx
/-- exceptions are wished for -/
abbrev Wish (X : Cx) (W : WX) (H0 : Hp) (G0 : Option Fm) (kx : DX) : Prop := Takes X W ∧ ∀ cls d σ Hc', Wof H0 G0 kx cls d σ Hc' → W cls d σ Hc'
theorem wof_at {H0 H H2 : Hp} {G0 : Option Fm} {kx : DX} {Γ : Fm} {σ σ' : L2.St} {cls : Value} {d : Option Addr} {Hc : Hp} (F : Fr H σ Γ) {i : Nat} (hg : Γ[i]? = some (some (.base H0)) ∧ At0 G0 Γ) (e : Ex H H2) (h : Wof H2 none kx cls d σ' Hc) : Wof H0 G0 kx cls d σ Hc := by
  obtain ⟨C, fs, M', H', h1, h2, _, r⟩ := h
  refine ⟨C, fs, M', H', h1, ((F.gh i H0 hg.1).trans e).trans h2, fun Γ0 z => ?_, r⟩
  have a := hg.2
  rw [z] at a
  have a' : Γ0 = Γ := a
  rw [a']
  exact F.ex (e.trans h2)
theorem xe_callX {i : Nat} {H0 : Hp} {G0 : Option Fm} {kx : DX} {W : WX} (wi : Wish X W H0 G0 kx) (F : HoldsX X.prog X.w X.K X.mg X.base k f fd ps pr) (hr : Rm k X.A) (hm : X.mg x = some (.ref f)) (hk : PySem.W.keepIn X.K (.ref f) = true) (hb : Binds X.K fd ps []) (ha : XA X (e :: es) das) (hg : Gl X x := by rfl)
    (hdb : (x == ("__debug__" : Str)) = false := by decide) (he : starEach (e :: es) X.env = (false, eval e X.env) :: starEach es X.env := by rfl) (hpl : (backTo pos (starEach es X.env)).any (·.1) = false := by rfl) : XE X (.Call (.Name x p) (e :: es) [] pos) (dCallX i H0 G0 kx pr das) := by
  refine ⟨fun pins s σ Hc Q I ⟨Γ, M, H, q, ⟨hgh, hd⟩, F', O, on⟩ => ?_⟩
  refine wpAny_Call_Name_kw (ld_glob I hg hm ?_ hdb)
  refine PySem.W.callWith_K (h₀ := X.base) I.ok.mod.kin hk (run_args ha I hd F' O fun us s1 vs ss H1 H2 M1 I1 r z1 z2 z4 z3 => ?_) he hpl
  exact ⟨I1.kIn, callX_go wi.1 F hr hb I1 r z1 z2 z3 (on.ex z4) fun cls d σ' Hc' z => wi.2 cls d σ Hc' (wof_at F' hgh z4 z)⟩
end
/-- a def that may raise -/
def startX (N : List Str) (ss : List Sl) (H0 : Hp) : Fm := startF N ss ++ [some (.base H0)]
theorem fr_startX {H : Hp} {ss : List Sl} {vs : List V} {N : List Str} (r : Rps H ss vs) (hz : ss.length ≤ N.length) : Fr H (L2.start N vs) (startX N ss H) := by
  have F := fr_start N r
  have hl := rps_len r
  have e1 : (L2.start N vs).length = N.length := by unfold L2.start; simp [hl]; omega
  have e2 : (startF N ss).length = N.length := by unfold startF; simp; omega
  refine ⟨by unfold startX; rw [List.length_append, e1, e2]; exact Nat.le_succ _, fun i s hi h => ?_, fun i H0 h => ?_⟩
  · unfold startX at h
    rw [List.getElem?_append_left (by rw [e2]; rw [e1] at hi; exact hi)] at h
    exact F.sl i s hi h
  · unfold startX at h
    by_cases hi : i < (startF N ss).length
    · rw [List.getElem?_append_left hi] at h
      exact F.gh i H0 h
    · rw [List.getElem?_append_right (by omega)] at h
      by_cases h2 : i - (startF N ss).length = 0
      · rw [h2] at h
        cases h
        exact Evl.Ex.refl H
      · rw [List.getElem?_eq_none (by simp; omega)] at h
        cases h
section
variable {P : Program} {w : World} {K : PySem.W.Frag} {mg : Str → Option Value} {base : Heap}
abbrev BdX (P : Program) (w : World) (K : PySem.W.Frag) (mg : Str → Option Value) (base : Heap) (N : List Str) (qual : Str) (st : Stmt) (f : Addr) (cdv : Value) (A : Around) (outer : List Env) (s : Shared) (H : Hp) (E : XK) : Cx :=
  cxOf (L2.CX P w) P w K mg base N qual (defScope st) f cdv A outer s H E
theorem holdsX_of {nm qual : Str} {st : Stmt} {f : Addr} {fd : FuncData} {N ps : List Str} {k : Nat} {pr : PrX} {ds : Hp → DX → DS} (F : FunV K nm qual st f fd) (S : FnScope N ps (defScope st)) (hz : ps.length ≤ N.length) (len : ∀ ss M q kx, pr ss M q kx → ss.length = ps.length)
    (body : ∀ (cdv : Value) (A : Around) (outer : List Env) (s : Shared) (H : Hp) (E : XK) (H0 : Hp) (kx : DX), Rm k (BdX P w K mg base N qual st f cdv A outer s H E).A → Wish (BdX P w K mg base N qual st f cdv A outer s H E) (fun cls d _ Hc => E cls d Hc) H0 none kx →
      XSs (BdX P w K mg base N qual st f cdv A outer s H E) (defBody st) (ds H0 kx))
    (read : ∀ ss M q kx H0, pr ss M q kx → ds H0 kx { nx := fun _ M' => q (.dat .none) M', rt := q } (startX N ss H0) M) : HoldsX P w K mg base (k + 1) f fd ps pr := by
  obtain ⟨oc, od, dV, kV, doc, pm, an, cdv, ct, osl, rfl, lk, hcd⟩ := F.ex
  refine ⟨len, fun A outer s Hc args us vs ss M H q kx Q E hr e0 hb r rs O hp on hE => ?_⟩
  have gu2 : (A.deeper (envOfC qual (defScope st) s.heap.objs.size f cdv)).guards = some [] := hr.gu
  have KX : K.In s.heap := e0.mod.kin.keeps fun b o e => (e0.bs b o e).1
  have lim : s.heap.NoLimit := e0.mod.nolimit.keeps fun b o z => (e0.bs b o z).1
  have hl : vs.length = ps.length := by rw [rps_len rs]; exact len _ _ _ _ hp
  have kinds : ∀ y ∈ ps.zip us, (defScope st).names.lookup y.1 = some .local ∨ ((defScope st).names.lookup y.1 = some .cell ∧ ((cellsFrom (s.heap.objs.size + 1) (defScope st).names []).lookup y.1).isSome = true) := by
    rintro ⟨n, v⟩ hy
    rcases S.par n (List.of_mem_zip hy).1 with z | z
    · exact .inl z
    · exact .inr ⟨z, PySem.W.cellsFrom_some _ _ _ (.inl z)⟩
  refine codeAny_call_function hr.rm.depth (KX _ _ lk) rfl S.co S.gen rfl (PySem.W.codeRec_of KX hcd) (hb _ _ _ _ (wpAny_newFunctionEnv_cells S.kind kinds fun env he s1 z => ?_))
  subst he
  refine ⟨lim.keeps z.toInCall.keep, codeAny_func ?_⟩
  have wi : Wish (BdX P w K mg base N qual st f cdv A outer s Hc E) (fun cls d _ Hc => E cls d Hc) H none kx := ⟨takes_of rfl rfl rfl rfl, hE⟩
  have B := body cdv A outer s Hc E H kx ⟨hr.rm.deeper _, gu2⟩ wi
  have I : L2.Inv (BdX P w K mg base N qual st f cdv A outer s Hc E) [] (L2.start N vs) Hc s1 := inv_start S hr.rm.hd e0 hl r z
  have here : LS (ds H kx) { nx := fun _ H' => Q .non H', rt := Q } (L2.start N vs) Hc := ⟨_, M, H, _, read ss M q kx H hp, fr_startX rs (by rw [len _ _ _ _ hp]; exact hz), O,
    ⟨fun σ' Γ' M' H' Hc' e1 _ O1 h1 => on .non (.dat .none) M' H' Hc' e1 O1 .non h1, on, fun _ _ _ _ _ _ _ _ h1 => h1.elim, fun _ _ _ _ _ _ _ _ h1 => h1.elim⟩⟩
  refine wpAny_mono (B.run [] s1 (L2.start N vs) Hc _ I here) (fun fl s' hs => ?_) fun e s' hs => hs
  match fl, hs with
  | .ret u, ⟨v, _, H', J, rv, h1⟩ => exact ⟨v, H', J.os, J.bare, J.base, J.hok, rv, h1⟩
  | .next, ⟨_, H', J, h1⟩ => exact ⟨.non, H', J.os, J.bare, J.base, J.hok, rfl, h1⟩
  | .brk, ⟨_, _, _, h1⟩ => exact h1.elim
  | .cont, ⟨_, _, _, h1⟩ => exact h1.elim
end
end DL
namespace DL
open PySem PySem.Spec PyProof.Rows L2
open Evl (Ex)
/-! ### exceptions made, raised, asked, caught -/
/-- what the written part says of an own error class -/
structure ErrC (K : PySem.W.Frag) (C : Addr) : Prop where
  cl : (PySem.W.clsIn K C).isSome = true
  hg : PySem.W.findIn K (.ref C) "__getattribute__" = some (some (.builtin "BaseException.__getattribute__"))
  hk : PySem.W.findIn K (.ref C) "__getattr__" = some none
  hs : PySem.W.subIn K (.ref C) (.type "BaseException") = some true
  ha : PySem.W.findIn K (.ref C) "__class__" = some (some (.builtin "object.__class__"))
  hn : PySem.W.specialIn K (.builtin "object.__class__") "__get__" = some (some (.builtin "getset_descriptor.__get__"))
  ht : PySem.W.takesIn K (.builtin "object.__class__") = some true
  hm : PySem.W.mroIn K C (.type "object") = some true
  hd : PySem.W.hasDictIn K C = true
  ty : PySem.W.typeIn K (.ref C) = some (.type "type")
  kC : PySem.W.keepIn K (.ref C) = true
def errB (K : PySem.W.Frag) (C : Addr) : Bool :=
  (PySem.W.clsIn K C).isSome && (decide (PySem.W.findIn K (.ref C) "__getattribute__" = some (some (.builtin "BaseException.__getattribute__"))) && (decide (PySem.W.findIn K (.ref C) "__getattr__" = some none) && (decide (PySem.W.subIn K (.ref C) (.type "BaseException") = some true) &&
  (decide (PySem.W.findIn K (.ref C) "__class__" = some (some (.builtin "object.__class__"))) && (decide (PySem.W.specialIn K (.builtin "object.__class__") "__get__" = some (some (.builtin "getset_descriptor.__get__"))) && (decide (PySem.W.takesIn K (.builtin "object.__class__") = some true) &&
  (decide (PySem.W.mroIn K C (.type "object") = some true) && (PySem.W.hasDictIn K C && (decide (PySem.W.typeIn K (.ref C) = some (.type "type")) && PySem.W.keepIn K (.ref C))))))))))
theorem errB_ok {K : PySem.W.Frag} {C : Addr} (h : errB K C = true) : ErrC K C := by
  unfold errB at h
  simp only [Bool.and_eq_true, decide_eq_true_eq] at h
  obtain ⟨a1, a2, a3, a4, a5, a6, a7, a8, a9, a10, a11⟩ := h
  exact ⟨a1, a2, a3, a4, a5, a6, a7, a8, a9, a10, a11⟩
theorem ErrC.raises {X : Cx} {C : Addr} (h : ErrC X.K C) : Raises X (.ref C) := raises_own h.hs h.ty
section
variable {X : Cx} {e : Expr} {es : List Expr} {te : TE} {de : DE} {das : DA} {pos p : Pos} {x : Str} {C : Addr} {f : Str}
/-- C(e), as a value -/
theorem pe_mkF (S : SupC X.prog X.K X.mg C f) (hr : Room 2 X.A) (hg : Gl X x) (hm : X.mg x = some (.ref C)) (he : PE X e te) (hs : starEach [e] X.env = (false, eval e X.env) :: starEach [] X.env := by rfl) (hdb : (x == ("__debug__" : Str)) = false := by decide) :
    PE X (.Call (.Name x p) [e] [] pos) (fun σ H Q => te σ H fun v H1 => ∀ a d, H1 a = none → H1 d = none → d ≠ a → Q (.ref a) (upd (upd H1 d (.xd [(f, v)])) a (exk a C (some d)))) := by
  refine ⟨fun pins s σ H Q I h => ?_⟩
  refine wpAny_Call_Name_kw (ld_glob I hg hm ?_ hdb)
  refine PySem.W.callWith_K (h₀ := X.base) I.ok.mod.kin S.T.kC ?_ hs (by rfl)
  rw [hs]
  show wpAny _ _ (spliced ((false, eval e X.env) :: backTo pos (starEach [] X.env))) _ _ s
  refine Calls.spliced_cons (thn (he.run pins s σ H _ I h) fun u s1 ⟨v, H1, I1, r1, q1⟩ => ?_)
  refine Calls.spliced_nil ⟨I1.kIn, ?_⟩
  refine mk_sup S hr I1 fun h' tk a d k ha hd hne hk _ hn => ?_
  have na := I1.hok.fresh ha
  have nd := I1.hok.fresh hd
  have rr : ∀ g, RelO (([(f, v)] : List (Str × V)).lookup g) (if g = f then some u else none) := fun g => L2.relO_put (fs := []) (mA := fun _ => none) r1 (fun _ => True.intro) g
  have ext : ObjOk X.prog X.w (upd (upd H1 d (.xd [(f, v)])) a (exk a C (some d))) h' a (exk a C (some d)) := by
    obtain ⟨oe, vs, e1, e2, e3⟩ := hk
    exact ⟨⟨oe, vs, e1, e2, e3⟩, ⟨oe, e1⟩, fun h1 h2 ⟨o, w, q1, q2, q3⟩ kk => ⟨o, w, kk o q1, q2, q3⟩⟩
  have xdk : ObjOk X.prog X.w (upd (upd H1 d (.xd [(f, v)])) a (exk a C (some d))) h' d (.xd [(f, v)]) := ⟨_, hn, rr⟩
  exact ⟨.ref a, _, inv_two (t' := tk) I1 k ha hd ext xdk, rfl, q1 a d na nd hne⟩
/-- raise C(e): the exception that is made -/
theorem pmk_sup (S : SupC X.prog X.K X.mg C f) (hr : Room 2 X.A) (hg : Gl X x) (hm : X.mg x = some (.ref C)) (he : PE X e te) (hs : starEach [e] X.env = (false, eval e X.env) :: starEach [] X.env := by rfl) (hdb : (x == ("__debug__" : Str)) = false := by decide) :
    PMk X (.Call (.Name x p) [e] [] pos) (fun σ H Q => te σ H fun v H1 => ∀ d, H1 d = none → Q (.ref C) (some d) (upd H1 d (.xd [(f, v)]))) := by
  intro pins s σ H Q I h
  refine wpAny_Call_Name_kw (ld_glob I hg hm ?_ hdb)
  refine PySem.W.callWith_K (h₀ := X.base) I.ok.mod.kin S.T.kC ?_ hs (by rfl)
  rw [hs]
  show wpAny _ _ (spliced ((false, eval e X.env) :: backTo pos (starEach [] X.env))) _ _ s
  refine Calls.spliced_cons (thn (he.run pins s σ H _ I h) fun u s1 ⟨v, H1, I1, r1, q1⟩ => ?_)
  refine Calls.spliced_nil ⟨I1.kIn, ?_⟩
  refine mk_sup S hr I1 fun h' tk a d k ha hd hne hk ho hn => ?_
  obtain ⟨oe, vs, e1, e2, e3⟩ := hk
  obtain ⟨oe2, vs2, g1, g2, g3⟩ := ho
  rw [e1] at g1
  cases g1
  obtain ⟨G, g1', g2'⟩ := restrict h' fun b => decide (b ≠ a)
  have gk : ∀ b, b ≠ a → G.get? b = h'.get? b := fun b hb => g1' b (decide_eq_true hb)
  have ge : G.get? a = none := g2' a (by simp)
  have na := I1.hok.fresh ha
  have nd := I1.hok.fresh hd
  have k2 : ∀ b o, s1.heap.get? b = some o → G.get? b = some o := fun b o q => by
    rw [gk b (Nat.ne_of_lt (Nat.lt_of_lt_of_le (Heap.lt_size q) ha))]
    exact k b o q
  have rr : ∀ g, RelO (([(f, v)] : List (Str × V)).lookup g) (if g = f then some u else none) := fun g => L2.relO_put (fs := []) (mA := fun _ => none) r1 (fun _ => True.intro) g
  have J : L2.Inv X pins σ (upd H1 d (.xd [(f, v)])) { s1 with heap := G, toks := tk } := I1.laid k2 hd ⟨_, hn.at fun o q => (gk d hne).trans q, rr⟩
  refine ⟨a, oe, vs2, _, upd H1 d (.xd [(f, v)]), .ref C, some d, rfl, J, fun b o q => ?_, ge, e1, e2, g2, g3, by rw [upd_ne (Ne.symm hne)]; exact na, rfl, I1.bare, raises_own S.T.exC S.T.tyC, q1 d nd⟩
  by_cases hb : b = a
  · rw [hb, ge] at q
    cases q
  · rw [← gk b hb]
    exact q
/-! ### readings -/
def dMkF (C : Addr) (f : Str) (de : DE) : DE := fun Γ M k => de Γ M fun s M1 => match s with
  | .dat d => k (.exc C [(f, d)]) M1
  | _ => False
def dMkT (C : Addr) (de : DE) : DE := fun Γ M k => de Γ M fun _ M1 => k (.exc C []) M1
theorem xe_mkF (S : SupC X.prog X.K X.mg C f) (hr : Rm 2 X.A) (hm : X.mg x = some (.ref C)) (he : XE X e de) (hg : Gl X x := by rfl) (hs : starEach [e] X.env = (false, eval e X.env) :: starEach [] X.env := by rfl) (hdb : (x == ("__debug__" : Str)) = false := by decide) :
    XE X (.Call (.Name x p) [e] [] pos) (dMkF C f de) := xe_of (pe_mkF S hr.rm hg hm he hs hdb) fun Γ M k σ H Hc Q hd F O q => simLE Γ M _ σ H Hc _ hd F O fun v s M1 H1 Hc1 e1 O1 r1 h1 => by
  split at h1
  · intro a d na nd hne
    obtain ⟨O2, e2⟩ := O1.grow (o := .xd [(f, v)]) nd
    obtain ⟨O3, e3⟩ := O2.grow (p := a) (o := exk a C (some d)) (by rw [upd_ne (Ne.symm hne)]; exact na)
    refine q _ (.exc C [(f, _)]) _ _ _ (e1.trans (e2.trans e3)) O3 ⟨a, some d, Kx a C (some d), rfl, upd_same, fun _ z => z, ?_⟩ h1
    exact ⟨[(f, v)], by rw [upd_ne hne, upd_same], .cons ⟨rfl, dp_ex (e2.trans e3) r1⟩ .nil⟩
  · exact h1.elim
theorem xe_mkT {bmB : List Value} {B newId initId : String} (F : ExcBaseFacts B newId initId bmB) (q : PySem.W.excIn X.K C bmB newId = true) (kC : PySem.W.keepIn X.K (.ref C) = true) (hm : X.mg x = some (.ref C)) (he : XE X e de) (hg : Gl X x := by rfl)
    (hs : starEach [e] X.env = (false, eval e X.env) :: starEach [] X.env := by rfl) (hdb : (x == ("__debug__" : Str)) = false := by decide) :
    XE X (.Call (.Name x p) [e] [] pos) (dMkT C de) := xe_of (pe_exc1 F q hm kC hg he hs hdb) fun Γ M k σ H Hc Q hd F' O q => simLE Γ M _ σ H Hc _ hd F' O fun v s M1 H1 Hc1 e1 O1 r1 h1 => by
  intro a na
  obtain ⟨O2, e2⟩ := O1.grow (o := ExO (.ref C) a) na
  exact q _ (.exc C []) _ _ _ (e1.trans e2) O2 ⟨a, none, _, rfl, upd_same, fun h ⟨oe, vs, z1, z2, z3, _⟩ => ⟨oe, vs, z1, z2, z3⟩, rfl⟩ h1
/-- less is ours -/
theorem Own.less {H Hc : Hp} {M M' : Mem} (O : Own H Hc M) (h : ∀ a o, M' a = some o → M a = some o) : Own H Hc M' := ⟨O.ex, fun a o e => O.no a o (h a o e), fun a o e => O.ob a o (h a o e)⟩
/-- raise C('m') -/
def dRaiT (i : Nat) (H0 : Hp) (G0 : Option Fm) (kx : DX) (C : Addr) : DS := fun _ Γ M => (Γ[i]? = some (some (.base H0)) ∧ At0 G0 Γ) ∧ ∃ M', (∀ a o, M' a = some o → M a = some o) ∧ kx C [] M'
def dRaiF (i : Nat) (H0 : Hp) (G0 : Option Fm) (kx : DX) (C : Addr) (f : Str) (de : DE) : DS := fun _ Γ M => (Γ[i]? = some (some (.base H0)) ∧ At0 G0 Γ) ∧ de Γ M fun s M1 => ∃ d, s = .dat d ∧ ∃ M', (∀ a o, M' a = some o → M1 a = some o) ∧ kx C [(f, d)] M'
theorem wof_here {H0 H H2 : Hp} {G0 : Option Fm} {kx : DX} {Γ : Fm} {σ : L2.St} {d : Option Addr} {Hc : Hp} {fs : List (Str × Dt)} {M' : Mem} (F : Fr H σ Γ) {i : Nat} (hg : Γ[i]? = some (some (.base H0)) ∧ At0 G0 Γ) (e : Ex H H2) (O : Own H2 Hc M') (hf : FsAt H2 d fs) (h : kx C fs M') : Wof H0 G0 kx (.ref C) d σ Hc :=
  wof_at (σ' := σ) F hg e ⟨C, fs, M', H2, rfl, Evl.Ex.refl _, (fun _ z => nomatch z), O, hf, h⟩
theorem xs_raiT {bmB : List Value} {B newId initId : String} {i : Nat} {H0 : Hp} {G0 : Option Fm} {kx : DX} {W : WX} {m : Str} {j : Nat} {p2 pos2 : Pos} (wi : Wish X W H0 G0 kx) (F : ExcBaseFacts B newId initId bmB) (q : PySem.W.excIn X.K C bmB newId = true) (E : ErrC X.K C) (hm : X.mg x = some (.ref C))
    (hc : X.calm = true := by rfl) (hg : Gl X x := by rfl) (hdb : (x == ("__debug__" : Str)) = false := by decide) : XS X (.Raise (some (.Call (.Name x p) [.Constant (.str m) j p2] [] pos)) none pos2) (dRaiT i H0 G0 kx C) :=
  xs_of (ps_raise hc wi.1 (pmk_own F q hm E.kC E.raises hg hdb)) fun Γ M D σ H Hc Q hd F' O _ => by
  obtain ⟨hgh, M', hM, hk⟩ := hd
  exact wi.2 _ _ _ _ (wof_here F' hgh (Evl.Ex.refl _) (O.less hM) rfl hk)
theorem xs_raiF {i : Nat} {H0 : Hp} {G0 : Option Fm} {kx : DX} {W : WX} {pos2 : Pos} (wi : Wish X W H0 G0 kx) (S : SupC X.prog X.K X.mg C f) (hr : Rm 2 X.A) (hm : X.mg x = some (.ref C)) (he : XE X e de)
    (hc : X.calm = true := by rfl) (hg : Gl X x := by rfl) (hs : starEach [e] X.env = (false, eval e X.env) :: starEach [] X.env := by rfl) (hdb : (x == ("__debug__" : Str)) = false := by decide) : XS X (.Raise (some (.Call (.Name x p) [e] [] pos)) none pos2) (dRaiF i H0 G0 kx C f de) :=
  xs_of (ps_raise hc wi.1 (pmk_sup S hr.rm hg hm he hs hdb)) fun Γ M D σ H Hc Q hd F' O _ => by
  obtain ⟨hgh, hd⟩ := hd
  refine simLE Γ M _ σ H Hc _ hd F' O fun v s M1 H1 Hc1 e1 O1 r1 h1 => ?_
  obtain ⟨d, rfl, M', hM, hk⟩ := h1
  intro a na
  obtain ⟨O2, e2⟩ := O1.grow (o := .xd [(f, v)]) na
  exact wi.2 _ _ _ _ (wof_here F' hgh (e1.trans e2) (O2.less hM) ⟨[(f, v)], upd_same, .cons ⟨rfl, dp_ex e2 (show Dq H1 v d from r1)⟩ .nil⟩ hk)
end
end DL
namespace DL
open PySem PySem.Spec PyProof.Rows L2
open Evl (Ex)
/-! ### isinstance of an exception, its field; try: .. except x as n: t = n -/
def rIsX (K : PySem.W.Frag) : List V → Hp → VK → Prop := fun xs H Q => ∃ (a C : Addr) (d : Option Addr) (φ : Heap → Prop) (c : V) (cv : Value) (b : Bool), xs = [.ref a, c] ∧ H a = some (.ext φ) ∧ (∀ h, φ h → Kx a C d h) ∧ (∀ dd, d = some dd → ∃ ws, H dd = some (.xd ws)) ∧ ErrC K C ∧
  (∀ u, RelV c u → u = cv) ∧ PySem.W.kitOne K (.ref C) cv = some b ∧ Q (.bl b) H
section
variable {X : Cx} {pins : List (Addr × Obj)} {σ : L2.St} {H : Hp} {s : Shared}
/-- the exception stands there -/
theorem exc_inst {a C : Addr} {d : Option Addr} {φ : Heap → Prop} (I : L2.Inv X pins σ H s) (ha : H a = some (.ext φ)) (hφ : ∀ h, φ h → Kx a C d h) (hd : ∀ dd, d = some dd → ∃ ws, H dd = some (.xd ws)) :
    ∃ ox od, PySem.W.InstAt s.heap a ox C od ∧ ∀ dd ws, d = some dd → H dd = some (.xd ws) → ∃ mA, s.heap.Ns1 dd mA ∧ (∀ f, RelO (ws.lookup f) (mA f)) ∧ ∃ o, od = some o ∧ ∀ f, PySem.W.lookIn f o = some (mA f) := by
  obtain ⟨oe, vs, h1, h2, h3⟩ := hφ _ (I.hok a _ ha).1
  cases d with
  | none => exact ⟨oe, none, ⟨h1, h2.1, by unfold PySem.W.notCls; rw [h3] <;> rfl, by rw [h2.2]; exact True.intro⟩, fun dd ws z => (nomatch z)⟩
  | some dd =>
    obtain ⟨ws, e⟩ := hd dd rfl
    have hx : ObjOk X.prog X.w H s.heap dd (.xd ws) := I.hok dd _ e
    obtain ⟨mA, hns, hr⟩ := hx
    obtain ⟨od, ho, hl⟩ := lookIn_ns hns
    refine ⟨oe, some od, ⟨h1, h2.1, by unfold PySem.W.notCls; rw [h3] <;> rfl, by rw [h2.2]; exact ho⟩, fun d2 w2 z q => ?_⟩
    cases z
    rw [e] at q
    cases q
    exact ⟨mA, hns, hr, od, rfl, hl⟩
theorem call_isX : CallR X (.builtin "isinstance") (rIsX X.K) := by
  intro pins s σ H xs us Q I r h
  obtain ⟨a, C, d, φ, c, cv, b, rfl, ha, hφ, hd, E, hcv, e, q⟩ := h
  cases r with
  | cons rx rr =>
    cases rr with
    | cons rt rr =>
      cases rr
      cases rx
      have ec := hcv _ rt
      subst ec
      obtain ⟨ox, od, J, _⟩ := exc_inst I ha hφ hd
      exact PySem.W.kia_one (PySem.W.kitx_exc E.cl E.hg E.hk E.hs E.ha E.hn E.ht E.hm) I.kIn J e (fun z => nomatch z) fun tk => ⟨.bl b, H, I.kept (t' := tk) fun _ _ z => z, rfl, q⟩
def fIsiX (K : PySem.W.Frag) : DC := fun ss M k => match ss with
  | [.fix (.exc C fs), .raw (.ref D)] => ErrC K C ∧ ∃ b, PySem.W.kitOne K (.ref C) (.ref D) = some b ∧ k (.dat (.bool b)) M
  | [.fix (.exc C fs), .raw (.ty T)] => ErrC K C ∧ ∃ b, PySem.W.kitOne K (.ref C) (.type T) = some b ∧ k (.dat (.bool b)) M
  | [.dat d, .raw (.ref D)] => ∃ b, PySem.W.kitOne K (.type (tyD d)) (.ref D) = some b ∧ k (.dat (.bool b)) M
  | [.dat d, .raw (.ty T)] => ∃ b, PySem.W.kitOne K (.type (tyD d)) (.type T) = some b ∧ k (.dat (.bool b)) M
  | _ => False
theorem fs_dict {H : Hp} {d : Option Addr} {fs : List (Str × Dt)} (h : FsAt H d fs) : ∀ dd, d = some dd → ∃ ws, H dd = some (.xd ws) := by
  rintro dd rfl
  obtain ⟨ws, h1, _⟩ := h
  exact ⟨ws, h1⟩
theorem sim_isiX {K : PySem.W.Frag} : SimC (fun xs H Q => rIsX K xs H Q ∨ rIsi K xs H Q) (fIsiX K) := by
  intro ss M k xs H Hc Q h r O q
  unfold fIsiX at h
  split at h
  · obtain ⟨x, y, rfl, rx, ry⟩ := rps2 r
    obtain ⟨a, d, φ, rfl, h1, h2, h3⟩ := rx
    cases ry
    obtain ⟨E, b, e, h⟩ := h
    have fd := fs_dict h3
    exact .inl ⟨a, _, d, φ, _, _, b, rfl, O.ex _ _ h1, h2, fun dd z => by obtain ⟨ws, e⟩ := fd dd z; exact ⟨ws, O.ex _ _ e⟩, E, fun u z => z, e, q.dat O (.bl _) h⟩
  · obtain ⟨x, y, rfl, rx, ry⟩ := rps2 r
    obtain ⟨a, d, φ, rfl, h1, h2, h3⟩ := rx
    cases ry
    obtain ⟨E, b, e, h⟩ := h
    have fd := fs_dict h3
    exact .inl ⟨a, _, d, φ, _, _, b, rfl, O.ex _ _ h1, h2, fun dd z => by obtain ⟨ws, e⟩ := fd dd z; exact ⟨ws, O.ex _ _ e⟩, E, fun u z => z, e, q.dat O (.bl _) h⟩
  · obtain ⟨x, y, rfl, rx, ry⟩ := rps2 r
    cases ry
    obtain ⟨b, e, h⟩ := h
    exact .inr ⟨x, _, _, _, b, rfl, .own _, ty_of_dq (dp_ex O.ex rx), e, q.dat O (.bl _) h⟩
  · obtain ⟨x, y, rfl, rx, ry⟩ := rps2 r
    cases ry
    obtain ⟨b, e, h⟩ := h
    exact .inr ⟨x, _, _, _, b, rfl, .ty _, ty_of_dq (dp_ex O.ex rx), e, q.dat O (.bl _) h⟩
  · exact h.elim
theorem call_isiX : CallR X (.builtin "isinstance") (fun xs H Q => rIsX X.K xs H Q ∨ rIsi X.K xs H Q) := CallR.or call_isX call_isi
/-! ### e.f -/
def tAttX (K : PySem.W.Frag) (n : Str) (te : TE) : TE := fun σ H Q => te σ H fun x H1 => ∃ (a C dd : Addr) (φ : Heap → Prop) (ws : List (Str × V)) (v : V), x = .ref a ∧ H1 a = some (.ext φ) ∧ (∀ h, φ h → Kx a C (some dd) h) ∧ H1 dd = some (.xd ws) ∧ ws.lookup n = some v ∧ ErrC K C ∧ PySem.W.findIn K (.ref C) n = some none ∧ Q v H1
theorem pe_attX {e : Expr} {te : TE} {pos : Pos} {n : Str} (he : PE X e te) (hb : attributeBase e n X.env (eval e X.env) = eval e X.env := by rfl) : PE X (.Attribute e n pos) (tAttX X.K n te) := by
  refine ⟨fun pins s σ H Q I h => ?_⟩
  refine attr_of hb (thn (he.run pins s σ H _ I h) fun u s1 hh => ?_)
  obtain ⟨x, H1, I1, rx, a, C, dd, φ, ws, v, rfl, ha, hφ, hd, l, E, hno, q⟩ := hh
  obtain rfl : u = Value.ref a := rx
  obtain ⟨ox, od, J, z⟩ := exc_inst I1 ha hφ (fun d2 e => by cases e; exact ⟨ws, hd⟩)
  obtain ⟨mA, hns, hr, o, rfl, hl⟩ := z dd ws rfl hd
  obtain ⟨u, hu, ru⟩ := RelO.some_of (v := v) (o := mA n) (by rw [← l]; exact hr n)
  exact PySem.HandSPX.exc_get I1.kIn J E.hg E.hk E.hs (PySem.W.findObj_own E.hd hno rfl (by rw [hl, hu])) (handed_of ru) ⟨v, H1, I1.tok _, ru, q⟩
def dAttX (K : PySem.W.Frag) (n : Str) (de : DE) : DE := fun Γ M k => de Γ M fun s M1 => match s with
  | .fix (.exc C fs) => ∃ d, fs.lookup n = some d ∧ ErrC K C ∧ PySem.W.findIn K (.ref C) n = some none ∧ k (.dat d) M1
  | _ => False
theorem fs_look {H : Hp} {n : Str} {d : Dt} : ∀ {fs : List (Str × Dt)} {ws : List (Str × V)}, Paired (fun (p : Str × Dt) (q : Str × V) => p.1 = q.1 ∧ Dq H q.2 p.2) fs ws → fs.lookup n = some d → ∃ v, ws.lookup n = some v ∧ Dq H v d
  | [], _, .nil, h => nomatch h
  | (f, x) :: fs, (g, y) :: ws, .cons r t, h => by
    obtain ⟨e, r⟩ := r
    dsimp only at e
    subst e
    by_cases hf : (n == f) = true
    · rw [List.lookup_cons, hf] at h ⊢
      cases h
      exact ⟨y, rfl, r⟩
    · have hf' : (n == f) = false := by simpa using hf
      rw [List.lookup_cons, hf'] at h ⊢
      exact fs_look t h
theorem xe_attX {e : Expr} {de : DE} {pos : Pos} {n : Str} (he : XE X e de) (hb : attributeBase e n X.env (eval e X.env) = eval e X.env := by rfl) : XE X (.Attribute e n pos) (dAttX X.K n de) := xe_of (pe_attX he hb) fun Γ M k σ H Hc Q hd F O q => simLE Γ M _ σ H Hc _ hd F O fun v s M1 H1 Hc1 e1 O1 r1 h1 => by
  split at h1
  · obtain ⟨a, dd, φ, rfl, g1, g2, g3⟩ := r1
    obtain ⟨d, l, E, hno, h1⟩ := h1
    cases dd with
    | none =>
      have z : _ = [] := g3
      rw [z] at l
      cases l
    | some dd =>
      obtain ⟨ws, w1, w2⟩ := g3
      obtain ⟨v, l2, r2⟩ := fs_look w2 l
      exact ⟨a, _, dd, φ, ws, v, rfl, O1.ex _ _ g1, g2, O1.ex _ _ w1, l2, E, hno, (q.ex e1).dat O1 r2 h1⟩
  · exact h1.elim
/-! ### a caught exception is kept -/
/-- what was caught is tracked from now on -/
theorem inv_track {a C : Addr} {d : Option Addr} (I : L2.Inv X pins σ H s) (hk : Kx a C d s.heap) (na : H a = none) (n0 : X.s_0.heap.get? a = none) (nL : a ≠ X.env.locals) (nP : ∀ p ∈ X.pn ++ pins, p.1 ≠ a) : L2.Inv X pins σ (upd H a (exk a C d)) s := by
  obtain ⟨oe, vs, k1, k2, k3⟩ := hk
  have old : ∀ b o, X.s_0.heap.get? b = some o → b ≠ a := fun b o e z => by rw [z, n0] at e; cases e
  have tr : ∀ {b : Addr} {o : HO}, H b = some o → b ≠ a := fun {b o} e z => by rw [z, na] at e; cases e
  refine ⟨I.ok, I.os, I.bare, ⟨I.base.keep, I.base.slot, fun b o e n hx => ?_, I.base.there, fun b xs e => ?_, fun b o u e => ?_, fun b ps e => ?_⟩, I.loc, I.cell, ?_, fun x c e => ?_, fun p hp => ?_, fun b w e => ?_, I.len⟩
  · rw [upd_ne (old b o e)]; exact I.base.free b o e n hx
  · have z := I.base.tups b xs e
    rw [upd_ne (tr z)]; exact z
  · have z := I.base.frzs b o u e
    rw [upd_ne (tr z)]; exact z
  · obtain ⟨m, z⟩ := I.base.tbls b ps e
    exact ⟨m, by rw [upd_ne (tr z)]; exact z⟩
  · rw [upd_ne (Ne.symm nL)]; exact I.free
  · rw [upd_ne ?_]
    · exact I.freeC x c e
    · rintro rfl
      obtain ⟨v, o, ho, hc⟩ := I.cell x c e
      rw [k1] at ho
      cases ho
      rw [k3] at hc
      cases hc
  · obtain ⟨z1, z2, z3⟩ := I.pin p hp
    exact ⟨z1, by rw [upd_ne (nP p hp)]; exact z2, z3⟩
  · by_cases hb : b = a
    · subst hb
      rw [upd_same] at e
      cases e
      exact ⟨⟨oe, vs, k1, k2, k3⟩, ⟨oe, k1⟩, fun h1 h2 ⟨o, w, q1, q2, q3⟩ kk => ⟨o, w, kk o q1, q2, q3⟩⟩
    · rw [upd_ne hb] at e
      exact (I.hok b w e).stay (fun c v _ q => q) (fun c q => by rw [upd_ne (tr q)]; exact q) fun c xs q => by rw [upd_ne (tr q)]; exact q
/-- what 'except x as n: t = n' wishes: i is n's slot, j is t's -/
def wKeep (K : PySem.W.Frag) (c : Value) (i j : Nat) (D : Ends) : WX := fun cls d σ H => ∃ C, cls = .ref C ∧ PySem.W.exmOne K (.ref C) c = some true ∧ ∀ a, H a = none → D.nx (((σ.set i (some (.ref a))).set j (some (.ref a))).set i none) (upd H a (exk a C d))
theorem ps_try_keep {x n t : Str} {c : Value} {i j : Nat} {body : List Stmt} {np pos pos' q1 q2 q3 : Pos} {tb : WX → TS} (hx : X.ex = []) (hs : X.stack = X.env :: X.outer) (hf : X.env.frame = some X.env.locals) (hN : X.N.Nodup) (hi : X.N[i]? = some n) (hln : X.env.kindOf n = some .local)
    (hj : X.N[j]? = some t) (hlt : X.env.kindOf t = some .local) (hc : Names X x c) (hdn : (n == ("__debug__" : Str)) = false) (hcn : (n == ("__classdict__" : Str)) = false) (hsw : swapsWith (.Name n q2) (some (.Name t q1)) q3.line X.env = pure false)
    (hb : ∀ (W : WX) (pn : List (Addr × Obj)) (xe : Value → Shared → Prop), Takes (X.tr pn xe) W → PassesOwn (model X.prog X.w) X.A X.env xe → PSs (X.tr pn xe) body (tb W)) :
    PS X (.Try body [.ExceptHandler (some (.Name x np)) (some n) [.Assign [.Name t q1] (.Name n q2) q3] pos'] [] [] pos) (fun D σ H => tb (wKeep X.K c i j D) D σ H) := by
  refine ⟨fun pins s σ H D I h => ?_⟩
  have ok := I.ok
  have hfr : X.A.frames = some (X.env :: X.outer) := by rw [ok.frames, hs]
  have tail : ∀ {fl : Flow} {s1 : Shared}, SP (X.tr (X.pn ++ pins) fun e s₁ => wpAny (model X.prog X.w) X.A (noteFrame e X.env) (fun _ s₂ => wpAny (model X.prog X.w) X.A (setFlight e none) (fun _ s₃ =>
      wpAny (model X.prog X.w) X.A (handleBy e X.env [.ExceptHandler (some (.Name x np)) (some n) [.Assign [.Name t q1] (.Name n q2) q3] pos']) (SP X pins D) X.xe s₃) X.xe s₂) X.xe s₁) [] D fl s1 → SP X pins D fl s1 := fun {fl s1} hsp => by
    match fl, hsp with
    | .next, ⟨σ', H', J, q⟩ => exact ⟨σ', H', J.ofTry ok, q⟩
    | .brk, ⟨σ', H', J, q⟩ => exact ⟨σ', H', J.ofTry ok, q⟩
    | .cont, ⟨σ', H', J, q⟩ => exact ⟨σ', H', J.ofTry ok, q⟩
    | .ret u, ⟨v, σ', H', J, r, q⟩ => exact ⟨v, σ', H', J.ofTry ok, r, q⟩
  refine wpAny_Try_except (wpAny_mono ((hb (wKeep X.K c i j D) (X.pn ++ pins) _ (fun u s' xx => ?_) PassesOwn.looking).run [] s σ H D (I.toTry _) h) (fun fl s1 hsp => ?_) fun e s1 he => he)
  · obtain ⟨a, B, sI, pins', σ', H', cls, d, rfl, J', nb, up, sky, na, os, ag, C, rfl, hex, hgo⟩ := xx
    have J : L2.Inv X pins σ' H' sI := J'.ofTry ok
    have sky' : Sky B (X.env :: X.outer) a (Zc (.ref C) d) X.env.locals s'.heap := hs ▸ sky
    have nB : B.get? a = none := by
      rcases sky' with ⟨_, z, _⟩ | ⟨_, z, _⟩ | ⟨_, z, _⟩ <;> exact z
    show wpAny (model X.prog X.w) X.A (noteFrame (.ref a) X.env) _ _ _
    refine Sky.land Zc.steady hfr hf sky' fun h3 fl3 up3 => ?_
    have J3 : L2.Inv X pins σ' H' { s' with heap := h3 } := J.landed nb fl3.1 (up.trans up3) os ag
    obtain ⟨oe3, vs3, he3, hz3, hd3⟩ := fl3.there
    have nfr : a ∉ frs (X.env :: X.outer) := fun hm => by
      obtain ⟨_, o', e', hnf⟩ := fl3.2.2.1.mem hm
      rw [he3] at e'
      cases e'
      exact hnf _ hd3
    have nI : ∀ o, sI.heap.get? a ≠ some o := fun o e => by
      have z := nb a o e (by rw [hs]; exact nfr)
      rw [nB] at z
      cases z
    have nL : a ≠ X.env.locals := fun z => nfr (List.mem_filterMap.mpr ⟨X.env, List.mem_cons_self, by rw [hf, z]⟩)
    have nF : a ∉ X.fs := fun hm => by
      obtain ⟨e, he, q⟩ := List.mem_filterMap.mp hm
      exact nfr (List.mem_filterMap.mpr ⟨e, List.mem_cons_of_mem _ he, q⟩)
    have n0 : X.s_0.heap.get? a = none := by
      cases z : X.s_0.heap.get? a with
      | none => rfl
      | some o =>
        obtain ⟨o', z'⟩ := J.base.there a o z (by rw [hx]; exact fun z => nomatch z)
        exact absurd z' (nI o')
    have nP : ∀ p ∈ X.pn ++ pins, p.1 ≠ a := fun p hp z => nI p.2 (by rw [← z]; exact (J.pin p hp).1)
    have S3 := J3.suite he3 hd3 na nL nF
    refine wpAny_handleBy_cons (codeAny_handlers_test ?_) (by intro q; cases q)
    have LT : PySem.W.Looks (model X.prog X.w) h3 (typeOf (.ref a)) (.ref C) := fun A Q E s k q => wpAny_typeOf_ref (k _ _ he3) (by rw [hz3.1]; exact q)
    have LM := PySem.W.exm_one (M := model X.prog X.w) (J3.kIn) LT hex
    have test : ∀ {Q : Value → Shared → Prop} {E : Value → Shared → Prop}, Q c { s' with heap := h3 } → wpAny (model X.prog X.w) (X.A.mark (some (.ref a))) (eval (.Name x np) X.env) Q E { s' with heap := h3 } := fun {Q E} q => by
      obtain ⟨hg, hdbg, hm | ⟨hm, hv, hnn⟩⟩ := hc
      · exact ld_glob (X := X.suite a ((a, oe3) :: (X.pn ++ pins))) S3 hg hm q hdbg
      · exact ld_blt (X := X.suite a ((a, oe3) :: (X.pn ++ pins))) S3 hg hm hv q hnn hdbg
    refine test (LM.here ?_)
    refine codeAny_handlers_suite_as ?_
    refine PySem.HandSPX.lands_againZ fl3 fun h4 fl4 up4 => ?_
    have J4 : L2.Inv X pins σ' H' { s' with heap := h4 } := J.landed nb fl4.1 ((up.trans up3).trans up4) os ag
    obtain ⟨oe4, vs4, he4, hz4, hd4⟩ := fl4.there
    have S4 := J4.suite he4 hd4 na nL nF
    have hloc : Loc X.env.scope n := .inl hln
    refine store_ok (X := X.suite a ((a, oe4) :: (X.pn ++ pins))) (v := .ref a) S4 hN hi hloc rfl (fun s5 S5 => ?_) (.inr hln)
    have asg : PSs (X.suite a ((a, oe4) :: (X.pn ++ pins))) [.Assign [.Name t q1] (.Name n q2) q3] (fun D σ H => ∃ v, σ[i]? = some (some v) ∧ D.nx (σ.set j (some v)) H) :=
      pss_one (ps_set (X := X.suite a ((a, oe4) :: (X.pn ++ pins))) (i := j) hN hj (.inl hlt) (pv (X := X.suite a ((a, oe4) :: (X.pn ++ pins))) i hi (.inl hln) hdn hcn) (hs := hsw) (hf := .inr hlt))
    refine wpAny_mono (asg.run [] s5 _ H' { nx := fun σ6 H6 => H6 = H' ∧ σ6 = (σ'.set i (some (.ref a))).set j (some (.ref a)), rt := fun _ _ => False } S5 ⟨.ref a, List.getElem?_set_self (by rw [J.len]; exact (List.getElem?_eq_some_iff.mp hi).1), rfl, rfl⟩) (fun fl s6 hsp => ?_) fun _ _ z => False.elim z
    match fl, hsp with
    | .next, ⟨σ6, H6, S6, e6, e7⟩ =>
      subst e6 e7
      refine gone_ok (X := X.suite a ((a, oe4) :: (X.pn ++ pins))) S6 hN hi hln fun s7 S7 => ?_
      obtain ⟨g7, _⟩ := S7.pin (a, oe4) (List.mem_append_left _ List.mem_cons_self)
      have J7 := S7.unsuite ok
      exact ⟨_, _, inv_track J7 ⟨oe4, vs4, g7, hz4, hd4⟩ na n0 nL nP, hgo a na⟩
    | .brk, ⟨σ6, H6, S6, z⟩ => exact z.elim
    | .cont, ⟨σ6, H6, S6, z⟩ => exact z.elim
    | .ret u, ⟨v6, σ6, H6, S6, r6, z⟩ => exact z.elim
  · cases fl with
    | next => exact wpAny_execs_nil (tail hsp)
    | brk => exact tail hsp
    | cont => exact tail hsp
    | ret u => exact tail hsp
end
end DL
namespace DL
open PySem PySem.Spec PyProof.Rows L2
open Evl (Ex)
/-! ### try: .. except x as n: t = n, by readings -/
theorem Fr.take {H : Hp} {σ : L2.St} {Γ : Fm} (F : Fr H σ Γ) {n : Nat} (h : σ.length ≤ n) : Fr H σ (Γ.take n) := by
  have key : ∀ (i : Nat) (s : Sl), (Γ.take n)[i]? = some (some s) → Γ[i]? = some (some s) := fun i s e => by
    rw [List.getElem?_take] at e
    split at e
    · exact e
    · cases e
  refine ⟨by rw [List.length_take]; have := F.len; omega, fun i s hi e => F.sl i s hi (key i s e), fun i H0 e => F.gh i H0 (key i _ e)⟩
theorem Fr.ghost {H : Hp} {σ : L2.St} {Γ : Fm} (F : Fr H σ Γ) : Fr H σ (Γ ++ [some (.base H)]) := by
  refine ⟨by rw [List.length_append]; exact Nat.le_trans F.len (Nat.le_add_right _ _), fun i s hi e => F.sl i s hi ?_, fun i H0 e => ?_⟩
  · rw [List.getElem?_append_left (Nat.lt_of_lt_of_le hi F.len)] at e
    exact e
  · by_cases h : i < Γ.length
    · rw [List.getElem?_append_left h] at e
      exact F.gh i H0 e
    · rw [List.getElem?_append_right (by omega)] at e
      by_cases h2 : i - Γ.length = 0
      · rw [h2] at e
        cases e
        exact Evl.Ex.refl H
      · rw [List.getElem?_eq_none (by simp; omega)] at e
        cases e
/-- the wish of the body's exceptions -/
def kxT (K : PySem.W.Frag) (c : Value) (i j : Nat) (Γ : Fm) (D : DEnds) : DX := fun C fs M' => PySem.W.exmOne K (.ref C) c = some true ∧ D.nx (((Γ.set i (some (.exc C fs))).set j (some (.exc C fs))).set i none) M'
def dTry (K : PySem.W.Frag) (c : Value) (i j : Nat) (db : Hp → Option Fm → DX → DS) : DS := fun D Γ M => ∀ H0, db H0 (some (Γ ++ [some (.base H0)])) (kxT K c i j Γ D)
  { nx := fun Γ' M' => D.nx (Γ'.take Γ.length) M', rt := D.rt, bk := fun Γ' M' => D.bk (Γ'.take Γ.length) M', ct := fun Γ' M' => D.ct (Γ'.take Γ.length) M' } (Γ ++ [some (.base H0)]) M
section
variable {X : Cx}
theorem xs_try {x n t : Str} {c : Value} {i j : Nat} {body : List Stmt} {np pos pos' q1 q2 q3 : Pos} {db : Hp → Option Fm → DX → DS} (hx : X.ex = []) (hs : X.stack = X.env :: X.outer) (hf : X.env.frame = some X.env.locals) (hN : X.N.Nodup) (hi : X.N[i]? = some n) (hln : X.env.kindOf n = some .local)
    (hj : X.N[j]? = some t) (hlt : X.env.kindOf t = some .local) (hc : Names X x c) (hdn : (n == ("__debug__" : Str)) = false) (hcn : (n == ("__classdict__" : Str)) = false) (hsw : swapsWith (.Name n q2) (some (.Name t q1)) q3.line X.env = pure false)
    (hb : ∀ (W : WX) (pn : List (Addr × Obj)) (xe : Value → Shared → Prop) (H0 : Hp) (G0 : Option Fm) (kx : DX), Wish (X.tr pn xe) W H0 G0 kx → PassesOwn (model X.prog X.w) X.A X.env xe → XSs (X.tr pn xe) body (db H0 G0 kx)) :
    XS X (.Try body [.ExceptHandler (some (.Name x np)) (some n) [.Assign [.Name t q1] (.Name n q2) q3] pos'] [] [] pos) (dTry X.K c i j db) := by
  refine xs_len fun pins s σ Hc E I hl ⟨Γ, M, H, D, hd, F, O, q⟩ => ?_
  refine ⟨_, ps_try_keep (tb := fun W E σ Hc => ∃ H0 G0 kx, (∀ cls d σ' Hc', Wof H0 G0 kx cls d σ' Hc' → W cls d σ' Hc') ∧ LS (db H0 G0 kx) E σ Hc) hx hs hf hN hi hln hj hlt hc hdn hcn hsw (fun W pn xe tk pass => ⟨fun pins s σ Hc E I ⟨H0, G0, kx, hw, h⟩ => (hb W pn xe H0 G0 kx ⟨tk, hw⟩ pass).run pins s σ Hc E I h⟩), ?_⟩
  have lenG : ∀ {σ' : L2.St}, σ'.length = X.N.length → σ'.length ≤ Γ.length := fun {σ'} e => by
    rw [e, ← hl]
    exact F.len
  refine ⟨H, some (Γ ++ [some (.base H)]), kxT X.K c i j Γ D, fun cls d σ' Hc' w => ?_, Γ ++ [some (.base H)], M, H, { nx := fun Γ' M' => D.nx (Γ'.take Γ.length) M', rt := D.rt, bk := fun Γ' M' => D.bk (Γ'.take Γ.length) M', ct := fun Γ' M' => D.ct (Γ'.take Γ.length) M' }, hd H, F.ghost, O, ⟨fun σ' Γ' M' H' Hc' e1 F1 O1 h1 hl' => ?_, q.rt, fun σ' Γ' M' H' Hc' e1 F1 O1 h1 hl' => ?_, fun σ' Γ' M' H' Hc' e1 F1 O1 h1 hl' => ?_⟩⟩
  · obtain ⟨C, fs, M', H', rfl, e1, hfr, O1, hfs, hex, hn⟩ := w
    have F1 := hfr _ rfl
    refine ⟨C, rfl, hex, fun a na hl' => ?_⟩
    rw [List.length_set, List.length_set, List.length_set] at hl'
    obtain ⟨O2, e2⟩ := O1.grow (o := exk a C d) na
    have na' : H' a = none := Evl.fresh_back O1.ex na
    have F2 : Fr H' σ' Γ := by
      have z := F1.take (n := Γ.length) (lenG hl')
      rw [List.take_left] at z
      exact z
    have r : Rp (upd H' a (exk a C d)) (.exc C fs) (.ref a) := ⟨a, d, Kx a C d, rfl, upd_same, fun _ z => z, fs_ex e2 hfs⟩
    have F3 := (((F2.ex e2).set (i := i) r).set (i := j) r).forget i
    exact q.nx _ _ M' _ _ (e1.trans e2) F3 O2 hn
  · exact q.nx _ _ M' H' Hc' e1 (F1.take (lenG hl')) O1 h1
  · exact q.bk _ _ M' H' Hc' e1 (F1.take (lenG hl')) O1 h1
  · exact q.ct _ _ M' H' Hc' e1 (F1.take (lenG hl')) O1 h1
end
end DL
namespace DL
open PySem PySem.Spec PyProof.Rows L2
open Evl (Ex)
/-! ### count and index of flat data -/
def flatD : Dt → Bool
  | .none | .bool _ | .int _ | .str _ => true
  | _ => false
def vOf : Dt → V
  | .bool b => .bl b
  | .int i => .int i
  | .str x => .str x
  | _ => .non
theorem dq_vOf {H : Hp} {v : V} {d : Dt} (r : Dq H v d) (h : flatD d = true) : v = vOf d := by cases r <;> first | rfl | cases h
theorem flat_vOf {d : Dt} : flatV (vOf d) = true := by cases d <;> rfl
theorem dqs_vOf {H : Hp} : ∀ {ds : List Dt} {vs : List V}, DqAll H vs ds → ds.all flatD = true → vs = ds.map vOf
  | [], _, .nil, _ => rfl
  | d :: ds, _, .cons r t, h => by
    rw [List.all_cons, Bool.and_eq_true] at h
    rw [dq_vOf r h.1, dqs_vOf t h.2]
    rfl
theorem all_flat (ds : List Dt) : (ds.map vOf).all flatV = true := by
  rw [List.all_map, List.all_eq_true]
  exact fun _ _ => flat_vOf
section
variable {X : Cx}
def rCountF (K : PySem.W.Frag) : V → List V → Hp → VK → Prop := fun x xs H Q => ∃ (a : Addr) (ys : List V) (y : V), x = .ref a ∧ xs = [y] ∧ SqL K H a ys ∧ flatV y = true ∧ ys.all flatV = true ∧ Q (.int (ys.countP fun z => eqV z y : Nat)) H
theorem count_flat {y : V} : ∀ {ys : List V} {us : List Value}, Vals ys us → ys.all flatV = true → us.countP (eqU y) = ys.countP fun z => eqV z y
  | [], _, .nil, _ => rfl
  | z :: ys, _, .cons r t, h => by
    rw [List.all_cons, Bool.and_eq_true] at h
    rw [List.countP_cons, List.countP_cons, count_flat t h.2, eqU_of r h.1]
theorem mt_countF : MtR X "list.count" (rCountF X.K) := by
  intro pins s σ H x xs v us Q I rx rxs h
  obtain ⟨a, ys, y, rfl, rfl, hs, fy, fys, q⟩ := h
  cases rx
  cases rxs with
  | cons ry rt =>
    rename_i uy ut
    cases rt
    obtain ⟨its, rv, ⟨⟨cls, dd, data, sl⟩, n, ho, hc, hdn, hd⟩, hlen⟩ := I.list hs
    simp only at hc hd
    subst hc hd
    refine call_meets PySem.F.slot_list_count ⟨_, ho, rfl⟩ PySem.F.entry_list_count (PySem.F.args_list_count_2 _ _) (SeqAt.list_countAt a its.toArray n dd sl uy (eqU y)) ⟨ho, fun u' hu' => mem_eqAt ry fy rv fys u' (by simpa using hu'), ?_⟩
    refine ⟨.int (ys.countP fun z => eqV z y : Nat), H, I.tok _, ⟨s.toks, ?_⟩, q⟩
    show Value.int ((its.toArray.toList.countP (eqU y) : Nat) : Int) s.toks = _
    rw [show its.toArray.toList = its from rfl, count_flat rv fys]
def fCountF : Sl → List Sl → Mem → DK → Prop := fun o ss M k => match ss with
  | [.dat d] => ∃ ds : List Dt, IsL M o (ds.map .dat) ∧ ds.all flatD = true ∧ flatD d = true ∧ k (.dat (.int (ds.countP fun e => eqV (vOf e) (vOf d) : Nat))) M
  | _ => False
theorem sim_countF {K : PySem.W.Frag} : SimM K "list" (rCountF K) fCountF := by
  intro s ss M k x xs H Hc Q h rx rs O q
  unfold fCountF at h
  split at h
  · obtain ⟨ds, l, h1, h2, h⟩ := h
    obtain ⟨y, rfl, ry⟩ := rps1 rs
    obtain ⟨a, vs, rfl, g1, g2⟩ := l.at_ O rx
    have e1 := dqs_vOf (rps_dat g2) h1
    subst e1
    refine ⟨a, _, y, rfl, rfl, SqL.of g1, by rw [dq_vOf ry h2]; exact flat_vOf, all_flat ds, ?_⟩
    rw [dq_vOf ry h2, List.countP_map]
    exact q.dat O (.int _) h
  · exact h.elim
def fIndexF : Sl → List Sl → Mem → DK → Prop := fun o ss M k => match ss with
  | [.dat d] => ∃ (ds : List Dt) (j : Nat) (e : Dt), IsL M o (ds.map .dat) ∧ ds.all flatD = true ∧ flatD d = true ∧ ds[j]? = some e ∧ eqV (vOf e) (vOf d) = true ∧ (∀ (m : Nat) (e' : Dt), m < j → ds[m]? = some e' → eqV (vOf e') (vOf d) = false) ∧ k (.dat (.int j)) M
  | _ => False
theorem sim_indexF {K : PySem.W.Frag} : SimM K "list" (rIndex K) fIndexF := by
  intro s ss M k x xs H Hc Q h rx rs O q
  unfold fIndexF at h
  split at h
  · obtain ⟨ds, j, e, l, h1, h2, h3, h4, h5, h⟩ := h
    obtain ⟨y, rfl, ry⟩ := rps1 rs
    obtain ⟨a, vs, rfl, g1, g2⟩ := l.at_ O rx
    have e1 := dqs_vOf (rps_dat g2) h1
    subst e1
    refine ⟨a, _, y, j, vOf e, rfl, rfl, SqL.of g1, by rw [dq_vOf ry h2]; exact flat_vOf, all_flat ds, by rw [List.getElem?_map, h3] <;> rfl, by rw [dq_vOf ry h2]; exact h4, fun m z' hm hz => ?_, q.dat O (.int _) h⟩
    rw [List.getElem?_map] at hz
    cases e2 : ds[m]? with
    | none => rw [e2] at hz; cases hz
    | some e' =>
      rw [e2] at hz
      cases hz
      rw [dq_vOf ry h2]
      exact h5 m e' hm e2
  · exact h.elim
end
theorem xe_attK {X : Cx} {K : PySem.W.Frag} (hK : X.K = K) {e : Expr} {de : DE} {pos : Pos} {n : Str} (he : XE X e de) (hb : attributeBase e n X.env (eval e X.env) = eval e X.env := by rfl) : XE X (.Attribute e n pos) (dAttX K n de) := by
  subst hK
  exact xe_attX he hb
/-- what was there is as it was -/
def MoreM (M M' : Mem) : Prop := ∀ a, M a ≠ none → M' a = M a
theorem MoreM.refl (M : Mem) : MoreM M M := fun _ _ => rfl
theorem MoreM.trans {M M1 M2 : Mem} (h : MoreM M M1) (h' : MoreM M1 M2) : MoreM M M2 := fun a ha => (h' a (by rw [h a ha]; exact ha)).trans (h a ha)
theorem MoreM.born {M M' : Mem} (h : MoreM M M') {p : Addr} {o : MO} (hp : M' p = none) : MoreM M (put M' p o) := fun a ha => by
  have e := h a ha
  have ne : a ≠ p := fun z => ha (by rw [← e, z]; exact hp)
  rw [put_ne ne]; exact e
theorem MoreM.at {M M' : Mem} (h : MoreM M M') {p : Addr} {o : MO} (hp : M p = some o) : M' p = some o := (h p (by rw [hp]; exact nofun)).trans hp
theorem MoreM.to {M M' : Mem} (h : MoreM M M') {p : Addr} {o : MO} (hp : M p = none) : MoreM M (put M' p o) := fun a ha => by
  have ne : a ≠ p := fun z => ha (by rw [z]; exact hp)
  rw [put_ne ne]
  exact h a ha
theorem MoreM.no {M M' : Mem} (h : MoreM M M') {p : Addr} (hp : M' p = none) : M p = none := by
  cases e : M p with
  | none => rfl
  | some o => rw [h.at e] at hp; cases hp
theorem IsL.more {M M' : Mem} {s : Sl} {xs : List Sl} (l : IsL M s xs) (h : MoreM M M') : IsL M' s xs := by
  rcases l with ⟨ds, rfl, rfl⟩ | ⟨a, rfl, e⟩
  · exact .dat
  · exact .own (h.at e)
/-- a comprehension whose element is a function of the item; new things of ours may come -/
theorem lc_mapM {s : Sl} {xs : List Sl} {M1 : Mem} {Γ : Fm} {vs : List Nat} {j : Nat} {el : DE} {K : Addr → Mem → Prop} (f : Sl → Sl) (l : IsL M1 s xs) (hz : xs.length < 16777216)
    (he : ∀ (i : Nat) x, xs[i]? = some x → ∀ (M' : Mem) (k' : DK), MoreM M1 M' → (∀ M'', MoreM M' M'' → k' (f x) M'') → el ((wipeF Γ vs).set j (some x)) M' k') (hk : ∀ p M', M1 p = none → M' p = some (.lst (xs.map f)) → MoreM M1 M' → K p M') :
    ∃ xs, IsL M1 s xs ∧ ∀ p, M1 p = none → ∃ Inv : Nat → Mem → Prop, Inv 0 (put M1 p (.lst [])) ∧ (∀ i M', i ≤ xs.length → Inv i M' → IsL M' s xs) ∧
      (∀ i x M', xs[i]? = some x → Inv i M' → lcTurn p Γ vs j dYes el (Inv (i + 1)) x M') ∧ ∀ M', Inv xs.length M' → K p M' := by
  refine ⟨xs, l, fun p hp => ⟨fun i M' => M' p = some (.lst ((xs.take i).map f)) ∧ MoreM M1 M', ⟨put_at, (MoreM.refl M1).born hp⟩, fun i M' _ e => l.more e.2, fun i x M' hx e => ?_, fun M' e => hk p M' hp (by rw [e.1, List.take_length]) e.2⟩⟩
  obtain ⟨e1, e2⟩ := e
  refine ⟨fun _ => he i x hx _ _ e2 fun M'' hm => ?_, fun z => nomatch z⟩
  have hi : i < xs.length := (List.getElem?_eq_some_iff.mp hx).1
  refine ⟨_, hm.at e1, by rw [List.length_map, List.length_take]; omega, ?_, (e2.trans hm).to hp⟩
  rw [put_at, List.take_add_one, hx]
  simp
theorem paired_at {α β : Type} {R : α → β → Prop} : ∀ {xs : List α} {ys : List β}, Paired R xs ys → ∀ {i : Nat} {x : α} {y : β}, xs[i]? = some x → ys[i]? = some y → R x y
  | _, _, .nil, _, _, _, h, _ => by simp at h
  | _, _, .cons r _, 0, _, _, h1, h2 => by simp at h1 h2; subst h1 h2; exact r
  | _, _, .cons _ t, i + 1, _, _, h1, h2 => paired_at t (by simpa using h1) (by simpa using h2)
/-- .. told item by item -/
theorem lc_listM {s : Sl} {xs : List Sl} {M1 : Mem} {Γ : Fm} {vs : List Nat} {j : Nat} {el : DE} {K : Addr → Mem → Prop} (ys : List Sl) (R : Sl → Sl → Prop) (pr : Paired R xs ys) (l : IsL M1 s xs) (hz : xs.length < 16777216)
    (he : ∀ x y, R x y → ∀ (M' : Mem) (k' : DK), MoreM M1 M' → (∀ M'', MoreM M' M'' → k' y M'') → el ((wipeF Γ vs).set j (some x)) M' k') (hk : ∀ p M', M1 p = none → M' p = some (.lst ys) → MoreM M1 M' → K p M') :
    ∃ xs, IsL M1 s xs ∧ ∀ p, M1 p = none → ∃ Inv : Nat → Mem → Prop, Inv 0 (put M1 p (.lst [])) ∧ (∀ i M', i ≤ xs.length → Inv i M' → IsL M' s xs) ∧
      (∀ i x M', xs[i]? = some x → Inv i M' → lcTurn p Γ vs j dYes el (Inv (i + 1)) x M') ∧ ∀ M', Inv xs.length M' → K p M' := by
  have hl : xs.length = ys.length := Paired.length pr
  refine ⟨xs, l, fun p hp => ⟨fun i M' => M' p = some (.lst (ys.take i)) ∧ MoreM M1 M', ⟨put_at, (MoreM.refl M1).born hp⟩, fun i M' _ e => l.more e.2, fun i x M' hx e => ?_, fun M' e => hk p M' hp (by rw [e.1, hl, List.take_length]) e.2⟩⟩
  obtain ⟨e1, e2⟩ := e
  have hi : i < xs.length := (List.getElem?_eq_some_iff.mp hx).1
  have hy : ys[i]? = some (ys[i]'(by omega)) := List.getElem?_eq_getElem (by omega)
  refine ⟨fun _ => he x _ (paired_at pr hx hy) _ _ e2 fun M'' hm => ?_, fun z => nomatch z⟩
  refine ⟨_, hm.at e1, by rw [List.length_take]; omega, ?_, (e2.trans hm).to hp⟩
  rw [put_at, List.take_add_one, hy]
  simp
/-! ### the error classes, apart from one another -/
structure Kinds (K : PySem.W.Frag) (B : Addr) (cs : List Addr) : Prop where
  er : ∀ c ∈ cs, ErrC K c
  ee : ∀ (i j : Nat) (c d : Addr), cs[i]? = some c → cs[j]? = some d → PySem.W.kitOne K (.ref c) (.ref d) = some (decide (i = j))
  ve : ∀ c ∈ cs, PySem.W.kitOne K (.ref c) (.type "ValueError") = some true
  we : ∀ c ∈ cs, PySem.W.kitOne K (.ref c) (.ref B) = some true
  no : ∀ c ∈ cs, PySem.W.kitOne K (.type "NoneType") (.ref c) = some false
  ew : ∀ c ∈ cs, PySem.W.exmOne K (.ref c) (.ref B) = some true
  eb : ErrC K B
  be : ∀ c ∈ cs, PySem.W.kitOne K (.ref B) (.ref c) = some false
  bv : PySem.W.kitOne K (.ref B) (.type "ValueError") = some true
def kindsB (K : PySem.W.Frag) (B : Addr) (cs : List Addr) : Bool :=
  errB K B && (decide (PySem.W.kitOne K (.ref B) (.type "ValueError") = some true) && (cs.all (fun c => errB K c && (decide (PySem.W.kitOne K (.ref c) (.type "ValueError") = some true) && (decide (PySem.W.kitOne K (.ref c) (.ref B) = some true) && (decide (PySem.W.kitOne K (.type "NoneType") (.ref c) = some false) &&
    (decide (PySem.W.exmOne K (.ref c) (.ref B) = some true) && decide (PySem.W.kitOne K (.ref B) (.ref c) = some false)))))) && (cs.zipIdx.all fun p => cs.zipIdx.all fun q => decide (PySem.W.kitOne K (.ref p.1) (.ref q.1) = some (decide (p.2 = q.2))))))
theorem kindsB_ok {K : PySem.W.Frag} {B : Addr} {cs : List Addr} (h : kindsB K B cs = true) : Kinds K B cs := by
  unfold kindsB at h
  simp only [Bool.and_eq_true, decide_eq_true_eq, List.all_eq_true] at h
  obtain ⟨h1, h2, h3, h4⟩ := h
  refine ⟨fun c hc => errB_ok (h3 c hc).1, fun i j c d hi hj => ?_, fun c hc => (h3 c hc).2.1, fun c hc => (h3 c hc).2.2.1, fun c hc => (h3 c hc).2.2.2.1, fun c hc => (h3 c hc).2.2.2.2.1, errB_ok h1, fun c hc => (h3 c hc).2.2.2.2.2, h2⟩
  exact h4 (c, i) (List.mk_mem_zipIdx_iff_getElem?.mpr hi) (d, j) (List.mk_mem_zipIdx_iff_getElem?.mpr hj)
end DL
namespace DL
open PySem PySem.Spec PyProof.Rows L2
/-! ### an error class with a field: its facts, gathered -/
def SupW (P : Program) (K : PySem.W.Frag) (C : Addr) (f : Str) : Prop := ∀ mg : Str → Option Value, mg "super" = none → SupC P K mg C f
def supB (K : PySem.W.Frag) (C : Addr) (f : Str) : Bool :=
  decide (PySem.W.findIn K (.ref C) "__setattr__" = some (some (.builtin "object.__setattr__"))) && (decide (PySem.W.subIn K (.ref C) (.type "BaseException") = some true) && (decide (PySem.W.typeIn K (.ref C) = some (.type "type")) && (PySem.W.keepIn K (.ref C) &&
  (decide (PySem.W.findIn K (.ref C) f = some none) && (decide (PySem.W.subIn K (.ref C) (.type "ValueError") = some true) && (decide (PySem.W.mroIn K C (.ref C) = some true) && (decide (PySem.W.ks_superIn K C C "__init__" = some (some (.builtin "ValueError.__init__"))) && decide (PySem.W.nsIn K cStatics "thirdparty.any" = some none))))))))
theorem supW_mk {P : Program} {K : PySem.W.Frag} {C N fI cda cc : Addr} {f cnm cq : Str} {bs bm : List Value} {sn : List Str} {sub : List Value} {ab : Bool} {col : Option Bool} {dd : Option Addr} {k0 k1 k2 k3 k5 : Option Value}
    {nm qual : Str} {params : Arguments} {scope : Scope} {dV kV doc pm ct oc ccl cl : Value} {an od cdd cld : Option Addr} {osl ccs csl : Array (Option Value)} {vs : Array Value} {file m : Str} {tf : Tok} {j : Nat} {ar : Arg} {p0 p1 p2 p3 p4 p5 p6 p7 p8 p9 : Pos}
    (lC : K.lookup C = some (excClassObj cnm cq C N bs bm true sn sub ab col dd k0 k1 k2 k3 k5 "ValueError.__new__")) (hbm : PySem.HandSPX.refsVE bm = true) (b : supB K C f = true) (top : (P.main.scope.names.lookup ("super" : Str)).isSome = false)
    (iC : PySem.W.findIn K (.ref C) "__init__" = some (some (.ref fI))) (tI : PySem.W.typeIn K (.ref fI) = some (.type "function"))
    (lf : K.lookup fI = some ⟨oc, od, .func (PySem.W.ksFn nm qual params [.Expr (.Call (.Attribute (.Call (.Name "super" p0) [] [] p1) "__init__" p2) [.Constant (.str m) j p3] [] p4) p5, .Assign [.Attribute (.Name "self" p6) f p7] (.Name f p8) p9] scope dV kV doc pm an (.ref cda) ct cc), osl⟩)
    (hcd : PySem.W.codeIn K (.ref cda) qual = true) (lcda : K.lookup cda = some ⟨ccl, cdd, .fields vs, ccs⟩) (hvs : vs[2]? = some (.str file tf)) (hfile : ((P.main.file : Str) == file) = true) (lcc : K.lookup cc = some ⟨cl, cld, .cell (some (.ref C)), csl⟩)
    (hpar : (params.posonlyargs ++ params.args).head? = some ar) (har : ar.arg = "self") (hs : scope.names.lookup ("super" : Str) = some .globalImplicit ∧ scope.names.lookup ("__class__" : Str) = some .free ∧ scope.names.lookup ("self" : Str) = some .local ∧ scope.names.lookup f = some .local)
    (hcell : ∀ x ∈ scope.names, x.2 ≠ .cell) (hk : scope.kind = .function ∧ scope.isCoroutine = false ∧ scope.isGenerator = false)
    (hb : ∀ (s : Shared) (u v : Value), BindsTo s (PySem.W.ksFn nm qual params [.Expr (.Call (.Attribute (.Call (.Name "super" p0) [] [] p1) "__init__" p2) [.Constant (.str m) j p3] [] p4) p5, .Assign [.Attribute (.Name "self" p6) f p7] (.Name f p8) p9] scope dV kV doc pm an (.ref cda) ct cc) ⟨[u, v], []⟩ [("self", u), (f, v)])
    (hne : f ≠ "self") (hdb : (f == ("__debug__" : Str)) = false)
    (hev : ∀ env : Env, ∃ pl : Sem Bool, eval (.Call (.Attribute (.Call (.Name "super" p0) [] [] p1) "__init__" p2) [.Constant (.str m) j p3] [] p4) env = (do
      let ov ← attributeBase (.Call (.Name "super" p0) [] [] p1) "__init__" env (eval (.Call (.Name "super" p0) [] [] p1) env)
      standAt p2.atName
      let (f, first) ← holding [ov] (getMethod ov "__init__" pl)
      callWith p4 f first (backTo p4 (starEach [.Constant (.str m) j p3] env)) []))
    (hsw1 : ∀ env : Env, swapsWith (.Call (.Attribute (.Call (.Name "super" p0) [] [] p1) "__init__" p2) [.Constant (.str m) j p3] [] p4) none p5.line env = pure false)
    (hsw2 : ∀ env : Env, swapsWith (.Name f p8) (some (.Attribute (.Name "self" p6) f p7)) p9.line env = pure false) : SupW P K C f := by
  unfold supB at b
  simp only [Bool.and_eq_true, decide_eq_true_eq] at b
  obtain ⟨b1, b2, b3, b4, b5, b6, b7, b8, b9⟩ := b
  exact fun mg gs => ⟨⟨⟨_, _, _, _, _, _, _, _, _, _, _, _, _, _, _, lC, hbm⟩, b1, b2, b3, b4⟩, b5, b6, b7, b8, b9, gs, top,
    ⟨fI, cda, cc, nm, qual, params, scope, dV, kV, doc, pm, ct, oc, ccl, cl, an, od, cdd, cld, osl, ccs, csl, vs, file, m, tf, j, ar, p0, p1, p2, p3, p4, p5, p6, p7, p8, p9, iC, tI, lf, hcd, lcda, hvs, hfile, lcc, hpar, har, hs.1, hs.2.1, hs.2.2.1, hs.2.2.2, hcell, hk.1, hk.2.1, hk.2.2, hb, hne, hdb, hev, hsw1, hsw2⟩⟩
end DL
/-! Sets of tuples whose items are carried by value (ints, truths, texts, None), over the table's laws of the library. -/
namespace DS
open PySem PySem.Spec PyProof.Rows
open L2 (TabOk MaskOk way nth runAt wp_if_pos wp_if_neg)
section
variable {P : Program} {w : World} {κ : Type} [DecidableEq κ] {knd : KeyKind P w κ} {A : Around} {E : Value → Shared → Prop} {s : Shared}
/-- items of no class statement, hashed by value -/
structure Flat (knd : KeyKind P w κ) : Prop where
  cls : ∀ k v n, knd.is k v = true → ofAClassStatement n v = pure false
  hsh : ∀ k v n, knd.is k v = true → hashByValue n v = pure true
theorem each_item {ks : List κ} {vs : List Value} (h : ItemsAre knd ks vs) : ∀ v ∈ vs, ∃ k, knd.is k v = true := by
  induction h with
  | nil => exact fun v hv => nomatch hv
  | @cons k0 v0 ks vs h1 _ ih =>
    intro v hv
    cases hv with
    | head => exact ⟨k0, h1⟩
    | tail _ hv => exact ih v hv
theorem no_cls (Z : Flat knd) {ks : List κ} {b : Addr} {Q : Bool → Shared → Prop} (x : IsTupleKey knd s.heap ks b) (h : Q false s) : wpAny (model P w) A (ofAClassStatement 8 (.ref b)) Q E s := by
  have ty := x.typeIs
  obtain ⟨o, items, n, ho, _, hd, hi⟩ := x
  unfold ofAClassStatement
  refine wpAny_bind (wpAny_typeOf ty ?_)
  dsimp only
  have isT : (("tuple" : String) == "tuple") = true := by decide
  simp only [isT, if_true, Bool.not_true, Bool.false_eq_true, if_false]
  try refine wpAny_bind (wpAny_pure ?_)
  try simp only [Bool.not_true, Bool.false_eq_true, if_false]
  show wpAny _ _ (seqItems? (.ref b) >>= _) _ _ s
  refine wpAny_bind (wpAny_seqItems ho hd ?_)
  dsimp only
  refine wpAny_bind ?_
  show wpAny _ _ (forIn items _ _) _ _ s
  rw [← Array.forIn_toList]
  refine wpAny_forIn_list _ (fun left r s' => r.1 = none ∧ s' = s ∧ ∀ v ∈ left, ∃ k, knd.is k v = true) _ ?_ ?_ _ _ ⟨rfl, rfl, each_item hi⟩
  · rintro v left r s' ⟨_, rfl, every⟩
    obtain ⟨k, hk⟩ := every v List.mem_cons_self
    rw [Z.cls k v _ hk]
    refine wpAny_bind (wpAny_pure ?_)
    simp only [Bool.false_eq_true, if_false]
    exact wpAny_pure ⟨rfl, rfl, fun u hu => every u (List.mem_cons_of_mem _ hu)⟩
  · rintro ⟨r1, r2⟩ s' ⟨e, rfl, _⟩
    dsimp only at e
    subst e
    exact wpAny_pure h
theorem by_hash (Z : Flat knd) {ks : List κ} {b : Addr} {Q : Bool → Shared → Prop} (x : IsTupleKey knd s.heap ks b) (h : Q true s) : wpAny (model P w) A (hashByValue 8 (.ref b)) Q E s := by
  have ty := x.typeIs
  obtain ⟨o, items, n, ho, _, hd, hi⟩ := x
  unfold hashByValue
  refine wpAny_bind (wpAny_specialOf ty F.slot_tuple_hash.lookup ?_)
  show wpAny _ _ (seqItems? (.ref b) >>= _) _ _ s
  refine wpAny_bind (wpAny_seqItems ho hd (wpAny_bind ?_))
  show wpAny _ _ (forIn items _ _) _ _ s
  rw [← Array.forIn_toList]
  refine wpAny_forIn_list _ (fun left r s' => r.1 = none ∧ s' = s ∧ ∀ v ∈ left, ∃ k, knd.is k v = true) _ ?_ ?_ _ _ ⟨rfl, rfl, each_item hi⟩
  · rintro v left r s' ⟨_, rfl, every⟩
    obtain ⟨k, hk⟩ := every v List.mem_cons_self
    rw [Z.hsh k v _ hk]
    refine wpAny_bind (wpAny_pure ?_)
    simp only [Bool.not_true, Bool.false_eq_true, if_false]
    exact wpAny_pure ⟨rfl, rfl, fun u hu => every u (List.mem_cons_of_mem _ hu)⟩
  · rintro ⟨r1, r2⟩ s' ⟨e, rfl, _⟩
    dsimp only at e
    subst e
    exact wpAny_pure h
theorem quiet_search (Z : Flat knd) {ks : List κ} {b : Addr} {Q : Bool → Shared → Prop} (x : IsTupleKey knd s.heap ks b) {ys : List Value} (hy : ∀ y ∈ ys, ∃ l c, y = Value.ref c ∧ IsTupleKey knd s.heap l c) (h : Q false s) :
    wpAny (model P w) A (searchCouldBeSeen (.ref b) ys) Q E s := by
  unfold searchCouldBeSeen
  refine wpAny_bind (wpAny_forIn_list _ (fun left r s' => r.1 = none ∧ s' = s ∧ ∀ y ∈ left, ∃ l c, y = Value.ref c ∧ IsTupleKey knd s.heap l c) _ ?_ ?_ _ _ ⟨rfl, rfl, hy⟩)
  · rintro v left r s' ⟨_, rfl, every⟩
    obtain ⟨l, c, rfl, hc⟩ := every v List.mem_cons_self
    have later : ∀ y ∈ left, ∃ l c, y = Value.ref c ∧ IsTupleKey knd s'.heap l c := fun u hu => every u (List.mem_cons_of_mem _ hu)
    dsimp only
    by_cases same : (b == c || (carriedByValue (.ref b) && carriedByValue (.ref c))) = true
    · exact wp_if_pos same (wpAny_pure ⟨rfl, rfl, later⟩)
    · refine wp_if_neg same (wpAny_bind (wpAny_eqIsQuiet_tuple x ?_))
      simp only [Bool.not_true, Bool.false_eq_true, if_false]
      refine wpAny_bind (wpAny_eqIsQuiet_tuple hc ?_)
      simp only [Bool.not_true, Bool.false_eq_true, if_false]
      refine wpAny_bind (no_cls Z x ?_)
      simp only [Bool.false_eq_true, if_false]
      refine wpAny_bind (no_cls Z hc ?_)
      simp only [Bool.false_eq_true, if_false]
      exact wpAny_pure ⟨rfl, rfl, later⟩
  · rintro ⟨r1, r2⟩ s' ⟨e, rfl, _⟩
    dsimp only at e
    subst e
    exact wpAny_pure h
/-! ### the set -/
abbrev Row (κ : Type) := Addr × List κ
def rows (knd : KeyKind P w κ) (L : List (Row κ)) : List (Int × Value) := L.map fun p => (tupleKeyHash knd p.2, Value.ref p.1)
structure SetR (knd : KeyKind P w κ) (h : Heap) (a : Addr) (L : List (Row κ)) (es : Array (Int × Value)) (ep : Nat) (t : SetTable) : Prop where
  ob : ∃ o, h.get? a = some o ∧ o.ExactSet ∧ o.data = .set es ep t
  rw_ : es.toList = rows knd L
  tab : TabOk t (L.map fun p => tupleKeyHash knd p.2)
  nd : (L.map (·.2)).Nodup
  tup : ∀ p ∈ L, IsTupleKey knd h p.2 p.1
  plain : t.plain = true
  led : w.params.followText "set-order" = true ∨ t.led = true
  room : L.length * 5 < t.mask * 3
  few : L.length < 64
theorem rows_len (L : List (Row κ)) : (rows knd L).length = L.length := List.length_map ..
variable {a : Addr} {L : List (Row κ)} {es : Array (Int × Value)} {ep : Nat} {t : SetTable}
theorem SetR.size (R : SetR knd s.heap a L es ep t) : es.size = L.length := by
  rw [← Array.length_toList, R.rw_, rows_len]
theorem SetR.fits (R : SetR knd s.heap a L es ep t) : t.fits es.size = true := by
  have h1 := R.tab.sz
  have h2 := R.size
  have h3 := R.room
  rw [List.length_map] at h1
  unfold SetTable.fits SetTable.fill
  rw [R.tab.dm, Bool.and_eq_true, beq_iff_eq, decide_eq_true_eq]
  refine ⟨h1.trans h2.symm, ?_⟩
  show t.place.size + 0 ≤ t.mask
  omega
theorem SetR.entry (R : SetR knd s.heap a L es ep t) {i : Nat} {p : Row κ} (h : L[i]? = some p) : es[i]? = some (tupleKeyHash knd p.2, Value.ref p.1) := by
  rw [← Array.getElem?_toList, R.rw_]
  unfold rows
  rw [List.getElem?_map, h] <;> rfl
theorem SetR.open_ (R : SetR knd s.heap a L es ep t) : ¬ t.gaveWay = true := by
  unfold SetTable.gaveWay
  rw [L2.mask_odd R.tab.mok]
  decide
/-- from some step of a key's way on, the search finds it, or the free place behind -/
theorem seek (Z : Flat knd) (R : SetR knd s.heap a L es ep t) {x : Addr} {k : List κ} (hx : IsTupleKey knd s.heap k x) (hu : A.units < cLine) {n : Nat} (hn : n < 10 * SetTable.turns t.mask)
    (free : way t.mask (tupleKeyHash knd k) n ∉ t.place.toList) (used : ∀ c, c < n → way t.mask (tupleKeyHash knd k) c ∈ t.place.toList) {Q : SetFound → Shared → Prop}
    (yes : k ∈ L.map (·.2) → Q (.there none) s) (no : k ∉ L.map (·.2) → Q (.free (way t.mask (tupleKeyHash knd k) n) false) s) :
    ∀ (fuel c : Nat) (at_ : Option SetTable.Probe), at_.getD (t.probeStart (tupleKeyHash knd k)) = nth t.mask (runAt t.mask (SetTable.bits (tupleKeyHash knd k) % (t.mask + 1)) (SetTable.bits (tupleKeyHash knd k))) c → c ≤ n → n - c < fuel →
      (∀ (i : Nat) p, L[i]? = some p → p.2 = k → ∃ c', c ≤ c' ∧ c' < n ∧ t.place.toList[i]? = some (way t.mask (tupleKeyHash knd k) c')) →
      wpAny (model P w) A (setSearchFrom a (.ref x) (tupleKeyHash knd k) true fuel at_) Q E s := by
  generalize hw : tupleKeyHash knd k = hh at free used no ⊢
  have nodum : ∀ (m c : Nat) (p : SetTable.Probe), p.dummy = none → (nth m p c).dummy = none := by
    intro m c
    induction c with
    | zero => exact fun p h => h
    | succ c ih =>
      intro p h
      refine ih (L2.adv m p) ?_
      unfold L2.adv
      split <;> exact h
  intro fuel
  induction fuel with
  | zero => exact fun c at_ _ _ h => absurd h (Nat.not_lt_zero _)
  | succ fuel ih =>
    intro c at_ hat hc hf here
    obtain ⟨o, ho, hex, hd⟩ := R.ob
    rw [L2.setSearchFrom_succ]
    refine wpAny_bind (wpAny_setState_of ho hd R.fits ?_)
    dsimp only
    refine wp_if_neg R.open_ ?_
    try refine wpAny_bind (wpAny_pure ?_)
    generalize hr0 : runAt t.mask (SetTable.bits hh % (t.mask + 1)) (SetTable.bits hh) = r0 at hat
    have wayE : ∀ c, (nth t.mask r0 c).j = way t.mask hh c := fun c => by rw [← hr0]
    have on_ : ∀ q, nth t.mask (nth t.mask r0 c) q = nth t.mask r0 (c + q) := fun q => (L2.nth_add t.mask c _ q).symm
    have wq : ∀ q, (nth t.mask (nth t.mask r0 c) q).j = way t.mask hh (c + q) := fun q => by rw [on_, wayE]
    have hcn : c + (n - c) = n := by omega
    have hAt : ∀ (i : Nat) p, L[i]? = some p → (es[i]?.map (·.1)).getD 0 = tupleKeyHash knd p.2 := fun i p hp => by
      rw [R.entry hp] <;> rfl
    have found := L2.go_spec t R.tab.ris R.tab.dm (fun i => (es[i]?.map (·.1)).getD 0) hh (10 * SetTable.turns t.mask) (n - c) (nth t.mask r0 c) (nodum _ _ _ (by rw [← hr0]; rfl)) (by omega)
      (fun q hq => by rw [wq]; exact used (c + q) (by omega)) (by rw [wq, hcn]; exact free)
    rcases found with ⟨q, i, hq, hi, hhash, hno, hpr⟩ | ⟨hno, hpr⟩
    · have probe : t.probe (fun i => (es[i]?.map (·.1)).getD 0) hh (at_.getD (t.probeStart hh)) = some (.candidate (way t.mask hh (c + q)) i (nth t.mask r0 (c + (q + 1)))) := by
        rw [hat, ← wq, ← on_]
        exact hpr
      rw [probe]
      dsimp only
      rw [wq] at hi
      have hil : i < L.length := by
        have h1 := (List.getElem?_eq_some_iff.mp hi).1
        have h2 := R.tab.sz
        rw [List.length_map] at h2
        rw [Array.length_toList] at h1
        omega
      obtain ⟨p, hp⟩ : ∃ p, L[i]? = some p := ⟨L[i], List.getElem?_eq_getElem hil⟩
      have hm : p ∈ L := List.mem_of_getElem? hp
      have rest : wpAny (model P w) A (L2.searchRest a (.ref x) hh true fuel es t (way t.mask hh (c + q)) i (nth t.mask r0 (c + (q + 1)))) Q E s := by
        unfold L2.searchRest
        rw [R.entry hp]
        dsimp only
        refine wpAny_bind (wpAny_holding (wpAny_eqBool_tuple hu (R.tup p hm) hx ?_))
        refine wpAny_bind (wpAny_setState_of ho hd R.fits ?_)
        dsimp only
        by_cases eq : p.2 = k
        · exact wp_if_pos (by simp [eq]) (wpAny_pure (yes (List.mem_map.mpr ⟨p, hm, eq⟩)))
        refine wp_if_neg (by simp [eq]) ?_
        try refine wpAny_bind (wpAny_pure ?_)
        rw [L2.sameMem]
        dsimp only
        have live : t.slot (way t.mask hh (c + q)) = .live i := L2.slot_live R.tab.ris hi
        simp only [if_true, live, R.entry hp]
        refine wpAny_bind (wpAny_isSame_ref_self (wpAny_bind (wpAny_pure ?_)))
        simp only [if_true]
        refine wp_if_neg (by simp [eq]) (ih (c + (q + 1)) _ (by rw [← hr0] <;> rfl) (by omega) (by omega) fun i0 p0 h0 hk0 => ?_)
        obtain ⟨c', a1, a2, a3⟩ := here i0 p0 h0 hk0
        refine ⟨c', ?_, a2, a3⟩
        rcases Nat.lt_trichotomy c' (c + q) with lt | rfl | gt
        · exact absurd ((hAt i0 p0 h0).trans (by rw [hk0]; exact hw)) (hno (c' - c) i0 (by omega) (by rw [wq, show c + (c' - c) = c' by omega]; exact a3))
        · have live0 := L2.slot_live R.tab.ris a3
          rw [live] at live0
          injection live0 with e
          rw [← e, hp] at h0
          exact absurd ((congrArg Prod.snd (Option.some.inj h0)).trans hk0) eq
        · exact gt
      by_cases led : t.led = true
      · refine wp_if_neg (by simp [led]) ?_
        try refine wpAny_bind (wpAny_pure ?_)
        exact rest
      · refine wp_if_pos (by simp [led]) (wpAny_bind (quiet_search Z hx (fun y hy => ?_) ?_))
        · obtain ⟨e, he, rfl⟩ := List.mem_map.mp hy
          have he2 : e ∈ es.toList := by
            have z : e ∈ es ∧ e.1 = hh := by simpa using he
            simpa using z.1
          rw [R.rw_] at he2
          obtain ⟨p2, hp2, rfl⟩ := List.mem_map.mp he2
          exact ⟨p2.2, p2.1, rfl, R.tup p2 hp2⟩
        · refine wp_if_neg (by decide) ?_
          try refine wpAny_bind (wpAny_pure ?_)
          exact rest
    · have probe : t.probe (fun i => (es[i]?.map (·.1)).getD 0) hh (at_.getD (t.probeStart hh)) = some (.empty (way t.mask hh n) none) := by
        rw [hat, show way t.mask hh n = (nth t.mask (nth t.mask r0 c) (n - c)).j by rw [wq, hcn]]
        exact hpr
      rw [probe]
      dsimp only
      refine wpAny_pure (no fun hm => ?_)
      obtain ⟨p0, h0, hk0⟩ := List.mem_map.mp hm
      obtain ⟨i0, hi0, e0⟩ := List.getElem_of_mem h0
      have h00 : L[i0]? = some p0 := by rw [List.getElem?_eq_getElem hi0, e0]
      obtain ⟨c', a1, a2, a3⟩ := here i0 p0 h00 hk0
      exact absurd ((hAt i0 p0 h00).trans (by rw [hk0]; exact hw)) (hno (c' - c) i0 (by omega) (by rw [wq, show c + (c' - c) = c' by omega]; exact a3))
end
end DS
namespace DS
open PySem PySem.Spec PyProof.Rows
open L2 (TabOk MaskOk way nth runAt wp_if_pos wp_if_neg)
section
variable {P : Program} {w : World} {κ : Type} [DecidableEq κ] {knd : KeyKind P w κ} {A : Around} {E : Value → Shared → Prop} {s : Shared} {a : Addr} {L : List (Row κ)} {es : Array (Int × Value)} {ep : Nat} {t : SetTable}
theorem seek_all (Z : Flat knd) (R : SetR knd s.heap a L es ep t) {x : Addr} {k : List κ} (hx : IsTupleKey knd s.heap k x) (hu : A.units < cLine) {Q : SetFound → Shared → Prop} (yes : k ∈ L.map (·.2) → Q (.there none) s)
    (no : ∀ n, k ∉ L.map (·.2) → way t.mask (tupleKeyHash knd k) n ∉ t.place.toList → (∀ c, c < n → way t.mask (tupleKeyHash knd k) c ∈ t.place.toList) → Q (.free (way t.mask (tupleKeyHash knd k) n) false) s) :
    wpAny (model P w) A (setSearch a (.ref x) (tupleKeyHash knd k) true) Q E s := by
  have room := R.room
  obtain ⟨n, hn, free, used⟩ := R.tab.first (by rw [List.length_map]; omega) (tupleKeyHash knd k)
  have small : n < 100000 := by
    have : 10 * SetTable.turns t.mask ≤ 1420 := by
      unfold SetTable.turns
      rcases R.tab.mok with e | e | e <;> omega
    omega
  unfold setSearch
  refine seek Z R hx hu hn free used yes (fun h => no n h free used) 100000 0 none rfl (Nat.zero_le _) (by omega) fun i p hp hk => ?_
  have hi : (L.map fun p => tupleKeyHash knd p.2)[i]? = some (tupleKeyHash knd k) := by rw [List.getElem?_map, hp, ← hk] <;> rfl
  have hil : i < t.place.toList.length := by
    have h1 := (List.getElem?_eq_some_iff.mp hp).1
    have h2 := R.tab.sz
    rw [List.length_map] at h2
    rw [Array.length_toList]
    omega
  have hj := List.getElem?_eq_getElem hil
  obtain ⟨c, hc, e⟩ := R.tab.before free hi hj
  exact ⟨c, Nat.zero_le _, hc, by rw [hj, e]⟩
/-- a tuple isn't the set -/
theorem key_same {h h' : Heap} {k : List κ} {b : Addr} {o : Obj} (x : IsTupleKey knd h k b) (ho : h.get? a = some o) (hd : o.data = .set es ep t) (hs : Heap.SameBut a h h') : IsTupleKey knd h' k b := by
  obtain ⟨o', items, n, ho', hc, hd', hi⟩ := x
  have ne : b ≠ a := by
    rintro rfl
    rw [ho] at ho'
    cases ho'
    rw [hd] at hd'
    cases hd'
  exact ⟨o', items, n, (hs.2 b ne).trans ho', hc, hd', hi⟩
theorem key_keep {h h' : Heap} {k : List κ} {b : Addr} (x : IsTupleKey knd h k b) (hk : ∀ c o, h.get? c = some o → h'.get? c = some o) : IsTupleKey knd h' k b := by
  obtain ⟨o, items, n, ho, r⟩ := x
  exact ⟨o, items, n, hk b o ho, r⟩
theorem rows_ins (L : List (Row κ)) (p : Nat) (x : Row κ) : rows knd (L.take p ++ x :: L.drop p) = (rows knd L).take p ++ (tupleKeyHash knd x.2, Value.ref x.1) :: (rows knd L).drop p := by
  unfold rows
  rw [List.map_append, List.map_cons, List.map_take, List.map_drop]
/-- the entries in another order -/
theorem rows_order (L : List (Row κ)) (es : Array (Int × Value)) (order : Array Nat) (hr : es.toList = rows knd L) (hp : order.toList.Perm (List.range L.length)) :
    ∃ L2 : List (Row κ), (order.filterMap (es[·]?)).toList = rows knd L2 ∧ L2.Perm L ∧ (L2.map fun p => tupleKeyHash knd p.2) = order.toList.map fun i => (es.map (·.1)).getD i 0 := by
  have sz : es.size = L.length := by rw [← Array.length_toList, hr, rows_len]
  have ent : ∀ i (h : i < L.length), es[i]? = some (tupleKeyHash knd (L[i]).2, Value.ref (L[i]).1) := fun i h => by
    rw [← Array.getElem?_toList, hr]
    unfold rows
    rw [List.getElem?_map, List.getElem?_eq_getElem h] <;> rfl
  have part : ∀ l : List Nat, (∀ i ∈ l, i < L.length) → l.filterMap (fun i => es[i]?) = rows knd (l.filterMap fun i => L[i]?) ∧ ((l.filterMap fun i => L[i]?).map fun p => tupleKeyHash knd p.2) = l.map fun i => (es.map (·.1)).getD i 0 := by
    intro l
    induction l with
    | nil => exact fun _ => ⟨rfl, rfl⟩
    | cons i l ih =>
      intro hl
      have hi := hl i List.mem_cons_self
      obtain ⟨e1, e2⟩ := ih fun j hj => hl j (List.mem_cons_of_mem _ hj)
      rw [List.filterMap_cons_some (List.getElem?_eq_getElem hi), List.filterMap_cons_some (ent i hi), e1, List.map_cons, List.map_cons, e2]
      refine ⟨rfl, ?_⟩
      have e5 : (es.map (·.1))[i]? = some (tupleKeyHash knd (L[i]).2) := by rw [Array.getElem?_map, ent i hi] <;> rfl
      simp [Array.getD_eq_getD_getElem?, e5]
  obtain ⟨e1, e2⟩ := part order.toList fun i hi => List.mem_range.mp (hp.mem_iff.mp hi)
  refine ⟨_, by first | (rw [Array.toList_filterMap]; exact e1) | simpa using e1, ?_, e2⟩
  have all : ∀ n, n ≤ L.length → (List.range n).filterMap (fun i => L[i]?) = L.take n := by
    intro n
    induction n with
    | zero => exact fun _ => rfl
    | succ n ih =>
      intro hn
      rw [List.range_succ, List.filterMap_append, ih (Nat.le_of_lt hn), List.take_add_one, List.getElem?_eq_getElem hn, List.filterMap_cons_some (List.getElem?_eq_getElem hn)] <;> rfl
  have z := all L.length (Nat.le_refl _)
  rw [List.take_length] at z
  have y := hp.filterMap fun i => L[i]?
  rw [z] at y
  exact y
/-- the table laid anew, larger -/
theorem relaid {o : Obj} (ho : s.heap.get? a = some o) (hex : o.ExactSet) (hd : o.data = .set es ep t) (hr : es.toList = rows knd L) (hsz : t.place.size = es.size) (hdm : t.dummies = #[]) (hfl : es.size ≤ t.mask)
    (nd : (L.map (·.2)).Nodup) (tup : ∀ p ∈ L, IsTupleKey knd s.heap p.2 p.1) (pl : t.plain = true) (ld : w.params.followText "set-order" = true ∨ t.led = true) (few : L.length < 64) {wanted M : Nat}
    (hw : SetTable.sizeAbove wanted - 1 = M) (hM : MaskOk M) (hw2 : SetTable.sizeAbove wanted ≤ 128) (hn : L.length * 5 < M * 3) {Q : Unit → Shared → Prop}
    (hQ : ∀ h' L' es' ep' t', Heap.SameBut a s.heap h' → SetR knd h' a L' es' ep' t' → L'.Perm L → Q () { s with heap := h' }) : wpAny (model P w) A (setRelay a wanted) Q E s := by
  have sz : es.size = L.length := by rw [← Array.length_toList, hr, rows_len]
  have fits : t.fits es.size = true := by
    unfold SetTable.fits SetTable.fill
    rw [hdm, Bool.and_eq_true, beq_iff_eq, decide_eq_true_eq]
    refine ⟨hsz, ?_⟩
    show t.place.size + 0 ≤ t.mask
    omega
  obtain ⟨t', order, e, hp, T, em, el, ep', ed⟩ := L2.relaid_ok t (hs := es.map (·.1)) (wanted := wanted) hw hM (by rw [Array.size_map, sz]; omega)
  rw [Array.size_map, sz] at hp
  obtain ⟨LL, r1, r2, r3⟩ := rows_order L es order hr hp
  rw [← r3] at T
  have s2 : (order.filterMap (es[·]?)).size = es.size := by rw [← Array.length_toList, r1, rows_len, r2.length_eq, sz]
  rw [L2.setRelay_eq]
  refine wpAny_bind (wpAny_setState_of ho hd fits ?_)
  dsimp only
  refine wp_if_neg (by rw [sizeLine_eq]; omega) ?_
  try refine wpAny_bind (wpAny_pure ?_)
  rw [e]
  dsimp only
  refine wpAny_bind (wp_if_neg (by rw [s2]; simp) ?_)
  try refine wpAny_bind (wpAny_pure ?_)
  refine wpAny_pure ?_
  dsimp only
  refine wpAny_storeSet_of ho hd ?_ (by rw [s2, sz, sizeLine_eq]; omega)
  have sb : Heap.SameBut a s.heap (s.heap.update a (Obj.putSet (order.filterMap (es[·]?)) t')) := Heap.SameBut.update ..
  exact hQ _ LL _ (ep + 1) t' sb ⟨⟨_, L2.store_at ho hd, ⟨hex.1, hex.2.1, hex.2.2⟩, rfl⟩, r1, T, (r2.map (·.2)).nodup_iff.mpr nd, fun p hpm => key_same (tup p (r2.mem_iff.mp hpm)) ho hd sb, by rw [ep']; exact pl, by rw [el]; exact ld, by rw [r2.length_eq, em]; exact hn, by rw [r2.length_eq]; exact few⟩ r2
/-- an element put in -/
theorem put_in (Z : Flat knd) (R : SetR knd s.heap a L es ep t) {x : Addr} {k : List κ} (hx : IsTupleKey knd s.heap k x) (hu : A.units < cLine) (few : k ∉ L.map (·.2) → L.length + 1 < 64) {Q : Bool → Shared → Prop}
    (hQ : ∀ b h' L' es' ep' t', Heap.SameBut a s.heap h' → SetR knd h' a L' es' ep' t' → (k ∈ L.map (·.2) → L' = L) → (k ∉ L.map (·.2) → L'.Perm ((x, k) :: L)) → Q b { s with heap := h' }) :
    wpAny (model P w) A (setAddHashed a (.ref x) (tupleKeyHash knd k)) Q E s := by
  obtain ⟨o, ho, hex, hd⟩ := R.ob
  have sl := R.size
  have room := R.room
  unfold setAddHashed
  refine wpAny_holding ?_
  rw [show (100000 : Nat) = 99999 + 1 from rfl, L2.setAddHashedIn_succ]
  refine wpAny_bind (wpAny_setState_of ho hd R.fits ?_)
  dsimp only
  refine wp_if_neg (by simp [byScan, Value.scannable]) ?_
  try refine wpAny_bind (wpAny_pure ?_)
  refine wpAny_bind (seek_all Z R hx hu (fun hm => ?_) fun n hm free used => ?_)
  · dsimp only
    exact wpAny_pure (hQ false s.heap L es ep t (Heap.SameBut.refl a s.heap) R (fun _ => rfl) fun z => absurd hm z)
  dsimp only
  refine wpAny_bind (wpAny_setState_of ho hd R.fits ?_)
  dsimp only
  have few1 := few hm
  obtain ⟨q1, q2, q3, q4, q5, q6, q7, q8, q9⟩ := R.tab.put free used
  have pl : (t.put (way t.mask (tupleKeyHash knd k) n)).1.plain = true := by rw [q6]; exact R.plain
  generalize t.put (way t.mask (tupleKeyHash knd k) n) = pt at q1 q3 q4 q5 q6 q7 q8 q9 pl ⊢
  obtain ⟨t1, p⟩ := pt
  dsimp only at q1 q3 q4 q5 q6 q7 q8 q9 pl ⊢
  subst q1
  first
    | (refine wpAny_bind ?_; refine wp_if_pos pl ?_; refine by_hash Z hx ?_)
    | refine wp_if_pos pl (wpAny_bind (by_hash Z hx ?_))
  simp only [if_true]
  have hin : (SetTable.insertAt es (SetTable.below t.place (way t.mask (tupleKeyHash knd k) n)) (tupleKeyHash knd k, Value.ref x)).toList = rows knd (L.take (SetTable.below t.place (way t.mask (tupleKeyHash knd k) n)) ++ (x, k) :: L.drop (SetTable.below t.place (way t.mask (tupleKeyHash knd k) n))) := by
    rw [SetTable.toList_insertAt, rows_ins, R.rw_]
  generalize SetTable.below t.place (way t.mask (tupleKeyHash knd k) n) = p at q2 q3 hin ⊢
  have pm := L2.put_perm L p (x, k)
  have len : (L.take p ++ (x, k) :: L.drop p).length = L.length + 1 := pm.length_eq
  have hs : (L.take p ++ (x, k) :: L.drop p).map (fun p => tupleKeyHash knd p.2) = (L.map fun p => tupleKeyHash knd p.2).take p ++ tupleKeyHash knd k :: (L.map fun p => tupleKeyHash knd p.2).drop p := by
    rw [List.map_append, List.map_cons, List.map_take, List.map_drop]
  rw [← hs] at q3
  have nd1 : ((L.take p ++ (x, k) :: L.drop p).map (·.2)).Nodup := by
    refine (pm.map (·.2)).nodup_iff.mpr ?_
    rw [List.map_cons]
    exact List.nodup_cons.mpr ⟨hm, R.nd⟩
  have es1len : (SetTable.insertAt es p (tupleKeyHash knd k, Value.ref x)).size = L.length + 1 := by rw [← Array.length_toList, hin, rows_len, len]
  generalize SetTable.insertAt es p (tupleKeyHash knd k, Value.ref x) = es1 at hin es1len ⊢
  generalize L.take p ++ (x, k) :: L.drop p = L1 at pm len q3 nd1 hin
  refine wpAny_bind (wpAny_storeSet_of ho hd ?_ (by rw [es1len, sizeLine_eq]; omega))
  have sb : Heap.SameBut a s.heap (s.heap.update a (Obj.putSet es1 t1)) := Heap.SameBut.update ..
  have ho1 := L2.store_at (es' := es1) (t' := t1) ho hd
  generalize s.heap.update a (Obj.putSet es1 t1) = h1 at sb ho1 ⊢
  have tup1 : ∀ p ∈ L1, IsTupleKey knd h1 p.2 p.1 := fun p hp => by
    rcases List.mem_cons.mp (pm.mem_iff.mp hp) with e | hp
    · rw [e]; exact key_same hx ho hd sb
    · exact key_same (R.tup p hp) ho hd sb
  have ld1 : w.params.followText "set-order" = true ∨ t1.led = true := by rw [q5]; exact R.led
  have full : t1.tooFull = true ↔ (L.length + 1) * 5 ≥ t1.mask * 3 := by
    unfold SetTable.tooFull
    rw [decide_eq_true_eq, q9, List.length_map]
  by_cases hf : t1.tooFull = true
  · first
      | (refine wpAny_bind ?_; refine wp_if_pos (by simp [hf]) ?_)
      | (refine wp_if_pos (by simp [hf]) ?_; refine wpAny_bind ?_)
    have hfull := full.mp hf
    rw [sl]
    have sz1 : t1.place.size = es1.size := by
      have h := q3.sz
      rw [List.length_map, len] at h
      rw [h, es1len]
    have two : (t.mask = 7 ∧ L.length = 4) ∨ (t.mask = 31 ∧ L.length = 18) := by
      rcases R.tab.mok with e | e | e
      · exact .inl (by rw [q4, e] at hfull; rw [e] at room; exact ⟨e, by omega⟩)
      · exact .inr (by rw [q4, e] at hfull; rw [e] at room; exact ⟨e, by omega⟩)
      · exfalso; rw [q4, e] at hfull; omega
    have go : ∀ M, SetTable.sizeAbove (SetTable.grown (L.length + 1)) - 1 = M → MaskOk M → SetTable.sizeAbove (SetTable.grown (L.length + 1)) ≤ 128 → (L.length + 1) * 5 < M * 3 →
        wpAny (model P w) A (setRelay a (SetTable.grown (L.length + 1))) (fun _ s' => wpAny (model P w) A (pure true) Q E s') E { s with heap := h1 } := fun M m1 m2 m3 m4 =>
      relaid (s := { s with heap := h1 }) ho1 ⟨hex.1, hex.2.1, hex.2.2⟩ rfl hin sz1 q3.dm (by rw [es1len, q4]; rcases two with ⟨e, e2⟩ | ⟨e, e2⟩ <;> omega) nd1 tup1 pl ld1 (by rw [len]; exact few1) m1 m2 m3 (by rw [len]; exact m4)
        fun h2 LL es2 ep2 t2 sb2 R2 pm2 => wpAny_pure (hQ true h2 LL es2 ep2 t2 (sb.trans sb2) R2 (fun z => absurd z hm) fun _ => pm2.trans pm)
    rcases two with ⟨_, e2⟩ | ⟨_, e2⟩
    · exact go 31 (by rw [e2, L2.size_20]) (.inr (.inl rfl)) (by rw [e2, L2.size_20]; decide) (by omega)
    · exact go 127 (by rw [e2, L2.size_76]) (.inr (.inr rfl)) (by rw [e2, L2.size_76]; decide) (by omega)
  · first
      | refine wp_if_neg (by simp [hf]) ?_
      | (refine wpAny_bind ?_; refine wp_if_neg (by simp [hf]) ?_; refine wpAny_pure ?_)
    have room1 : L1.length * 5 < t1.mask * 3 := by
      rw [len]
      have z : ¬ ((L.length + 1) * 5 ≥ t1.mask * 3) := fun h => hf (full.mpr h)
      omega
    exact wpAny_pure (hQ true h1 L1 es1 (ep + 1) t1 sb ⟨⟨_, ho1, ⟨hex.1, hex.2.1, hex.2.2⟩, rfl⟩, hin, q3, nd1, tup1, pl, ld1, room1, by rw [len]; exact few1⟩ (fun z => absurd z hm) fun _ => pm)
/-- what is in behind the first i items -/
structure Had (ks : List (Row κ)) (i : Nat) (L : List (Row κ)) : Prop where
  sub : ∀ p ∈ L, p ∈ ks.take i
  all : ∀ p ∈ ks.take i, p.2 ∈ L.map (·.2)
theorem Had.same {ks L : List (Row κ)} {i : Nat} {x : Row κ} (g : Had ks i L) (h : ks[i]? = some x) (hm : x.2 ∈ L.map (·.2)) : Had ks (i + 1) L := by
  have e := L2.take_next h
  refine ⟨fun p hp => by rw [e]; exact List.mem_append_left _ (g.sub p hp), fun p hp => ?_⟩
  rw [e] at hp
  rcases List.mem_append.mp hp with z | z
  · exact g.all p z
  · rw [List.mem_singleton.mp z]; exact hm
theorem Had.more {ks L L' : List (Row κ)} {i : Nat} {x : Row κ} (g : Had ks i L) (h : ks[i]? = some x) (pm : L'.Perm (x :: L)) : Had ks (i + 1) L' := by
  have e := L2.take_next h
  refine ⟨fun p hp => ?_, fun p hp => ?_⟩
  · rw [e]
    rcases List.mem_cons.mp (pm.mem_iff.mp hp) with z | z
    · rw [z]; exact List.mem_append_right _ (List.mem_singleton.mpr rfl)
    · exact List.mem_append_left _ (g.sub p z)
  · rw [(pm.map (·.2)).mem_iff, List.map_cons]
    rw [e] at hp
    rcases List.mem_append.mp hp with z | z
    · exact List.mem_cons_of_mem _ (g.all p z)
    · rw [List.mem_singleton.mp z]; exact List.mem_cons_self
theorem SetR.keep {h h' : Heap} (R : SetR knd h a L es ep t) (ha : ∀ o, h.get? a = some o → h'.get? a = some o) (ht : ∀ p ∈ L, IsTupleKey knd h' p.2 p.1) : SetR knd h' a L es ep t := by
  obtain ⟨o, ho, r⟩ := R.ob
  exact ⟨⟨o, ha o ho, r⟩, R.rw_, R.tab, R.nd, ht, R.plain, R.led, R.room, R.few⟩
end
end DS
namespace DS
open PySem PySem.Spec PyProof.Rows
open L2 (TabOk MaskOk way nth runAt wp_if_pos wp_if_neg)
theorem nodup_le {α : Type} [DecidableEq α] : ∀ (l D : List α), l.Nodup → (∀ x ∈ l, x ∈ D) → l.length ≤ D.length
  | [], _, _, _ => Nat.zero_le _
  | x :: l, D, hn, hs => by
    have hx : x ∈ D := hs x List.mem_cons_self
    have ih := nodup_le l (D.erase x) hn.tail fun y hy => (List.mem_erase_of_ne (fun e => (List.nodup_cons.mp hn).1 (by rw [← e]; exact hy))).2 (hs y (List.mem_cons_of_mem _ hy))
    have e := List.length_erase_of_mem hx
    have := List.length_pos_of_mem hx
    rw [List.length_cons]
    omega
section
variable {P : Program} {w : World} {κ : Type} [DecidableEq κ] {knd : KeyKind P w κ} {A : Around} {E : Value → Shared → Prop} {s : Shared}
theorem fresh_set {h : Heap} {a : Addr} (ho : h.get? a = some { cls := .type "set", dict := none, data := .set #[] 0 (.fresh 0 0 (!w.params.followText "set-order")) }) : SetR knd h a [] #[] 0 (.fresh 0 0 (!w.params.followText "set-order")) := by
  refine ⟨⟨_, ho, ⟨rfl, rfl, rfl⟩, rfl⟩, rfl, ⟨List.Pairwise.nil, rfl, rfl, .inl rfl, (fun x hx => nomatch hx), fun i h j hi => by simp at hi⟩, List.nodup_nil, (fun p hp => nomatch hp), rfl, ?_, (show 0 * 5 < 7 * 3 by decide), (show 0 < 64 by decide)⟩
  show _ ∨ (!w.params.followText "set-order") = true
  cases w.params.followText "set-order"
  · exact .inr rfl
  · exact .inl rfl
/-- the loop of an update -/
theorem fill_loop (Z : Flat knd) {I : Addr} {fp wr : List Addr} {G : Array GenState → Array GenState → Prop} {n : Nat} {Pv : Nat → Value → Prop} {St : Nat → Shared → Prop} {R : Result → Shared → Prop} (W : WalksS P w A.in1 I fp wr G n Pv St) (S : Addr) (hSf : S ∉ fp)
    (ks : List (Row κ)) (hn : n = ks.length) {D : List (List κ)} (hD : D.length < 64) (hkD : ∀ p ∈ ks, p.2 ∈ D) (hval : ∀ i v, Pv i v → ∃ p, ks[i]? = some p ∧ v = .ref p.1)
    (h0 : Heap) (hk : ∀ p ∈ ks, IsTupleKey knd h0 p.2 p.1) (hS0 : h0.get? S = none) (hw0 : ∀ b ∈ wr, h0.get? b = none) (hu : A.in1.units < cLine) :
    ∀ (k i : Nat) (s : Shared), n - i = k → i ≤ n → St i s → (∀ b o, h0.get? b = some o → s.heap.get? b = some o) → (∃ L es ep t, SetR knd s.heap S L es ep t ∧ Had ks i L) →
      (∀ s' L es ep t, Moved (S :: wr) G s s' → SetR knd s'.heap S L es ep t → Had ks n L → (∀ b o, h0.get? b = some o → s'.heap.get? b = some o) → R (.ok (.ret .none)) s') →
      codeAny (model P w) A (.builtin "set.update.loop" ⟨[.ref S, .ref I], []⟩) R s := by
  have sw : S ∉ wr := fun h => hSf (W.sub _ h)
  have up : ∀ b ∈ wr, b ∈ S :: wr := fun b hb => List.mem_cons_of_mem _ hb
  have still : ∀ {s s' : Shared}, Moved wr G s s' → (∀ b o, h0.get? b = some o → s.heap.get? b = some o) → ∀ b o, h0.get? b = some o → s'.heap.get? b = some o := fun m k b o e => m.heap b o (fun hb => by rw [hw0 b hb] at e; cases e) (k b o e)
  intro k
  induction k with
  | zero =>
    intro i s hk' hi hst kp ⟨L, es, ep, t, hS, g⟩ done
    obtain rfl : i = n := by omega
    refine codeAny_builtin F.entry_set_update_loop ?_
    rw [Around.under_plainId F.plain_set_update_loop _]
    show wpAny _ A.in1 (pyNext (.ref I) >>= _) _ _ s
    refine wpAny_bind (W.done s _ _ hst fun s' hm => ?_)
    show wpAny _ A.in1 (ret Value.none) _ _ s'
    have kp' := still hm kp
    exact wpAny_pure (done s' L es ep t (hm.mono up) (hS.keep (fun o e => hm.heap S o sw e) fun p hp => key_keep (hk p (List.mem_of_mem_take (g.sub p hp))) kp') g kp')
  | succ k ih =>
    intro i s hk' hi hst kp ⟨L, es, ep, t, hS, g⟩ done
    have lt : i < n := by omega
    refine codeAny_builtin F.entry_set_update_loop ?_
    rw [Around.under_plainId F.plain_set_update_loop _]
    show wpAny _ A.in1 (pyNext (.ref I) >>= _) _ _ s
    refine wpAny_bind (W.item i s _ _ lt hst fun v s' hP hst' hm => ?_)
    obtain ⟨p, hp, rfl⟩ := hval i v hP
    have kp' := still hm kp
    have sub : ∀ q ∈ L, q ∈ ks := fun q hq => List.mem_of_mem_take (g.sub q hq)
    have hS' : SetR knd s'.heap S L es ep t := hS.keep (fun o e => hm.heap S o sw e) fun q hq => key_keep (hk q (sub q hq)) kp'
    have hpk := List.mem_of_getElem? hp
    have hx : IsTupleKey knd s'.heap p.2 p.1 := key_keep (hk p hpk) kp'
    have few : p.2 ∉ L.map (·.2) → L.length + 1 < 64 := fun hno => by
      have z := nodup_le (p.2 :: L.map (·.2)) D (List.nodup_cons.mpr ⟨hno, hS.nd⟩) fun y hy => by
        rcases List.mem_cons.mp hy with e | hy
        · rw [e]; exact hkD p hpk
        · obtain ⟨q, hq, rfl⟩ := List.mem_map.mp hy
          exact hkD q (sub q hq)
      rw [List.length_cons, List.length_map] at z
      omega
    show wpAny _ A.in1 (holding [Value.ref p.1] (setAdd S (.ref p.1)) >>= _) _ _ s'
    refine wpAny_bind (wpAny_holding ?_)
    unfold setAdd
    refine wpAny_holding (wpAny_bind (wpAny_pyHash_tuple hu hx ?_))
    refine put_in (s := { s' with toks := s'.toks + (p.2.length + 1) }) Z hS' hx hu few fun b h' L' es' ep' t' sb S2 c1 c2 => ?_
    have g' : Had ks (i + 1) L' := by
      by_cases c : p.2 ∈ L.map (·.2)
      · rw [c1 c]; exact g.same hp c
      · exact g.more hp (c2 c)
    have kp2 : ∀ b o, h0.get? b = some o → h'.get? b = some o := fun b o e => (sb.2 b (fun z => by rw [z, hS0] at e; cases e)).trans (kp' b o e)
    refine wpAny_pure ⟨plainId_quiet F.plain_set_update_loop _, ih (i + 1) _ (by omega) lt (W.frame _ s' _ _ hst' (Nat.le_add_right _ _) fun b hb o e => ?_) kp2 ⟨L', es', ep', t', S2, g'⟩ fun s'' L2 es2 ep2 t2 hm'' hS'' g'' kp'' => ?_⟩
    · rw [sb.2 b (fun h : b = S => hSf (by rw [← h]; exact hb))]; exact e
    · refine done s'' L2 es2 ep2 t2 (Moved.trans W.gtrans ((hm.mono up).then_heap (Nat.le_add_right _ _) fun b o hb e => ?_) hm'') hS'' g'' kp''
      rw [sb.2 b (fun h : b = S => hb (by rw [h]; exact List.mem_cons_self))]; exact e
/-- the empty set that set() lays first -/
abbrev bare (w : World) : Obj := { cls := .type "set", dict := none, data := .set #[] 0 (.fresh 0 0 (!w.params.followText "set-order")) }
/-- set(a list) -/
theorem set_of (Z : Flat knd) {l : Addr} {items : Array Value} (ks : List (Row κ)) {D : List (List κ)} {Q : Value → Shared → Prop} (hh : A.handled = none) (hl : s.heap.IsList l items) (hit : items.toList = ks.map fun p => Value.ref p.1)
    (hk : ∀ p ∈ ks, IsTupleKey knd s.heap p.2 p.1) (hD : D.length < 64) (hkD : ∀ p ∈ ks, p.2 ∈ D) (hu : A.units + 3 < cLine)
    (h : ∀ (h' : Heap) (tk : Nat) L es ep t, SetR knd h' s.heap.objs.size L es ep t → Had ks ks.length L → (∀ b o, s.heap.get? b = some o → h'.get? b = some o) → Q (.ref s.heap.objs.size) { s with heap := h', toks := tk }) :
    wpAny (model P w) A (call (.type "set") [.ref l]) Q E s := by
  have isz : items.size = ks.length := by rw [← Array.length_toList, hit, List.length_map]
  obtain ⟨c, tl, hmro⟩ := F.called_set.mro
  have hmade := F.called_set.made
  have hsub := F.called_set.sub
  refine wpAny_call (codeAny_of_tree ?_)
  show wpAny _ _ (callAny (.type "set") _) _ _ _
  refine wpAny_pure ⟨Code.quiet_builtin _ (by decide +kernel), codeAny_builtin F.entry_type_call ?_⟩
  rw [Around.under_plain (weight_type_call_type "set" [.ref l] []) rfl]
  have f1 := F.called_set.notType
  have f2 := F.called_set.canCreate
  have f3 := F.typeCall_set_1 (.ref l)
  repeat (any_goals (first | assumption | wp_step))
  refine codeAny_mono (L2.code_set_led1 (.ref l) (E := E) (Q₁ := fun obj s₁ => obj = .ref s.heap.objs.size ∧ s₁ = { s with heap := s.heap.push (bare w) }) ⟨rfl, rfl⟩) fun r s₁ hr => ?_
  match r, hr with
  | .error e, hr => exact hr
  | .ok (.ret obj), hr =>
    obtain ⟨rfl, rfl⟩ := hr
    have hS : (s.heap.push (bare w)).get? s.heap.objs.size = some (bare w) := Heap.get?_push_size _ rfl
    have hT : Shared.TypeIs { s with heap := s.heap.push (bare w) } (.ref s.heap.objs.size) "set" := ⟨_, hS, rfl⟩
    have g1 := F.called_set.init.lookup
    have g2 := F.called_set.init.bind (.ref s.heap.objs.size)
    repeat (any_goals (first | assumption | wp_step))
    refine codeAny_mono (codeAny_call_builtin (R := wants (fun r s₂ => r = .none ∧ ∃ h' tk L es ep t, s₂ = { s with heap := h', toks := tk } ∧ SetR knd h' s.heap.objs.size L es ep t ∧ Had ks ks.length L ∧ (∀ b o, s.heap.get? b = some o → h'.get? b = some o)) E)
      F.called_set.init.plain F.entry_set_init (check_set_init_1 hT ?_)) fun r₂ s₂ hr₂ => ?_
    · obtain ⟨ol, hol, hcl, nl, hdl⟩ := hl
      obtain ⟨ocls, odict, odata, oslots⟩ := ol
      simp only at hcl hdl
      subst hcl; subst hdl
      have hol' : (s.heap.push (bare w)).get? l = some { cls := .type "list", dict := odict, data := .seq items nl, slots := oslots } := Heap.get?_push_of_some _ hol
      have e1 := F.sub_list_set
      have e2 := F.sub_list_frozenset
      have e3 : (Value.type "list" == Value.type "dict") = false := by decide
      have hl1 : (s.heap.push (bare w)).IsList l items := ⟨_, hol', rfl, nl, rfl⟩
      unfold Builtin.«set.__init__» noKeywords Builtin.Frozenset.updateFrom
      generalize hPI : pyIter = PI
      wp_walk
      subst hPI
      refine wpAny_pyIter_list hl1 (wpAny_bind (wpAny_runValue ?_))
      have lS : l < s.heap.objs.size := Heap.lt_size hol
      have hh3 : A.in1.in1.in1.handled = none := by simp [hh]
      have psz : (s.heap.push (bare w)).objs.size = s.heap.objs.size + 1 := Heap.size_push ..
      have neI : l ≠ (s.heap.push (bare w)).objs.size := by rw [psz]; exact Nat.ne_of_lt (Nat.lt_succ_of_lt lS)
      have nofp : s.heap.objs.size ∉ [(s.heap.push (bare w)).objs.size, l] := by
        rw [psz]
        simp only [List.mem_cons, List.not_mem_nil, or_false, not_or]
        exact ⟨Nat.ne_of_lt (Nat.lt_succ_self _), Nat.ne_of_gt lS⟩
      have vals : ∀ (i : Nat) (v : Value), items[i]? = some v → ∃ p, ks[i]? = some p ∧ v = .ref p.1 := fun i v hv => by
        have q : items.toList[i]? = some v := by rw [Array.getElem?_toList]; exact hv
        rw [hit, List.getElem?_map] at q
        cases e : ks[i]? with
        | none => rw [e] at q; cases q
        | some p =>
          rw [e] at q
          exact ⟨p, rfl, (Option.some.inj q).symm⟩
      have beyond : ∀ b, s.heap.objs.size ≤ b → s.heap.get? b = none := fun b hb => by
        cases q : s.heap.get? b with
        | none => rfl
        | some o => exact absurd (Nat.lt_of_lt_of_le (Heap.lt_size q) hb) (Nat.lt_irrefl _)
      refine fill_loop Z ((Walks.list hh3 _ l neI items).toS) s.heap.objs.size nofp ks isz hD hkD vals s.heap hk (beyond _ (Nat.le_refl _)) (fun b hb => beyond b (by rw [List.mem_singleton.mp hb, psz]; exact Nat.le_succ _)) hu (items.size - 0) 0 _ (by omega) (Nat.zero_le _)
        ⟨⟨_, Heap.get?_push_size _ rfl, rfl, rfl⟩, (hl1.push _)⟩ (fun b o e => Heap.get?_push_of_some _ (Heap.get?_push_of_some _ e)) ⟨[], #[], 0, _, fresh_set (Heap.get?_push_of_some _ hS), ⟨fun p h => (nomatch h), fun p h => by simp at h⟩⟩ fun s' L es ep t hm hS' g' kp => ?_
      obtain ⟨h', g3, d', tk', os'⟩ := s'
      have eg : g3 = s.gens := hm.gens
      have ed : d' = s.drawn := hm.drawn
      have eo : os' = s.os := hm.os
      subst eg; subst ed; subst eo
      show wpAny _ _ _ _ _ _
      refine wpAny_pure ?_
      show wpAny _ _ (ret Value.none) _ _ _
      rw [isz] at g'
      exact wpAny_pure ⟨rfl, h', tk', L, es, ep, t, rfl, hS', g', kp⟩
    · match r₂, hr₂ with
      | .error e, hr₂ => exact hr₂
      | .ok (.ret r), hr₂ =>
        obtain ⟨rfl, h', tk, L, es, ep, t, rfl, hS', g', hk'⟩ := hr₂
        repeat (any_goals (first | assumption | wp_step))
        exact h _ _ _ _ _ _ hS' g' hk'
end
end DS
namespace DS
open PySem PySem.Spec PyProof.Rows
open L2 (TabOk MaskOk way nth runAt wp_if_pos wp_if_neg)
theorem perm_map {α β : Type} {g : α → β} {xs ys : List β} (h : xs.Perm ys) : ∀ {l : List α}, xs = l.map g → ∃ l' : List α, l'.Perm l ∧ ys = l'.map g := by
  induction h with
  | nil => intro l e; exact ⟨l, List.Perm.refl _, e⟩
  | @cons x xs ys _ ih =>
    intro l e
    cases l with
    | nil => cases e
    | cons a l =>
      rw [List.map_cons] at e
      injection e with e1 e2
      obtain ⟨l', p, e3⟩ := ih e2
      exact ⟨a :: l', p.cons a, by rw [List.map_cons, e1, e3]⟩
  | swap x y xs =>
    intro l e
    match l, e with
    | a :: b :: l, e =>
      rw [List.map_cons, List.map_cons] at e
      injection e with e1 e2
      injection e2 with e2 e3
      exact ⟨b :: a :: l, List.Perm.swap a b l, by rw [List.map_cons, List.map_cons, e1, e2, e3]⟩
  | trans _ _ ih1 ih2 =>
    intro l e
    obtain ⟨l1, p1, e1⟩ := ih1 e
    obtain ⟨l2, p2, e2⟩ := ih2 e1
    exact ⟨l2, p2.trans p1, e2⟩
section
variable {P : Program} {w : World} {κ : Type} [DecidableEq κ] {knd : KeyKind P w κ} {A : Around} {E : Value → Shared → Prop} {s : Shared} {β : Type}
/-- sorted(a set) -/
theorem sorted_set {a : Addr} {LL : List β} {f : β → Row κ} {enc : β → PyData} {es : Array (Int × Value)} {ep : Nat} {t : SetTable} {Q : Value → Shared → Prop} (R : SetR knd s.heap a (LL.map f) es ep t) (hh : A.handled = none)
    (rd : ∀ b ∈ LL, PySem.Reads s.heap (.ref (f b).1) (enc b) []) (hal : PySem.W.AllAlike (LL.map enc)) (hk : PySem.W.Sortable (LL.map enc)) (hu : ∀ b ∈ LL, A.units + 8 + (enc b).depth < cLine)
    (hQ : ∀ s' p (out : Array Value) (c : Nat) (L1 : List β), (∀ b o, s.heap.get? b = some o → s'.heap.get? b = some o) → s'.gens = s.gens → s'.os = s.os → s.heap.objs.size ≤ p →
      s'.heap.get? p = some (seqObj "list" out c) → out.toList = (L1.mergeSort (PySem.W.dataLe false enc)).map (fun b => Value.ref (f b).1) → L1.Perm LL → Q (.ref p) s') :
    wpAny (model P w) A (call (.builtin "sorted") [.ref a]) Q E s := by
  obtain ⟨o, ho, hex, hd⟩ := R.ob
  have hsz := R.size
  have hfew := R.few
  rw [List.length_map] at hsz hfew
  refine Calls.call_function_entry kind_sorted plain_sorted entry_sorted (args_sorted1 _) ?_
  unfold Builtin.«sorted»
  refine wpAny_bind (m := checkCount "sorted" 1 1 _) (wpAny_pure ?_)
  refine wpAny_bind (L2.collect_set (A := A.in1) hh ⟨o, ho, hex.1, hd⟩ R.fits (by unfold scanBound; omega) R.tab.ris R.led fun s1 vs k1 hz g1 o1 pm => ?_)
  have hes : es.toList.map (·.2) = LL.map fun b => Value.ref (f b).1 := by
    rw [R.rw_]
    unfold rows
    rw [List.map_map, List.map_map] <;> rfl
  obtain ⟨L1, pL, eL⟩ := perm_map (g := fun b => Value.ref (f b).1) pm.symm hes
  subst eL
  have hvl : (L1.map fun b => Value.ref (f b).1).length < 64 := by rw [List.length_map, pL.length_eq]; exact hfew
  refine wpAny_bind (wpAny_newList ?_ (by rw [sizeLine_eq]; omega))
  generalize hvs : (L1.map fun b => Value.ref (f b).1) = vs at hvl ⊢
  have hoL : (s1.heap.push (seqObj "list" vs.toArray 0)).get? s1.heap.objs.size = some (seqObj "list" vs.toArray 0) := Heap.get?_push_size _ rfl
  have each : ∀ (bs : List β), (∀ b ∈ bs, b ∈ LL) → PySem.W.EachIs (fun v b => v = Value.ref (f b).1 ∧ b ∈ LL) (bs.map fun b => Value.ref (f b).1) bs := by
    intro bs
    induction bs with
    | nil => exact fun _ => .nil
    | cons b bs ih => exact fun h => .cons ⟨rfl, h b List.mem_cons_self⟩ (ih fun c hc => h c (List.mem_cons_of_mem _ hc))
  have e1 : PySem.W.EachIs (fun v b => v = Value.ref (f b).1 ∧ b ∈ LL) vs L1 := by rw [← hvs]; exact each L1 fun b hb => pL.mem_iff.mp hb
  have er : PySem.W.EachIs (fun v b => ∃ as, PySem.Reads (s1.heap.push (seqObj "list" vs.toArray 0)) v (enc b) as ∧ s1.heap.objs.size ∉ as) vs L1 := e1.mono fun v b ⟨h1, h2⟩ => by
    subst h1
    exact ⟨[], PyProof.Rows.Reads.keeps (fun c u e => Heap.get?_push_of_some _ (k1 c u e)) (rd b h2), fun z => nomatch z⟩
  have pm2 : (L1.map enc).Perm (LL.map enc) := pL.map enc
  have hal1 : PySem.W.AllAlike (L1.map enc) := fun d hd d' hd' => hal d (pm2.mem_iff.mp hd) d' (pm2.mem_iff.mp hd')
  have hk1 : PySem.W.Sortable (L1.map enc) := hk.imp (fun h d hd => h d (pm2.mem_iff.mp hd)) (fun h d hd => h d (pm2.mem_iff.mp hd))
  have hlen : L1.length = vs.length := by rw [← hvs, List.length_map]
  refine wpAny_bind (wpAny_holding (PySem.W.list_sort_data (s := { s1 with heap := s1.heap.push (seqObj "list" vs.toArray 0) }) hoL e1 er hal1 hk1 (by rw [sizeLine_eq]; omega) (fun b hb => by
    have := hu b (pL.mem_iff.mp hb)
    show _ + 1 + 1 + _ < _
    omega) fun out a1 a2 => ?_))
  obtain ⟨c, hc⟩ := sortedHeap_at (vs := vs) (out := List.toArray out) hoL
  have eo : out = (L1.mergeSort (PySem.W.dataLe false enc)).map fun b => Value.ref (f b).1 := by
    have go : ∀ {us : List Value} {bs : List β}, PySem.W.EachIs (fun v b => v = Value.ref (f b).1 ∧ b ∈ LL) us bs → us = bs.map fun b => Value.ref (f b).1 := by
      intro us bs h
      induction h with
      | nil => rfl
      | cons h _ ih => rw [List.map_cons, h.1, ih]
    exact go a2
  refine wpAny_pure ⟨_, rfl, hQ _ s1.heap.objs.size (List.toArray out) c L1 (fun b u e => ?_) g1 o1 hz hc eo pL⟩
  have q := k1 b u e
  have hlt := Heap.lt_size q
  show (sortedHeap (s1.heap.push (seqObj "list" vs.toArray 0)) s1.heap.objs.size vs (List.toArray out)).get? b = some u
  rw [sortedHeap_old (Nat.ne_of_lt hlt) (by rw [size_push']; exact Nat.lt_succ_of_lt hlt)]
  exact Heap.get?_push_of_some _ q
end
/-! ### leaves -/
def lf : PyData → Leaf
  | .bool b => .num (if b = true then 1 else 0)
  | .int i => .num i
  | _ => .none
def isLf : PyData → Bool
  | .none => true
  | .bool _ => true
  | .int _ => true
  | _ => false
def keyD : PyData → List Leaf
  | .tuple xs => xs.map lf
  | _ => []
def FlatT (d : PyData) : Prop := ∃ xs, d = .tuple xs ∧ ∀ x ∈ xs, isLf x = true
def plainK : Leaf → Bool
  | .text _ => false
  | _ => true
theorem plain_of {k : Leaf} {v : Value} (h : (Leaf.isOf k v && plainK k) = true) : Leaf.isOf k v = true := (Bool.and_eq_true_iff.mp h).1
/-- numbers, truths, None: what is hashed by its value -/
def numKind (P : Program) (w : World) : KeyKind P w Leaf where
  is := fun k v => Leaf.isOf k v && plainK k
  hash := (leafKind P w).hash
  inj := fun v a b ha hb => (leafKind P w).inj v a b (plain_of ha) (plain_of hb)
  byValue := fun k v h => (leafKind P w).byValue k v (plain_of h)
  pyHash := fun hv h => (leafKind P w).pyHash (plain_of hv) h
  eqBool := fun hu hv h => (leafKind P w).eqBool (plain_of hu) (plain_of hv) h
  «strs» := fun k x t v h => by
    cases k <;> first | exact absurd h Bool.false_ne_true | exact absurd (Bool.and_eq_true_iff.mp h).2 Bool.false_ne_true
theorem flat_leaf {P : Program} {w : World} : Flat (numKind P w) where
  cls := fun k v n h => by
    cases k <;> cases v <;> first | exact absurd h Bool.false_ne_true | (cases n <;> rfl) | exact absurd (Bool.and_eq_true_iff.mp h).2 Bool.false_ne_true
  hsh := fun k v n h => by
    cases k <;> cases v <;> first | exact absurd h Bool.false_ne_true | (cases n <;> rfl) | exact absurd (Bool.and_eq_true_iff.mp h).2 Bool.false_ne_true
end DS
namespace DS
open PySem PySem.Spec PyProof.Rows L2 DL
section
variable {X : Cx} {pins : List (Addr × Obj)} {σ : L2.St} {H : Hp} {s : Shared}
theorem leaf_is {x : V} {u : Value} {d : PyData} (h : Dp X.K H x d) (r : RelV x u) (hl : isLf d = true) : (numKind X.prog X.w).is (lf d) u = true ∧ PySem.Reads s.heap u d [] := by
  cases h with
  | non => cases r; exact ⟨rfl, .none⟩
  | bl b => cases r; exact ⟨by cases b <;> rfl, .bool _⟩
  | int i => obtain ⟨t, rfl⟩ := r; exact ⟨Bool.and_eq_true_iff.mpr ⟨decide_eq_true rfl, rfl⟩, .int _ _⟩
  | str x => cases hl
  | lst _ _ => cases hl
  | tup _ _ => cases hl
theorem leaves_are : ∀ {xs : List V} {us : List Value} {ds : List PyData}, DpAll X.K H xs ds → Vals xs us → (∀ d ∈ ds, isLf d = true) → ItemsAre (numKind X.prog X.w) (ds.map lf) us ∧ PySem.ReadsAll s.heap us ds []
  | _, _, [], .nil, .nil, _ => ⟨.nil, .nil⟩
  | _, _, d :: ds, .cons h1 h2, .cons r1 r2, hl => by
    obtain ⟨a, b⟩ := leaf_is (s := s) h1 r1 (hl d List.mem_cons_self)
    obtain ⟨c, e⟩ := leaves_are h2 r2 fun z hz => hl z (List.mem_cons_of_mem _ hz)
    exact ⟨.cons a c, .cons b e⟩
theorem key_at (I : Inv X pins σ H s) {b : Addr} {d : PyData} (h : Dp X.K H (.ref b) d) (hf : FlatT d) : IsTupleKey (numKind X.prog X.w) s.heap (keyD d) b ∧ PySem.Reads s.heap (.ref b) d [] := by
  obtain ⟨ds, rfl, hl⟩ := hf
  cases h with
  | tup hs ha =>
    obtain ⟨its, r, ⟨o, ho, hc, n, hd⟩, _⟩ := I.tuple hs
    obtain ⟨h1, h2⟩ := leaves_are (X := X) (s := s) ha r hl
    exact ⟨⟨o, its.toArray, n, ho, hc, hd, by simpa [keyD] using h1⟩, .tuple ho hc hd (by simpa using h2)⟩
/-- the set at a, without the tuples themselves -/
structure SetT0 (P : Program) (w : World) (h : Heap) (a : Addr) (L : List (Row Leaf)) : Prop where
  ex : ∃ (es : Array (Int × Value)) (ep : Nat) (t : SetTable), (∃ o, h.get? a = some o ∧ o.ExactSet ∧ o.data = .set es ep t) ∧ es.toList = rows (numKind P w) L ∧ TabOk t (L.map fun p => tupleKeyHash (numKind P w) p.2) ∧ (L.map (·.2)).Nodup ∧ t.plain = true ∧
    (w.params.followText "set-order" = true ∨ t.led = true) ∧ L.length * 5 < t.mask * 3 ∧ L.length < 64
def SetO (P : Program) (w : World) (a : Addr) (L : List (Row Leaf)) : HO := .ext fun h => SetT0 P w h a L
theorem SetR.t0 {P : Program} {w : World} {h : Heap} {a : Addr} {L : List (Row Leaf)} {es : Array (Int × Value)} {ep : Nat} {t : SetTable} (R : SetR (numKind P w) h a L es ep t) : SetT0 P w h a L :=
  ⟨es, ep, t, R.ob, R.rw_, R.tab, R.nd, R.plain, R.led, R.room, R.few⟩
theorem SetT0.full {P : Program} {w : World} {h : Heap} {a : Addr} {L : List (Row Leaf)} (R : SetT0 P w h a L) (ht : ∀ p ∈ L, IsTupleKey (numKind P w) h p.2 p.1) : ∃ es ep t, SetR (numKind P w) h a L es ep t := by
  obtain ⟨es, ep, t, h1, h2, h3, h4, h5, h6, h7, h8⟩ := R.ex
  exact ⟨es, ep, t, h1, h2, h3, h4, ht, h5, h6, h7, h8⟩
theorem setO_new {P : Program} {w : World} {H : Hp} {h : Heap} {a : Addr} {L : List (Row Leaf)} (R : SetT0 P w h a L) : ObjOk P w H h a (SetO P w a L) := by
  have ⟨es, ep, t, ⟨o, ho, r⟩, q⟩ := R.ex
  refine ⟨R, ⟨o, ho⟩, fun h1 h2 p k => ?_⟩
  have ⟨es', ep', t', ⟨o', ho', r'⟩, q'⟩ := SetT0.ex p
  exact ⟨es', ep', t', ⟨o', k o' ho', r'⟩, q'⟩
/-- an address and its datum, as a row -/
def rowOf (p : Addr × PyData) : Row Leaf := (p.1, keyD p.2)
theorem refs_are {α : Type} {g : α → Addr} : ∀ {ks : List α} {us : List Value}, Vals (ks.map fun p => V.ref (g p)) us → us = ks.map fun p => Value.ref (g p)
  | [], _, .nil => rfl
  | p :: ks, _, .cons r t => by
    cases r
    rw [refs_are t] <;> rfl
theorem are_refs {α : Type} {g : α → Addr} : ∀ (ks : List α), Vals (ks.map fun p => V.ref (g p)) (ks.map fun p => Value.ref (g p))
  | [] => .nil
  | p :: ks => .cons rfl (are_refs ks)
/-- set(xs), xs a list of flat tuples -/
def rSetOf (K : PySem.W.Frag) (P : Program) (w : World) : List V → Hp → VK → Prop := fun xs H Q => ∃ (l : Addr) (ks : List (Addr × PyData)) (D : List PyData), xs = [V.ref l] ∧ SqL K H l (ks.map fun p => V.ref p.1) ∧ (∀ p ∈ ks, FlatT p.2 ∧ Dp K H (.ref p.1) p.2) ∧ D.length < 64 ∧ (∀ p ∈ ks, p.2 ∈ D) ∧
  ∀ (a : Addr) (L : List (Addr × PyData)), H a = none → (∀ p ∈ L, p ∈ ks) → (∀ p ∈ ks, keyD p.2 ∈ L.map fun q => keyD q.2) → (L.map fun q => keyD q.2).Nodup → Q (.ref a) (upd H a (SetO P w a (L.map rowOf)))
theorem cr_setOf (hc : X.calm = true) (hu : X.A.units + 64 < cLine) : CallR X (.type "set") (rSetOf X.K X.prog X.w) := by
  intro pins s σ H xs us Q I r h
  obtain ⟨l, ks, D, rfl, hl, hk, hf, hD, q⟩ := h
  rw [Vals.ref1 r]
  obtain ⟨its, rv, pl, hz⟩ := I.list hl
  have hn : H s.heap.objs.size = none := I.hok.fresh (Nat.le_refl _)
  refine set_of (P := X.prog) (w := X.w) (flat_leaf (P := X.prog) (w := X.w)) (ks.map rowOf) (D := D.map keyD) (I.ok.hd hc) pl.isList (by rw [List.map_map]; simpa [rowOf, Function.comp_def] using refs_are rv) (fun p hp => ?_) (by rw [List.length_map]; exact hf) (fun p hp => ?_) (by omega) fun h' tk L es ep t R g k => ?_
  · obtain ⟨p0, hp0, rfl⟩ := List.mem_map.mp hp
    exact (key_at I (hk p0 hp0).2 (hk p0 hp0).1).1
  · obtain ⟨p0, hp0, rfl⟩ := List.mem_map.mp hp
    exact List.mem_map.mpr ⟨p0.2, hD p0 hp0, rfl⟩
  · have pick : ∀ L : List (Row Leaf), (∀ p ∈ L, p ∈ ks.map rowOf) → ∃ L0 : List (Addr × PyData), L = L0.map rowOf ∧ ∀ p ∈ L0, p ∈ ks := by
      intro L
      induction L with
      | nil => exact fun _ => ⟨[], rfl, fun p hp => (nomatch hp)⟩
      | cons p L ih =>
        intro hL
        obtain ⟨q0, hq0, e0⟩ := List.mem_map.mp (hL p List.mem_cons_self)
        obtain ⟨L0, e1, h1⟩ := ih fun z hz => hL z (List.mem_cons_of_mem _ hz)
        refine ⟨q0 :: L0, by rw [List.map_cons, e0, e1], fun z hz => ?_⟩
        rcases List.mem_cons.mp hz with e | hz
        · rw [e]; exact hq0
        · exact h1 z hz
    obtain ⟨L0, rfl, h0⟩ := pick L fun p hp => List.mem_of_mem_take (g.sub p hp)
    refine ⟨.ref s.heap.objs.size, upd H s.heap.objs.size (SetO X.prog X.w s.heap.objs.size (L0.map rowOf)), I.laid (t' := tk) k (Nat.le_refl _) (setO_new R.t0), rfl, q _ L0 hn h0 (fun p hp => ?_) ?_⟩
    · have z := g.all (rowOf p) (by rw [List.take_length]; exact List.mem_map.mpr ⟨p, hp, rfl⟩)
      rw [List.map_map] at z
      exact z
    · have z := R.nd
      rw [List.map_map] at z
      exact z
/-- sorted(a set) -/
def rSortSet (K : PySem.W.Frag) (P : Program) (w : World) : List V → Hp → VK → Prop := fun vs H Q => ∃ (a : Addr) (L : List (Addr × PyData)), vs = [V.ref a] ∧ H a = some (SetO P w a (L.map rowOf)) ∧ (∀ p ∈ L, FlatT p.2 ∧ Dp K H (.ref p.1) p.2) ∧
  PySem.W.AllAlike (L.map (·.2)) ∧ PySem.W.Sortable (L.map (·.2)) ∧
  ∀ (L1 : List (Addr × PyData)) (p : Addr), L1.Perm L → H p = none → Q (.ref p) (upd H p (.lst ((L1.mergeSort (PySem.W.dataLe false fun q => q.2)).map fun q => V.ref q.1)))
theorem depth_leaves : ∀ xs : List PyData, (∀ x ∈ xs, isLf x = true) → PyData.depthAll xs = 0
  | [], _ => rfl
  | x :: xs, h => by
    have h1 : x.depth = 0 := by
      have := h x List.mem_cons_self
      cases x <;> first | rfl | cases this
    rw [PyData.depthAll, h1, depth_leaves xs fun y hy => h y (List.mem_cons_of_mem _ hy)]
    rfl
theorem depth_flat {d : PyData} (h : FlatT d) : d.depth ≤ 1 := by
  obtain ⟨xs, rfl, hx⟩ := h
  rw [PyData.depth, depth_leaves xs hx]
  exact Nat.le_refl _
theorem cr_sortSet (hc : X.calm = true) (hu : X.A.units + 64 < cLine) : CallR X (.builtin "sorted") (rSortSet X.K X.prog X.w) := by
  intro pins s σ H vs us Q I r h
  obtain ⟨a, L, rfl, ha, hk, hal, hso, q⟩ := h
  have R0 : SetT0 X.prog X.w s.heap a (L.map rowOf) := (I.hok a _ ha).1
  obtain ⟨es, ep, t, R⟩ := R0.full fun p hp => by
    obtain ⟨p0, hp0, rfl⟩ := List.mem_map.mp hp
    exact (key_at I (hk p0 hp0).2 (hk p0 hp0).1).1
  rw [Vals.ref1 r]
  refine sorted_set (f := rowOf) (enc := fun q => q.2) R (I.ok.hd hc) (fun b hb => (key_at I (hk b hb).2 (hk b hb).1).2) hal hso (fun b hb => by have := depth_flat (hk b hb).1; show _ + 8 + b.2.depth < _; omega) fun s' p out c L1 k g o hp hg hout pm => ?_
  have hfew : L1.length < 64 := by rw [pm.length_eq]; have := R.few; rw [List.length_map] at this; exact this
  have hlen : ((L1.mergeSort (PySem.W.dataLe false fun q => q.2)).map fun q => V.ref q.1).length ≤ sizeLine := by rw [List.length_map, List.length_mergeSort, sizeLine_eq]; omega
  have hn : H p = none := I.hok.fresh hp
  have hv : Vals ((L1.mergeSort (PySem.W.dataLe false fun q => q.2)).map fun q => V.ref q.1) out.toList := by rw [hout]; exact are_refs _
  have J : Inv X pins σ (upd H p (.lst ((L1.mergeSort (PySem.W.dataLe false fun q => q.2)).map fun q => V.ref q.1))) { s with heap := s'.heap, gens := s'.gens, drawn := s'.drawn, toks := s'.toks } :=
    I.call (ch := []) (Un.laid k hp hn) (I.hok.laid k hp ⟨hlen, out.toList, c, hv, hg⟩) (by rw [g]; exact I.bare) (fun _ z => nomatch z)
  have e : s' = { s with heap := s'.heap, gens := s'.gens, drawn := s'.drawn, toks := s'.toks } := by
    cases s'
    cases s
    cases o
    rfl
  rw [e]
  exact ⟨.ref p, _, J, rfl, q L1 p pm hn⟩
/-- sorted(set(xs)) -/
def rSS (K : PySem.W.Frag) (P : Program) (w : World) : List V → Hp → VK → Prop := fun xs H Q => rSetOf K P w xs H fun v H1 => rSortSet K P w [v] H1 Q
end
end DS
namespace DS
open PySem PySem.Spec PyProof.Rows L2 DL
/-- sorted(set(xs)), xs a list of flat tuples: us are its unlike ones -/
def fSS : DC := fun ss M k => match ss with
  | [s] => ∃ ds D : List Dt, IsL M s (ds.map .dat) ∧ D.length < 64 ∧ (∀ d ∈ ds, d ∈ D) ∧ (∀ d ∈ ds, FlatT d) ∧ PySem.W.AllAlike ds ∧ PySem.W.Sortable ds ∧ (∀ d ∈ ds, ∀ d' ∈ ds, keyD d = keyD d' → d = d') ∧
    ∀ (us : List Dt) p, us.Nodup → (∀ d, d ∈ us ↔ d ∈ ds) → M p = none → k (.own p) (put M p (.lst ((sortD us).map .dat)))
  | _ => False
theorem refs_of {H : Hp} : ∀ {ds : List Dt} {vs : List V}, DqAll H vs ds → (∀ d ∈ ds, FlatT d) → ∃ ks : List (Addr × Dt), vs = ks.map (fun p => V.ref p.1) ∧ ds = ks.map (·.2) ∧ ∀ p ∈ ks, Dq H (.ref p.1) p.2
  | [], _, .nil, _ => ⟨[], rfl, rfl, fun p hp => (nomatch hp)⟩
  | d :: ds, v :: vs, .cons r t, h => by
    obtain ⟨ks, h1, h2, h3⟩ := refs_of t fun z hz => h z (List.mem_cons_of_mem _ hz)
    obtain ⟨xs, e, _⟩ := h d List.mem_cons_self
    have r0 := r
    rw [e] at r
    obtain ⟨a, us, rfl, _, _⟩ := dp_tup_inv r
    refine ⟨(a, d) :: ks, by rw [List.map_cons, h1], by rw [List.map_cons, ← h2], fun p hp => ?_⟩
    rcases List.mem_cons.mp hp with rfl | hp
    · exact r0
    · exact h3 p hp
theorem pair_refs {H : Hp} : ∀ {L : List (Addr × Dt)}, (∀ p ∈ L, Dq H (.ref p.1) p.2) → DqAll H (L.map fun p => V.ref p.1) (L.map (·.2))
  | [], _ => .nil
  | p :: L, h => .cons (h p List.mem_cons_self) (pair_refs fun q hq => h q (List.mem_cons_of_mem _ hq))
theorem nodup_map {α β : Type} {f : α → β} : ∀ {l : List α}, (l.map f).Nodup → l.Nodup
  | [], _ => List.nodup_nil
  | a :: l, h => by
    rw [List.map_cons, List.nodup_cons] at h
    exact List.nodup_cons.mpr ⟨fun z => h.1 (List.mem_map.mpr ⟨a, z, rfl⟩), nodup_map h.2⟩
theorem sim_ss {K : PySem.W.Frag} {P : Program} {w : World} : SimC (fun xs H Q => rSetOf K P w xs H fun v H1 => rSortSet K P w [v] H1 Q) fSS := by
  intro ss M k xs H Hc Q h r O q
  unfold fSS at h
  split at h
  · obtain ⟨x, rfl, rx⟩ := rps1 r
    obtain ⟨ds, D, l, hD, hin, hf, hal, hso, hinj, h⟩ := h
    obtain ⟨a, vs, rfl, g1, g2⟩ := l.at_ O rx
    obtain ⟨ks, rfl, rfl, hk⟩ := refs_of (rps_dat g2) hf
    have two : ∀ p ∈ ks, p.2 ∈ ks.map (·.2) := fun p hp => List.mem_map.mpr ⟨p, hp, rfl⟩
    refine ⟨a, ks, D, rfl, SqL.of g1, fun p hp => ⟨hf _ (two p hp), dq_dp (dp_ex O.ex (hk p hp))⟩, hD, fun p hp => hin _ (two p hp), fun b L hb hL hall hnd => ?_⟩
    have O2 := O.waste (o := SetO P w b (L.map rowOf)) hb
    have sub : ∀ d ∈ L.map (·.2), d ∈ ks.map (·.2) := fun d hd => by
      obtain ⟨p, hp, rfl⟩ := List.mem_map.mp hd
      exact two p (hL p hp)
    refine ⟨b, L, rfl, upd_same, fun p hp => ⟨hf _ (two p (hL p hp)), dq_dp (dp_ex O2.ex (hk p (hL p hp)))⟩, fun d hd d' hd' => hal d (sub d hd) d' (sub d' hd'), hso.imp (fun z d hd => z d (sub d hd)) (fun z d hd => z d (sub d hd)), fun L1 p pm hp => ?_⟩
    have es : (L1.mergeSort (PySem.W.dataLe false fun q => q.2)).map (·.2) = sortD (L1.map (·.2)) := List.map_mergeSort fun a _ b _ => rfl
    have hs : ∀ z ∈ L1.mergeSort (PySem.W.dataLe false fun q => q.2), z ∈ L := fun z hz => pm.mem_iff.mp (List.mem_mergeSort.mp hz)
    have hlen : L.length < 64 := by
      have e1 : (L.map (·.2)).Nodup := nodup_map (f := keyD) (by rw [List.map_map]; exact hnd)
      have := @nodup_le _ (fun a b => Classical.propDecidable (a = b)) (L.map (·.2)) D e1 fun d hd => by
        obtain ⟨p, hp, rfl⟩ := List.mem_map.mp hd
        exact hin _ (two p (hL p hp))
      rw [List.length_map] at this
      omega
    refine q.own O2 (ss := (sortD (L1.map (·.2))).map .dat) (by rw [← es]; exact dat_rps (pair_refs fun z hz => hk z (hL z (hs z hz)))) (by rw [List.length_map, sortD_len, List.length_map, pm.length_eq, sizeLine_eq]; omega) hp
      (h (L1.map (·.2)) p ((pm.map (·.2)).nodup_iff.mpr (nodup_map (f := keyD) (by rw [List.map_map]; exact hnd))) (fun d => ?_) (O2.freeM hp))
    rw [(pm.map (·.2)).mem_iff]
    refine ⟨sub d, fun hd => ?_⟩
    obtain ⟨p0, hp0, rfl⟩ := List.mem_map.mp hd
    obtain ⟨q0, hq0, e0⟩ := List.mem_map.mp (hall p0 hp0)
    rw [← hinj q0.2 (two q0 (hL q0 hq0)) p0.2 (two p0 hp0) e0]
    exact List.mem_map.mpr ⟨q0, hq0, rfl⟩
  · exact h.elim
theorem xe_two {X : Cx} {das : DA} {r rs : List V → Hp → VK → Prop} {f : DC} {ex : Expr} (hf : SimC (fun xs H Q => r xs H fun v H1 => rs [v] H1 Q) f) (h : PE X ex (tCB rs (tCons (tCB r (LA das)) tNil))) : XE X ex (dCB f das) := xe_of h fun Γ M k σ H Hc Q hd F O q =>
  simLA Γ M _ σ H Hc _ hd F O fun vs ss M1 H1 Hc1 e1 O1 r1 h1 => hf ss M1 k vs H1 Hc1 Q h1 r1 O1 (q.ex e1)
end DS
namespace DS
open PySem PySem.Spec PyProof.Rows L2 DL
open PySem.SeqAt
section
variable {prog : Program} {w : World} {A : Around} {E : Value → Shared → Prop} {s : Shared}
/-- min(a list of data): the place of the first of the least -/
theorem min_at {l : Addr} {vs : Array Value} {x : PyData} {xs : List PyData} {as : List Addr} {Q : Value → Shared → Prop} (hh : A.handled = none) (hl : s.heap.IsList l vs) (hr : PySem.ReadsAll s.heap vs.toList (x :: xs) as) (ha : PySem.W.AlikeAll (x :: xs)) (hu : A.units + 1 + PyData.depthAll (x :: xs) < cLine)
    (h : ∀ (i : Nat) v h' tk, vs[i]? = some v → (x :: xs)[i]? = some (PySem.W.minD x xs) → (∀ b o, s.heap.get? b = some o → h'.get? b = some o) → Q v { s with heap := h', toks := tk }) :
    wpAny (model prog w) A (call (.builtin "min") [.ref l]) Q E s := by
  have hn : vs.size = xs.length + 1 := PySem.W.readsAll_len hr
  refine call_min_walkH (PySem.W.iter_listW (A := A.in1) hh hl fun s₂ e W st hfp hw hk => ?_)
  refine ⟨_, _, _, _, _, _, _, s.heap, _, rfl, W, st, hfp, by omega, hw, hk, PySem.W.cmpIn_lt (A := A.in1) hr ha (by show A.units + 1 + _ < _; exact hu), fun v s' hP m => ?_⟩
  obtain ⟨h', tk, rfl, hk'⟩ := PySem.W.moved_old e rfl m
  have e1 : vs.size - 1 = xs.length := by omega
  obtain ⟨e0, e2⟩ := PySem.W.argBest_fold PySem.W.dataLt PyData.none x xs xs.length (Nat.le_refl _)
  rw [List.take_length] at e2
  rw [e1] at hP
  refine h _ v h' tk hP ?_ hk'
  rw [List.getD_eq_getElem?_getD] at e2
  have hlt : argBest (fun i j => PySem.W.dataLt ((x :: xs).getD i PyData.none) ((x :: xs).getD j PyData.none)) xs.length < (x :: xs).length := by rw [List.length_cons]; omega
  rw [List.getElem?_eq_getElem hlt] at e2 ⊢
  exact congrArg some e2
end
def rMinD (K : PySem.W.Frag) : List V → Hp → VK → Prop := fun vs H Q => ∃ (a : Addr) (xs : List V) (d : PyData) (ds : List PyData), vs = [V.ref a] ∧ SqL K H a xs ∧ DpAll K H xs (d :: ds) ∧ PySem.W.AlikeAll (d :: ds) ∧ PyData.depthAll (d :: ds) ≤ 60 ∧
  ∀ (i : Nat) (x : V), xs[i]? = some x → (d :: ds)[i]? = some (PySem.W.minD d ds) → Q x H
theorem vals_at : ∀ {xs : List V} {us : List Value} {i : Nat} {v : Value}, Vals xs us → us[i]? = some v → ∃ x, xs[i]? = some x ∧ RelV x v
  | [], _, _, _, .nil, h => by cases h
  | x :: xs, _, 0, _, .cons r t, h => by cases h; exact ⟨x, rfl, r⟩
  | x :: xs, _, i + 1, _, .cons r t, h => vals_at (xs := xs) (i := i) t h
theorem cr_minD {X : Cx} (hc : X.calm = true) (hu : X.A.units + 64 < cLine) : CallR X (.builtin "min") (rMinD X.K) := by
  intro pins s σ H vs us Q I r h
  obtain ⟨a, xs, d, ds, rfl, hs, hd, hal, hdep, q⟩ := h
  obtain ⟨its, rv, hl, hz⟩ := I.list hs
  rw [Vals.ref1 r]
  obtain ⟨as, hr⟩ := Dp.readsAll I (d :: ds) xs its hd rv
  refine min_at (I.ok.hd hc) hl.isList (as := as) (by simpa using hr) hal (by omega) fun i v h' tk hv hm k => ?_
  have hv' : its[i]? = some v := by simpa using hv
  obtain ⟨x, hx, rx⟩ := vals_at rv hv'
  have I2 : Inv X pins σ H { s with heap := h', toks := tk } := I.kept fun b o e => k b o e
  exact ⟨x, H, I2, rx, q i x hx hm⟩
def fMinD : DC := fun ss M k => match ss with
  | [s] => ∃ (d : Dt) (ds : List Dt), IsL M s ((d :: ds).map .dat) ∧ PySem.W.AlikeAll (d :: ds) ∧ PyData.depthAll (d :: ds) ≤ 60 ∧ k (.dat (PySem.W.minD d ds)) M
  | _ => False
theorem dqs_at {H : Hp} : ∀ {xs : List V} {ds : List Dt} {i : Nat} {x : V} {d : Dt}, DqAll H xs ds → xs[i]? = some x → ds[i]? = some d → Dq H x d
  | _, _, 0, _, _, .cons r _, h1, h2 => by cases h1; cases h2; exact r
  | _, _, i + 1, _, _, .cons _ t, h1, h2 => dqs_at t h1 h2
theorem sim_minD {K : PySem.W.Frag} : SimC (rMinD K) fMinD := by
  intro ss M k xs H Hc Q h r O q
  unfold fMinD at h
  split at h
  · obtain ⟨x, rfl, rx⟩ := rps1 r
    obtain ⟨d, ds, l, hal, hdep, h⟩ := h
    obtain ⟨a, vs, rfl, g1, g2⟩ := l.at_ O rx
    have g3 := rps_dat g2
    exact ⟨a, vs, d, ds, rfl, SqL.of g1, dqs_dps (dps_ex O.ex g3), hal, hdep, fun i x hx hm => q.dat O (dqs_at g3 hx hm) h⟩
  · exact h.elim
end DS
namespace DL
open PySem PySem.Spec PyProof.Rows L2
section
variable {X : Cx}
theorem xs_tryK {x n t : Str} {c : Value} {i j : Nat} {body : List Stmt} {np pos pos' q1 q2 q3 : Pos} {db : Hp → Option Fm → DX → DS} {K : PySem.W.Frag} (hK : X.K = K) (hx : X.ex = []) (hs : X.stack = X.env :: X.outer) (hf : X.env.frame = some X.env.locals) (hN : X.N.Nodup) (hi : X.N[i]? = some n) (hln : X.env.kindOf n = some .local)
    (hj : X.N[j]? = some t) (hlt : X.env.kindOf t = some .local) (hc : Names X x c) (hdn : (n == ("__debug__" : Str)) = false) (hcn : (n == ("__classdict__" : Str)) = false) (hsw : swapsWith (.Name n q2) (some (.Name t q1)) q3.line X.env = pure false)
    (hb : ∀ (W : WX) (pn : List (Addr × Obj)) (xe : Value → Shared → Prop) (H0 : Hp) (G0 : Option Fm) (kx : DX), Wish (X.tr pn xe) W H0 G0 kx → PassesOwn (model X.prog X.w) X.A X.env xe → XSs (X.tr pn xe) body (db H0 G0 kx)) :
    XS X (.Try body [.ExceptHandler (some (.Name x np)) (some n) [.Assign [.Name t q1] (.Name n q2) q3] pos'] [] [] pos) (dTry K c i j db) := by
  subst hK
  exact xs_try hx hs hf hN hi hln hj hlt hc hdn hcn hsw hb
end
end DL
namespace DL
open PySem PySem.Spec PyProof.Rows L2
open Evl (Ex)
/-! ### one < other, of alike data -/
def rLtD (K : PySem.W.Frag) : R2 := fun x y H Q => ∃ d e, Dp K H x d ∧ Dp K H y e ∧ PySem.W.alike d e = true ∧ d ≠ .none ∧ d.depth ≤ 60 ∧ Q (.bl (PySem.W.dataLt d e)) H
section
variable {X : Cx} {a b : Expr} {da db : DE} {pos : Pos}
theorem op_ltAll (hu : X.A.units + 64 < cLine) : OpR X (compareOp .Lt) (rLtD X.K) := by
  intro pins s σ H x y v u Q I rx ry h
  obtain ⟨d, e, hd, he, hal, hn, hz, q⟩ := h
  obtain ⟨as, r1⟩ := Dp.reads I d x v hd rx
  obtain ⟨bs, r2⟩ := Dp.reads I e y u he ry
  exact PySem.W.lt_data r1 r2 hal hn (by have := Nat.min_le_left d.depth e.depth; omega) ⟨.bl _, H, I, rfl, q⟩
def fLtD : D2 := fun s t M k => ∃ d e, IsD M s d ∧ IsD M t e ∧ PySem.W.alike d e = true ∧ d ≠ .none ∧ d.depth ≤ 60 ∧ k (.dat (.bool (PySem.W.dataLt d e))) M
theorem sim_ltD {K : PySem.W.Frag} : Sim2 (rLtD K) fLtD := by
  intro s t M k x y H Hc Q h rx ry O q
  obtain ⟨d, e, h1, h2, s1, s2, s3, h3⟩ := h
  exact ⟨d, e, h1.at_ O rx, h2.at_ O ry, s1, s2, s3, q.dat O (.bl _) h3⟩
theorem xe_ltD (hu : X.A.units + 64 < cLine) (ha : XE X a da) (hb : XE X b db) : XE X (.Compare a [.Lt] [b] pos) (dOp fLtD da db) := xe_cmp (op_ltAll hu) (nomark _) sim_ltD ha hb
end
end DL
namespace DL
open PySem PySem.Spec PyProof.Rows L2
open Evl (Ex)
/-- repr, of a list of ours too -/
def fReprA : DC := fun ss M k => match ss with
  | [.dat d] => d.showable = true ∧ d.shown.length ≤ 16777216 ∧ d.depth ≤ 40 ∧ k (.dat (.str d.shown)) M
  | [.own a] => ∃ ds : List Dt, M a = some (.lst (ds.map .dat)) ∧ (PyData.list ds).showable = true ∧ (PyData.list ds).shown.length ≤ 16777216 ∧ (PyData.list ds).depth ≤ 40 ∧ k (.dat (.str (PyData.list ds).shown)) M
  | _ => False
theorem sim_reprA {K : PySem.W.Frag} : SimC (rRepr K) fReprA := by
  intro ss M k xs H Hc Q h r O q
  unfold fReprA at h
  split at h
  · obtain ⟨x, rfl, rx⟩ := rps1 r
    exact ⟨x, _, rfl, dp_ex O.ex rx, h.1, h.2.1, h.2.2.1, q.dat O (.str _) h.2.2.2⟩
  · obtain ⟨x, rfl, rx⟩ := rps1 r
    obtain ⟨ds, hm, h1, h2, h3, h⟩ := h
    cases rx
    obtain ⟨_, vs, g1, g2⟩ := O.ob _ _ hm
    exact ⟨_, _, rfl, .lst g1 (dps_ex O.ex (rps_dat g2)), h1, h2, h3, q.dat O (.str _) h⟩
  · exact h.elim
end DL
/-! Set comprehensions whose items are of any kind that a set rule serves (the library's serves truths alone). -/
namespace DS
open PySem PySem.Spec PyProof.Rows L2 PpSet
section
variable {X : Cx} {κ : Type} [DecidableEq κ]
/-- a new member comes in -/
def AddG (X : Cx) (O : Addr → (κ → Bool) → Nat → HO) (inj : κ → V) : Prop := ∀ (Y : Cx), Y.prog = X.prog → Y.w = X.w → ∀ (pins : List (Addr × Obj)) (σ : L2.St) {H : Hp} {s : Shared} {E : Value → Shared → Prop} {D : Addr} {S : κ → Bool} {n : Nat} {y : κ} {u : Value} {Q : Value → Shared → Prop}, Inv Y pins σ H s → RelV (inj y) u → H D = some (O D S n) → n + 1 < scanBound →
  (∀ s', Inv Y pins σ (upd H D (O D (fun j => S j || decide (j = y)) (if S y = true then n else n + 1))) s' → Q .none s') → wpAny (model Y.prog Y.w) Y.A (call (.builtin "set.add") [.ref D, u]) Q E s
def tScG (O : Addr → (κ → Bool) → Nat → HO) (inj : κ → V) (wi : TI) (g : TG) (tt : TT) (te : TE) (vs : List Nat) : TE := fun σ H Q => wi σ H fun J H1 => ∀ D, H1 D = none → ∃ W : Nat → Nat → Hp → Prop, (∃ m, W 0 m (upd H1 D (O D (fun _ => false) 0))) ∧ ∀ i m H, W i m H →
  (J.stop i H ∧ Q (.ref D) H) ∨ (J.go i H ∧ ∃ Nx : Hp → Prop, (∀ H', Nx H' → ∃ m', m' < m ∧ W (i + 1) m' H') ∧ ∀ x H', J.yld i H x H' → g x (wipe σ vs) H' fun σ2 H2 => wipe σ2 vs = wipe σ vs ∧ tt σ2 H2 fun b H3 =>
    if b = true then te σ2 H3 fun y H4 => ∃ (c : κ) (S : κ → Bool) (n : Nat), y = inj c ∧ H4 D = some (O D S n) ∧ n + 1 < scanBound ∧ Nx (upd H4 D (O D (fun j => S j || decide (j = c)) (if S c = true then n else n + 1))) else Nx H3)
variable {O : Addr → (κ → Bool) → Nat → HO} {inj : κ → V}
theorem scG_core {pins : List (Addr × Obj)} {s : Shared} {σ : L2.St} {H : Hp} {Q : VK} {elt tg iter : Expr} {ifs : List Expr} {scope : Scope} {own : List (PySem.Str × Nat)} {pos pos' : Pos} {wi : TI} {g : TG} {tt : TT} {te : TE} {use : Option (Value → Sem Unit)} {Qf : Value → Shared → Prop}
    (fresh : ∀ (H : Hp) (h : Heap), ObjOk X.prog X.w H (h.push { cls := .type "set", dict := none, data := .set #[] 0 (.fresh 0 0 (!X.w.params.followText "set-order")) }) h.objs.size (O h.objs.size (fun _ => false) 0)) (add : AddG X O inj)
    (hc : X.calm = true) (hN : X.N.Nodup) (I : Inv X pins σ H s) (hi : PI X tg iter wi) (ok : BlkOk X.N X.env.scope scope own)
    (hg : ∀ (s : Shared) (H : Hp) (C : Addr) (cl : List (PySem.Str × Addr)) (fp : List Addr), PG (X.blk s H scope (compEnvC scope cl C X.env) fp) tg g) (ht : ∀ (s : Shared) (H : Hp) (C : Addr) (cl : List (PySem.Str × Addr)) (fp : List Addr), PTs (X.blk s H scope (compEnvC scope cl C X.env) fp) ifs tt)
    (he : ∀ (s : Shared) (H : Hp) (C : Addr) (cl : List (PySem.Str × Addr)) (fp : List Addr), PE (X.blk s H scope (compEnvC scope cl C X.env) fp) elt te) (hs : ∀ x, foldedSetIterable iter X.env x = pure x)
    (h : tScG O inj wi g tt te (own.map (·.2)) σ H Q)
    (hRR : ∀ D C s' m H', Inv X pins σ H' s' → Q (.ref D) H' → s'.heap.Ns C m → FpOk X pins H' C → compPost (model X.prog X.w) X.A X.xe use Qf (.ref D) C (.ok .next) s') :
    wpAny (model X.prog X.w) X.A (comprehension (.SetComp elt [⟨tg, iter, ifs, 0⟩] scope pos) scope X.env pos' (newSet (.type "set")) false (eval iter X.env) use) Qf X.xe s := by
  have hfree : ∀ y ∈ scope.names, y.2 = .free → ∃ c, X.env.cells.lookup y.1 = some c := fun y hy e => by
    rcases ok.free y hy e with k | k
    · exact I.ok.has _ (.inl k)
    · exact I.ok.has _ (.inr k)
  refine wpAny_comprehension_free (use := use) rfl hs (closure_ok hfree) ok.kind (fun y hy e => by rw [ok.uniq y hy, e])
    (thn (hi.run pins s σ H _ I h) fun xv s1 hx => thn hx fun itv s2 h2 => ?_)
  obtain ⟨it, fp, tn, J, H2, e, I2, T, st2, f2, q⟩ := h2
  subst e
  refine newSet_ok (newEnv_comp ?_)
  generalize hD : s2.heap.objs.size = D
  have hDn : H2 D = none := I2.hok.fresh (Nat.le_of_eq hD)
  obtain ⟨W, ⟨m0, w0⟩, turn⟩ := q D hDn
  -- the new list
  generalize hs3 : ({ s2 with heap := s2.heap.push { cls := .type "set", dict := none, data := .set #[] 0 (.fresh 0 0 (!X.w.params.followText "set-order")) } } : Shared) = s3
  have I3 : Inv X pins σ (upd H2 D (O D (fun _ => false) 0)) s3 := by
    rw [← hs3]
    refine I2.laid (t' := s2.toks) (fun b o e => Heap.get?_push_of_some _ e) (Nat.le_of_eq hD) ?_
    rw [← hD]
    exact fresh _ _
  have h3 : s3.heap = s2.heap.push { cls := .type "set", dict := none, data := .set #[] 0 (.fresh 0 0 (!X.w.params.followText "set-order")) } := by rw [← hs3]
  have sz : ∀ b ∈ fp, b < s2.heap.objs.size := fun b hb => by
    obtain ⟨o, e, _⟩ := T.obj _ _ st2 b hb
    exact Heap.lt_size e
  have f3 : ∀ b ∈ fp, FpOk X pins (upd H2 D (O D (fun _ => false) 0)) b ∧ b < s3.heap.objs.size := fun b hb => by
    have hlt := sz b hb
    refine ⟨⟨?_, (f2 b hb).2⟩, by rw [h3, Heap.size_push]; exact Nat.lt_succ_of_lt hlt⟩
    rw [upd_ne (by rw [← hD]; exact Nat.ne_of_lt hlt)]
    exact (f2 b hb).1
  have st3 : tn 0 s3.heap := T.keep _ _ _ st2 fun b _ o e => by rw [h3]; exact Heap.get?_push_of_some _ e
  have I4 := block_start I3 ok hN f3
  have pg := hg s3 (upd H2 D (O D (fun _ => false) 0)) s3.heap.objs.size (cellsFrom (s3.heap.objs.size + 1) scope.names (cloFrom X.env.cells scope.names [])) fp
  have pt := ht s3 (upd H2 D (O D (fun _ => false) 0)) s3.heap.objs.size (cellsFrom (s3.heap.objs.size + 1) scope.names (cloFrom X.env.cells scope.names [])) fp
  have pe := he s3 (upd H2 D (O D (fun _ => false) 0)) s3.heap.objs.size (cellsFrom (s3.heap.objs.size + 1) scope.names (cloFrom X.env.cells scope.names [])) fp
  show codeAny _ _ (.compStart (.SetComp elt [⟨tg, iter, ifs, 0⟩] scope pos) 0 (.ref it) (.ref D) (compEnvC scope (cellsFrom (s3.heap.objs.size + 1) scope.names (cloFrom X.env.cells scope.names [])) s3.heap.objs.size X.env)) (compPost (model X.prog X.w) X.A X.xe use Qf (.ref D) s3.heap.objs.size) { s3 with heap := pushCells (s3.heap.push { cls := .type "dict", data := .dict #[] }) scope.names }
  have nfp : ∀ b ∈ fp, (upd H2 D (O D (fun _ => false) 0)) b = none := fun b hb => (f3 b hb).1.1
  generalize hce : compEnvC scope (cellsFrom (s3.heap.objs.size + 1) scope.names (cloFrom X.env.cells scope.names [])) s3.heap.objs.size X.env = ce at I4 pg pt pe ⊢
  have cL : ce.locals = s3.heap.objs.size := by subst hce; rfl
  generalize hH3 : upd H2 D (O D (fun _ => false) 0) = H3 at I3 I4 pg pt pe w0 nfp f3
  generalize hs4 : ({ s3 with heap := pushCells (s3.heap.push { cls := .type "dict", data := .dict #[] }) scope.names } : Shared) = s4 at I4 ⊢
  have st4 : tn 0 s4.heap := T.keep _ _ _ st3 fun b _ o e => by rw [← hs4]; exact pushCells_keeps _ _ _ _ (Heap.get?_push_of_some _ e)
  have stat : ∀ {σ' : L2.St} {H' : Hp} {s' : Shared}, Inv (X.blk s3 H3 scope ce fp) [] σ' H' s' → (∀ b ∈ fp, H' b = none) → ∀ b ∈ fp, FpOk (X.blk s3 H3 scope ce fp) [] H' b := fun {σ' H' s'} I' hn b hb =>
    ⟨hn b hb, (I'.ok.exf b hb).1, I'.ok.exfs b hb, .inl hb, fun x c e => (I'.ok.exf b hb).2 x c e, fun p hp => absurd (show p ∈ ([] : List (Addr × Obj)) ++ [] from hp) (by simp)⟩
  have loop : codeAny (model X.prog X.w) X.A (.compLoop (.SetComp elt [⟨tg, iter, ifs, 0⟩] scope pos) 0 (.ref it) (.ref D) ce) (compPost (model X.prog X.w) X.A X.xe use Qf (.ref D) s3.heap.objs.size) s4 := by
    refine compLoopS_any (fun n s' => ∃ i H', Inv (X.blk s3 H3 scope ce fp) [] (wipe σ (own.map (·.2))) H' s' ∧ tn i s'.heap ∧ (∀ b ∈ fp, H' b = none) ∧ W i n H') ?_ m0 ⟨0, H3, I4, st4, nfp, w0⟩
    rintro n s5 ⟨i, H5, I5, st5, n5, w5⟩
    rcases turn i n H5 w5 with ⟨stop, qq⟩ | ⟨go, Nx, hNx, step⟩
    · have td := T.done (X.blk s3 H3 scope ce fp) rfl rfl rfl hc i [] s5 _ H5 (fun _ _ => False) I5 (stat I5 n5) st5 stop
      refine thnF td fun r s6 ⟨hr, I6⟩ => ?_
      subst hr
      -- back in the def's context
      have I7 : Inv X pins σ H5 s6 := I3.call' (ch := fp) I6.os I6.base I6.hok I6.bare fun b hb => ⟨(f3 b hb).1.2.2.2.1, (f3 b hb).1.2.1, (f3 b hb).1.2.2.2.2.1, (f3 b hb).1.2.2.2.2.2⟩
      have nC : H5 s3.heap.objs.size = none := by
        have z : H5 ce.locals = none := I6.free
        rw [cL] at z
        exact z
      obtain ⟨m, hn, _⟩ := I6.loc
      have hn : s6.heap.Ns ce.locals m := hn
      rw [cL] at hn
      exact hRR D s3.heap.objs.size s6 m H5 I7 qq hn (I3.fpOk (Nat.le_refl _) nC)
    · have ti := T.item (X.blk s3 H3 scope ce fp) rfl rfl rfl hc i [] s5 _ H5 (fun _ _ => False) I5 (stat I5 n5) st5 go
      refine thnF ti fun r s6 ⟨u, hr, h6⟩ => ?_
      subst hr
      refine thnF h6 fun _ s7 ⟨x, H7, I7, r7, y7, st7, n7⟩ => ?_
      have I7' := I7.pinned (stat I7 n7) (T.obj _ _ st7)
      refine thnF (pg.run _ s7 _ H7 x u _ I7' r7 (step x H7 y7)) fun _ s8 ⟨σ8, H8, I8, hw8, q8⟩ => ?_
      refine thnF (pt.run _ s8 σ8 H8 _ I8 q8) fun b s9 ⟨H9, I9, q9⟩ => ?_
      -- the turn's end
      have fin : ∀ {s' : Shared} {H' : Hp}, Inv (X.blk s3 H3 scope ce fp) ([] ++ pinsAt fp s7.heap) σ8 H' s' → Nx H' → ∃ m, m < n ∧ ∃ i H', Inv (X.blk s3 H3 scope ce fp) [] (wipe σ (own.map (·.2))) H' s' ∧ tn i s'.heap ∧ (∀ b ∈ fp, H' b = none) ∧ W i m H' := fun {s' H'} I' nx => by
        obtain ⟨m', hm, w'⟩ := hNx H' nx
        have pin' : ∀ b ∈ fp, ∀ o, s7.heap.get? b = some o → s'.heap.get? b = some o ∧ H' b = none := fun b hb o e =>
          let z := I'.pin (b, o) (List.mem_append_right _ (List.mem_append_right _ (mem_pinsAt hb e)))
          ⟨z.1, z.2.1⟩
        have hl : (wipe σ (own.map (·.2))).length = σ8.length := by rw [← hw8, wipe_length]
        refine ⟨m', hm, i + 1, H', (I'.unpinned (pins := [])).weak hl (fun j v e => ?_), T.keep _ _ _ st7 fun b hb o e => (pin' b hb o e).1, fun b hb => ?_, w'⟩
        · rw [← hw8] at e
          exact (wipe_some e).1
        · obtain ⟨o, e, _⟩ := T.obj _ _ st7 b hb
          exact (pin' b hb o e).2
      cases b with
      | false =>
        simp only [Bool.false_eq_true, if_false] at q9 ⊢
        exact fin I9 q9
      | true =>
        simp only [if_true] at q9 ⊢
        refine thnF (pe.run _ s9 σ8 H9 _ I9 q9) fun z s10 ⟨yv, H10, I10, r10, cb, S0, n0, ey, hD10, hz10, nx⟩ => ?_
        subst ey
        refine add (X.blk s3 H3 scope ce fp) rfl rfl _ σ8 I10 r10 hD10 hz10 ?_
        exact fun s11 I11 => fin I11 nx
  exact codeAny_compStart_set loop (T.self X.A 0 _ _ _ st4 loop)
theorem pe_scG {elt tg iter : Expr} {ifs : List Expr} {scope : Scope} {own : List (PySem.Str × Nat)} {pos : Pos} {wi : TI} {g : TG} {tt : TT} {te : TE}
    (fresh : ∀ (H : Hp) (h : Heap), ObjOk X.prog X.w H (h.push { cls := .type "set", dict := none, data := .set #[] 0 (.fresh 0 0 (!X.w.params.followText "set-order")) }) h.objs.size (O h.objs.size (fun _ => false) 0)) (add : AddG X O inj) (hc : X.calm = true) (hN : X.N.Nodup) (hi : PI X tg iter wi) (ok : BlkOk X.N X.env.scope scope own)
    (hg : ∀ (s : Shared) (H : Hp) (C : Addr) (cl : List (PySem.Str × Addr)) (fp : List Addr), PG (X.blk s H scope (compEnvC scope cl C X.env) fp) tg g) (ht : ∀ (s : Shared) (H : Hp) (C : Addr) (cl : List (PySem.Str × Addr)) (fp : List Addr), PTs (X.blk s H scope (compEnvC scope cl C X.env) fp) ifs tt)
    (he : ∀ (s : Shared) (H : Hp) (C : Addr) (cl : List (PySem.Str × Addr)) (fp : List Addr), PE (X.blk s H scope (compEnvC scope cl C X.env) fp) elt te) (hs : ∀ x, foldedSetIterable iter X.env x = pure x := by intro _; rfl) :
    PE X (.SetComp elt [⟨tg, iter, ifs, 0⟩] scope pos) (tScG O inj wi g tt te (own.map (·.2))) := by
  refine ⟨fun pins s σ H Q I h => ?_⟩
  rw [eval_SetComp]
  refine scG_core fresh add hc hN I hi ok hg ht he hs h fun D C s' m H' I' q hn f => ⟨m, hn, fun h'' sb => ?_⟩
  obtain ⟨f0, f1, f2, f3, f4, f5⟩ := f
  exact ⟨.ref D, H', I'.turned (t' := s'.toks) (fun b o hb e => (sb.2 b hb).trans e) f0 f1 f3 f4 f5, rfl, q⟩
theorem add_int (X : Cx) : AddG X (L2.SetO X.w) V.int := fun Y hp hw pins σ H s E D S n y u Q I r hD hz h => by
  obtain ⟨tk, rfl⟩ := r
  have hD' : H D = some (L2.SetO Y.w D S n) := by rw [hw]; exact hD
  have R := setO_get I hD'
  refine setR_add R hz fun h' sb new => ?_
  have he : ∃ u, h'.get? D = some u := by
    have ⟨o, _, _, _, ho, _⟩ := new
    exact ⟨o, ho⟩
  have J := I.write (e := D) (t' := s.toks + 1) (by rw [hD']; trivial) (.inl rfl) (fun b u hb hu => (sb.2 b hb).trans hu) he (L2.setO_new new)
  rw [hw] at J
  exact h _ J
end
end DS
namespace DS
open PySem PySem.Spec PyProof.Rows L2 DL
open Evl (Ex)
/-- sorted({el for x in xs}), el whole numbers: ms are those that were met, D the set -/
def dSortSc (de : DE) (j : Nat) (t : DB) (el : DE) (vs : List Nat) : DE := fun Γ M k => de Γ M fun s M1 => ∃ (xs : List Sl), IsL M1 s xs ∧ xs.length < 4000 ∧ ∀ D : Addr, M1 D = none → ∃ Inv : Nat → List Int → Mem → Prop, (∀ o, Inv 0 [] (put M1 D o)) ∧ (∀ i ms M', i ≤ xs.length → Inv i ms M' → IsL M' s xs) ∧
  (∀ i ms x M', xs[i]? = some x → Inv i ms M' → t ((wipeF Γ vs).set j (some x)) M' fun b M2 => (b = true → el ((wipeF Γ vs).set j (some x)) M2 fun y M3 => ∃ c : Int, y = .dat (.int c) ∧ M3 D = M' D ∧ ∀ o, Inv (i + 1) (if c ∈ ms then ms else ms ++ [c]) (put M3 D o)) ∧ (b = false → M2 D = M' D ∧ Inv (i + 1) ms M2)) ∧
  ∀ ms M', ms.Nodup → Inv xs.length ms M' → ms.length < 64 ∧ ∀ (ns : List Int) p, ns.Pairwise (· < ·) → (∀ c, c ∈ ns ↔ c ∈ ms) → M' p = none → k (.own p) (put M' p (.lst (ns.map fun n => .dat (.int n))))
theorem met {c : Int} {ms : List Int} {S : Int → Bool} (h : ∀ v, S v = decide (v ∈ ms)) (hn : ms.Nodup) : (∀ v, (S v || decide (v = c)) = decide (v ∈ if c ∈ ms then ms else ms ++ [c])) ∧ (if S c = true then ms.length else ms.length + 1) = (if c ∈ ms then ms else ms ++ [c]).length ∧ (if c ∈ ms then ms else ms ++ [c]).Nodup := by
  by_cases e : c ∈ ms
  · rw [if_pos e, h c, decide_eq_true e]
    refine ⟨fun v => ?_, rfl, hn⟩
    rw [h v]
    by_cases q : v = c
    · subst q
      rw [decide_eq_true e]
      rfl
    · rw [decide_eq_false q, Bool.or_false]
  · rw [if_neg e, h c, decide_eq_false e]
    refine ⟨fun v => ?_, by rw [List.length_append]; rfl, List.nodup_append.mpr ⟨hn, List.nodup_cons.mpr ⟨fun z => (nomatch z), List.nodup_nil⟩, fun a ha b hb => ?_⟩⟩
    · rw [h v, ← Bool.decide_or]
      exact decide_eq_decide.mpr ⟨fun z => List.mem_append.mpr (z.imp id List.mem_singleton.mpr), fun z => (List.mem_append.mp z).imp id List.mem_singleton.mp⟩
    · rw [List.mem_singleton.mp hb]
      exact fun z => e (z ▸ ha)
theorem sim_sortSc {K : PySem.W.Frag} {w : World} {de : DE} {te : TE} {j : Nat} {t : DB} {el : DE} {tt : TT} {tel : TE} {vs : List Nat} (h : SimE te de) (ht : SimB tt t) (hel : SimE tel el) (hj : j ∈ vs) :
    SimE (tCB (rSortedSet w) (tCons (tScG (L2.SetO w) V.int (iList K te) (gName j) tt tel vs) tNil)) (dSortSc de j t el vs) := fun Γ M k σ H Hc Q hd F O q => by
  refine h Γ M _ σ H Hc _ hd F O fun v s M1 H1 Hc1 e1 O1 r1 h1 => ?_
  obtain ⟨xs, l, hz, h1⟩ := h1
  obtain ⟨a, ws, rfl, g1, g2⟩ := l.at_ O1 r1
  refine ⟨a, rfl, ⟨ws, SqL.of g1⟩, fun D hD => ?_⟩
  obtain ⟨Inv, i0, il, step, fin⟩ := h1 D (O1.freeM hD)
  refine ⟨fun i m Hc' => m = xs.length - i ∧ i ≤ xs.length ∧ ∃ (M' : Mem) (H' : Hp) (ms : List Int) (S : Int → Bool), Ex H1 H' ∧ DL.Own H' Hc' M' ∧ M' D = some (.raw (L2.SetO w D S ms.length)) ∧ (∀ v, S v = decide (v ∈ ms)) ∧ ms.Nodup ∧ ms.length ≤ i ∧ Inv i ms M',
    ⟨_, rfl, Nat.zero_le _, _, H1, [], fun _ => false, Evl.Ex.refl _, O1.born (u := .raw _) hD rfl, put_at, fun v => rfl, List.nodup_nil, Nat.zero_le _, i0 _⟩, ?_⟩
  rintro i m Hc' ⟨rfl, hi, M', H', ms, S, e2, O2, hM2, hms, hnd, hl, w'⟩
  obtain ⟨a', vs', e3, g3, g4⟩ := (il i ms M' hi w').at_ O2 (rp_ex e2 r1)
  cases e3
  have hlen := rps_len g4
  rcases Nat.lt_or_ge i xs.length with hlt | hge
  · obtain ⟨x0, hx0⟩ : ∃ x0, vs'[i]? = some x0 := ⟨vs'[i]'(by omega), List.getElem?_eq_getElem (by omega)⟩
    obtain ⟨sx, hs, rx⟩ := rps_get g4 hx0
    refine .inr ⟨⟨vs', x0, SqL.of g3, hx0⟩, fun Hc2 => ∃ (M' : Mem) (H' : Hp) (ms : List Int) (S : Int → Bool), Ex H1 H' ∧ DL.Own H' Hc2 M' ∧ M' D = some (.raw (L2.SetO w D S ms.length)) ∧ (∀ v, S v = decide (v ∈ ms)) ∧ ms.Nodup ∧ ms.length ≤ i + 1 ∧ Inv (i + 1) ms M', fun Hc2 z => ⟨xs.length - (i + 1), by omega, rfl, by omega, z⟩, fun x Hy y => ?_⟩
    obtain ⟨rfl, y⟩ := y
    have ex : x = x0 := Option.some.inj ((y vs' (SqL.of g3)).symm.trans hx0)
    subst ex
    refine ⟨wipe_back hj _, ?_⟩
    have F2 : DL.Fr H' ((wipe σ vs).set j (some x)) ((wipeF Γ vs).set j (some sx)) := (((F.ex e1).ex e2).wipe vs).set rx
    refine ht _ M' _ _ H' _ _ (step i ms sx M' hs w') F2 O2 fun b M3 H3 Hc3 e3 O3 h3 => ?_
    cases b with
    | true =>
      rw [if_pos rfl]
      refine hel _ M3 _ _ H3 Hc3 _ (h3.1 rfl) (F2.ex e3) O3 fun yv sy M4 H4 Hc4 e4 O4 r4 h4 => ?_
      obtain ⟨c, rfl, hD4, hin⟩ := h4
      rw [hM2] at hD4
      obtain ⟨m1, m2, m3⟩ := met (c := c) hms hnd
      refine ⟨c, S, ms.length, dp_int_inv r4, O4.ob D _ hD4, ?_, _, H4, _, _, e2.trans (e3.trans e4), O4.turn (u := .raw _) hD4 rfl, ?_, m1, m3, ?_, hin _⟩
      · unfold scanBound; omega
      · rw [put_at, m2]
      · split
        · omega
        · rw [List.length_append]; show _ + 1 ≤ _; omega
    | false =>
      rw [if_neg Bool.false_ne_true]
      obtain ⟨f1, f2⟩ := h3.2 rfl
      exact ⟨M3, H3, ms, S, e2.trans e3, O3, f1.trans hM2, hms, hnd, by omega, f2⟩
  · have ei : i = xs.length := Nat.le_antisymm hi hge
    subst ei
    obtain ⟨h64, fin⟩ := fin ms M' hnd w'
    refine .inl ⟨⟨vs', SqL.of g3, by omega⟩, D, S, ms.length, rfl, O2.ob D _ hM2, h64, fun ns p hp hmem hl2 hpn => ?_⟩
    refine (q.ex (e1.trans e2)).own O2 (ints_rps ns) (by rw [List.length_map, sizeLine_eq]; omega) hpn (fin ns p hp (fun c => ?_) (O2.freeM hpn))
    rw [hmem c, hms c, decide_eq_true_eq]
theorem xe_sortSc {X : Cx} {w : World} {ex : Expr} {de : DE} {j : Nat} {t : DB} {el : DE} {vs : List Nat} (h : PE X ex (tCB (rSortedSet w) (tCons (tScG (L2.SetO w) V.int (iList X.K (LE de)) (gName j) (LB t) (LE el) vs) tNil))) (hj : j ∈ vs) : XE X ex (dSortSc de j t el vs) := xe_of h (sim_sortSc simLE simLB simLE hj)
/-- set comprehensions of whole numbers -/
theorem fresh_int {X : Cx} (H : Hp) (h : Heap) : ObjOk X.prog X.w H (h.push { cls := .type "set", dict := none, data := .set #[] 0 (.fresh 0 0 (!X.w.params.followText "set-order")) }) h.objs.size (L2.SetO X.w h.objs.size (fun _ => false) 0) := L2.setO_new (setR_fresh X.w)
end DS
namespace DL
open PySem PySem.Spec PyProof.Rows L2
open Evl (Ex)
/-! ### tuples of anything; for over a tuple; max, min, sum of whole numbers -/
def IsT (M : Mem) (s : Sl) (xs : List Sl) : Prop := (∃ ds, s = .dat (.tuple ds) ∧ xs = ds.map .dat) ∨ ∃ a, s = .own a ∧ M a = some (.tup xs)
theorem IsT.dat {M : Mem} {ds : List Dt} : IsT M (.dat (.tuple ds)) (ds.map .dat) := .inl ⟨ds, rfl, rfl⟩
theorem IsT.own {M : Mem} {a : Addr} {xs : List Sl} (h : M a = some (.tup xs)) : IsT M (.own a) xs := .inr ⟨a, rfl, h⟩
theorem IsT.at_ {H Hc : Hp} {M : Mem} {s : Sl} {xs : List Sl} {x : V} (h : IsT M s xs) (O : DL.Own H Hc M) (r : Rp H s x) : ∃ a vs, x = .ref a ∧ Hc a = some (.tup vs) ∧ Rps H xs vs := by
  rcases h with ⟨ds, rfl, rfl⟩ | ⟨a, rfl, h⟩
  · obtain ⟨a, vs, rfl, h1, h2⟩ := dp_tup_inv r
    exact ⟨a, vs, rfl, O.ex _ _ h1, dat_rps h2⟩
  · cases r
    obtain ⟨vs, h1, h2⟩ := O.ob _ _ h
    exact ⟨a, vs, rfl, h1, h2⟩
section
variable {X : Cx} {e : Expr} {de : DE} {d1 : DS} {das : DA} {pos : Pos} {body : List Stmt}
/-- for g in (a tuple) -/
def dForT (de : DE) (g : DG) (tb : DS) : DS := fun D Γ M => de Γ M fun s M1 => ∃ xs, IsT M1 s xs ∧ ∃ Inv : Nat → Fm → Mem → Prop, Inv 0 Γ M1 ∧ (∀ i Γ' M', i ≤ xs.length → Inv i Γ' M' → IsT M' s xs) ∧
  (∀ i x Γ' M', xs[i]? = some x → Inv i Γ' M' → g x Γ' M' fun Γ2 M2 => tb { D with nx := Inv (i + 1), ct := Inv (i + 1), bk := D.nx } Γ2 M2) ∧ ∀ Γ' M', Inv xs.length Γ' M' → D.nx Γ' M'
theorem sim_forT {K : PySem.W.Frag} {te : TE} {g : DG} {tb : TS} (h : SimE te de) (hb : SimS tb d1) : SimS (tFor (iTup K te) (LG g) tb) (dForT de g d1) := fun Γ M D σ H Hc E hd F O q => by
  refine h Γ M _ σ H Hc _ hd F O fun v s M1 H1 Hc1 e1 O1 r1 h1 => ?_
  obtain ⟨xs, l, W, w0, wl, turn, out⟩ := h1
  obtain ⟨a, vs, rfl, g1, g2⟩ := l.at_ O1 r1
  refine ⟨a, rfl, ⟨vs, SqT.of g1⟩, fun i m σ' Hc' => m = xs.length - i ∧ i ≤ xs.length ∧ ∃ Γ' M' H', Ex H1 H' ∧ DL.Fr H' σ' Γ' ∧ DL.Own H' Hc' M' ∧ W i Γ' M', ⟨_, rfl, Nat.zero_le _, Γ, M1, H1, Evl.Ex.refl _, F.ex e1, O1, w0⟩, ?_⟩
  rintro i m σ' Hc' ⟨rfl, hi, Γ', M', H', e2, F2, O2, w⟩
  obtain ⟨a', vs', e3, g3, g4⟩ := (wl i Γ' M' hi w).at_ O2 (rp_ex e2 r1)
  cases e3
  have many := rps_len g4
  rcases Nat.lt_or_ge i xs.length with hlt | hge
  · obtain ⟨x0, hx0⟩ : ∃ x0, vs'[i]? = some x0 := ⟨vs'[i]'(by omega), List.getElem?_eq_getElem (by omega)⟩
    obtain ⟨sx, hs, rx⟩ := rps_get g4 hx0
    refine .inr ⟨⟨vs', x0, SqT.of g3, hx0⟩, fun σ2 Hc2 => ∃ Γ2 M2 H2, Ex H1 H2 ∧ DL.Fr H2 σ2 Γ2 ∧ DL.Own H2 Hc2 M2 ∧ W (i + 1) Γ2 M2, fun σ2 Hc2 z => ⟨xs.length - (i + 1), by omega, rfl, by omega, z⟩, fun x Hy y => ?_⟩
    obtain ⟨rfl, y⟩ := y
    obtain rfl : x = x0 := Option.some.inj ((y vs' (SqT.of g3)).symm.trans hx0)
    refine ⟨sx, Γ', M', H', _, turn i sx Γ' M' hs w, rx, F2, O2, fun σ2 Γ2 M2 H2 Hc2 e3 F3 O3 h3 => ?_⟩
    refine hb Γ2 M2 _ σ2 H2 Hc2 _ h3 F3 O3 ((q.ex (e1.trans (e2.trans e3))).loop fun σ4 Γ4 M4 H4 Hc4 e4 F4 O4 h4 => ?_)
    exact ⟨Γ4, M4, H4, e2.trans (e3.trans e4), F4, O4, h4⟩
  · obtain rfl : i = xs.length := Nat.le_antisymm hi hge
    exact .inl ⟨⟨vs', SqT.of g3, by omega⟩, q.nx σ' Γ' M' H' Hc' (e1.trans e2) F2 O2 (out Γ' M' w)⟩
theorem xs_forT {tg : Expr} {g : DG} (h : PS X (.For tg e body [] pos) (tFor (iTup X.K (LE de)) (LG g) (LS d1))) : XS X (.For tg e body [] pos) (dForT de g d1) := xs_of h (sim_forT simLE simLS)
/-- a tuple of anything: ours -/
def dTupO (das : DA) : DE := fun Γ M k => das Γ M fun ss M1 => Nat.ble ss.length 100000 = true ∧ ∀ p, M1 p = none → k (.own p) (put M1 p (.tup ss))
theorem xe_tupO {es : List Expr} {x1} (h : XA X es das) : XE X (.Tuple es x1 pos) (dTupO das) := xe_of (pe_tup h) (by
  intro Γ M k σ H Hc Q hd F O q
  refine simLA Γ M _ σ H Hc _ hd F O fun vs ss M1 H1 Hc1 e1 O1 r1 h1 => ?_
  obtain ⟨hz, h2⟩ := h1
  exact ⟨by rw [rps_len r1]; exact ble_size hz, fun p hp => q _ (.own p) _ H1 _ e1 (O1.born (u := .tup ss) hp ⟨vs, rfl, r1⟩) rfl (h2 p (O1.freeM hp))⟩)
end
/-- max, min of whole numbers -/
def fMaxI : DC := fun ss M k => match ss with
  | [s] => ∃ ns : List Int, IsL M s (ns.map fun n => .dat (.int n)) ∧ 0 < ns.length ∧ ∀ m, m ∈ ns → (∀ y, y ∈ ns → y ≤ m) → k (.dat (.int m)) M
  | _ => False
def fMinI : DC := fun ss M k => match ss with
  | [s] => ∃ ns : List Int, IsL M s (ns.map fun n => .dat (.int n)) ∧ 0 < ns.length ∧ ∀ m, m ∈ ns → (∀ y, y ∈ ns → m ≤ y) → k (.dat (.int m)) M
  | _ => False
def fSumI : DC := fun ss M k => match ss with
  | [s] => ∃ ns : List Int, IsL M s (ns.map fun n => .dat (.int n)) ∧ k (.dat (.int ns.sum)) M
  | _ => False
theorem sim_maxI {K : PySem.W.Frag} : SimC (rMax K) fMaxI := by
  intro ss M k xs H Hc Q h r O q
  unfold fMaxI at h
  split at h
  · obtain ⟨x, rfl, rx⟩ := rps1 r
    obtain ⟨ns, l, hz, h⟩ := h
    obtain ⟨a, vs, rfl, g1, g2⟩ := l.at_ O rx
    rw [rps_ints g2] at g1
    exact ⟨a, ns, rfl, SqL.of g1, hz, fun m h1 h2 => q.dat O (.int _) (h m h1 h2)⟩
  · exact h.elim
theorem sim_minI {K : PySem.W.Frag} : SimC (rMin K) fMinI := by
  intro ss M k xs H Hc Q h r O q
  unfold fMinI at h
  split at h
  · obtain ⟨x, rfl, rx⟩ := rps1 r
    obtain ⟨ns, l, hz, h⟩ := h
    obtain ⟨a, vs, rfl, g1, g2⟩ := l.at_ O rx
    rw [rps_ints g2] at g1
    exact ⟨a, ns, rfl, SqL.of g1, hz, fun m h1 h2 => q.dat O (.int _) (h m h1 h2)⟩
  · exact h.elim
theorem sim_sumI {K : PySem.W.Frag} : SimC (rSum K) fSumI := by
  intro ss M k xs H Hc Q h r O q
  unfold fSumI at h
  split at h
  · obtain ⟨x, rfl, rx⟩ := rps1 r
    obtain ⟨ns, l, h⟩ := h
    obtain ⟨a, vs, rfl, g1, g2⟩ := l.at_ O rx
    rw [rps_ints g2] at g1
    exact ⟨a, ns, rfl, SqL.of g1, q.dat O (.int _) h⟩
  · exact h.elim
end DL
namespace DS
open PySem PySem.Spec PyProof.Rows L2 DL
open Evl (Ex)
/-! ### sorted(a dict whose keys are whole numbers) -/
section
variable {P : Program} {w : World} {A : Around} {E : Value → Shared → Prop} {s : Shared}
theorem sorted_keys {d : Addr} {es : Array DictEntry} {ep : Nat} {is : List Int} {Q : Value → Shared → Prop} (lo : (d == sysModules) = false) (hd : s.heap.DictRaw d es ep) (hh : A.handled = none) (hu : A.units + 8 < cLine) (hz : es.size = is.length) (hl : is.length ≤ 16777216)
    (hk : ∀ i (hi : i < es.size), ∃ t, es[i].key = .int (is.getD i 0) t)
    (hQ : ∀ (h' h2 : Heap) (tk : Nat) (out : Array Value) (c : Nat) (ns : List Int), (∀ b o, s.heap.get? b = some o → h'.get? b = some o) → (∀ b o, h'.get? b = some o → h2.get? b = some o) →
      h2.get? h'.objs.size = some (seqObj "list" out c) → IntsAre out.toList ns → ns.Perm is → ns.Pairwise (· ≤ ·) → Q (.ref h'.objs.size) { s with heap := h2, toks := tk }) :
    wpAny (model P w) A (call (.builtin "sorted") [.ref d]) Q E s := by
  refine Calls.call_function_entry kind_sorted plain_sorted entry_sorted (args_sorted1 _) ?_
  unfold Builtin.«sorted»
  refine wpAny_bind (m := checkCount "sorted" 1 1 _) (wpAny_pure ?_)
  refine wpAny_bind (PySem.W.kdu_collect (A := A.in1) (PySem.KdlSrc.rawDict lo) hh hd (by rw [sizeLine_eq]; omega) fun h' tk acc k1 hacc => ?_)
  have hsz : acc.toList.length = is.length := by rw [Array.length_toList, hacc.1, hz]
  refine wpAny_bind (wpAny_newList ?_ (by rw [sizeLine_eq]; omega))
  have each : PySem.W.EachIs (fun v (n : Int) => ∃ t, v = Value.int n t) acc.toList is := by
    have go : ∀ (us : List Value) (ns : List Int), us.length = ns.length → (∀ (i : Nat) (u : Value) (n : Int), us[i]? = some u → ns[i]? = some n → ∃ t, u = Value.int n t) → PySem.W.EachIs (fun v (n : Int) => ∃ t, v = Value.int n t) us ns := by
      intro us
      induction us with
      | nil => intro ns e _; cases ns with
        | nil => exact .nil
        | cons _ _ => cases e
      | cons u us ih => intro ns e h; cases ns with
        | nil => cases e
        | cons n ns => exact .cons (h 0 u n rfl rfl) (ih ns (Nat.succ.inj e) fun i u' n' h1 h2 => h (i + 1) u' n' h1 h2)
    refine go _ _ hsz fun i u n h1 h2 => ?_
    obtain ⟨hi, e⟩ := hacc.2 i u (by rw [← Array.getElem?_toList]; exact h1)
    obtain ⟨t, e2⟩ := hk i hi
    refine ⟨t, ?_⟩
    rw [e, e2, List.getD_eq_getElem?_getD, h2]
    rfl
  generalize acc.toList = vs at each hsz ⊢
  have hoL : (h'.push (seqObj "list" vs.toArray 0)).get? h'.objs.size = some (seqObj "list" vs.toArray 0) := Heap.get?_push_size _ rfl
  have er : PySem.W.EachIs (fun v (n : Int) => ∃ as, PySem.Reads (h'.push (seqObj "list" vs.toArray 0)) v (.int n) as ∧ h'.objs.size ∉ as) vs is := each.mono fun v n ⟨t, e⟩ => by
    subst e
    exact ⟨[], .int _ _, fun z => (nomatch z)⟩
  refine wpAny_bind (wpAny_holding (PySem.W.list_sort_data (enc := fun n : Int => PyData.int n) (s := { s with heap := h'.push (seqObj "list" vs.toArray 0), toks := tk }) hoL each er (PySem.W.AllAlike.of fun _ _ => by simp [PySem.W.alike]) (PySem.W.Sortable.others fun _ => ⟨nofun, fun _ => nofun⟩) (by rw [sizeLine_eq]; omega) (fun n _ => by
    show _ + 1 + 1 + 0 < _
    omega) fun out a1 a2 => ?_))
  obtain ⟨c, hc⟩ := sortedHeap_at (vs := vs) (out := List.toArray out) hoL
  have le : (PySem.W.dataLe false fun n : Int => PyData.int n) = fun a b => decide (a ≤ b) := PySem.W.dataLe_int fun n => n
  rw [le] at a2
  have asInts : ∀ {us : List Value} {ns : List Int}, PySem.W.EachIs (fun v (n : Int) => ∃ t, v = Value.int n t) us ns → IntsAre us ns := by
    intro us ns h
    induction h with
    | nil => exact .nil
    | cons h _ ih =>
      obtain ⟨t, rfl⟩ := h
      exact .cons _ t ih
  refine wpAny_pure ⟨_, rfl, hQ h' _ tk (List.toArray out) c _ k1 (fun b u q => ?_) hc (asInts a2) (List.mergeSort_perm _ _) ?_⟩
  · have hlt := Heap.lt_size q
    show (sortedHeap (h'.push (seqObj "list" vs.toArray 0)) h'.objs.size vs (List.toArray out)).get? b = some u
    rw [sortedHeap_old (Nat.ne_of_lt hlt) (by rw [size_push']; exact Nat.lt_succ_of_lt hlt)]
    exact Heap.get?_push_of_some _ q
  · have := List.pairwise_mergeSort (le := fun a b : Int => decide (a ≤ b)) (fun a b c h1 h2 => decide_eq_true (Int.le_trans (of_decide_eq_true h1) (of_decide_eq_true h2))) (fun a b => by
      rw [Bool.or_eq_true, decide_eq_true_eq, decide_eq_true_eq]
      exact Int.le_total a b) is
    exact this.imp fun h => of_decide_eq_true h
end
def rSortK : List V → Hp → VK → Prop := fun vs H Q => ∃ (a : Addr) (kvs : List (Key × V)) (is : List Int), vs = [V.ref a] ∧ H a = some (.dK kvs) ∧ kvs.map (·.1) = is.map Sum.inl ∧ ∀ (ns : List Int) (p : Addr), ns.Perm is → ns.Pairwise (· ≤ ·) → H p = none → Q (.ref p) (upd H p (.lst (ns.map V.int)))
theorem cr_sortK {X : Cx} (hc : X.calm = true) (hu : X.A.units + 64 < cLine) : CallR X (.builtin "sorted") rSortK := by
  intro pins s σ H vs us Q I r h
  obtain ⟨a, kvs, is, rfl, ha, hv, q⟩ := h
  rw [Vals.ref1 r]
  obtain ⟨hz, lo, ws, rel, dof⟩ := dk_of I.hok ha
  obtain ⟨es, ep, raw, hsz, hes⟩ := dof.raw
  have keys : ws.map (·.1) = is.map Sum.inl := (KV.keys rel).symm.trans hv
  have lw : ws.length = is.length := by
    have e1 := congrArg List.length keys
    rw [List.length_map, List.length_map] at e1
    exact e1
  have lk : kvs.length = is.length := by
    have e1 := congrArg List.length hv
    rw [List.length_map, List.length_map] at e1
    exact e1
  rw [sizeLine_eq] at hz
  refine sorted_keys lo raw (I.ok.hd hc) (by omega) (hsz.trans lw) (by omega) (fun i hi => ?_) fun h' h2 tk out c ns k1 k2 hg hi hp hs => ?_
  · have hiw : i < ws.length := by omega
    obtain ⟨e1, _⟩ := hes i hi ws[i].1 ws[i].2 (List.getElem?_eq_getElem hiw)
    have e2 : ws[i].1 = Sum.inl (is.getD i 0) := by
      have e3 : (ws.map (·.1))[i]? = (is.map Sum.inl)[i]? := by rw [keys]
      rw [List.getElem?_map, List.getElem?_map, List.getElem?_eq_getElem hiw, List.getElem?_eq_getElem (show i < is.length by omega)] at e3
      rw [List.getD_eq_getElem?_getD, List.getElem?_eq_getElem (show i < is.length by omega)]
      exact Option.some.inj e3
    rw [e2] at e1
    exact Value.isInt_shape (k := is.getD i 0) (v := es[i].key) e1
  · have I2 : Inv X pins σ H { s with heap := h', toks := tk } := I.kept (t' := tk) k1
    have hn : H h'.objs.size = none := I2.hok.fresh (Nat.le_refl _)
    have hlen : (ns.map V.int).length ≤ sizeLine := by rw [List.length_map, hp.length_eq, sizeLine_eq]; omega
    exact ⟨.ref _, upd H h'.objs.size (.lst (ns.map V.int)), I2.laid (t' := tk) k2 (Nat.le_refl _) ⟨hlen, out.toList, c, vals_of_ints hi, hg⟩, rfl, q ns _ hp hs hn⟩
def fSortK : DC := fun ss M k => match ss with
  | [.own a] => ∃ (kvs : Kvs) (is : List Int), M a = some (.dct kvs) ∧ kvs.map (·.1) = is.map Sum.inl ∧ is.length ≤ 16777216 ∧ ∀ (ns : List Int) p, ns.Perm is → ns.Pairwise (· ≤ ·) → M p = none → k (.own p) (put M p (.lst (ns.map fun n => .dat (.int n))))
  | _ => False
theorem pair_keys {H : Hp} : ∀ {kvs : Kvs} {ws : List (Key × V)}, Paired (fun (p : Key × Sl) (q : Key × V) => p.1 = q.1 ∧ Rp H p.2 q.2) kvs ws → ws.map (·.1) = kvs.map (·.1)
  | [], _, .nil => rfl
  | _ :: _, _, .cons r t => by rw [List.map_cons, List.map_cons, pair_keys t, r.1]
theorem sim_sortK : SimC rSortK fSortK := by
  intro ss M k xs H Hc Q h r O q
  unfold fSortK at h
  split at h
  · obtain ⟨x, rfl, rx⟩ := rps1 r
    obtain ⟨kvs, is, hm, hk, hz, h⟩ := h
    cases rx
    obtain ⟨ws, g1, g2⟩ := O.ob _ _ hm
    refine ⟨_, ws, is, rfl, g1, (pair_keys g2).trans hk, fun ns p hp hs hpn => ?_⟩
    exact q.own O (ints_rps ns) (by rw [List.length_map, hp.length_eq, sizeLine_eq]; exact hz) hpn (h ns p hp hs (O.freeM hpn))
  · exact h.elim
end DS
namespace DL
open PySem PySem.Spec PyProof.Rows L2
open Evl (Ex)
/-! ### lists of lists of ours, read as data; tuples of anything asked; a call of a value -/
/-- s reads as d, over lists of ours n levels deep -/
def RdM (M : Mem) : Nat → Sl → Dt → Prop
  | 0, s, d => s = .dat d
  | n + 1, s, d => s = .dat d ∨ ∃ a xs ds, s = .own a ∧ d = .list ds ∧ M a = some (.lst xs) ∧ Paired (RdM M n) xs ds
theorem rdm_dq {H Hc : Hp} {M : Mem} (O : DL.Own H Hc M) : ∀ (n : Nat) {s : Sl} {d : Dt} {x : V}, RdM M n s d → Rp H s x → Dq Hc x d
  | 0, s, d, x, h, r => by
    have e : s = .dat d := h
    subst e
    exact dp_ex O.ex r
  | n + 1, s, d, x, h, r => by
    rcases h with rfl | ⟨a, xs, ds, rfl, rfl, hm, hp⟩
    · exact dp_ex O.ex r
    · cases r
      obtain ⟨hz, vs, g1, g2⟩ := O.ob _ _ hm
      refine .lst g1 ?_
      clear hm g1 hz
      induction hp generalizing vs with
      | nil => cases g2; exact .nil
      | cons h1 _ ih =>
        cases g2 with
        | cons r1 r2 => exact .cons (rdm_dq O n h1 r1) (ih _ r2)
def fReprN (n : Nat) : DC := fun ss M k => match ss with
  | [s] => ∃ d, RdM M n s d ∧ d.showable = true ∧ d.shown.length ≤ 16777216 ∧ d.depth ≤ 40 ∧ k (.dat (.str d.shown)) M
  | _ => False
theorem sim_reprN {K : PySem.W.Frag} (n : Nat) : SimC (rRepr K) (fReprN n) := by
  intro ss M k xs H Hc Q h r O q
  unfold fReprN at h
  split at h
  · obtain ⟨x, rfl, rx⟩ := rps1 r
    obtain ⟨d, hd, h1, h2, h3, h⟩ := h
    exact ⟨x, d, rfl, rdm_dq O n hd rx, h1, h2, h3, q.dat O (.str _) h⟩
  · exact h.elim
/-- t[i], len(t) of a tuple of anything -/
def fIxT : D2 := fun s t M k => ∃ (xs : List Sl) (i : Int) (v : Sl), IsT M s xs ∧ t = .dat (.int i) ∧ atI xs i = some v ∧ k v M
theorem sim_ixT {K : PySem.W.Frag} : Sim2 (rIx K) fIxT := by
  intro s t M k x y H Hc Q h rx ry O q
  obtain ⟨xs, i, v, l, rfl, e2, h⟩ := h
  obtain ⟨a, vs, rfl, h1, h2⟩ := l.at_ O rx
  obtain ⟨w, e3, h3⟩ := atI_rp h2 e2
  exact .inr (.inl ⟨a, vs, _, w, rfl, dp_int_inv ry, SqT.of h1, e3, q w v M H Hc (Evl.Ex.refl H) O h3 h⟩)
theorem xe_ixT {X : Cx} {a b : Expr} {da db : DE} {pos : Pos} (ha : XE X a da) (hb : XE X b db) (hs : PlainIx b := by exact fun _ _ => rfl) : XE X (.Subscript a b pos) (dOp fIxT da db) := xe_of (pe_ix ix_seq ha hb hs) (sim_op sim_ixT simLE simLE)
def fLenT : DC := fun ss M k => match ss with
  | [s] => ∃ xs : List Sl, IsT M s xs ∧ k (.dat (.int xs.length)) M
  | _ => False
theorem sim_lenT {K : PySem.W.Frag} : SimC (rLenA K) fLenT := by
  intro ss M k xs H Hc Q h r O q
  unfold fLenT at h
  split at h
  · obtain ⟨x, rfl, rx⟩ := rps1 r
    obtain ⟨ys, l, h⟩ := h
    obtain ⟨a, vs, rfl, g1, g2⟩ := l.at_ O rx
    rw [← rps_len g2] at h
    exact .inl ⟨a, vs, rfl, .inr (SqT.of g1), q.dat O (.int _) h⟩
  · exact h.elim
/-! ### g(..), g a value that holds a def that may raise -/
def dCallXV (P : Program) (w : World) (K : PySem.W.Frag) (mg : Str → Option Value) (base : Heap) (j i : Nat) (H0 : Hp) (G0 : Option Fm) (kx : DX) (df : DE) (das : DA) : DE := fun Γ M k => (Γ[i]? = some (some (.base H0)) ∧ At0 G0 Γ) ∧ df Γ M fun s M1 =>
  ∃ (f : Addr) (fd : FuncData) (ps : List Str) (pr : PrX), s = .raw (.ref f) ∧ HoldsX P w K mg base j f fd ps pr ∧ PySem.W.keepIn K (.ref f) = true ∧ Binds K fd ps [] ∧ das Γ M1 fun ss M2 => pr ss M2 k kx
section
variable {X : Cx} {fe e : Expr} {es : List Expr} {df : DE} {das : DA} {pos : Pos} {P : Program} {w : World} {K : PySem.W.Frag} {mg : Str → Option Value} {base : Heap} {j i : Nat} {H0 : Hp} {G0 : Option Fm} {kx : DX} {W : WX}
theorem xe_callXV (hP : X.prog = P) (hw : X.w = w) (hK : X.K = K) (hmg : X.mg = mg) (hbs : X.base = base) (wi : Wish X W H0 G0 kx) (hr : Rm j X.A) (hf : XE X fe df) (ha : XA X (e :: es) das)
    (hev : eval (.Call fe (e :: es) [] pos) X.env = (do callWith pos (← eval fe X.env) [] (backTo pos (starEach (e :: es) X.env)) (backToKw pos (keywordEach [] X.env))) := by rfl)
    (he : starEach (e :: es) X.env = (false, eval e X.env) :: starEach es X.env := by rfl) (hpl : (backTo pos (starEach es X.env)).any (·.1) = false := by rfl) : XE X (.Call fe (e :: es) [] pos) (dCallXV P w K mg base j i H0 G0 kx df das) := by
  subst hP hw hK hmg hbs
  refine ⟨fun pins s σ Hc Q I ⟨Γ, M, H, q, ⟨hgh, hd⟩, F', O, on⟩ => ?_⟩
  refine PyProof.Rows.Call_ ?_ hev
  have hf' : PE X fe (LE df) := hf
  have here : LE df σ Hc fun v Hc1 => ∃ s0 M1 H1, Rp H1 s0 v ∧ DL.Own H1 Hc1 M1 ∧ Ex H H1 ∧ ∃ (f : Addr) (fd : FuncData) (ps : List Str) (pr : PrX), s0 = .raw (.ref f) ∧ HoldsX X.prog X.w X.K X.mg X.base j f fd ps pr ∧ PySem.W.keepIn X.K (.ref f) = true ∧ Binds X.K fd ps [] ∧ das Γ M1 fun ss M2 => pr ss M2 q kx :=
    ⟨Γ, M, H, _, hd, F', O, fun v s0 M1 H1 Hc1 e1 O1 r1 h1 => ⟨s0, M1, H1, r1, O1, e1, h1⟩⟩
  refine thn (hf'.run pins s σ Hc _ I here) fun u s1 z => ?_
  obtain ⟨v, Hc1, I1, rv, s0, M1, H1, r1, O1, e1, f, fd, ps, pr, rfl, Fh, hk, hb, hd2⟩ := z
  have ev : v = .ref f := r1
  subst ev
  cases rv
  refine PySem.W.callWith_K (h₀ := X.base) I1.ok.mod.kin hk (run_args ha I1 hd2 (F'.ex e1) O1 fun us s2 vs ss H2 H3 M2 I2 r z1 z2 z4 z3 => ?_) he hpl
  exact ⟨I2.kIn, callX_go wi.1 Fh hr hb I2 r z1 z2 z3 (on.ex (e1.trans z4)) fun cls d σ' Hc' z => wi.2 cls d σ Hc' (wof_at F' hgh (e1.trans z4) z)⟩
end
end DL
namespace DL
open PySem PySem.Spec PyProof.Rows L2
open Evl (Ex)
/-- x is None, x an exception or None -/
def fIsX (neg : Bool) : D2 := fun s t M k => match s, t with
  | .fix (.exc _ _), .dat .none => k (.dat (.bool neg)) M
  | .dat d, .dat .none => k (.dat (.bool (if neg = true then !isNoD d else isNoD d))) M
  | _, _ => False
theorem sim_isX : Sim2 rIsA (fIsX false) := by
  intro s t M k x y H Hc Q h rx ry O q
  unfold fIsX at h
  split at h
  · refine .inr ⟨dp_non_inv ry, ?_⟩
    obtain ⟨a, d, φ, rfl, _⟩ := rx
    rw [decide_eq_false (fun z => nomatch z)]
    exact q.dat O (.bl _) h
  · refine .inr ⟨dp_non_inv ry, ?_⟩
    rw [isNo_eq rx]
    exact q.dat O (.bl _) h
  · exact h.elim
theorem sim_isnotX : Sim2 rNotA (fIsX true) := by
  intro s t M k x y H Hc Q h rx ry O q
  unfold fIsX at h
  split at h
  · refine .inr ⟨dp_non_inv ry, ?_⟩
    obtain ⟨a, d, φ, rfl, _⟩ := rx
    rw [decide_eq_false (fun z => nomatch z)]
    exact q.dat O (.bl _) h
  · refine .inr ⟨dp_non_inv ry, ?_⟩
    rw [isNo_eq rx]
    exact q.dat O (.bl _) h
  · exact h.elim
section
variable {X : Cx} {fe e : Expr} {df : DE} {pos : Pos} {P : Program} {w : World} {K : PySem.W.Frag} {mg : Str → Option Value} {base : Heap} {j i : Nat} {H0 : Hp} {G0 : Option Fm} {kx : DX} {W : WX}
/-- g() -/
theorem xe_callXV0 (hP : X.prog = P) (hw : X.w = w) (hK : X.K = K) (hmg : X.mg = mg) (hbs : X.base = base) (wi : Wish X W H0 G0 kx) (hr : Rm j X.A) (hf : XE X fe df)
    (hev : eval (.Call fe [] [] pos) X.env = (do callWith pos (← eval fe X.env) [] (backTo pos (starEach [] X.env)) (backToKw pos (keywordEach [] X.env))) := by rfl) : XE X (.Call fe [] [] pos) (dCallXV P w K mg base j i H0 G0 kx df dNil) := by
  subst hP hw hK hmg hbs
  refine ⟨fun pins s σ Hc Q I ⟨Γ, M, H, q, ⟨hgh, hd⟩, F', O, on⟩ => ?_⟩
  refine PyProof.Rows.Call_ ?_ hev
  have hf' : PE X fe (LE df) := hf
  have here : LE df σ Hc fun v Hc1 => ∃ s0 M1 H1, Rp H1 s0 v ∧ DL.Own H1 Hc1 M1 ∧ Ex H H1 ∧ ∃ (f : Addr) (fd : FuncData) (ps : List Str) (pr : PrX), s0 = .raw (.ref f) ∧ HoldsX X.prog X.w X.K X.mg X.base j f fd ps pr ∧ PySem.W.keepIn X.K (.ref f) = true ∧ Binds X.K fd ps [] ∧ dNil Γ M1 fun ss M2 => pr ss M2 q kx :=
    ⟨Γ, M, H, _, hd, F', O, fun v s0 M1 H1 Hc1 e1 O1 r1 h1 => ⟨s0, M1, H1, r1, O1, e1, h1⟩⟩
  refine thn (hf'.run pins s σ Hc _ I here) fun u s1 z => ?_
  obtain ⟨v, Hc1, I1, rv, s0, M1, H1, r1, O1, e1, f, fd, ps, pr, rfl, Fh, hk, hb, hd2⟩ := z
  have ev : v = .ref f := r1
  subst ev
  cases rv
  refine PySem.W.callWith_K0 I1.kIn hk ?_
  exact callX_go wi.1 Fh hr hb I1 .nil .nil O1 hd2 (on.ex e1) fun cls d σ' Hc' z => wi.2 cls d σ Hc' (wof_at F' hgh e1 z)
end
end DL
/-! objects of the program's own classes: fields by places; methods; making them; while; x op= e -/
namespace DL
open PySem PySem.Spec PyProof.Rows L2
open Evl (Ex)
/-- the i-th field from now on -/
def setF {α : Type} : List α → Nat → α → List α
  | [], _, v => [v]
  | _ :: xs, 0, v => v :: xs
  | x :: xs, i + 1, v => x :: setF xs i v
theorem setF_len {α : Type} {v : α} : ∀ {xs : List α} {i : Nat}, i ≤ xs.length → (setF xs i v).length ≤ max xs.length (i + 1)
  | [], i, h => by show 1 ≤ _; omega
  | x :: xs, 0, _ => by show xs.length + 1 ≤ max (xs.length + 1) 1; omega
  | x :: xs, i + 1, h => by
    have := setF_len (v := v) (xs := xs) (i := i) (Nat.le_of_succ_le_succ h)
    show (setF xs i v).length + 1 ≤ max (xs.length + 1) (i + 1 + 1)
    omega
theorem lookup_zip {f : Str} {v : V} : ∀ {N : List Str} {vs : List V} {i : Nat}, N.Nodup → N[i]? = some f → vs[i]? = some v → (N.zip vs).lookup f = some v
  | [], _, i, _, h, _ => by cases h
  | n :: N, [], i, _, _, h => by cases h
  | n :: N, u :: vs, 0, _, h1, h2 => by
    cases h1
    cases h2
    show List.lookup f ((f, v) :: N.zip vs) = some v
    rw [List.lookup_cons_self]
  | n :: N, u :: vs, i + 1, hn, h1, h2 => by
    have hn' := List.nodup_cons.mp hn
    have ne : (f == n) = false := by
      rw [beq_eq_false_iff_ne]
      intro e
      subst e
      exact hn'.1 (List.mem_of_getElem? h1)
    show List.lookup f ((n, u) :: N.zip vs) = some v
    rw [List.lookup_cons, ne]
    exact lookup_zip hn'.2 h1 h2
theorem lookup_none {f : Str} : ∀ {N : List Str} {vs : List V}, f ∉ N → (N.zip vs).lookup f = none
  | [], _, _ => by simp
  | n :: N, [], _ => rfl
  | n :: N, u :: vs, h => by
    have ne : (f == n) = false := by
      rw [beq_eq_false_iff_ne]
      intro e
      exact h (by rw [e]; exact List.mem_cons_self)
    show List.lookup f ((n, u) :: N.zip vs) = none
    rw [List.lookup_cons, ne]
    exact lookup_none fun z => h (List.mem_cons_of_mem _ z)
theorem putF_zip {f : Str} {v : V} : ∀ {N : List Str} {vs : List V} {i : Nat}, N.Nodup → N[i]? = some f → i ≤ vs.length → putF f v (N.zip vs) = N.zip (setF vs i v)
  | [], _, i, _, h, _ => by cases h
  | n :: N, [], 0, _, h1, _ => by
    cases h1
    rw [List.zip_nil_right]
    show [(f, v)] = (f, v) :: N.zip []
    rw [List.zip_nil_right]
  | n :: N, [], i + 1, _, _, h => by cases h
  | n :: N, u :: vs, 0, _, h1, _ => by
    cases h1
    show (if f = f then (f, v) :: N.zip vs else _) = _
    rw [if_pos rfl]
    rfl
  | n :: N, u :: vs, i + 1, hn, h1, h2 => by
    have hn' := List.nodup_cons.mp hn
    have ne : n ≠ f := by
      intro e
      subst e
      exact hn'.1 (List.mem_of_getElem? h1)
    show (if n = f then _ else (n, u) :: putF f v (N.zip vs)) = (n, u) :: N.zip (setF vs i v)
    rw [if_neg ne, putF_zip hn'.2 h1 (Nat.le_of_succ_le_succ h2)]
theorem rps_setF {H : Hp} {s : Sl} {v : V} (r : Rp H s v) : ∀ {ss : List Sl} {vs : List V} {i : Nat}, Rps H ss vs → Rps H (setF ss i s) (setF vs i v)
  | [], _, i, .nil => .cons r .nil
  | _ :: _, _, 0, .cons _ t => .cons r t
  | _ :: _, _, i + 1, .cons a t => .cons a (rps_setF r t)
section
variable {X : Cx} {e a b c o : Expr} {es : List Expr} {de da db do_ : DE} {das : DA} {pos p apos tpos pos' : Pos} {st : Stmt} {rest body : List Stmt} {d1 d2 : DS} {x f m : Str} {C g : Addr} {N : List Str} {i : Nat}
/-! ### fields -/
def dFld (C : Addr) (N : List Str) (i : Nat) (de : DE) : DE := fun Γ M k => de Γ M fun s M1 => ∃ a vs v, s = .own a ∧ M1 a = some (.ins C N vs) ∧ vs[i]? = some v ∧ k v M1
theorem xe_fld (c : Cls X.K C) (n : NoAttr X.K C f) (hd : N.Nodup) (hf : N[i]? = some f) (he : XE X e de) (hb : attributeBase e f X.env (eval e X.env) = eval e X.env := by rfl) : XE X (.Attribute e f pos) (dFld C N i de) :=
  xe_of (pe_fld he hb) fun Γ M k σ H Hc Q hq F O q => by
    refine simLE Γ M _ σ H Hc _ hq F O fun v s M1 H1 Hc1 e1 O1 r1 h1 => ?_
    obtain ⟨a, vs, u, rfl, hm, hv, h1⟩ := h1
    cases r1
    obtain ⟨_, dx, ws, g1, g2⟩ := O1.ob _ _ hm
    obtain ⟨y, hy, ry⟩ := rps_get' g2 hv
    exact ⟨a, C, dx, _, y, rfl, g1, c, n, lookup_zip hd hf hy, q _ _ _ _ _ e1 O1 ry h1⟩
/-- o.f = e -/
def dSetF (C : Addr) (N : List Str) (i : Nat) (do_ de : DE) : DS := fun D Γ M => de Γ M fun s M1 => do_ Γ M1 fun o M2 => ∃ a vs, o = .own a ∧ M2 a = some (.ins C N vs) ∧ Nat.ble i vs.length = true ∧ D.nx Γ (put M2 a (.ins C N (setF vs i s)))
theorem xs_fld (c : Cls X.K C) (n : NoAttr X.K C f) (hd : N.Nodup) (hf : N[i]? = some f) (hz : N.length < 1000) (ho : XE X o do_) (he : XE X e de) (hs : swapsWith e (some (.Attribute o f pos')) pos.line X.env = pure false := by rfl) : XS X (.Assign [.Attribute o f pos'] e pos) (dSetF C N i do_ de) :=
  xs_of (ps_fld ho he hs) fun Γ M D σ H Hc E hq F O q => by
    refine simLE Γ M _ σ H Hc _ hq F O fun v s M1 H1 Hc1 e1 O1 r1 h1 => ?_
    refine simLE Γ M1 _ σ H1 Hc1 _ h1 (F.ex e1) O1 fun vo so M2 H2 Hc2 e2 O2 r2 h2 => ?_
    obtain ⟨a, vs, rfl, hm, hi, h2⟩ := h2
    cases r2
    obtain ⟨hl, dx, ws, g1, g2⟩ := O2.ob _ _ hm
    have hi' : i ≤ vs.length := Nat.le_of_ble_eq_true hi
    have hw : i ≤ ws.length := by rw [rps_len g2]; exact hi'
    have hN : i < N.length := (List.getElem?_eq_some_iff.mp hf).1
    refine ⟨a, C, dx, _, rfl, g1, c, n, by rw [List.length_zip]; omega, ?_⟩
    rw [putF_zip hd hf hw]
    refine q.nx σ Γ _ H2 _ (e1.trans e2) (F.ex (e1.trans e2)) (O2.turn (u := .ins C N _) hm ⟨?_, dx, _, rfl, rps_setF (rp_ex e2 r1) g2⟩) h2
    have := setF_len (v := s) hi'
    omega
/-- o.f op= e -/
def dAugF (C : Addr) (N : List Str) (i : Nat) (fo : D2) (do_ de : DE) : DS := fun D Γ M => do_ Γ M fun o M1 => ∃ a vs v, o = .own a ∧ M1 a = some (.ins C N vs) ∧ vs[i]? = some v ∧ de Γ M1 fun s M2 => fo v s M2 fun z M3 => ∃ vs', M3 a = some (.ins C N vs') ∧ Nat.ble i vs'.length = true ∧ D.nx Γ (put M3 a (.ins C N (setF vs' i z)))
theorem xs_augF {op : Operator} {rd : R2} {fo : D2} (c : Cls X.K C) (n : NoAttr X.K C f) (hd : N.Nodup) (hf : N[i]? = some f) (hz : N.length < 1000) (hop : InOp X op rd) (hs : Sim2 rd fo) (ho : XE X o do_) (he : XE X e de) : XS X (.AugAssign (.Attribute o f tpos) op e pos) (dAugF C N i fo do_ de) :=
  xs_of (ps_fldaug ho he hop) fun Γ M D σ H Hc E hq F O q => by
    refine simLE Γ M _ σ H Hc _ hq F O fun vo so M1 H1 Hc1 e1 O1 r1 h1 => ?_
    obtain ⟨a, vs, v, rfl, hm, hv, h1⟩ := h1
    cases r1
    obtain ⟨hl, dx, ws, g1, g2⟩ := O1.ob _ _ hm
    obtain ⟨y, hy, ry⟩ := rps_get' g2 hv
    refine ⟨a, C, dx, _, y, rfl, g1, c, n, lookup_zip hd hf hy, ?_⟩
    refine simLE Γ M1 _ σ H1 Hc1 _ h1 (F.ex e1) O1 fun w s M2 H2 Hc2 e2 O2 r2 h2 => ?_
    refine hs v s M2 _ y w H2 Hc2 _ h2 (rp_ex e2 ry) r2 O2 fun z u M3 H3 Hc3 e3 O3 r3 h3 => ?_
    obtain ⟨vs', hm', hi, h3⟩ := h3
    obtain ⟨hl', dx', ws', g1', g2'⟩ := O3.ob _ _ hm'
    have hi' : i ≤ vs'.length := Nat.le_of_ble_eq_true hi
    have hw : i ≤ ws'.length := by rw [rps_len g2']; exact hi'
    have hN : i < N.length := (List.getElem?_eq_some_iff.mp hf).1
    refine ⟨dx', _, g1', by rw [List.length_zip]; omega, ?_⟩
    rw [putF_zip hd hf hw]
    have ee := e1.trans (e2.trans e3)
    refine q.nx σ Γ _ H3 _ ee (F.ex ee) (O3.turn (u := .ins C N _) hm' ⟨?_, dx', _, rfl, rps_setF r3 g2'⟩) h3
    have := setF_len (v := u) hi'
    omega
/-! ### methods -/
def dMeth (C : Addr) (N : List Str) (pr : Pr) (do_ : DE) (das : DA) : DE := fun Γ M k => do_ Γ M fun o M1 => ∃ a vs, o = .own a ∧ M1 a = some (.ins C N vs) ∧ das Γ M1 fun ss M2 => pr (.own a :: ss) M2 k
section
variable {k : Nat} {fd : FuncData} {ps : List Str} {pr : Pr} {prx : PrX}
theorem xe_meth {pl : Sem Bool} (F : Holds X.prog X.w X.K X.mg X.base k g fd ps pr) (hr : Rm k X.A) (c : Cls X.K C) (hm : Meth X.K C m g) (hN : m ∉ N) (hb : Binds X.K fd ps []) (ho : XE X o do_) (ha : XA X (e :: es) das)
    (hst : starEach (e :: es) X.env = (false, eval e X.env) :: starEach es X.env := by rfl) (hpl : (backTo pos (starEach es X.env)).any (·.1) = false := by rfl)
    (ht : eval (.Call (.Attribute o m apos) (e :: es) [] pos) X.env = (do
      let ov ← eval o X.env
      standAt apos.atName
      let (f, first) ← holding [ov] (getMethod ov m pl)
      callWith pos f first (backTo pos (starEach (e :: es) X.env)) (backToKw pos (keywordEach [] X.env))) := by rfl) : XE X (.Call (.Attribute o m apos) (e :: es) [] pos) (dMeth C N pr do_ das) := by
  refine ⟨fun pins s σ Hc Q I ⟨Γ, M, H, q, hd, F', O, on⟩ => ?_⟩
  have ho' : PE X o (LE do_) := ho
  have ha' : PA X (e :: es) (LA das) := ha
  have hO : LE do_ σ Hc fun x H1 => ∃ a vs M1 H2, x = .ref a ∧ M1 a = some (.ins C N vs) ∧ Own H2 H1 M1 ∧ Ex H H2 ∧ das Γ M1 fun ss M2 => pr (.own a :: ss) M2 q :=
    ⟨Γ, M, H, _, hd, F', O, fun v sl M' H' Hc' e1 O1 r1 h1 => by
      obtain ⟨a, vs, rfl, h2, h3⟩ := h1
      cases r1
      exact ⟨a, vs, M', H', rfl, h2, O1, e1, h3⟩⟩
  refine PySem.W.methodCall_KW (pl := pl) (thn (ho'.run pins s σ Hc _ I hO) fun u s1 ⟨x, H1, I1, rx, a, vs, M1, H2, ex, hm2, O1, e1, hd2⟩ => ?_) ht
  subst ex
  obtain rfl : u = Value.ref a := rx
  obtain ⟨_, dx, ws, g1, g2⟩ := O1.ob _ _ hm2
  refine getmeth_ok I1 g1 c hm (lookup_none hN) ?_
  have hR : LA das σ H1 fun vs H3 => ∃ ss M3 H4, Rps H4 ss vs ∧ Own H4 H3 M3 ∧ pr (.own a :: ss) M3 q ∧ On H4 q Q :=
    ⟨Γ, M1, H2, _, hd2, F'.ex e1, O1, fun vs ss M' H' Hc' e2 O2 r2 h2 => ⟨ss, M', H', r2, O2, h2, on.ex (e1.trans e2)⟩⟩
  refine PySem.W.callWith_K (first := [.ref a]) (h₀ := X.base) I.ok.mod.kin hm.kp (thn (ha'.run pos pins s1 σ H1 _ I1 hR) fun us s2 z => ?_) hst hpl
  obtain ⟨vs, H3, I3, r, ss, M3, H4, z1, z2, z3, z4⟩ := z
  exact ⟨I3.kIn, call_go F hr hb (us := .ref a :: us) (vs := .ref a :: vs) (ss := .own a :: ss) I3 (.cons rfl r) (.cons rfl z1) z2 z3 z4⟩
theorem xe_meth0 {pl : Sem Bool} (F : Holds X.prog X.w X.K X.mg X.base k g fd ps pr) (hr : Rm k X.A) (c : Cls X.K C) (hm : Meth X.K C m g) (hN : m ∉ N) (hb : Binds X.K fd ps []) (ho : XE X o do_)
    (ht : eval (.Call (.Attribute o m apos) [] [] pos) X.env = (do
      let ov ← eval o X.env
      standAt apos.atName
      let (f, first) ← holding [ov] (getMethod ov m pl)
      callWith pos f first (backTo pos (starEach [] X.env)) (backToKw pos (keywordEach [] X.env))) := by rfl) : XE X (.Call (.Attribute o m apos) [] [] pos) (dMeth C N pr do_ dNil) := by
  refine ⟨fun pins s σ Hc Q I ⟨Γ, M, H, q, hd, F', O, on⟩ => ?_⟩
  have ho' : PE X o (LE do_) := ho
  have hO : LE do_ σ Hc fun x H1 => ∃ a vs M1 H2, x = .ref a ∧ M1 a = some (.ins C N vs) ∧ Own H2 H1 M1 ∧ Ex H H2 ∧ pr [.own a] M1 q :=
    ⟨Γ, M, H, _, hd, F', O, fun v sl M' H' Hc' e1 O1 r1 h1 => by
      obtain ⟨a, vs, rfl, h2, h3⟩ := h1
      cases r1
      exact ⟨a, vs, M', H', rfl, h2, O1, e1, h3⟩⟩
  refine PySem.W.methodCall_KW (pl := pl) (thn (ho'.run pins s σ Hc _ I hO) fun u s1 ⟨x, H1, I1, rx, a, vs, M1, H2, ex, hm2, O1, e1, hd2⟩ => ?_) ht
  subst ex
  obtain rfl : u = Value.ref a := rx
  obtain ⟨_, dx, ws, g1, g2⟩ := O1.ob _ _ hm2
  refine getmeth_ok I1 g1 c hm (lookup_none hN) ?_
  exact PySem.W.callWith_K0 (first := [.ref a]) I1.kIn hm.kp (call_go F hr hb (us := [.ref a]) (vs := [.ref a]) (ss := [.own a]) I1 (.cons rfl .nil) (.cons rfl .nil) O1 hd2 (on.ex e1))
/-! ### an object made: C(..) -/
def dMake (C : Addr) (N : List Str) (pr : Pr) (das : DA) : DE := fun Γ M k => das Γ M fun ss M1 => ∀ p, M1 p = none → pr (.own p :: ss) (put M1 p (.ins C N [])) fun v M2 => v = .dat .none ∧ k (.own p) M2
theorem make_guards {A : Around} {C : Addr} {us : List Value} {kw : List (Str × Value)} : (A.under (.builtin "type.__call__" ⟨.ref C :: us, kw⟩)).guards = A.guards := by
  first | rfl | simp [Around.under, Code.weight, Code.isCreation, Code.isGuard, Code.isCaller, Code.frames, Code.isFrame, guardIds]
theorem make_go {pins : List (Addr × Obj)} {σ : L2.St} {Hc H : Hp} {M : Mem} {s : Shared} {Q : VK} {q : DK} {us : List Value} {vs : List V} {ss : List Sl} (Mk_ : Mk X.K C g) (F : Holds X.prog X.w X.K X.mg X.base k g fd ps pr) (hr : Rm (k + 1) X.A) (hb : Binds X.K fd ps [])
    (I : Inv X pins σ Hc s) (r : Vals vs us) (rs : Rps H ss vs) (O : Own H Hc M) (h : ∀ p, M p = none → pr (.own p :: ss) (put M p (.ins C N [])) fun v M2 => v = .dat .none ∧ q (.own p) M2) (on : On H q Q) : wpAny (model X.prog X.w) X.A (call (.ref C) us) (EP X pins σ Q) X.xe s := by
  have n1 : Hc (s.heap.objs.size + 1) = none := I.hok.fresh (Nat.le_succ _)
  have n0 : Hc s.heap.objs.size = none := I.hok.fresh (Nat.le_refl _)
  have ne : s.heap.objs.size + 1 ≠ s.heap.objs.size := (Nat.ne_of_lt (Nat.lt_succ_self _)).symm
  have O1 : Own H (upd Hc s.heap.objs.size (.own (s.heap.objs.size + 1))) M := O.waste n0
  have n1' : (upd Hc s.heap.objs.size (.own (s.heap.objs.size + 1))) (s.heap.objs.size + 1) = none := by rw [upd_ne ne]; exact n1
  have O2 := O1.born (u := .ins C N []) (o := .ins C s.heap.objs.size []) n1' ⟨Nat.zero_le _, s.heap.objs.size, [], by rw [List.zip_nil_right], .nil⟩
  have hp := h _ (O.freeM n1)
  have I2 := Inv.made (C := C) I
  have r2 : Vals (V.ref (s.heap.objs.size + 1) :: vs) (Value.ref (s.heap.objs.size + 1) :: us) := .cons rfl r
  have rs2 : Rps H (.own (s.heap.objs.size + 1) :: ss) (V.ref (s.heap.objs.size + 1) :: vs) := .cons rfl rs
  have hl : (Value.ref (s.heap.objs.size + 1) :: us).length = ps.length := by rw [← r2.length, rps_len rs2]; exact F.len _ _ _ hp
  have e2 : BindsTo { s with heap := (s.heap.push PySem.W.emptyDict).push (PySem.W.instObj C s.heap.objs.size) } fd ⟨Value.ref (s.heap.objs.size + 1) :: us, []⟩ (ps.zip (Value.ref (s.heap.objs.size + 1) :: us)) := by
    have z := hb _ (Value.ref (s.heap.objs.size + 1) :: us) I2.kIn (by rw [List.append_nil]; exact hl)
    rw [List.append_nil] at z
    exact z
  refine wpAny_call (make_map (f := g) I.kIn Mk_.makes Mk_.init (beq_iff_eq.mp Mk_.fn) (codeAny_mono (F.go _ X.stack _ _ ⟨Value.ref (s.heap.objs.size + 1) :: us, []⟩ (Value.ref (s.heap.objs.size + 1) :: us) _ _ _ H _ (fun v H2 => v = .non ∧ Q (.ref (s.heap.objs.size + 1)) H2) ⟨hr.rm.make C us [], by rw [make_guards]; exact hr.gu⟩
    (I2.env0.make C us []) e2 r2 rs2 O2 hp (fun v sv M' H' Hc' e1 O' rv hq => ?_)) fun res s' hq' => ?_))
  · obtain ⟨rfl, hq⟩ := hq
    exact ⟨dp_non_inv rv, on _ (.own _) M' H' Hc' e1 O' rfl hq⟩
  · match res, hq' with
    | .ok (.ret u), hq' =>
      obtain ⟨v, H', I3, rv, ev, q3⟩ := I2.after hq'
      subst ev
      exact ⟨rv, ⟨V.ref (s.heap.objs.size + 1), H', I3, rfl, q3⟩⟩
theorem xe_make (Mk_ : Mk X.K C g) (F : Holds X.prog X.w X.K X.mg X.base k g fd ps pr) (hr : Rm (k + 1) X.A) (hm : X.mg x = some (.ref C)) (hb : Binds X.K fd ps []) (ha : XA X (e :: es) das) (hg : Gl X x := by rfl)
    (hdb : (x == ("__debug__" : Str)) = false := by decide) (he : starEach (e :: es) X.env = (false, eval e X.env) :: starEach es X.env := by rfl) (hpl : (backTo pos (starEach es X.env)).any (·.1) = false := by rfl) : XE X (.Call (.Name x p) (e :: es) [] pos) (dMake C N pr das) := by
  refine ⟨fun pins s σ Hc Q I ⟨Γ, M, H, q, hd, F', O, on⟩ => ?_⟩
  have ha' : PA X (e :: es) (LA das) := ha
  have hR : LA das σ Hc fun vs H1 => ∃ ss M1 H2, Rps H2 ss vs ∧ Own H2 H1 M1 ∧ (∀ p, M1 p = none → pr (.own p :: ss) (put M1 p (.ins C N [])) fun v M2 => v = .dat .none ∧ q (.own p) M2) ∧ On H2 q Q :=
    ⟨Γ, M, H, _, hd, F', O, fun vs ss M' H' Hc' e1 O1 r1 h1 => ⟨ss, M', H', r1, O1, h1, on.ex e1⟩⟩
  refine wpAny_Call_Name_kw (ld_glob I hg hm ?_ hdb)
  refine PySem.W.callWith_K (h₀ := X.base) I.ok.mod.kin Mk_.kp (thn (ha'.run pos pins s σ Hc _ I hR) fun us s1 z => ?_) he hpl
  obtain ⟨vs, H1, I1, r, ss, M1, H2, z1, z2, z3, z4⟩ := z
  exact ⟨I1.kIn, make_go Mk_ F hr hb I1 r z1 z2 z3 z4⟩
theorem xe_make0 (Mk_ : Mk X.K C g) (F : Holds X.prog X.w X.K X.mg X.base k g fd ps pr) (hr : Rm (k + 1) X.A) (hm : X.mg x = some (.ref C)) (hb : Binds X.K fd ps []) (hg : Gl X x := by rfl)
    (hdb : (x == ("__debug__" : Str)) = false := by decide) : XE X (.Call (.Name x p) [] [] pos) (dMake C N pr dNil) := by
  refine ⟨fun pins s σ Hc Q I ⟨Γ, M, H, q, hd, F', O, on⟩ => ?_⟩
  refine wpAny_Call_Name_kw (ld_glob I hg hm ?_ hdb)
  refine PySem.W.callWith_K0 I.kIn Mk_.kp ?_
  exact make_go Mk_ F hr hb (us := []) (vs := []) (ss := []) I .nil .nil O hd on
end
/-! ### while -/
def dWhile (t : DB) (tb : DS) : DS := fun D Γ M => ∃ W : Nat → Fm → Mem → Prop, (∃ m, W m Γ M) ∧ ∀ m Γ' M', W m Γ' M' → t Γ' M' fun b M1 =>
  (b = true → tb { D with nx := fun Γ2 M2 => ∃ m', m' < m ∧ W m' Γ2 M2, ct := fun Γ2 M2 => ∃ m', m' < m ∧ W m' Γ2 M2, bk := D.nx } Γ' M1) ∧ (b = false → D.nx Γ' M1)
theorem xs_while {t : DB} (h : PS X (.While c body [] pos) (tWhile (LB t) (LS d1))) : XS X (.While c body [] pos) (dWhile t d1) := xs_of h fun Γ M D σ H Hc E hd F O q => by
  obtain ⟨W, ⟨m, w0⟩, ws⟩ := hd
  refine ⟨fun m σ' Hc' => ∃ Γ' M' H', Ex H H' ∧ Fr H' σ' Γ' ∧ Own H' Hc' M' ∧ W m Γ' M', ⟨m, Γ, M, H, Evl.Ex.refl _, F, O, w0⟩, ?_⟩
  rintro m σ' Hc' ⟨Γ', M', H', e1, F1, O1, w⟩
  refine simLB Γ' M' _ σ' H' Hc' _ (ws m Γ' M' w) F1 O1 fun b M1 H1 Hc1 e2 O2 h1 => ?_
  cases b with
  | true =>
    rw [if_pos rfl]
    refine ⟨fun σ2 Hc2 => ∃ Γ2 M2 H2, Ex H H2 ∧ Fr H2 σ2 Γ2 ∧ Own H2 Hc2 M2 ∧ ∃ m', m' < m ∧ W m' Γ2 M2, fun σ2 Hc2 ⟨Γ2, M2, H2, a, b, c, m', d, e⟩ => ⟨m', d, Γ2, M2, H2, a, b, c, e⟩, ?_⟩
    refine simLS Γ' M1 _ σ' H1 Hc1 _ (h1.1 rfl) (F1.ex e2) O2 ((q.ex (e1.trans e2)).loop fun σ4 Γ4 M4 H4 Hc4 e4 F4 O4 h4 => ?_)
    exact ⟨Γ4, M4, H4, e1.trans (e2.trans e4), F4, O4, h4⟩
  | false =>
    rw [if_neg Bool.false_ne_true]
    exact q.nx σ' Γ' M1 H1 Hc1 (e1.trans e2) (F1.ex e2) O2 (h1.2 rfl)
/-! ### x op= e -/
def dAug (i : Nat) (fo : D2) (de : DE) : DS := fun D Γ M => ∃ s0, Γ[i]? = some (some s0) ∧ de Γ M fun s M1 => fo s0 s M1 fun z M2 => D.nx (Γ.set i (some z)) M2
theorem xs_aug {op : Operator} {r : R2} {fo : D2} (hs : Sim2 r fo) (h : PS X (.AugAssign (.Name x pos') op e pos) (tAug i (LE de) r)) (hi : X.N[i]? = some x) : XS X (.AugAssign (.Name x pos') op e pos) (dAug i fo de) := xs_len fun pins s σ Hc E I hl ⟨Γ, M, H, D, hd, F, O, q⟩ => by
  obtain ⟨s0, hs0, hd⟩ := hd
  obtain ⟨v, hv, rv⟩ := F.sl i s0 (by rw [hl]; exact (List.getElem?_eq_some_iff.mp hi).1) hs0
  refine ⟨_, h, v, hv, ?_⟩
  refine simLE Γ M _ σ H Hc _ hd F O fun y sy M1 H1 Hc1 e1 O1 r1 h1 => ?_
  refine hs s0 sy M1 _ v y H1 Hc1 _ h1 (rp_ex e1 rv) r1 O1 fun z sz M2 H2 Hc2 e2 O2 r2 h2 => ?_
  exact fun _ => q.nx _ _ M2 H2 Hc2 (e1.trans e2) ((F.ex (e1.trans e2)).set r2) O2 h2
theorem sim_ipI {g : Int → Int → Int} : Sim2 (ipI g) (fI0 fun i j => .int (g i j)) := sim_I0 fun _ _ _ => .int _
theorem sim_rAdd : Sim2 rAdd (fI0 fun i j => .int (i + j)) := sim_I0 fun _ _ _ => .int _
end
end DL
/-! ranges of numbers of any size -/
namespace DL
open PySem PySem.Spec PyProof.Rows L2
open Evl (Ex)
theorem turn_long {P : Program} {w : World} {K : PySem.W.Frag} {tg : Expr} (it : Addr) (lo : Int) (n : Nat) : Turn P w K tg (Itr lo n) [it] it (fun i h => IsLongIter h it (lo + (i : Nat) * 1) ((n : Int) - (i : Nat)) 1) where
  mem := by simp
  obj := fun i h st b hb => by
    have e : b = it := by simpa using hb
    subst e
    exact ⟨_, st, fun v z => by
      have z' : Data.fields _ = Data.cell v := z
      cases z'⟩
  keep := fun i h h' st k => k it (by simp) _ st
  item := by
    intro X hP hw hK hc i pins s σ H E I hf st hg
    subst hP hw hK
    obtain ⟨f0, f1, f2, f3, f4, f5⟩ := hf it (by simp)
    have W := Walks.longrange (prog := X.prog) (w := X.w) (I.ok.hd hc) it lo 1 n
    refine W.item i s _ _ hg st fun v h' tk hv st' kk => ?_
    obtain ⟨t, rfl⟩ := hv
    have I1 : L2.Inv X pins σ H { s with heap := h', toks := tk } := I.turned (fun b o hb e => kk b o (by simpa using hb) e) f0 f1 f3 f4 f5
    refine ⟨_, rfl, go_of (s := { s with heap := h', toks := tk }) (n := "longrange_iterator") st' rfl rfl (by decide) ⟨.int (lo + i), H, I1, ⟨t, ?_⟩, ⟨rfl, rfl⟩, st', fun b hb => (hf b hb).1⟩⟩
    rw [Int.mul_one]
  done := by
    intro X hP hw hK hc i pins s σ H E I hf st hg
    subst hP hw hK
    obtain ⟨f0, f1, f2, f3, f4, f5⟩ := hf it (by simp)
    exact wpAny_pyNext_long_end (I.ok.hd hc) st (by have : n ≤ i := hg; omega) fun h' eb => ⟨rfl, I.turned (t' := s.toks) (fun b o hb e => eb b o hb e) f0 f1 f3 f4 f5⟩
  self := fun _ _ _ _ _ st h => wpAny_pyIter_longiter st h
section
variable {X : Cx} {tg : Expr}
theorem range_itW {pins : List (Addr × Obj)} {σ : L2.St} {H : Hp} {s : Shared} {R : It → Hp → Prop} {E : Value → Shared → Prop} {lo hi : Int} {t u v : Tok} {tk : Nat} (I : L2.Inv X pins σ H s)
    (q : R (Itr lo (hi - lo).toNat) H) : wpAny (model X.prog X.w) X.A (pyIter (.ref s.heap.objs.size)) (PIE X pins σ tg R) E { s with heap := s.heap.push { cls := .type "range", data := .fields #[.int lo t, .int hi u, .int 1 v] }, toks := tk } := by
  have I1 : L2.Inv X pins σ H { s with heap := s.heap.push { cls := .type "range", data := .fields #[.int lo t, .int hi u, .int 1 v] }, toks := tk } := I.kept fun b o e => Heap.get?_push_of_some _ e
  have e1 : lo + ((0 : Nat) : Int) * 1 = lo := by simp
  have e2 : (((hi - lo).toNat : Nat) : Int) - ((0 : Nat) : Int) = Builtin.Range.rangeSize lo hi 1 := by rw [rangeSize_one]; split <;> omega
  cases hs : Builtin.Range.small lo hi 1 with
  | true =>
    refine wpAny_pyIter_range (IsRange.new ..) hs ?_
    refine ⟨(s.heap.push { cls := .type "range", data := .fields #[.int lo t, .int hi u, .int 1 v] }).objs.size, [(s.heap.push { cls := .type "range", data := .fields #[.int lo t, .int hi u, .int 1 v] }).objs.size], _, _, H, rfl,
      I1.kept (t' := tk) fun b o e => Heap.get?_push_of_some _ e, turn_range _ lo (hi - lo).toNat, ?_, fun b hb => ?_, q⟩
    · show IsRangeIter _ _ (lo + ((0 : Nat) : Int) * 1) ((((hi - lo).toNat : Nat) : Int) - ((0 : Nat) : Int)) 1
      rw [e1, e2]
      exact Heap.get?_push_size _ rfl
    · have e : b = (s.heap.push { cls := .type "range", data := .fields #[.int lo t, .int hi u, .int 1 v] }).objs.size := by simpa using hb
      subst e
      exact I1.fpOk (Nat.le_refl _) (I1.hok.fresh (Nat.le_refl _))
  | false =>
    refine wpAny_pyIter_longrange (IsRange.new ..) hs ?_
    refine ⟨(s.heap.push { cls := .type "range", data := .fields #[.int lo t, .int hi u, .int 1 v] }).objs.size, [(s.heap.push { cls := .type "range", data := .fields #[.int lo t, .int hi u, .int 1 v] }).objs.size], _, _, H, rfl,
      I1.kept (t' := tk) fun b o e => Heap.get?_push_of_some _ e, turn_long _ lo (hi - lo).toNat, ?_, fun b hb => ?_, q⟩
    · show IsLongIter _ _ (lo + ((0 : Nat) : Int) * 1) ((((hi - lo).toNat : Nat) : Int) - ((0 : Nat) : Int)) 1
      rw [e1, e2]
      exact Heap.get?_push_size _ rfl
    · have e : b = (s.heap.push { cls := .type "range", data := .fields #[.int lo t, .int hi u, .int 1 v] }).objs.size := by simpa using hb
      subst e
      exact I1.fpOk (Nat.le_refl _) (I1.hok.fresh (Nat.le_refl _))
def iRngW1 (ta : TA) : TI := fun σ H R => ta σ H fun vs H1 => ∃ j : Int, vs = [.int j] ∧ R (Itr 0 (j - 0).toNat) H1
def iRngW2 (ta : TA) : TI := fun σ H R => ta σ H fun vs H1 => ∃ i j : Int, vs = [.int i, .int j] ∧ R (Itr i (j - i).toNat) H1
theorem pi_rangeW1 {a : Expr} {ta : TA} {p pos : Pos} (hg : Gl X "range") (hm : X.mg "range" = none) (ha : PA X [a] ta) (hs : starEach [a] X.env = [(false, eval a X.env)] := by rfl) : PI X tg (.Call (.Name "range" p) [a] [] pos) (iRngW1 ta) := by
  refine ⟨fun pins s σ H R I h => ?_⟩
  refine Call_ (ld_blt I hg hm boot_range (PyProof.Rows.callWith_type1 (thn (ha.run pos pins s σ H _ I h) fun us s1 ⟨vs, H1, I1, r1, q1⟩ => ?_) hs rfl))
  obtain ⟨j, e, q⟩ := q1
  subst e
  cases r1 with
  | cons r rr =>
    cases rr
    obtain ⟨t, rfl⟩ := r
    exact call_range_1 (range_itW I1 q)
theorem pi_rangeW2 {a b : Expr} {ta : TA} {p pos : Pos} (hg : Gl X "range") (hm : X.mg "range" = none) (ha : PA X [a, b] ta) (hs : starEach [a, b] X.env = [(false, eval a X.env), (false, eval b X.env)] := by rfl) (hs2 : starEach [b] X.env = [(false, eval b X.env)] := by rfl) :
    PI X tg (.Call (.Name "range" p) [a, b] [] pos) (iRngW2 ta) := by
  refine ⟨fun pins s σ H R I h => ?_⟩
  refine Call_ (ld_blt I hg hm boot_range (PyProof.Rows.callWith_type1 (thn (ha.run pos pins s σ H _ I h) fun us s1 ⟨vs, H1, I1, r1, q1⟩ => ?_) (by rw [hs, hs2]) (by rw [hs2]; rfl)))
  obtain ⟨i, j, e, q⟩ := q1
  subst e
  cases r1 with
  | cons r rr =>
    cases rr with
    | cons r' rr =>
      cases rr
      obtain ⟨t, rfl⟩ := r
      obtain ⟨t', rfl⟩ := r'
      exact call_range_2 (range_itW I1 q)
end
/-! ### list(range(a, b)) -/
section
variable {prog : Program} {w : World} {A : Around} {E : Value → Shared → Prop} {s : Shared}
theorem extend_long {R : Result → Shared → Prop} {r : Addr} {a b c : Int} {t u v : Tok} {n : Nat} (hh : A.handled = none) (hr : IsRange s.heap r a b c t u v) (hsmall : Builtin.Range.small a b c = false)
    (hn : Builtin.Range.rangeSize a b c = n) (hlen : n ≤ 2 ^ 24) (S : Addr) (res : Value) (c₀ : Nat) (hS : s.heap.get? S = some { cls := .type "list", data := .seq #[] c₀ })
    (hR : ∀ h' tk acc' c', (∀ b o, b ≠ S → s.heap.get? b = some o → h'.get? b = some o) → h'.get? S = some { cls := .type "list", dict := none, data := .seq acc' c', slots := #[] } →
      ItemsOf (fun i v => ∃ t, v = .int (a + i * c) t) acc' n → R (.ok (.ret res)) { s with heap := h', toks := tk }) :
    wpAny (model prog w) A.in1 (Builtin.List.listExtendWith (.ref S) (.ref r) res)
      (fun fin s' => match fin with | .done f => R (.ok f) s' | .again c' => c'.quiet = true ∧ codeAny (model prog w) A c' R s') (fun e s' => R (.error e) s') s := by
  have hSr : S ≠ r := fun e => by rw [e, hr] at hS; simp at hS
  have hSlt : S < s.heap.objs.size := Heap.lt_size hS
  have hSI : S ≠ s.heap.objs.size := Nat.ne_of_lt hSlt
  have hSf : S ∉ [s.heap.objs.size] := fun hm => hSI (List.mem_singleton.mp hm)
  have W := (Walks.longrange (prog := prog) (w := w) (A := A.in1) hh s.heap.objs.size a c n).toS
  have key : ∀ (h : Heap) (c₁ tk : Nat), IsLongIter h s.heap.objs.size (a + ((0 : Nat) : Int) * c) ((n : Int) - ((0 : Nat) : Int)) c → (∀ b o, b ≠ S → s.heap.get? b = some o → h.get? b = some o) →
      h.get? S = some { cls := .type "list", data := .seq #[] c₁ } → codeAny (model prog w) A (.builtin "list.extend.loop" ⟨[.ref S, .ref s.heap.objs.size, res], []⟩) R { s with heap := h, toks := tk } := by
    intro h c₁ tk hit hk hS₁
    refine codeAny_extend_loopS W (by rw [sizeLine_eq]; omega) S hSf res n 0 _ #[] c₁ rfl (Nat.zero_le _) hit hS₁ (ItemsOf.nil _) fun s' acc' c' hm hS' hacc => ?_
    rw [Moved.eq_with hm]
    refine hR s'.heap s'.toks acc' c' (fun b o hb e => hm.heap b o (fun hmem => ?_) (hk b o hb e)) hS' hacc
    rcases List.mem_cons.mp hmem with e' | hmem
    · exact hb e'
    · exact absurd (Heap.lt_size e) (by rw [List.mem_singleton.mp hmem]; exact Nat.lt_irrefl _)
  unfold Builtin.List.listExtendWith
  refine wpAny_bind (wpAny_typeOf (T := "range") ⟨_, hr, rfl⟩ ?_)
  have h1 : Builtin.List.listSameRef (.ref S) (.ref r) = false := by simp [Builtin.List.listSameRef, hSr]
  have h2 : (Value.type "range" == Value.type "list") = false := by decide
  have h3 : (Value.type "range" == Value.type "tuple") = false := by decide
  simp only [h1, h2, h3, Bool.or_false, Bool.false_eq_true, if_false]
  refine wpAny_bind (wpAny_pyIter_longrange hr hsmall ?_)
  refine wpAny_bind (wpAny_holding (wpAny_hint_range (n := n) (Heap.get?_push_of_some _ hr) hn hlen ?_))
  have hit₁ : IsLongIter (s.heap.push { cls := .type "longrange_iterator", data := .fields #[rawInt a, rawInt (Builtin.Range.rangeSize a b c), rawInt c] }) s.heap.objs.size (a + ((0 : Nat) : Int) * c) ((n : Int) - ((0 : Nat) : Int)) c := by
    show IsLongIter _ _ _ _ _; rw [hn]; simpa using Heap.get?_push_size _ rfl
  have hS₁ := Heap.get?_push_of_some { cls := .type "longrange_iterator", data := .fields #[rawInt a, rawInt (Builtin.Range.rangeSize a b c), rawInt c] } hS
  refine wpAny_ite_split (fun _ => ?_) (fun _ => wpAny_pure ⟨plainId_quiet F.plain_extend_loop _, key _ c₀ _ hit₁ (fun b o _ e => Heap.get?_push_of_some _ e) hS₁⟩)
  refine wpAny_bind (wpAny_rule ?_)
  refine wpAny_bind ?_
  show wpAny _ _ (updateSeq S (·.push .none) >>= fun _ => updateSeq S (·.pop)) _ _ _
  refine wpAny_bind (wpAny_updateSeq hS₁ rfl ?_)
  have hS₂ := Heap.get?_update_self (Obj.mapSeq (·.push Value.none)) hS₁ rfl
  refine wpAny_updateSeq (hz := by seq_fits) hS₂ rfl ?_
  have hS₃ := Heap.get?_update_self (Obj.mapSeq (·.pop)) hS₂ rfl
  refine wpAny_pure ⟨plainId_quiet F.plain_extend_loop _, key _ _ _ ?_ (fun b o hb e => ?_) hS₃⟩
  · exact (Heap.get?_update_other _ _ hSI).trans ((Heap.get?_update_other _ _ hSI).trans hit₁)
  · exact (Heap.get?_update_other _ _ (Ne.symm hb)).trans ((Heap.get?_update_other _ _ (Ne.symm hb)).trans (Heap.get?_push_of_some _ e))
theorem list_init_long {R : Result → Shared → Prop} {r : Addr} {a b c : Int} {t u v : Tok} {n : Nat} (hh : A.handled = none) (hr : IsRange s.heap r a b c t u v) (hsmall : Builtin.Range.small a b c = false)
    (hn : Builtin.Range.rangeSize a b c = n) (hlen : n ≤ 2 ^ 24) (S : Addr) (hS : s.heap.get? S = some { cls := .type "list", data := .seq #[] })
    (hR : ∀ h' tk acc' c', (∀ b o, b ≠ S → s.heap.get? b = some o → h'.get? b = some o) → h'.get? S = some { cls := .type "list", dict := none, data := .seq acc' c', slots := #[] } →
      ItemsOf (fun i v => ∃ t, v = .int (a + i * c) t) acc' n → R (.ok (.ret .none)) { s with heap := h', toks := tk }) :
    wpAny (model prog w) A.in1 (Builtin.«list.__init__» ⟨[.ref S, .ref r], []⟩)
      (fun fin s' => match fin with | .done f => R (.ok f) s' | .again c' => c'.quiet = true ∧ codeAny (model prog w) A c' R s') (fun e s' => R (.error e) s') s := by
  have hSr : S ≠ r := fun e => by rw [e, hr] at hS; simp at hS
  show wpAny _ _ (do let old ← Builtin.List.listItems (.ref S); Builtin.List.listUpdate (.ref S) (fun _ => #[]); letGo old.toList.reverse; Builtin.List.listExtendWith (.ref S) (.ref r) .none) _ _ s
  refine wpAny_bind ?_
  unfold Builtin.List.listItems
  refine wpAny_bind (wpAny_seqItems hS rfl (wpAny_pure ?_))
  show wpAny _ _ (updateSeq S (fun _ => #[]) >>= fun _ => letGo (#[] : Array Value).toList.reverse >>= fun _ => Builtin.List.listExtendWith (.ref S) (.ref r) .none) _ _ s
  refine wpAny_bind (wpAny_updateSeq hS rfl ?_)
  have hS₂ := Heap.get?_update_self (Obj.mapSeq (fun _ => (#[] : Array Value))) hS rfl
  have oth : ∀ b o, b ≠ S → s.heap.get? b = some o → (s.heap.update S (Obj.mapSeq (fun _ => (#[] : Array Value)))).get? b = some o :=
    fun b o hb e => (Heap.get?_update_other _ _ (Ne.symm hb)).trans e
  refine wpAny_bind (wpAny_letGo ?_)
  refine extend_long hh (oth r _ (Ne.symm hSr) hr) hsmall hn hlen S .none _ hS₂ fun h' tk acc' c' hk hS' hacc => ?_
  exact hR h' tk acc' c' (fun b o hb e => hk b o hb (oth b o hb e)) hS' hacc
theorem call_list_rangeW {Q : Value → Shared → Prop} {r : Addr} {a b c : Int} {t u v : Tok} {n : Nat} (hh : A.handled = none) (hr : IsRange s.heap r a b c t u v)
    (hn : Builtin.Range.rangeSize a b c = n) (hlen : n ≤ 2 ^ 24)
    (hQ : ∀ h' tk acc' c', (∀ b o, s.heap.get? b = some o → h'.get? b = some o) →
      h'.get? s.heap.objs.size = some { cls := .type "list", dict := none, data := .seq acc' c', slots := #[] } → ItemsOf (fun i v => ∃ t, v = .int (a + i * c) t) acc' n → Q (.ref s.heap.objs.size) { s with heap := h', toks := tk }) :
    wpAny (model prog w) A (call (.type "list") [.ref r]) Q E s := by
  cases hsm : Builtin.Range.small a b c with
  | true => exact call_list_range hh hr hsm hn hlen hQ
  | false =>
    refine callType_codes (Q₁ := fun obj s₁ => obj = .ref s.heap.objs.size ∧ s₁ = { s with heap := s.heap.push { cls := .type "list", data := .seq #[] } }) F.called_list (F.typeCall_list_1 _) F.entry_list_init
      (code_list_new _ ⟨rfl, rfl⟩) fun obj s₁ h₁ => ?_
    obtain ⟨rfl, rfl⟩ := h₁
    have hS : (s.heap.push { cls := .type "list", data := .seq #[] }).get? s.heap.objs.size = some { cls := .type "list", data := .seq #[] } := Heap.get?_push_size _ rfl
    refine ⟨⟨_, hS, rfl⟩, F.args_list_init_2 _ _, list_init_long (A := A.in1) hh (Heap.get?_push_of_some _ hr) hsm hn hlen _ hS fun h' tk acc' c' hk hS' hacc => ?_⟩
    exact ⟨rfl, hQ h' tk acc' c' (fun b o e => hk b o (Nat.ne_of_lt (Heap.lt_size e)) (Heap.get?_push_of_some _ e)) hS' hacc⟩
end
section
variable {X : Cx} {e a b c : Expr} {es : List Expr} {de da db : DE} {das : DA} {pos p : Pos} {st : Stmt} {rest body : List Stmt} {d1 d2 : DS} {x : Str} {te : L2.St → Hp → (Int → Int → Hp → Prop) → Prop}
def tLstRgW (te : L2.St → Hp → (Int → Int → Hp → Prop) → Prop) : TE := fun σ H Q => te σ H fun a b H1 => (b - a).toNat ≤ 2 ^ 24 ∧ ∀ q, H1 q = none → Q (.ref q) (upd H1 q (.lst (rgV a b)))
theorem pe_listRgW {p pos : Pos} (hc : X.calm = true) (hg : Gl X "list") (hm : X.mg "list" = none) (he : PRg X e te) (na : starEach [e] X.env = (false, eval e X.env) :: starEach [] X.env := by rfl) : PE X (.Call (.Name "list" p) [e] [] pos) (tLstRgW te) := by
  refine ⟨fun pins s σ H Q I h => ?_⟩
  refine Call_ (ld_blt I hg hm boot_list (PyProof.Rows.callWith_type1 (args_cons (thn (he pins s σ H _ I h) fun x s1 ⟨r, a, b, t, u, v, H1, ex, hr, I1, b5, q⟩ => args_nil ?_) na) na))
  subst ex
  refine call_list_rangeW (n := (b - a).toNat) (I1.ok.hd hc) hr (rangeSize_nat a b) b5 fun h' tk acc c' hk e' hi => ?_
  refine ⟨.ref s1.heap.objs.size, upd H1 s1.heap.objs.size (.lst (rgV a b)), I1.laid hk (Nat.le_refl _) (show ObjOk X.prog X.w _ _ _ (.lst (rgV a b)) from ⟨?_, acc.toList, c', vals_rg hi, ?_⟩), rfl, q _ (I1.hok.fresh (Nat.le_refl _))⟩
  · rw [rgV_length, sizeLine_eq]; omega
  · rw [Array.toArray_toList]; exact e'
/-- lo .. hi - 1 -/
def rgI (lo hi : Int) : List Int := (List.range (hi - lo).toNat).map fun (i : Nat) => lo + (i : Int)
def dListRW (da db : DE) : DE := fun Γ M k => da Γ M fun s M1 => db Γ M1 fun t M2 => ∃ lo hi, s = .dat (.int lo) ∧ t = .dat (.int hi) ∧ (hi - lo).toNat ≤ 16777216 ∧ ∀ p, M2 p = none → k (.own p) (put M2 p (.lst ((rgI lo hi).map fun n => .dat (.int n))))
theorem rgI_rps {H : Hp} {lo hi : Int} : Rps H ((rgI lo hi).map fun n => .dat (.int n)) (rgV lo hi) := by
  unfold rgI rgV
  rw [List.map_map]
  generalize List.range (hi - lo).toNat = l
  induction l with
  | nil => exact .nil
  | cons a l ih => exact .cons (Dq.int _) ih
theorem xe_listRW (h : PE X e (tLstRgW (tRg2 (LE da) (LE db)))) : XE X e (dListRW da db) := xe_of h fun Γ M k σ H Hc Q hd F O q => by
  refine simLE Γ M _ σ H Hc _ hd F O fun v s M1 H1 Hc1 e1 O1 r1 h1 => ?_
  refine simLE Γ M1 _ σ H1 Hc1 _ h1 (F.ex e1) O1 fun v2 s2 M2 H2 Hc2 e2 O2 r2 h2 => ?_
  obtain ⟨lo, hi, rfl, rfl, hz, h2⟩ := h2
  refine ⟨lo, hi, dp_int_inv (rp_ex e2 r1), dp_int_inv r2, hz, fun p hp => ?_⟩
  refine (q.ex (e1.trans e2)).own O2 rgI_rps ?_ hp (h2 p (O2.freeM hp))
  unfold rgI
  rw [List.length_map, List.length_map, List.length_range, sizeLine_eq]
  omega
/-! ### for i in range(..), [.. for i in range(..)], of any size -/
def dForW (rgEnds : List Sl → Option (Int × Int)) (da : DA) (g : DG) (tb : DS) : DS := fun D Γ M => da Γ M fun ss M1 => ∃ lo hi, rgEnds ss = some (lo, hi) ∧ ∃ Inv : Nat → Fm → Mem → Prop, Inv 0 Γ M1 ∧
  (∀ (i : Nat) Γ' M', i < (hi - lo).toNat → Inv i Γ' M' → g (.dat (.int (lo + i))) Γ' M' fun Γ2 M2 => tb { D with nx := Inv (i + 1), ct := Inv (i + 1), bk := D.nx } Γ2 M2) ∧ ∀ Γ' M', Inv (hi - lo).toNat Γ' M' → D.nx Γ' M'
theorem xs_forW1 {tg a : Expr} {g : DG} {p1 p2 : Pos} (h : PS X (.For tg (.Call (.Name "range" p1) [a] [] p2) body [] pos) (tFor (iRngW1 (LA das)) (LG g) (LS d1))) : XS X (.For tg (.Call (.Name "range" p1) [a] [] p2) body [] pos) (dForW rg1 das g d1) := xs_of h fun Γ M D σ H Hc E hd F O q => by
  refine simLA Γ M _ σ H Hc _ hd F O fun vs ss M1 H1 Hc1 e1 O1 r1 h1 => ?_
  obtain ⟨lo, hi, er, W, w0, ws, wd⟩ := h1
  unfold rg1 at er
  split at er
  · cases er
    obtain ⟨v, rfl, rv⟩ := rps1 r1
    exact ⟨hi, by rw [dp_int_inv rv], loop_rng simLS (F.ex e1) O1 (q.ex e1) W w0 ws wd⟩
  · cases er
theorem xs_forW2 {tg a b : Expr} {g : DG} {p1 p2 : Pos} (h : PS X (.For tg (.Call (.Name "range" p1) [a, b] [] p2) body [] pos) (tFor (iRngW2 (LA das)) (LG g) (LS d1))) : XS X (.For tg (.Call (.Name "range" p1) [a, b] [] p2) body [] pos) (dForW rg2 das g d1) := xs_of h fun Γ M D σ H Hc E hd F O q => by
  refine simLA Γ M _ σ H Hc _ hd F O fun vs ss M1 H1 Hc1 e1 O1 r1 h1 => ?_
  obtain ⟨lo, hi, er, W, w0, ws, wd⟩ := h1
  unfold rg2 at er
  split at er
  · cases er
    obtain ⟨v, u, rfl, rv, ru⟩ := rps2 r1
    exact ⟨lo, hi, by rw [dp_int_inv rv, dp_int_inv ru], loop_rng simLS (F.ex e1) O1 (q.ex e1) W w0 ws wd⟩
  · cases er
def dLcW (rg : List Sl → Option (Int × Int)) (da : DA) (j : Nat) (t : DB) (el : DE) (vs : List Nat) : DE := fun Γ M k => da Γ M fun ss M1 => ∃ lo hi, rg ss = some (lo, hi) ∧
  ∀ p, M1 p = none → ∃ Inv : Nat → Mem → Prop, Inv 0 (put M1 p (.lst [])) ∧ (∀ (i : Nat) M', i < (hi - lo).toNat → Inv i M' → lcTurn p Γ vs j t el (Inv (i + 1)) (.dat (.int (lo + i))) M') ∧ ∀ M', Inv (hi - lo).toNat M' → k (.own p) M'
theorem sim_lcW1 {j : Nat} {t : DB} {el : DE} {tt : TT} {tel : TE} {vs : List Nat} {ta : TA} (h : SimA ta das) (ht : SimB tt t) (hel : SimE tel el) (hj : j ∈ vs) : SimE (tLc (iRngW1 ta) (gName j) tt tel vs) (dLcW rg1 das j t el vs) := fun Γ M k σ H Hc Q hd F O q => by
  refine h Γ M _ σ H Hc _ hd F O fun ws ss M1 H1 Hc1 e1 O1 r1 h1 => ?_
  obtain ⟨lo, hi, er, h1⟩ := h1
  unfold rg1 at er
  split at er
  · cases er
    obtain ⟨v, rfl, rv⟩ := rps1 r1
    refine ⟨hi, by rw [dp_int_inv rv], fun p hp => ?_⟩
    obtain ⟨W, w0, wt, wd⟩ := h1 p (O1.freeM hp)
    exact lc_rngD ht hel hj (F.ex e1) O1 (q.ex e1) hp W w0 wt wd
  · cases er
theorem sim_lcW2 {j : Nat} {t : DB} {el : DE} {tt : TT} {tel : TE} {vs : List Nat} {ta : TA} (h : SimA ta das) (ht : SimB tt t) (hel : SimE tel el) (hj : j ∈ vs) : SimE (tLc (iRngW2 ta) (gName j) tt tel vs) (dLcW rg2 das j t el vs) := fun Γ M k σ H Hc Q hd F O q => by
  refine h Γ M _ σ H Hc _ hd F O fun ws ss M1 H1 Hc1 e1 O1 r1 h1 => ?_
  obtain ⟨lo, hi, er, h1⟩ := h1
  unfold rg2 at er
  split at er
  · cases er
    obtain ⟨v, u, rfl, rv, ru⟩ := rps2 r1
    refine ⟨lo, hi, by rw [dp_int_inv rv, dp_int_inv ru], fun p hp => ?_⟩
    obtain ⟨W, w0, wt, wd⟩ := h1 p (O1.freeM hp)
    exact lc_rngD ht hel hj (F.ex e1) O1 (q.ex e1) hp W w0 wt wd
  · cases er
theorem xe_lcW1 {ex : Expr} {j : Nat} {t : DB} {el : DE} {vs : List Nat} (h : PE X ex (tLc (iRngW1 (LA das)) (gName j) (LB t) (LE el) vs)) (hj : j ∈ vs) : XE X ex (dLcW rg1 das j t el vs) := xe_of h (sim_lcW1 simLA simLB simLE hj)
theorem xe_lcW2 {ex : Expr} {j : Nat} {t : DB} {el : DE} {vs : List Nat} (h : PE X ex (tLc (iRngW2 (LA das)) (gName j) (LB t) (LE el) vs)) (hj : j ∈ vs) : XE X ex (dLcW rg2 das j t el vs) := xe_of h (sim_lcW2 simLA simLB simLE hj)
end
end DL
/-! isinstance of an exception and several classes; extend; int of a truth; sum of a tuple; min, max of two -/
namespace DL
open PySem PySem.Spec PyProof.Rows L2
open Evl (Ex)
section
variable {X : Cx}
/-- isinstance(an exception, (C1, C2, ..)) -/
def rIsXT (K : PySem.W.Frag) : List V → Hp → VK → Prop := fun xs H Q => ∃ (a C tp : Addr) (d : Option Addr) (φ : Heap → Prop) (Ds : List Addr) (b : Bool), xs = [.ref a, .ref tp] ∧ H a = some (.ext φ) ∧ (∀ h, φ h → Kx a C d h) ∧ (∀ dd, d = some dd → ∃ ws, H dd = some (.xd ws)) ∧ ErrC K C ∧
  H tp = some (.tup (Ds.map V.ref)) ∧ PySem.W.kitAny K (.ref C) (Ds.map Value.ref) = some b ∧ Q (.bl b) H
theorem vals_refs : ∀ {Ds : List Addr} {us : List Value}, Vals (Ds.map V.ref) us → us = Ds.map Value.ref
  | [], _, .nil => rfl
  | D :: Ds, _, .cons r t => by
    cases r
    rw [vals_refs t]
    rfl
theorem call_isXT : CallR X (.builtin "isinstance") (rIsXT X.K) := by
  intro pins s σ H xs us Q I r h
  obtain ⟨a, C, tp, d, φ, Ds, b, rfl, ha, hφ, hd, E, ht, e, q⟩ := h
  cases r with
  | cons rx rr =>
    cases rr with
    | cons rt rr =>
      cases rr
      cases rx
      cases rt
      obtain ⟨ox, od, J, _⟩ := exc_inst I ha hφ hd
      obtain ⟨_, its, rv, o, h1, h2, n, h3⟩ := (show ObjOk X.prog X.w H s.heap tp (.tup (Ds.map V.ref)) from I.hok tp _ ht)
      have e3 := vals_refs rv
      subst e3
      obtain ⟨oc, od, dt, sl⟩ := o
      simp only at h2 h3
      subst h2 h3
      exact PySem.W.kia_tup (PySem.W.kitx_exc E.cl E.hg E.hk E.hs E.ha E.hn E.ht E.hm) I.kIn J h1 e (fun z => nomatch z) fun tk => ⟨.bl b, H, I.kept (t' := tk) fun _ _ z => z, rfl, q⟩
def fIsiXT (K : PySem.W.Frag) : DC := fun ss M k => match ss with
  | [.fix (.exc C fs), .own a] => ErrC K C ∧ ∃ (Ds : List Addr) (b : Bool), M a = some (.tup (Ds.map fun D => .raw (.ref D))) ∧ PySem.W.kitAny K (.ref C) (Ds.map Value.ref) = some b ∧ k (.dat (.bool b)) M
  | _ => False
theorem rps_refs {H : Hp} : ∀ {Ds : List Addr} {vs : List V}, Rps H (Ds.map fun D => Sl.raw (.ref D)) vs → vs = Ds.map V.ref
  | [], _, .nil => rfl
  | D :: Ds, _, .cons r t => by
    rw [show _ = V.ref D from r, rps_refs t]
    rfl
theorem sim_isiXT {K : PySem.W.Frag} : SimC (rIsXT K) (fIsiXT K) := by
  intro ss M k xs H Hc Q h r O q
  unfold fIsiXT at h
  split at h
  · obtain ⟨x, y, rfl, rx, ry⟩ := rps2 r
    obtain ⟨a, d, φ, rfl, h1, h2, h3⟩ := rx
    cases ry
    obtain ⟨E, Ds, b, hm, e, h⟩ := h
    have fd := fs_dict h3
    obtain ⟨vs, g1, g2⟩ := O.ob _ _ hm
    rw [rps_refs g2] at g1
    exact ⟨a, _, _, d, φ, Ds, b, rfl, O.ex _ _ h1, h2, fun dd z => by obtain ⟨ws, e⟩ := fd dd z; exact ⟨ws, O.ex _ _ e⟩, E, g1, e, q.dat O (.bl _) h⟩
  · exact h.elim
/-- kinds, by a list of them -/
theorem Kinds.any {K : PySem.W.Frag} {B : Addr} {cs : List Addr} (Z : Kinds K B cs) {i : Nat} {c : Addr} (hc : cs[i]? = some c) : ∀ {js : List Nat} {Ds : List Addr}, js.map (fun j => cs[j]?) = Ds.map some → PySem.W.kitAny K (.ref c) (Ds.map Value.ref) = some (js.any fun j => decide (i = j))
  | [], [], _ => rfl
  | [], _ :: _, h => by cases h
  | _ :: _, [], h => by cases h
  | j :: js, D :: Ds, h => by
    have h1 : cs[j]? = some D := (List.cons.inj h).1
    have h2 := (List.cons.inj h).2
    show (match PySem.W.kitOne K (.ref c) (.ref D) with | some true => some true | some false => PySem.W.kitAny K (.ref c) (Ds.map Value.ref) | none => none) = _
    rw [Z.ee i j c D hc h1]
    cases e : decide (i = j) with
    | true => rw [List.any_cons, e, Bool.true_or]
    | false =>
      rw [List.any_cons, e, Bool.false_or]
      exact Z.any hc h2
/-- xs.extend(ys) -/
def fExt : Sl → List Sl → Mem → DK → Prop := fun o ss M k => match o, ss with
  | .own a, [s] => ∃ xs ys, M a = some (.lst xs) ∧ IsL M s ys ∧ xs.length + ys.length ≤ 16777216 ∧ k (.dat .none) (put M a (.lst (xs ++ ys)))
  | _, _ => False
theorem sim_ext {K : PySem.W.Frag} : SimM K "list" rExtend fExt := by
  intro s ss M k x xs H Hc Q h rx rs O q
  unfold fExt at h
  split at h
  · obtain ⟨ys, zs, hm, l, hz, h⟩ := h
    obtain ⟨y, rfl, ry⟩ := rps1 rs
    cases rx
    obtain ⟨b, ws, rfl, g3, g4⟩ := l.at_ O ry
    obtain ⟨z, vs, g1, g2⟩ := O.ob _ _ hm
    refine ⟨_, b, vs, ws, rfl, rfl, g1, g3, by rw [rps_len g2, rps_len g4, sizeLine_eq]; exact hz, ?_⟩
    exact q _ (.dat .none) _ H _ (Evl.Ex.refl H) (O.turn (u := .lst _) hm ⟨by rw [List.length_append, sizeLine_eq]; exact hz, _, rfl, rps_app g2 g4⟩) Dq.non h
  · exact h.elim
/-- int(x) of a whole number or a truth -/
def fInt1 : DC := fun ss M k => match ss with
  | [.dat (.int i)] => k (.dat (.int i)) M
  | [.dat (.bool b)] => k (.dat (.int (if b then 1 else 0))) M
  | _ => False
theorem sim_int1 : SimC (fun xs H Q => (∃ i, xs = [.int i] ∧ Q (.int i) H) ∨ ∃ k, xs = [.bl k] ∧ Q (.int (if k then 1 else 0)) H) fInt1 := by
  intro ss M k xs H Hc Q h r O q
  unfold fInt1 at h
  split at h
  · obtain ⟨x, rfl, rx⟩ := rps1 r
    exact .inl ⟨_, by rw [dp_int_inv rx], q.dat O (.int _) h⟩
  · obtain ⟨x, rfl, rx⟩ := rps1 r
    exact .inr ⟨_, by rw [dp_bl_inv rx], q.dat O (.int _) h⟩
  · exact h.elim
/-- sum of a tuple of whole numbers -/
def rSumT (K : PySem.W.Frag) : List V → Hp → VK → Prop := fun vs H Q => ∃ (a : Addr) (ns : List Int), vs = [V.ref a] ∧ SqT K H a (ns.map V.int) ∧ Q (.int ns.sum) H
theorem cr_sumT (hc : X.calm = true) : CallR X (.builtin "sum") (rSumT X.K) := by
  intro pins s σ H vs us Q I r h
  obtain ⟨a, ns, rfl, hs, q⟩ := h
  obtain ⟨its, rv, hl, _⟩ := I.tuple hs
  rw [Vals.ref1 r]
  obtain ⟨xs, e⟩ := rv.ints.allInts.items
  have hn : numsOf (intItems xs).toList = ns := by rw [← e]; exact rv.ints.numsOf
  rw [nums_intItems] at hn
  have hl' : s.heap.IsTuple a its.toArray := hl
  rw [e] at hl'
  refine PySem.W.ktm_sumG (I.ok.hd hc) hl' fun h' tk t' hk => ?_
  rw [preSum_eq, List.take_of_length_le (by simp), hn]
  exact ⟨.int _, H, I.kept hk, ⟨_, rfl⟩, q⟩
def fSumT : DC := fun ss M k => match ss with
  | [.dat (.tuple ds)] => ∃ ns : List Int, ds = ns.map .int ∧ k (.dat (.int ns.sum)) M
  | _ => False
theorem sim_sumT {K : PySem.W.Frag} : SimC (rSumT K) fSumT := by
  intro ss M k xs H Hc Q h r O q
  unfold fSumT at h
  split at h
  · obtain ⟨x, rfl, rx⟩ := rps1 r
    obtain ⟨ns, rfl, h⟩ := h
    obtain ⟨a, vs, rfl, g1, g2⟩ := dp_tup_inv rx
    have e : vs = ns.map V.int := by
      have := dat_rps g2
      rw [List.map_map] at this
      exact rps_ints this
    rw [e] at g1
    exact ⟨a, ns, rfl, SqT.of (O.ex _ _ g1), q.dat O (.int _) h⟩
  · exact h.elim
/-- min(a, b), max(a, b) of whole numbers -/
def fMin2 : DC := fun ss M k => match ss with
  | [.dat (.int i), .dat (.int j)] => k (.dat (.int (min i j))) M
  | _ => False
def fMax2 : DC := fun ss M k => match ss with
  | [.dat (.int i), .dat (.int j)] => k (.dat (.int (max i j))) M
  | _ => False
theorem sim_min2 : SimC (fun xs H Q => ∃ i j, xs = [.int i, .int j] ∧ Q (.int (if j < i then j else i)) H) fMin2 := by
  intro ss M k xs H Hc Q h r O q
  unfold fMin2 at h
  split at h
  · rename_i i j
    obtain ⟨x, y, rfl, rx, ry⟩ := rps2 r
    rw [dp_int_inv rx, dp_int_inv ry]
    have e : (if j < i then j else i) = min i j := by split <;> omega
    exact ⟨_, _, rfl, by rw [e]; exact q.dat O (.int _) h⟩
  · exact h.elim
theorem sim_max2 : SimC (fun xs H Q => ∃ i j, xs = [.int i, .int j] ∧ Q (.int (if j > i then j else i)) H) fMax2 := by
  intro ss M k xs H Hc Q h r O q
  unfold fMax2 at h
  split at h
  · rename_i i j
    obtain ⟨x, y, rfl, rx, ry⟩ := rps2 r
    rw [dp_int_inv rx, dp_int_inv ry]
    have e : (if j > i then j else i) = max i j := by split <;> omega
    exact ⟨_, _, rfl, by rw [e]; exact q.dat O (.int _) h⟩
  · exact h.elim
end
end DL
/-! xs[::-1], ours; isinstance of a list of ours -/
namespace DL
open PySem PySem.Spec PyProof.Rows L2
open Evl (Ex)
section
variable {X : Cx} {e : Expr} {de : DE} {pos : Pos}
theorem rps_rev {H : Hp} : ∀ {ss : List Sl} {vs : List V} {ss' : List Sl} {vs' : List V}, Rps H ss vs → Rps H ss' vs' → Rps H (ss.reverseAux ss') (vs.reverseAux vs')
  | [], _, _, _, .nil, h => h
  | _ :: ss, _ :: vs, ss', vs', .cons r t, h => rps_rev (ss := ss) (vs := vs) t (.cons r h)
theorem rps_reverse {H : Hp} {ss : List Sl} {vs : List V} (h : Rps H ss vs) : Rps H ss.reverse vs.reverse := rps_rev h .nil
def dRevO (de : DE) : DE := fun Γ M k => de Γ M fun s M1 => ∃ xs, IsL M1 s xs ∧ xs.length ≤ 16777216 ∧ ∀ p, M1 p = none → k (.own p) (put M1 p (.lst xs.reverse))
theorem xe_revO {k : Nat} {p1 p2 p3 pos : Pos} (he : XE X e de) : XE X (.Subscript e (.Slice none none (some (.UnaryOp .USub (.Constant (.int 1) k p1) p2)) p3) pos) (dRevO de) := xe_of (pe_back he) fun Γ M k σ H Hc Q hd F O q => simLE Γ M _ σ H Hc _ hd F O fun v s M1 H1 Hc1 e1 O1 r1 h1 => by
  obtain ⟨xs, l, hz, h1⟩ := h1
  obtain ⟨a, vs, rfl, g1, g2⟩ := l.at_ O1 r1
  exact ⟨a, vs, rfl, .inl ⟨SqL.of g1, fun p hp => (q.ex e1).own O1 (rps_reverse g2) (by rw [List.length_reverse, sizeLine_eq]; exact hz) hp (h1 p (O1.freeM hp))⟩⟩
/-- isinstance(a list of ours, list) -/
def fIsiL : DC := fun ss M k => match ss with
  | [.own a, .raw (.ty T)] => ∃ xs, M a = some (.lst xs) ∧ (T = "int" ∨ T = "bool" ∨ T = "tuple" ∨ T = "list" ∨ T = "str") ∧ k (.dat (.bool (T == "list"))) M
  | _ => False
theorem kit_list {K : PySem.W.Frag} {T : String} (hT : T = "int" ∨ T = "bool" ∨ T = "tuple" ∨ T = "list" ∨ T = "str") : PySem.W.kitOne K (.type "list") (.type T) = some (T == "list") := by
  refine (show PySem.W.kitOne K (.type (tyD (.list []))) (.type T) = some (isiD T (.list [])) from kit_all (.list []) (fun _ z => nomatch z) hT).trans ?_
  rcases hT with rfl | rfl | rfl | rfl | rfl <;> rfl
theorem sim_isiL {K : PySem.W.Frag} : SimC (rIsi K) fIsiL := by
  intro ss M k xs H Hc Q h r O q
  unfold fIsiL at h
  split at h
  · obtain ⟨x, y, rfl, rx, ry⟩ := rps2 r
    obtain ⟨ys, hm, hT, h⟩ := h
    cases rx
    have ry' : y = V.ty _ := ry
    subst ry'
    obtain ⟨_, vs, g1, g2⟩ := O.ob _ _ hm
    exact ⟨_, _, _, _, _, rfl, .ty _, .base (.lst g1), kit_list hT, q.dat O (.bl _) h⟩
  · exact h.elim
end
end DL
/-! comprehensions whose target is a tuple of names -/
namespace DL
open PySem PySem.Spec PyProof.Rows L2
open Evl (Ex)
/-- a tuple of names -/
def gNs : List Nat → TGs
  | [] => gNil
  | i :: is => gCons (gName i) (gNs is)
def setsF (Γ : Fm) : List Nat → List Dt → Fm
  | j :: js, d :: ds => setsF (Γ.set j (some (.dat d))) js ds
  | _, _ => Γ
def sets (σ : L2.St) : List Nat → List V → L2.St
  | j :: js, v :: vs => sets (σ.set j (some v)) js vs
  | _, _ => σ
theorem gNs_run : ∀ {js : List Nat} {vs : List V} {σ : L2.St} {H : Hp} {Q : L2.St → Hp → Prop}, vs.length = js.length → Q (sets σ js vs) H → gNs js vs σ H Q
  | [], [], _, _, _, _, q => ⟨rfl, q⟩
  | j :: js, v :: vs, _, _, _, h, q => ⟨v, vs, rfl, gNs_run (js := js) (by simpa using h) q⟩
  | [], _ :: _, _, _, _, h, _ => nomatch h
  | _ :: _, [], _, _, _, h, _ => nomatch h
theorem sets_length : ∀ {js : List Nat} {vs : List V} {σ : L2.St}, (sets σ js vs).length = σ.length
  | [], _, _ => rfl
  | _ :: _, [], _ => rfl
  | j :: js, v :: vs, σ => by
    show (sets (σ.set j (some v)) js vs).length = _
    rw [sets_length, List.length_set]
theorem sets_out {ws : List Nat} {i : Nat} (hi : i ∉ ws) : ∀ {js : List Nat} {vs : List V} {σ : L2.St}, (∀ j ∈ js, j ∈ ws) → (sets σ js vs)[i]? = σ[i]?
  | [], _, _, _ => rfl
  | _ :: _, [], _, _ => rfl
  | j :: js, v :: vs, σ, h => by
    show (sets (σ.set j (some v)) js vs)[i]? = _
    rw [sets_out hi fun k hk => h k (List.mem_cons_of_mem _ hk), List.getElem?_set_ne (show j ≠ i from fun z => hi (by rw [← z]; exact h j (List.mem_cons_self ..)))]
theorem sets_back {σ : L2.St} {ws js : List Nat} {vs : List V} (hj : ∀ j ∈ js, j ∈ ws) : wipe (sets (wipe σ ws) js vs) ws = wipe σ ws := by
  refine wipe_ext ws (by rw [sets_length, wipe_length]) fun i hi => ?_
  rw [sets_out hi hj, wipe_out hi]
theorem Fr.sets {H : Hp} : ∀ {js : List Nat} {ds : List Dt} {vs : List V} {σ : L2.St} {Γ : Fm}, DqAll H vs ds → Fr H σ Γ → Fr H (sets σ js vs) (setsF Γ js ds)
  | [], _, _, _, _, _, F => F
  | _ :: _, _, _, _, _, .nil, F => F
  | j :: js, _, _, _, _, .cons r rs, F => Fr.sets (js := js) rs (F.set (s := .dat _) r)
/-- one turn: the item falls into its parts -/
def lcTurnP (p : Addr) (Γ : Fm) (vs js : List Nat) (t : DB) (el : DE) (Nx : Mem → Prop) (x : Sl) (M : Mem) : Prop := ∃ ds : List Dt, x = .dat (.tuple ds) ∧ ds.length = js.length ∧ t (setsF (wipeF Γ vs) js ds) M fun b M3 =>
  (b = true → el (setsF (wipeF Γ vs) js ds) M3 fun y M4 => ∃ acc, M4 p = some (.lst acc) ∧ acc.length < 16777216 ∧ Nx (put M4 p (.lst (acc ++ [y])))) ∧ (b = false → Nx M3)
theorem lc_turnP {K : PySem.W.Frag} {p : Addr} {Γ : Fm} {vs js : List Nat} {t : DB} {el : DE} {tt : TT} {te : TE} (ht : SimB tt t) (hel : SimE te el) (hj : ∀ j ∈ js, j ∈ vs) {Nx : Mem → Prop} {sx : Sl} {x : V} {M' : Mem} {σ : L2.St} {H1 H' Hc' : Hp} (e2 : Ex H1 H') (rx : Rp H' sx x) (F : Fr H' σ Γ) (O2 : Own H' Hc' M') (h : lcTurnP p Γ vs js t el Nx sx M') :
    gTup K js.length (gNs js) x (wipe σ vs) Hc' fun σ2 H2 => wipe σ2 vs = wipe σ vs ∧ tt σ2 H2 fun b H3 => if b = true then te σ2 H3 fun y H4 => ∃ acc, H4 p = some (.lst acc) ∧ acc.length < sizeLine ∧ ∃ M5 H5, Ex H1 H5 ∧ Own H5 (upd H4 p (.lst (acc ++ [y]))) M5 ∧ Nx M5 else ∃ M5 H5, Ex H1 H5 ∧ Own H5 H3 M5 ∧ Nx M5 := by
  obtain ⟨ds, rfl, hl, h⟩ := h
  obtain ⟨a, ws, rfl, g1, g2⟩ := dp_tup_inv rx
  refine ⟨a, ws, rfl, SqT.of (O2.ex _ _ g1), by rw [dps_len g2]; exact hl, gNs_run (by rw [dps_len g2]; exact hl) ⟨sets_back hj, ?_⟩⟩
  have F2 : Fr H' (sets (wipe σ vs) js ws) (setsF (wipeF Γ vs) js ds) := (F.wipe vs).sets g2
  refine ht _ M' _ _ H' Hc' _ h F2 O2 fun b M3 H3 Hc3 e3 O3 h3 => ?_
  cases b with
  | true =>
    rw [if_pos rfl]
    refine hel _ M3 _ _ H3 Hc3 _ (h3.1 rfl) (F2.ex e3) O3 fun y sy M4 H4 Hc4 e4 O4 r4 h4 => ?_
    obtain ⟨acc, hm, hz, hn⟩ := h4
    obtain ⟨z, ws, g1, g2⟩ := O4.ob _ _ hm
    refine ⟨ws, g1, by rw [rps_len g2, sizeLine_eq]; exact hz, _, H4, e2.trans (e3.trans e4), O4.turn (u := .lst _) hm ⟨by rw [List.length_append, sizeLine_eq]; exact hz, _, rfl, rps_app g2 (.cons r4 .nil)⟩, hn⟩
  | false =>
    rw [if_neg Bool.false_ne_true]
    exact ⟨M3, H3, e2.trans e3, O3, h3.2 rfl⟩
def dLcLP (de : DE) (js : List Nat) (t : DB) (el : DE) (vs : List Nat) : DE := fun Γ M k => de Γ M fun s M1 => ∃ xs, IsL M1 s xs ∧ ∀ p, M1 p = none → ∃ Inv : Nat → Mem → Prop, Inv 0 (put M1 p (.lst [])) ∧ (∀ i M', i ≤ xs.length → Inv i M' → IsL M' s xs) ∧
  (∀ i x M', xs[i]? = some x → Inv i M' → lcTurnP p Γ vs js t el (Inv (i + 1)) x M') ∧ ∀ M', Inv xs.length M' → k (.own p) M'
section
variable {X : Cx} {de : DE}
theorem sim_lcLP {K : PySem.W.Frag} {te : TE} {js : List Nat} {t : DB} {el : DE} {tt : TT} {tel : TE} {vs : List Nat} (h : SimE te de) (ht : SimB tt t) (hel : SimE tel el) (hj : ∀ j ∈ js, j ∈ vs) : SimE (tLc (iList K te) (gTup K js.length (gNs js)) tt tel vs) (dLcLP de js t el vs) := fun Γ M k σ H Hc Q hd F O q => by
  refine h Γ M _ σ H Hc _ hd F O fun v s M1 H1 Hc1 e1 O1 r1 h1 => ?_
  obtain ⟨xs, l, h1⟩ := h1
  obtain ⟨a, ws, rfl, g1, g2⟩ := l.at_ O1 r1
  refine ⟨a, rfl, ⟨ws, SqL.of g1⟩, fun p hp => ?_⟩
  obtain ⟨W, w0, wl, wt, wd⟩ := h1 p (O1.freeM hp)
  refine ⟨fun i m Hc' => m = xs.length - i ∧ i ≤ xs.length ∧ ∃ M' H', Ex H1 H' ∧ Own H' Hc' M' ∧ W i M', ⟨_, rfl, Nat.zero_le _, _, H1, Evl.Ex.refl _, O1.born (u := .lst []) hp ⟨Nat.zero_le _, [], rfl, .nil⟩, w0⟩, ?_⟩
  rintro i m Hc' ⟨rfl, hi, M', H', e2, O2, w⟩
  obtain ⟨a', vs', e3, g3, g4⟩ := (wl i M' hi w).at_ O2 (rp_ex e2 r1)
  cases e3
  have hl := rps_len g4
  rcases Nat.lt_or_ge i xs.length with hlt | hge
  · obtain ⟨x0, hx0⟩ : ∃ x0, vs'[i]? = some x0 := ⟨vs'[i]'(by omega), List.getElem?_eq_getElem (by omega)⟩
    obtain ⟨sx, hs, rx⟩ := rps_get g4 hx0
    refine .inr ⟨⟨vs', x0, SqL.of g3, hx0⟩, fun Hc2 => ∃ M2 H2, Ex H1 H2 ∧ Own H2 Hc2 M2 ∧ W (i + 1) M2, fun Hc2 z => ⟨xs.length - (i + 1), by omega, rfl, by omega, z⟩, fun x Hy y => ?_⟩
    obtain ⟨rfl, y⟩ := y
    have ex : x = x0 := Option.some.inj ((y vs' (SqL.of g3)).symm.trans hx0)
    subst ex
    exact lc_turnP ht hel hj e2 rx (F.ex (e1.trans e2)) O2 (wt i sx M' hs w)
  · have ei : i = xs.length := Nat.le_antisymm hi hge
    subst ei
    exact .inl ⟨⟨vs', SqL.of g3, by omega⟩, q _ (.own p) M' H' Hc' (e1.trans e2) O2 rfl (wd M' w)⟩
theorem xe_lcLP {ex : Expr} {js : List Nat} {t : DB} {el : DE} {vs : List Nat} {n : Nat} (h : PE X ex (tLc (iList X.K (LE de)) (gTup X.K n (gNs js)) (LB t) (LE el) vs)) (hn : n = js.length) (hj : ∀ j ∈ js, j ∈ vs) : XE X ex (dLcLP de js t el vs) := by
  subst hn
  exact xe_of h (sim_lcLP simLE simLB simLE hj)
end
end DL
/-! comprehensions over zip of two lists of data -/
namespace DL
open PySem PySem.Spec PyProof.Rows L2
open Evl (Ex)
section
variable {X : Cx} {da : DA}
def dLcZ (da : DA) (js : List Nat) (t : DB) (el : DE) (vs : List Nat) : DE := fun Γ M k => da Γ M fun ss M1 => ∃ (ds es : List Dt) (s u : Sl), ss = [s, u] ∧ IsL M1 s (ds.map .dat) ∧ IsL M1 u (es.map .dat) ∧ ∀ p, M1 p = none → ∃ Inv : Nat → Mem → Prop, Inv 0 (put M1 p (.lst [])) ∧
  (∀ i M', Inv i M' → IsL M' s (ds.map .dat) ∧ IsL M' u (es.map .dat)) ∧
  (∀ i x y M', ds[i]? = some x → es[i]? = some y → Inv i M' → lcTurnP p Γ vs js t el (Inv (i + 1)) (.dat (.tuple [x, y])) M') ∧ ∀ M', Inv (min ds.length es.length) M' → k (.own p) M'
theorem sim_lcZ {K : PySem.W.Frag} {ta : TA} {js : List Nat} {t : DB} {el : DE} {tt : TT} {tel : TE} {vs : List Nat} (h : SimA ta da) (ht : SimB tt t) (hel : SimE tel el) (hj : ∀ j ∈ js, j ∈ vs) : SimE (tLc (iZip K ta) (gTup K js.length (gNs js)) tt tel vs) (dLcZ da js t el vs) := fun Γ M k σ H Hc Q hd F O q => by
  refine h Γ M _ σ H Hc _ hd F O fun ws ss M1 H1 Hc1 e1 O1 r1 h1 => ?_
  obtain ⟨ds, es, s, u, rfl, ls, lu, h1⟩ := h1
  obtain ⟨v, v2, rfl, rv, ru⟩ := rps2 r1
  obtain ⟨a, as, rfl, g1, g2⟩ := ls.at_ O1 rv
  obtain ⟨b, bs, rfl, g3, g4⟩ := lu.at_ O1 ru
  refine ⟨a, b, as, bs, rfl, SqL.of g1, SqL.of g3, fun p hp => ?_⟩
  obtain ⟨W, w0, wl, wt, wd⟩ := h1 p (O1.freeM hp)
  refine ⟨fun i m Hc' => m = min ds.length es.length - i ∧ i ≤ min ds.length es.length ∧ ∃ M' H', Ex H1 H' ∧ Own H' Hc' M' ∧ W i M', ⟨_, rfl, Nat.zero_le _, _, H1, Evl.Ex.refl _, O1.born (u := .lst []) hp ⟨Nat.zero_le _, [], rfl, .nil⟩, w0⟩, ?_⟩
  rintro i m Hc' ⟨rfl, hi, M', H', e2, O2, w⟩
  obtain ⟨a', as', e3, g5, g6⟩ := (wl i M' w).1.at_ O2 (rp_ex e2 rv)
  cases e3
  obtain ⟨b', bs', e4, g7, g8⟩ := (wl i M' w).2.at_ O2 (rp_ex e2 ru)
  cases e4
  have hl := rps_len g6
  have hl2 := rps_len g8
  rw [List.length_map] at hl hl2
  rcases Nat.lt_or_ge i (min ds.length es.length) with hlt | hge
  · obtain ⟨x0, hx0⟩ : ∃ x0, as'[i]? = some x0 := ⟨as'[i]'(by omega), List.getElem?_eq_getElem (by omega)⟩
    obtain ⟨y0, hy0⟩ : ∃ y0, bs'[i]? = some y0 := ⟨bs'[i]'(by omega), List.getElem?_eq_getElem (by omega)⟩
    obtain ⟨d, hd, rx⟩ := dps_get (rps_dat g6) hx0
    obtain ⟨f, hf, ry⟩ := dps_get (rps_dat g8) hy0
    refine .inr ⟨⟨as', bs', x0, y0, SqL.of g5, SqL.of g7, hx0, hy0⟩, fun Hc2 => ∃ M2 H2, Ex H1 H2 ∧ Own H2 Hc2 M2 ∧ W (i + 1) M2, fun Hc2 z => ⟨min ds.length es.length - (i + 1), by omega, rfl, by omega, z⟩, fun x Hy y => ?_⟩
    obtain ⟨T, x, y', rfl, hT, rfl, y1, y2⟩ := y
    have ex : x = x0 := Option.some.inj ((y1 as' (SqL.of g5)).symm.trans hx0)
    subst ex
    have ey : y' = y0 := Option.some.inj ((y2 bs' (SqL.of g7)).symm.trans hy0)
    subst ey
    obtain ⟨O3, e3⟩ := O2.grow (o := .tup [x, y']) hT
    exact lc_turnP ht hel hj (e2.trans e3) (sx := .dat (.tuple [d, f])) (.tup upd_same (.cons (dp_ex e3 rx) (.cons (dp_ex e3 ry) .nil))) (F.ex (e1.trans (e2.trans e3))) O3 (wt i d f M' hd hf w)
  · have ei : i = min ds.length es.length := Nat.le_antisymm hi hge
    subst ei
    exact .inl ⟨⟨as', bs', SqL.of g5, SqL.of g7, by omega⟩, q _ (.own p) M' H' Hc' (e1.trans e2) O2 rfl (wd M' w)⟩
theorem xe_lcZP {ex : Expr} {js : List Nat} {t : DB} {el : DE} {vs : List Nat} {n : Nat} (h : PE X ex (tLc (iZip X.K (LA da)) (gTup X.K n (gNs js)) (LB t) (LE el) vs)) (hn : n = js.length) (hj : ∀ j ∈ js, j ∈ vs) : XE X ex (dLcZ da js t el vs) := by
  subst hn
  exact xe_of h (sim_lcZ simLA simLB simLE hj)
end
end DL
namespace PM
/-- how many of ns are no greater than x -/
def below (x : Int) (ns : List Int) : Int := ((ns.filter fun n => decide (n ≤ x)).length : Int)
def above (x : Int) (ns : List Int) : Int := ((ns.filter fun n => decide (x ≤ n)).length : Int)
theorem below_cons {x n : Int} {ns : List Int} : below x (n :: ns) = (if n ≤ x then 1 else 0) + below x ns := by
  unfold below
  by_cases h : n ≤ x
  · rw [List.filter_cons_of_pos (p := fun n => decide (n ≤ x)) (decide_eq_true h), if_pos h, List.length_cons]; omega
  · rw [List.filter_cons_of_neg (p := fun n => decide (n ≤ x)) (by simp [h]), if_neg h]; omega
theorem above_cons {x n : Int} {ns : List Int} : above x (n :: ns) = (if x ≤ n then 1 else 0) + above x ns := by
  unfold above
  by_cases h : x ≤ n
  · rw [List.filter_cons_of_pos (p := fun n => decide (x ≤ n)) (decide_eq_true h), if_pos h, List.length_cons]; omega
  · rw [List.filter_cons_of_neg (p := fun n => decide (x ≤ n)) (by simp [h]), if_neg h]; omega
theorem below_nn {x : Int} {ns : List Int} : 0 ≤ below x ns := by unfold below; omega
theorem below_len {x : Int} {ns : List Int} : below x ns ≤ ns.length := by unfold below; exact_mod_cast List.length_filter_le _ _
theorem below_app {x : Int} {a b : List Int} : below x (a ++ b) = below x a + below x b := by unfold below; rw [List.filter_append, List.length_append]; omega
theorem above_app {x : Int} {a b : List Int} : above x (a ++ b) = above x a + above x b := by unfold above; rw [List.filter_append, List.length_append]; omega
theorem below_perm {x : Int} {a b : List Int} (h : a.Perm b) : below x a = below x b := by unfold below; rw [(h.filter _).length_eq]
theorem above_perm {x : Int} {a b : List Int} (h : a.Perm b) : above x a = above x b := by unfold above; rw [(h.filter _).length_eq]
theorem above_below {x : Int} : ∀ {ns : List Int}, above x ns = ns.length - below (x - 1) ns
  | [] => rfl
  | n :: ns => by
    rw [above_cons, below_cons, above_below (ns := ns), List.length_cons]
    by_cases h : x ≤ n
    · rw [if_pos h, if_neg (by omega)]; omega
    · rw [if_neg h, if_pos (by omega)]; omega
theorem below_neg {x : Int} : ∀ {ns : List Int}, below (-x) (ns.map fun n => -n) = above x ns
  | [] => rfl
  | n :: ns => by
    rw [List.map_cons, below_cons, above_cons, below_neg (ns := ns)]
    by_cases h : x ≤ n
    · rw [if_pos h, if_pos (by omega)]
    · rw [if_neg h, if_neg (by omega)]
theorem below_all {x : Int} : ∀ {ns : List Int}, (∀ n ∈ ns, n ≤ x) → below x ns = ns.length
  | [], _ => rfl
  | n :: ns, h => by
    rw [below_cons, if_pos (h n List.mem_cons_self), below_all fun m hm => h m (List.mem_cons_of_mem _ hm), List.length_cons]; omega
theorem below_none {x : Int} : ∀ {ns : List Int}, (∀ n ∈ ns, x < n) → below x ns = 0
  | [], _ => rfl
  | n :: ns, h => by
    rw [below_cons, if_neg (by have := h n List.mem_cons_self; omega), below_none fun m hm => h m (List.mem_cons_of_mem _ hm)]; omega
theorem below_mono {x y : Int} (h : x ≤ y) : ∀ {ns : List Int}, below x ns ≤ below y ns
  | [] => Int.le_refl _
  | n :: ns => by
    rw [below_cons, below_cons]
    have := below_mono h (ns := ns)
    by_cases h1 : n ≤ x
    · rw [if_pos h1, if_pos (by omega)]; omega
    · rw [if_neg h1]; split <;> omega
theorem sum_le {b : Int} : ∀ {l : List Int}, (∀ x ∈ l, x ≤ b) → l.sum ≤ l.length * b
  | [], _ => by simp
  | n :: l, h => by
    have := sum_le (l := l) fun m hm => h m (List.mem_cons_of_mem _ hm)
    have := h n List.mem_cons_self
    rw [List.sum_cons, List.length_cons, Int.natCast_succ, Int.add_mul]
    omega
theorem sum_ge {b : Int} : ∀ {l : List Int}, (∀ x ∈ l, b ≤ x) → l.length * b ≤ l.sum
  | [], _ => by simp
  | n :: l, h => by
    have := sum_ge (l := l) fun m hm => h m (List.mem_cons_of_mem _ hm)
    have := h n List.mem_cons_self
    rw [List.sum_cons, List.length_cons, Int.natCast_succ, Int.add_mul]
    omega
theorem sum_split {x hi : Int} : ∀ {l : List Int}, (∀ y ∈ l, y ≤ hi) → l.sum ≤ below x l * x + (l.length - below x l) * hi
  | [], _ => by simp [below]
  | n :: l, h => by
    have ih := sum_split (x := x) (l := l) fun m hm => h m (List.mem_cons_of_mem _ hm)
    have hn := h n List.mem_cons_self
    rw [List.sum_cons, List.length_cons, below_cons, Int.natCast_succ]
    by_cases h1 : n ≤ x
    · rw [if_pos h1, show (l.length : Int) + 1 - (1 + below x l) = l.length - below x l by omega, Int.add_mul]
      omega
    · rw [if_neg h1, show (l.length : Int) + 1 - (0 + below x l) = (l.length - below x l) + 1 by omega, Int.add_mul (_ - _), Int.zero_add]
      omega
theorem fill : ∀ (n : Nat) {a b t : Int}, a ≤ b → n * a ≤ t → t ≤ n * b → ∃ l : List Int, l.length = n ∧ (∀ x ∈ l, a ≤ x ∧ x ≤ b) ∧ l.sum = t
  | 0, a, b, t, _, h1, h2 => ⟨[], rfl, fun _ h => (nomatch h), by simp at h1 h2 ⊢; omega⟩
  | n + 1, a, b, t, hab, h1, h2 => by
    rw [Int.natCast_succ, Int.add_mul] at h1 h2
    have hm : (n : Int) * a ≤ n * b := Int.mul_le_mul_of_nonneg_left hab (by omega)
    by_cases h : t - n * b ≤ a
    · obtain ⟨l, h3, h4, h5⟩ := fill n (a := a) (b := b) (t := t - a) hab (by omega) (by omega)
      refine ⟨a :: l, by rw [List.length_cons, h3], fun x hx => ?_, by rw [List.sum_cons, h5]; omega⟩
      rcases List.mem_cons.mp hx with rfl | hx
      · exact ⟨by omega, hab⟩
      · exact h4 x hx
    · obtain ⟨l, h3, h4, h5⟩ := fill n (a := a) (b := b) (t := n * b) hab (by omega) (by omega)
      refine ⟨(t - n * b) :: l, by rw [List.length_cons, h3], fun x hx => ?_, by rw [List.sum_cons, h5]; omega⟩
      rcases List.mem_cons.mp hx with rfl | hx
      · exact ⟨by omega, by omega⟩
      · exact h4 x hx
/-- a dealing -/
structure Deal (m lo hi : Int) (tot : Option Int) (l : List Int) : Prop where
  len : (l.length : Int) = m
  ins : ∀ x ∈ l, lo ≤ x ∧ x ≤ hi
  sum : ∀ t, tot = some t → l.sum = t
def least (m lo : Int) : Option Int → Int
  | none => m * lo
  | some t => t
def has (m lo hi : Int) : Option Int → Prop
  | none => True
  | some t => m * lo ≤ t ∧ t ≤ m * hi
def dealt (m lo hi : Int) (tot : Option Int) (x : Int) : Int := if hi ≤ x then m else if x < lo then 0 else min m ((m * hi - least m lo tot) / (hi - x))
variable {m lo hi x : Int} {tot : Option Int}
theorem Deal.has {l : List Int} (d : Deal m lo hi tot l) : has m lo hi tot := by
  cases tot with
  | none => exact True.intro
  | some t =>
    have h1 := sum_ge (b := lo) fun y hy => (d.ins y hy).1
    have h2 := sum_le (b := hi) fun y hy => (d.ins y hy).2
    rw [d.len, d.sum t rfl] at h1 h2
    exact ⟨h1, h2⟩
theorem Deal.least {l : List Int} (d : Deal m lo hi tot l) : least m lo tot ≤ l.sum := by
  cases tot with
  | none =>
    have h1 := sum_ge (b := lo) fun y hy => (d.ins y hy).1
    rw [d.len] at h1
    exact h1
  | some t => exact Int.le_of_eq (d.sum t rfl).symm
theorem Deal.upper {l : List Int} (d : Deal m lo hi tot l) : below x l ≤ dealt m lo hi tot x := by
  have hl := below_len (x := x) (ns := l)
  have hm := d.len
  unfold dealt
  split
  · omega
  · rename_i h1
    split
    · rename_i h2
      rw [below_none fun n hn => by have := (d.ins n hn).1; omega]
      exact Int.le_refl 0
    · rename_i h2
      have h3 := sum_split (x := x) fun y hy => (d.ins y hy).2
      have h4 := d.least
      rw [hm] at h3
      have h5 : below x l * (hi - x) ≤ m * hi - PM.least m lo tot := by
        rw [Int.mul_sub]
        rw [Int.sub_mul] at h3
        omega
      have h6 := Int.le_ediv_of_mul_le (show 0 < hi - x by omega) h5
      omega
theorem dealt_nn (hm : 0 ≤ m) (hh : has m lo hi tot) (hb : lo ≤ hi) : 0 ≤ dealt m lo hi tot x ∧ dealt m lo hi tot x ≤ m := by
  have hL : least m lo tot ≤ m * hi := by
    cases tot with
    | none => exact Int.mul_le_mul_of_nonneg_left hb hm
    | some t => exact hh.2
  unfold dealt
  split
  · omega
  · split
    · omega
    · have := Int.ediv_nonneg (show 0 ≤ m * hi - least m lo tot by omega) (show 0 ≤ hi - x by omega)
      omega
theorem deal_any (hm : 0 ≤ m) (hb : lo ≤ hi) (hh : has m lo hi tot) : ∃ l, Deal m lo hi tot l ∧ l.sum = least m lo tot := by
  have e : ((m.toNat : Nat) : Int) = m := by omega
  have h1 : (m.toNat : Int) * lo ≤ least m lo tot := by
    rw [e]
    cases tot with
    | none => exact Int.le_refl _
    | some t => exact hh.1
  have h2 : least m lo tot ≤ (m.toNat : Int) * hi := by
    rw [e]
    cases tot with
    | none => exact Int.mul_le_mul_of_nonneg_left hb hm
    | some t => exact hh.2
  obtain ⟨l, a, b, c⟩ := fill m.toNat hb h1 h2
  exact ⟨l, ⟨by omega, b, fun t ht => by rw [c, ht]; rfl⟩, c⟩
theorem deal_reach (hm : 0 ≤ m) (hb : lo ≤ hi) (hh : has m lo hi tot) : ∃ l, Deal m lo hi tot l ∧ below x l = dealt m lo hi tot x := by
  obtain ⟨k0, k1⟩ := dealt_nn (x := x) hm hh hb
  by_cases hk : dealt m lo hi tot x = 0
  · obtain ⟨l, d, _⟩ := deal_any hm hb hh
    refine ⟨l, d, ?_⟩
    have := d.upper (x := x)
    have := below_nn (x := x) (ns := l)
    omega
  obtain ⟨k, ek⟩ : ∃ k : Nat, (k : Int) = dealt m lo hi tot x := ⟨(dealt m lo hi tot x).toNat, by omega⟩
  obtain ⟨r, er⟩ : ∃ r : Nat, (r : Int) = m - k := ⟨(m - k).toNat, by omega⟩
  have hlx : lo ≤ x := by
    unfold dealt at hk
    split at hk
    · omega
    · split at hk
      · exact absurd rfl hk
      · omega
  have hL1 : m * lo ≤ least m lo tot := by
    cases tot with
    | none => exact Int.le_refl _
    | some t => exact hh.1
  have hL2 : least m lo tot ≤ m * hi := by
    cases tot with
    | none => exact Int.mul_le_mul_of_nonneg_left hb hm
    | some t => exact hh.2
  obtain ⟨e, he1, he2, he3, he4⟩ : ∃ e, lo ≤ e ∧ e ≤ x ∧ e ≤ hi ∧ least m lo tot ≤ k * e + r * hi := by
    by_cases h1 : hi ≤ x
    · refine ⟨hi, hb, h1, Int.le_refl _, ?_⟩
      have : (k : Int) * hi + r * hi = m * hi := by rw [← Int.add_mul]; congr 1; omega
      omega
    · refine ⟨x, hlx, Int.le_refl _, by omega, ?_⟩
      have h2 : (k : Int) ≤ (m * hi - least m lo tot) / (hi - x) := by
        rw [ek]
        unfold dealt
        rw [if_neg h1, if_neg (by omega)]
        omega
      have h3 : (k : Int) * (hi - x) ≤ m * hi - least m lo tot := Int.le_trans (Int.mul_le_mul_of_nonneg_right h2 (by omega)) (Int.ediv_mul_le _ (by omega))
      have h4 : (r : Int) * hi = m * hi - k * hi := by rw [er, Int.sub_mul]
      rw [Int.mul_sub] at h3
      omega
  have a1 : (k : Int) * lo ≤ k * e := Int.mul_le_mul_of_nonneg_left he1 (by omega)
  have a2 : (r : Int) * lo ≤ r * hi := Int.mul_le_mul_of_nonneg_left hb (by omega)
  have a3 : (k : Int) * lo + r * lo = m * lo := by rw [← Int.add_mul]; congr 1; omega
  obtain ⟨l1, b1, b2, b3⟩ := fill k (t := max (k * lo) (least m lo tot - r * hi)) he1 (by omega) (by omega)
  obtain ⟨l2, c1, c2, c3⟩ := fill r (t := least m lo tot - max (k * lo) (least m lo tot - r * hi)) hb (by omega) (by omega)
  have d : Deal m lo hi tot (l1 ++ l2) := by
    refine ⟨by rw [List.length_append]; omega, fun y hy => ?_, fun t ht => ?_⟩
    · rcases List.mem_append.mp hy with h | h
      · have := b2 y h; omega
      · exact c2 y h
    · rw [List.sum_append, b3, c3, ht]
      show _ + (t - _) = t
      omega
  refine ⟨_, d, ?_⟩
  have u := d.upper (x := x)
  rw [below_app] at u ⊢
  have v : below x l1 = l1.length := below_all fun n hn => by have := (b2 n hn).2; omega
  have z := below_nn (x := x) (ns := l2)
  omega
theorem sum_perm {a b : List Int} (h : a.Perm b) : a.sum = b.sum := by
  induction h with
  | nil => rfl
  | cons x _ ih => rw [List.sum_cons, List.sum_cons, ih]
  | swap x y l => rw [List.sum_cons, List.sum_cons, List.sum_cons, List.sum_cons]; omega
  | trans _ _ h1 h2 => exact h1.trans h2
theorem Deal.perm {a b : List Int} (h : a.Perm b) (d : Deal m lo hi tot a) : Deal m lo hi tot b :=
  ⟨by rw [← h.length_eq]; exact d.len, fun x hx => d.ins x (h.mem_iff.mpr hx), fun t ht => by rw [← sum_perm h]; exact d.sum t ht⟩
/-- sorted -/
theorem sort_of (l : List Int) : ∃ s : List Int, s.Perm l ∧ s.Pairwise (· ≤ ·) :=
  ⟨l.mergeSort (fun a b => decide (a ≤ b)), List.mergeSort_perm _ _, (List.pairwise_mergeSort (le := fun a b : Int => decide (a ≤ b)) (fun a b c h1 h2 => by simp at *; omega) (fun a b => by simp; omega) l).imp fun h => of_decide_eq_true h⟩
theorem sum_neg : ∀ l : List Int, (l.map fun n => -n).sum = -l.sum
  | [] => rfl
  | n :: l => by rw [List.map_cons, List.sum_cons, List.sum_cons, sum_neg l]; omega
theorem Deal.turn {l : List Int} (d : Deal m lo hi tot l) : Deal m (-hi) (-lo) (tot.map fun n => -n) (l.map fun n => -n) := by
  refine ⟨by rw [List.length_map]; exact d.len, fun x hx => ?_, fun t ht => ?_⟩
  · obtain ⟨y, hy, rfl⟩ := List.mem_map.mp hx
    have := d.ins y hy
    omega
  · cases tot with
    | none => cases ht
    | some u =>
      cases ht
      rw [sum_neg, d.sum u rfl]
theorem map_neg_neg (l : List Int) : (l.map fun n => -n).map (fun n => -n) = l := by
  rw [List.map_map]
  exact (List.map_congr_left fun n _ => Int.neg_neg n).trans (List.map_id _)
theorem Deal.back {l : List Int} (d : Deal m (-hi) (-lo) (tot.map fun n => -n) l) : Deal m lo hi tot (l.map fun n => -n) := by
  have h := d.turn
  rw [Int.neg_neg, Int.neg_neg] at h
  cases tot with
  | none => exact h
  | some u =>
    rw [show ((some u).map fun n : Int => -n).map (fun n => -n) = some (- -u) from rfl, Int.neg_neg] at h
    exact h
theorem has_turn : has m (-hi) (-lo) (tot.map fun n => -n) ↔ has m lo hi tot := by
  cases tot with
  | none => exact Iff.rfl
  | some t =>
    show (m * -hi ≤ -t ∧ -t ≤ m * -lo) ↔ (m * lo ≤ t ∧ t ≤ m * hi)
    rw [Int.mul_neg, Int.mul_neg]
    omega
/-! ### all of them, sorted -/
def ext (lo hi : Int) (l : List Int) : List (List Int) := (((List.range (hi + 1 - lo).toNat).map fun (i : Nat) => lo + (i : Int)).filter fun v => l.isEmpty || decide (l.getLastD 0 ≤ v)).map fun v => l ++ [v]
def deals (lo hi : Int) : Nat → List (List Int)
  | 0 => [[]]
  | n + 1 => (deals lo hi n).flatMap (ext lo hi)
theorem ext_mem {l s : List Int} : s ∈ ext lo hi l ↔ ∃ v, s = l ++ [v] ∧ lo ≤ v ∧ v ≤ hi ∧ (l = [] ∨ l.getLastD 0 ≤ v) := by
  unfold ext
  rw [List.mem_map]
  constructor
  · rintro ⟨v, hv, rfl⟩
    obtain ⟨h1, h2⟩ := List.mem_filter.mp hv
    obtain ⟨i, hi1, rfl⟩ := List.mem_map.mp h1
    have := List.mem_range.mp hi1
    refine ⟨_, rfl, by omega, by omega, ?_⟩
    rw [Bool.or_eq_true] at h2
    exact h2.imp List.isEmpty_iff.mp of_decide_eq_true
  · rintro ⟨v, rfl, h1, h2, h3⟩
    refine ⟨v, List.mem_filter.mpr ⟨List.mem_map.mpr ⟨(v - lo).toNat, List.mem_range.mpr (by omega), by omega⟩, ?_⟩, rfl⟩
    rw [Bool.or_eq_true]
    exact h3.imp List.isEmpty_iff.mpr decide_eq_true
theorem last_max : ∀ {l : List Int}, l.Pairwise (· ≤ ·) → ∀ x ∈ l, x ≤ l.getLastD 0
  | [a], _, x, hx => by rw [List.mem_singleton.mp hx]; exact Int.le_refl _
  | a :: b :: l, h, x, hx => by
    have h' := List.pairwise_cons.mp h
    have ih := last_max (l := b :: l) h'.2
    have e : (a :: b :: l).getLastD 0 = (b :: l).getLastD 0 := by simp [List.getLastD]
    rw [e]
    rcases List.mem_cons.mp hx with rfl | hx
    · exact Int.le_trans (h'.1 b List.mem_cons_self) (ih b List.mem_cons_self)
    · exact ih x hx
theorem last_mem : ∀ {l : List Int}, l ≠ [] → l.getLastD 0 ∈ l
  | [a], _ => by simp [List.getLastD]
  | a :: b :: l, _ => by
    have e : (a :: b :: l).getLastD 0 = (b :: l).getLastD 0 := by simp [List.getLastD]
    rw [e]
    exact List.mem_cons_of_mem _ (last_mem (l := b :: l) nofun)
theorem deals_mem : ∀ {n : Nat} {s : List Int}, s ∈ deals lo hi n ↔ s.length = n ∧ s.Pairwise (· ≤ ·) ∧ ∀ x ∈ s, lo ≤ x ∧ x ≤ hi
  | 0, s => by
    show s ∈ [[]] ↔ _
    rw [List.mem_singleton]
    constructor
    · rintro rfl
      exact ⟨rfl, List.Pairwise.nil, fun _ h => (nomatch h)⟩
    · rintro ⟨h, _⟩
      exact List.eq_nil_of_length_eq_zero h
  | n + 1, s => by
    show s ∈ (deals lo hi n).flatMap (ext lo hi) ↔ _
    rw [List.mem_flatMap]
    constructor
    · rintro ⟨l, hl, hs⟩
      obtain ⟨h1, h2, h3⟩ := deals_mem.mp hl
      obtain ⟨v, rfl, h4, h5, h6⟩ := ext_mem.mp hs
      refine ⟨by rw [List.length_append, h1]; rfl, List.pairwise_append.mpr ⟨h2, List.pairwise_singleton _ _, fun a ha b hb => ?_⟩, fun x hx => ?_⟩
      · rw [List.mem_singleton.mp hb]
        rcases h6 with rfl | h6
        · cases ha
        · exact Int.le_trans (last_max h2 a ha) h6
      · rcases List.mem_append.mp hx with h | h
        · exact h3 x h
        · rw [List.mem_singleton.mp h]; exact ⟨h4, h5⟩
    · rintro ⟨h1, h2, h3⟩
      have ne : s ≠ [] := by rintro rfl; cases h1
      have es := List.dropLast_concat_getLast ne
      refine ⟨s.dropLast, deals_mem.mpr ⟨by rw [List.length_dropLast, h1]; rfl, h2.sublist (List.dropLast_sublist s), fun x hx => h3 x (List.dropLast_subset s hx)⟩, ext_mem.mpr ⟨s.getLast ne, es.symm, (h3 _ (List.getLast_mem ne)).1, (h3 _ (List.getLast_mem ne)).2, ?_⟩⟩
      by_cases hd : s.dropLast = []
      · exact .inl hd
      · refine .inr ?_
        rw [← es] at h2
        exact (List.pairwise_append.mp h2).2.2 _ (last_mem hd) _ List.mem_cons_self
theorem ext_len {l : List Int} : (ext lo hi l).length ≤ (hi + 1 - lo).toNat := by
  unfold ext
  rw [List.length_map]
  refine Nat.le_trans (List.length_filter_le _ _) ?_
  rw [List.length_map, List.length_range]
  exact Nat.le_refl _
theorem flat_len {α β : Type} {f : α → List β} {k : Nat} (h : ∀ a, (f a).length ≤ k) : ∀ l : List α, (l.flatMap f).length ≤ l.length * k
  | [] => by simp
  | a :: l => by
    rw [List.flatMap_cons, List.length_append, List.length_cons, Nat.succ_mul]
    have := flat_len h l
    have := h a
    omega
theorem deals_len : ∀ n : Nat, (deals lo hi n).length ≤ (hi + 1 - lo).toNat ^ n
  | 0 => by simp [deals]
  | n + 1 => by
    rw [Nat.pow_succ]
    exact Nat.le_trans (flat_len (fun _ => ext_len) _) (Nat.mul_le_mul_right _ (deals_len n))
end PM
namespace PM
variable {m lo hi x : Int} {tot : Option Int}
theorem below_sorted : ∀ {s : List Int} {p : Nat} (hs : s.Pairwise (· ≤ ·)) (hp : p < s.length) (x : Int), s[p] ≤ x ↔ (p : Int) < below x s
  | a :: s, 0, hs, _, x => by
    have h' := List.pairwise_cons.mp hs
    rw [below_cons]
    show a ≤ x ↔ _
    by_cases h : a ≤ x
    · rw [if_pos h]
      have := below_nn (x := x) (ns := s)
      exact ⟨fun _ => by omega, fun _ => h⟩
    · rw [if_neg h, below_none fun n hn => by have := h'.1 n hn; omega]
      exact ⟨fun z => absurd z h, fun z => by omega⟩
  | a :: s, p + 1, hs, hp, x => by
    have h' := List.pairwise_cons.mp hs
    have hp' : p < s.length := Nat.lt_of_succ_lt_succ hp
    have ih := below_sorted h'.2 hp' x
    rw [below_cons]
    show s[p] ≤ x ↔ _
    by_cases h : a ≤ x
    · rw [if_pos h, ih]
      omega
    · rw [if_neg h]
      have e : below x s = 0 := below_none fun n hn => by have := h'.1 n hn; omega
      rw [e] at ih ⊢
      rw [ih]
      omega
theorem above_sorted {s : List Int} {p : Nat} (hs : s.Pairwise (· ≤ ·)) (hp : p < s.length) (x : Int) : x ≤ s[p] ↔ (s.length : Int) - 1 - p < above x s := by
  have h := below_sorted hs hp (x - 1)
  rw [above_below]
  constructor
  · intro h1
    have : ¬ (p : Int) < below (x - 1) s := fun z => by have := h.mpr z; omega
    omega
  · intro h1
    have : ¬ s[p] ≤ x - 1 := fun z => by have := h.mp z; omega
    omega
/-- how many of all values can be no greater than x -/
def under (ks : List Int) (m lo hi : Int) (tot : Option Int) (x : Int) : Int := dealt m lo hi tot x + below x ks
theorem under_mono {ks : List Int} (hm : 0 ≤ m) (hb : lo ≤ hi) (hh : has m lo hi tot) {x y : Int} (h : x ≤ y) : under ks m lo hi tot x ≤ under ks m lo hi tot y := by
  obtain ⟨l, d, e⟩ := deal_reach (x := x) hm hb hh
  have h1 := d.upper (x := y)
  have h2 := below_mono h (ns := l)
  have h3 := below_mono h (ns := ks)
  unfold under
  omega
/-- r is the least that the value at the place can be -/
def Least (ks : List Int) (m lo hi : Int) (tot : Option Int) (p r : Int) : Prop := p < under ks m lo hi tot r ∧ ∀ y, y < r → under ks m lo hi tot y ≤ p
theorem Least.uni {ks : List Int} {p r s : Int} (h : Least ks m lo hi tot p r) (h' : Least ks m lo hi tot p s) : r = s := by
  rcases Int.lt_trichotomy r s with z | z | z
  · have := h'.2 r z
    have := h.1
    omega
  · exact z
  · have := h.2 s z
    have := h'.1
    omega
theorem Least.low {ks l s : List Int} {p : Nat} {r : Int} (h : Least ks m lo hi tot p r) (d : Deal m lo hi tot l) (hp : s.Perm (ks ++ l)) (hs : s.Pairwise (· ≤ ·)) (hl : p < s.length) : r ≤ s[p] := by
  rcases Int.lt_or_le s[p] r with z | z
  · have h1 := (below_sorted hs hl (r - 1)).mp (by omega)
    rw [below_perm hp, below_app] at h1
    have h2 := d.upper (x := r - 1)
    have h3 := h.2 (r - 1) (by omega)
    unfold under at h3
    omega
  · exact z
theorem Least.reach {ks : List Int} {p : Nat} {r : Int} (hm : 0 ≤ m) (hb : lo ≤ hi) (hh : has m lo hi tot) (h : Least ks m lo hi tot p r) :
    ∃ l, Deal m lo hi tot l ∧ l.Pairwise (· ≤ ·) ∧ ∀ {s : List Int}, s.Perm (ks ++ l) → s.Pairwise (· ≤ ·) → ∀ hl : p < s.length, s[p] = r := by
  obtain ⟨l0, d0, e0⟩ := deal_reach (x := r) hm hb hh
  obtain ⟨l, hl, hw⟩ := sort_of l0
  have d := d0.perm hl.symm
  refine ⟨l, d, hw, fun {s} hp hs hlen => ?_⟩
  have h1 := h.low d hp hs hlen
  have h2 : s[p] ≤ r := (below_sorted hs hlen r).mpr (by
    rw [below_perm hp, below_app, below_perm hl, e0]
    have := h.1
    unfold under at this
    omega)
  omega
/-- the greatest, by the values turned -/
theorem Least.high {ks l s : List Int} {p : Nat} {r q : Int} (h : Least (ks.map fun n => -n) m (-hi) (-lo) (tot.map fun n => -n) q r) (hq : q = (s.length : Int) - 1 - p) (d : Deal m lo hi tot l) (hp : s.Perm (ks ++ l)) (hs : s.Pairwise (· ≤ ·)) (hl : p < s.length) : s[p] ≤ -r := by
  rcases Int.lt_or_le (-r) s[p] with z | z
  · have h1 := (above_sorted hs hl (-r + 1)).mp (by omega)
    rw [above_perm hp, ← below_neg, List.map_append, below_app, show -(-r + 1) = r - 1 by omega] at h1
    have h2 := d.turn.upper (x := r - 1)
    have h3 := h.2 (r - 1) (by omega)
    unfold under at h3
    omega
  · exact z
theorem Least.reachH {ks : List Int} {p : Nat} {r q : Int} (hm : 0 ≤ m) (hb : lo ≤ hi) (hh : has m lo hi tot) (h : Least (ks.map fun n => -n) m (-hi) (-lo) (tot.map fun n => -n) q r) (hq : q = (ks.length : Int) + m - 1 - p) :
    ∃ l, Deal m lo hi tot l ∧ l.Pairwise (· ≤ ·) ∧ ∀ {s : List Int}, s.Perm (ks ++ l) → s.Pairwise (· ≤ ·) → ∀ hl : p < s.length, s[p] = -r := by
  obtain ⟨l0, d0, e0⟩ := deal_reach (m := m) (lo := -hi) (hi := -lo) (tot := tot.map fun n => -n) (x := r) hm (by omega) (has_turn.mpr hh)
  obtain ⟨l, hl, hw⟩ := sort_of (l0.map fun n => -n)
  have d := d0.back.perm hl.symm
  refine ⟨l, d, hw, fun {s} hp hs hlen => ?_⟩
  have hsl : (s.length : Int) = ks.length + m := by rw [hp.length_eq, List.length_append]; have := d.len; omega
  have h1 := h.high (p := p) (by rw [hq, hsl]) d hp hs hlen
  have h2 : -r ≤ s[p] := (above_sorted hs hlen (-r)).mpr (by
    have e1 : below r (l.map fun n => -n) = below r l0 := by
      rw [below_perm (hl.map fun n : Int => -n), map_neg_neg]
    rw [above_perm hp, ← below_neg, List.map_append, below_app, Int.neg_neg, e1, e0, hsl, ← hq]
    have := h.1
    unfold under at this
    omega)
  omega
theorem sorted_uni {s t : List Int} (h : s.Perm t) (hs : s.Pairwise (· ≤ ·)) (ht : t.Pairwise (· ≤ ·)) : s = t := List.Perm.eq_of_pairwise (le := (· ≤ ·)) (fun a b _ _ h1 h2 => Int.le_antisymm h1 h2) hs ht h
end PM
namespace PM
variable {m lo hi x : Int} {tot : Option Int}
theorem least_from {f : Int → Int} {p : Int} : ∀ (n : Nat) (l : Int), p < f (l + n) → (∀ y, y < l → f y ≤ p) → ∃ r, p < f r ∧ ∀ y, y < r → f y ≤ p
  | 0, l, h, h' => ⟨l, by simpa using h, h'⟩
  | n + 1, l, h, h' => by
    rcases Int.lt_or_le p (f l) with z | z
    · exact ⟨l, z, h'⟩
    · refine least_from n (l + 1) (by rw [show l + 1 + (n : Int) = l + ((n + 1 : Nat) : Int) by omega]; exact h) fun y hy => ?_
      by_cases e : y = l
      · rw [e]; exact z
      · exact h' y (by omega)
theorem list_low (ks : List Int) (a : Int) : ∃ l, l ≤ a ∧ ∀ n ∈ ks, l ≤ n := by
  induction ks with
  | nil => exact ⟨a, Int.le_refl _, fun _ h => (nomatch h)⟩
  | cons k ks ih =>
    obtain ⟨l, h1, h2⟩ := ih
    refine ⟨min l k, by omega, fun n hn => ?_⟩
    rcases List.mem_cons.mp hn with rfl | hn
    · omega
    · have := h2 n hn; omega
theorem list_high (ks : List Int) (a : Int) : ∃ l, a ≤ l ∧ ∀ n ∈ ks, n ≤ l := by
  induction ks with
  | nil => exact ⟨a, Int.le_refl _, fun _ h => (nomatch h)⟩
  | cons k ks ih =>
    obtain ⟨l, h1, h2⟩ := ih
    refine ⟨max l k, by omega, fun n hn => ?_⟩
    rcases List.mem_cons.mp hn with rfl | hn
    · omega
    · have := h2 n hn; omega
theorem Least.exists {ks : List Int} {p : Int} (hb : lo ≤ hi) (h0 : 0 ≤ p) (h1 : p < ks.length + m) : ∃ r, Least ks m lo hi tot p r := by
  obtain ⟨l, a1, a2⟩ := list_low ks lo
  obtain ⟨h, b1, b2⟩ := list_high ks hi
  refine least_from (f := under ks m lo hi tot) (h - l).toNat l ?_ fun y hy => ?_
  · rw [show l + ((h - l).toNat : Int) = h by omega]
    unfold under dealt
    rw [if_pos b1, below_all b2]
    omega
  · unfold under dealt
    rw [if_neg (by omega), if_pos (by omega), below_none fun n hn => by have := a2 n hn; omega]
    omega
def sortI (l : List Int) : List Int := l.mergeSort (fun a b => decide (a ≤ b))
theorem sortI_perm (l : List Int) : (sortI l).Perm l := List.mergeSort_perm _ _
theorem sortI_pw (l : List Int) : (sortI l).Pairwise (· ≤ ·) := (List.pairwise_mergeSort (le := fun a b : Int => decide (a ≤ b)) (fun a b c h1 h2 => by simp at *; omega) (fun a b => by simp; omega) l).imp fun h => of_decide_eq_true h
theorem sortI_of {s l : List Int} (h : s.Perm l) (hs : s.Pairwise (· ≤ ·)) : s = sortI l := sorted_uni (h.trans (sortI_perm l).symm) hs (sortI_pw l)
end PM
namespace PM
variable {m lo hi x : Int} {tot : Option Int}
theorem least_le (hm : 0 ≤ m) (hb : lo ≤ hi) (hh : has m lo hi tot) : m * lo ≤ least m lo tot ∧ least m lo tot ≤ m * hi := by
  cases tot with
  | none => exact ⟨Int.le_refl _, Int.mul_le_mul_of_nonneg_left hb hm⟩
  | some t => exact hh
theorem dealt_cap (hm : 0 ≤ m) (hb : lo ≤ hi) (hh : has m lo hi tot) : least m lo tot ≤ dealt m lo hi tot x * min x hi + (m - dealt m lo hi tot x) * hi := by
  have hL := (least_le hm hb hh).2
  by_cases hk : dealt m lo hi tot x = 0
  · rw [hk, Int.zero_mul, Int.zero_add, Int.sub_zero]
    exact hL
  obtain ⟨k0, k1⟩ := dealt_nn (x := x) hm hh hb
  by_cases h1 : hi ≤ x
  · rw [show min x hi = hi by omega, ← Int.add_mul, show dealt m lo hi tot x + (m - dealt m lo hi tot x) = m by omega]
    exact hL
  · rw [show min x hi = x by omega]
    have h2 : dealt m lo hi tot x ≤ (m * hi - least m lo tot) / (hi - x) := by
      unfold dealt at hk ⊢
      rw [if_neg h1] at hk ⊢
      split at hk
      · exact absurd rfl hk
      · rename_i h3
        rw [if_neg h3]
        omega
    have h3 : dealt m lo hi tot x * (hi - x) ≤ m * hi - least m lo tot := Int.le_trans (Int.mul_le_mul_of_nonneg_right h2 (by omega)) (Int.ediv_mul_le _ (by omega))
    rw [Int.mul_sub] at h3
    rw [Int.sub_mul]
    omega
theorem dealt_lo (h : dealt m lo hi tot x ≠ 0) (hb : lo ≤ hi) : lo ≤ x := by
  unfold dealt at h
  split at h
  · omega
  · split at h
    · exact absurd rfl h
    · omega
/-- how much the one at i may have beyond lo -/
def room (m lo hi : Int) (tot : Option Int) (x : Int) (i : Int) : Int := (if i < m - dealt m lo hi tot x then hi else min x hi) - lo
def cap (m lo hi : Int) (tot : Option Int) (x : Int) (i : Int) : Int := if i < m - dealt m lo hi tot x then (m - dealt m lo hi tot x - i) * (hi - lo) + dealt m lo hi tot x * (min x hi - lo) else (m - i) * (min x hi - lo)
structure Fill (m lo hi : Int) (tot : Option Int) (x : Int) (i : Nat) (d : List Int) (lacks : Int) : Prop where
  len : d.length = i
  le : (i : Int) ≤ m
  ins : ∀ y ∈ d, lo ≤ y ∧ y ≤ hi
  sum : d.sum + lacks + (m - i) * lo = least m lo tot
  nn : 0 ≤ lacks
  cap : lacks ≤ cap m lo hi tot x i
  dec : d.Pairwise (fun a b => b ≤ a)
  low : (i : Int) < m → ∀ y ∈ d, lo + min lacks (room m lo hi tot x i) ≤ y
  bel : (i : Int) - (m - dealt m lo hi tot x) ≤ below x d
theorem room_ok (hm : 0 ≤ m) (hb : lo ≤ hi) (hh : has m lo hi tot) {i : Int} (h0 : 0 ≤ i) (hi' : i < m) : 0 ≤ room m lo hi tot x i ∧ room m lo hi tot x i ≤ hi - lo := by
  obtain ⟨k0, k1⟩ := dealt_nn (x := x) hm hh hb
  unfold room
  split
  · omega
  · have := dealt_lo (x := x) (tot := tot) (m := m) (by omega) hb
    omega
theorem Fill.start (hm : 0 ≤ m) (hb : lo ≤ hi) (hh : has m lo hi tot) : Fill m lo hi tot x 0 [] (least m lo tot - m * lo) := by
  obtain ⟨k0, k1⟩ := dealt_nn (x := x) hm hh hb
  have hL := least_le hm hb hh
  have hc := dealt_cap (x := x) hm hb hh
  refine ⟨rfl, hm, fun _ h => (nomatch h), ?_, by omega, ?_, List.Pairwise.nil, fun _ _ h => (nomatch h), ?_⟩
  · show 0 + (least m lo tot - m * lo) + (m - ((0 : Nat) : Int)) * lo = _
    rw [show m - ((0 : Nat) : Int) = m by omega]
    omega
  · unfold PM.cap
    split
    · rw [show m - dealt m lo hi tot x - ((0 : Nat) : Int) = m - dealt m lo hi tot x by omega, Int.mul_sub, Int.mul_sub]
      have e : (m - dealt m lo hi tot x) * lo + dealt m lo hi tot x * lo = m * lo := by rw [← Int.add_mul]; congr 1; omega
      omega
    · rename_i h
      have e : dealt m lo hi tot x = m := by omega
      rw [e, Int.sub_self, Int.zero_mul] at hc
      rw [show m - ((0 : Nat) : Int) = m by omega, Int.mul_sub]
      omega
  · show ((0 : Nat) : Int) - _ ≤ 0
    omega
theorem sum_snoc (d : List Int) (y : Int) : (d ++ [y]).sum = d.sum + y := by rw [List.sum_append]; simp
theorem Fill.step {i : Nat} {d : List Int} {lacks : Int} (hm : 0 ≤ m) (hb : lo ≤ hi) (hh : has m lo hi tot) (F : Fill m lo hi tot x i d lacks) (h : (i : Int) < m) :
    Fill m lo hi tot x (i + 1) (d ++ [lo + min lacks (room m lo hi tot x i)]) (lacks - min lacks (room m lo hi tot x i)) := by
  obtain ⟨k0, k1⟩ := dealt_nn (x := x) hm hh hb
  obtain ⟨r0, r1⟩ := room_ok (x := x) hm hb hh (i := (i : Int)) (by omega) h
  have nn := F.nn
  have hc := F.cap
  refine ⟨by rw [List.length_append, F.len]; rfl, by rw [Int.natCast_succ]; omega, fun y hy => ?_, ?_, by omega, ?_, ?_, ?_, ?_⟩
  · rcases List.mem_append.mp hy with z | z
    · exact F.ins y z
    · rw [List.mem_singleton.mp z]
      omega
  · have := F.sum
    rw [sum_snoc, Int.natCast_succ, show m - ((i : Int) + 1) = (m - i) - 1 by omega, Int.sub_mul, Int.one_mul]
    omega
  · unfold PM.cap at hc ⊢
    unfold room
    rw [Int.natCast_succ]
    by_cases a : (i : Int) < m - dealt m lo hi tot x
    · rw [if_pos a] at hc
      rw [if_pos a]
      have e : (m - dealt m lo hi tot x - (i : Int)) * (hi - lo) = (m - dealt m lo hi tot x - ((i : Int) + 1)) * (hi - lo) + (hi - lo) := by
        rw [show m - dealt m lo hi tot x - (i : Int) = (m - dealt m lo hi tot x - ((i : Int) + 1)) + 1 by omega, Int.add_mul, Int.one_mul]
      by_cases b : (i : Int) + 1 < m - dealt m lo hi tot x
      · rw [if_pos b]
        have z1 : 0 ≤ (m - dealt m lo hi tot x - ((i : Int) + 1)) * (hi - lo) := Int.mul_nonneg (by omega) (by omega)
        have z2 : 0 ≤ dealt m lo hi tot x * (min x hi - lo) := by
          by_cases hk : dealt m lo hi tot x = 0
          · rw [hk, Int.zero_mul]; exact Int.le_refl 0
          · have := dealt_lo hk hb
            exact Int.mul_nonneg k0 (by omega)
        omega
      · rw [if_neg b]
        have e2 : m - dealt m lo hi tot x - ((i : Int) + 1) = 0 := by omega
        rw [e, e2, Int.zero_mul] at hc
        rw [show m - ((i : Int) + 1) = dealt m lo hi tot x by omega]
        have z2 : 0 ≤ dealt m lo hi tot x * (min x hi - lo) := by
          by_cases hk : dealt m lo hi tot x = 0
          · rw [hk, Int.zero_mul]; exact Int.le_refl 0
          · have := dealt_lo hk hb
            exact Int.mul_nonneg k0 (by omega)
        omega
    · rw [if_neg a] at hc
      rw [if_neg a, if_neg (by omega)]
      have := dealt_lo (x := x) (tot := tot) (m := m) (lo := lo) (hi := hi) (by omega) hb
      have e : (m - (i : Int)) * (min x hi - lo) = (m - ((i : Int) + 1)) * (min x hi - lo) + (min x hi - lo) := by
        rw [show m - (i : Int) = (m - ((i : Int) + 1)) + 1 by omega, Int.add_mul, Int.one_mul]
      have z1 : 0 ≤ (m - ((i : Int) + 1)) * (min x hi - lo) := Int.mul_nonneg (by omega) (by omega)
      omega
  · refine List.pairwise_append.mpr ⟨F.dec, List.pairwise_singleton _ _, fun a ha b hb' => ?_⟩
    rw [List.mem_singleton.mp hb']
    exact F.low h a ha
  · intro h' y hy
    have r2 : room m lo hi tot x ((i + 1 : Nat) : Int) ≤ room m lo hi tot x i := by
      unfold room
      rw [Int.natCast_succ]
      split
      · rw [if_pos (by omega)]; omega
      · split <;> omega
    rcases List.mem_append.mp hy with z | z
    · have := F.low h y z
      omega
    · rw [List.mem_singleton.mp z]
      omega
  · have := F.bel
    rw [below_app, Int.natCast_succ]
    have b0 := below_nn (x := x) (ns := [lo + min lacks (room m lo hi tot x i)])
    by_cases a : (i : Int) < m - dealt m lo hi tot x
    · have := below_nn (x := x) (ns := d)
      omega
    · have e : below x [lo + min lacks (room m lo hi tot x i)] = 1 := below_all fun n hn => by
        rw [List.mem_singleton.mp hn]
        unfold room
        rw [if_neg a]
        omega
      omega
theorem Fill.done {n : Nat} {d : List Int} {lacks : Int} (hm : 0 ≤ m) (hb : lo ≤ hi) (hh : has m lo hi tot) (F : Fill m lo hi tot x n d lacks) (h : (n : Int) = m) :
    Deal m lo hi tot d.reverse ∧ d.reverse.Pairwise (· ≤ ·) ∧ below x d.reverse = dealt m lo hi tot x ∧ d.reverse.sum = least m lo tot := by
  have hl : lacks = 0 := by
    have h1 := F.cap
    have h2 := F.nn
    obtain ⟨k0, k1⟩ := dealt_nn (x := x) hm hh hb
    unfold PM.cap at h1
    rw [h, if_neg (by omega), Int.sub_self, Int.zero_mul] at h1
    omega
  have hs : d.reverse.sum = least m lo tot := by
    rw [sum_perm (List.reverse_perm d)]
    have := F.sum
    rw [h, Int.sub_self, Int.zero_mul, hl] at this
    omega
  have D : Deal m lo hi tot d.reverse := by
    refine ⟨by rw [List.length_reverse, F.len]; exact h, fun y hy => F.ins y (List.mem_reverse.mp hy), fun t ht => ?_⟩
    rw [hs, ht]
    rfl
  refine ⟨D, List.pairwise_reverse.mpr F.dec, ?_, hs⟩
  have h1 := D.upper (x := x)
  have h2 := F.bel
  rw [below_perm (List.reverse_perm d)] at h1 ⊢
  rw [h] at h2
  omega
/-- a sorted list turned -/
theorem turn_sorted {l : List Int} (h : l.Pairwise (· ≤ ·)) : (l.reverse.map fun n => -n).Pairwise (· ≤ ·) := by
  rw [List.pairwise_map, List.pairwise_reverse]
  exact h.imp fun z => by omega
end PM
namespace PM
variable {m lo hi x : Int} {tot : Option Int}
theorem below_up {x y : Int} (h : x ≤ y) : ∀ ns : List Int, below x ns ≤ below y ns
  | [] => Int.le_refl _
  | n :: ns => by
    have := below_up h ns
    rw [below_cons, below_cons]
    split <;> split <;> omega
theorem dealt_up {x y : Int} (hm : 0 ≤ m) (hb : lo ≤ hi) (hh : has m lo hi tot) (h : x ≤ y) : dealt m lo hi tot x ≤ dealt m lo hi tot y := by
  obtain ⟨l, d, e⟩ := deal_reach (x := x) hm hb hh
  have := d.upper (x := y)
  have := below_up h l
  omega
theorem under_up {ks : List Int} {x y : Int} (hm : 0 ≤ m) (hb : lo ≤ hi) (hh : has m lo hi tot) (h : x ≤ y) : under ks m lo hi tot x ≤ under ks m lo hi tot y := by
  have h1 := dealt_up (tot := tot) hm hb hh h
  have h2 := below_up h ks
  unfold under
  omega
theorem Least.ge_iff {ks : List Int} {p r x : Int} (hm : 0 ≤ m) (hb : lo ≤ hi) (hh : has m lo hi tot) (L : Least ks m lo hi tot p r) : x ≤ r ↔ under ks m lo hi tot (x - 1) ≤ p := by
  constructor
  · exact fun h => L.2 (x - 1) (by omega)
  · intro h
    rcases Int.lt_or_le r x with z | z
    · have h1 := under_up (ks := ks) (tot := tot) (x := r) (y := x - 1) hm hb hh (by omega)
      have := L.1
      omega
    · exact z
theorem Least.up {ks : List Int} {p p' r r' : Int} (L : Least ks m lo hi tot p r) (L' : Least ks m lo hi tot p' r') (h : p ≤ p') : r ≤ r' := by
  rcases Int.lt_or_le r' r with z | z
  · have h1 := L.2 r' z
    have h2 := L'.1
    omega
  · exact z
theorem below_move {b x : Int} : ∀ ns : List Int, below (x + b) (ns.map fun n => n + b) = below x ns
  | [] => rfl
  | n :: ns => by
    rw [List.map_cons, below_cons, below_cons, below_move ns]
    by_cases h : n ≤ x
    · rw [if_pos h, if_pos (by omega)]
    · rw [if_neg h, if_neg (by omega)]
theorem least_move {b : Int} : least m (lo + b) (tot.map fun n => n + m * b) = least m lo tot + m * b := by
  cases tot with
  | none => exact Int.mul_add m lo b
  | some t => rfl
theorem dealt_move {b x : Int} : dealt m (lo + b) (hi + b) (tot.map fun n => n + m * b) (x + b) = dealt m lo hi tot x := by
  unfold dealt
  rw [least_move]
  have e1 : (hi + b ≤ x + b) = (hi ≤ x) := by simp
  have e2 : (x + b < lo + b) = (x < lo) := by simp
  have e3 : m * (hi + b) - (least m lo tot + m * b) = m * hi - least m lo tot := by rw [Int.mul_add]; omega
  have e4 : hi + b - (x + b) = hi - x := by omega
  rw [e3, e4]
  simp only [e1, e2]
theorem under_move {ks : List Int} {b x : Int} : under (ks.map fun n => n + b) m (lo + b) (hi + b) (tot.map fun n => n + m * b) (x + b) = under ks m lo hi tot x := by
  unfold under
  rw [dealt_move, below_move]
theorem has_move {b : Int} (h : has m lo hi tot) : has m (lo + b) (hi + b) (tot.map fun n => n + m * b) := by
  cases tot with
  | none => exact True.intro
  | some t =>
    obtain ⟨h1, h2⟩ := h
    show m * (lo + b) ≤ t + m * b ∧ t + m * b ≤ m * (hi + b)
    rw [Int.mul_add, Int.mul_add]
    omega
theorem Least.move {ks : List Int} {p r b : Int} (L : Least ks m lo hi tot p r) : Least (ks.map fun n => n + b) m (lo + b) (hi + b) (tot.map fun n => n + m * b) p (r + b) := by
  refine ⟨by rw [under_move]; exact L.1, fun y hy => ?_⟩
  have := L.2 (y - b) (by omega)
  rw [← under_move (b := b), Int.sub_add_cancel] at this
  exact this
/-- narrower values have narrower bounds -/
theorem narrow_low {ks ks' : List Int} {m' lo' hi' : Int} {tot' : Option Int} {p : Nat} {r r' : Int} (hm' : 0 ≤ m') (hb' : lo' ≤ hi') (hh' : has m' lo' hi' tot') (hp : (p : Int) < ks'.length + m')
    (L : Least ks m lo hi tot p r) (L' : Least ks' m' lo' hi' tot' p r') (h : ∀ l', Deal m' lo' hi' tot' l' → ∃ l, Deal m lo hi tot l ∧ (ks' ++ l').Perm (ks ++ l)) : r ≤ r' := by
  obtain ⟨l', d', _, e'⟩ := L'.reach hm' hb' hh'
  obtain ⟨l, d, hl⟩ := h l' d'
  have e := d'.len
  have hz : p < (sortI (ks' ++ l')).length := by rw [(sortI_perm _).length_eq, List.length_append]; omega
  have h1 := e' (sortI_perm _) (sortI_pw _) hz
  have h2 := L.low d ((sortI_perm _).trans hl) (sortI_pw _) hz
  omega
theorem narrow_high {ks ks' : List Int} {m' lo' hi' : Int} {tot' : Option Int} {p : Nat} {r r' q : Int} (hm' : 0 ≤ m') (hb' : lo' ≤ hi') (hh' : has m' lo' hi' tot') (hp : (p : Int) < ks'.length + m')
    (hq : q = (ks'.length : Int) + m' - 1 - p) (L : Least (ks.map fun n => -n) m (-hi) (-lo) (tot.map fun n => -n) q r) (L' : Least (ks'.map fun n => -n) m' (-hi') (-lo') (tot'.map fun n => -n) q r') (h : ∀ l', Deal m' lo' hi' tot' l' → ∃ l, Deal m lo hi tot l ∧ (ks' ++ l').Perm (ks ++ l)) : -r' ≤ -r := by
  obtain ⟨l', d', _, e'⟩ := L'.reachH hm' hb' hh' hq
  obtain ⟨l, d, hl⟩ := h l' d'
  have e := d'.len
  have hz : p < (sortI (ks' ++ l')).length := by rw [(sortI_perm _).length_eq, List.length_append]; omega
  have h1 := e' (sortI_perm _) (sortI_pw _) hz
  have h2 := Least.high L (by rw [(sortI_perm _).length_eq, List.length_append]; omega) d ((sortI_perm _).trans hl) (sortI_pw _) hz
  omega
/-- the numbers from u on -/
theorem range_from {n u : Nat} (h : u ≤ n) : (List.range n).filter (fun k => decide (u ≤ k)) = (List.range (n - u)).map (u + ·) := by
  have e : n = u + (n - u) := by omega
  generalize n - u = d at e
  subst e
  rw [List.range_add, List.filter_append]
  have h1 : (List.range u).filter (fun k => decide (u ≤ k)) = [] := List.filter_eq_nil_iff.mpr fun a ha => by
    have := List.mem_range.mp ha
    simp
    omega
  have h2 : ((List.range d).map (u + ·)).filter (fun k => decide (u ≤ k)) = (List.range d).map (u + ·) := List.filter_eq_self.mpr fun a ha => by
    obtain ⟨k, _, rfl⟩ := List.mem_map.mp ha
    simp
  rw [h1, h2, List.nil_append]
end PM
namespace LW
open PySem PySem.Spec PyProof.Rows DL
open L2 hiding del del_ne del_same
def top (i : Nat) : Stmt := PySem.Challenge.pw_latewood_k66_whole_bounds_for_all.main.body.getD i (.Pass ⟨0, 0, 0, 0⟩)
abbrev s_is_whole : Stmt := top 5
abbrev N_is_whole : List Str := ["thing"]
theorem sc_is_whole : FnScope N_is_whole ["thing"] (defScope s_is_whole) := ⟨rfl, rfl, rfl, by decide +kernel, rfl, by decide +kernel, by decide +kernel⟩
abbrev s_place_bounds : Stmt := top 8
abbrev N_place_bounds : List Str := ["kept", "many", "low", "high", "total", "place", "values", "back"]
theorem sc_place_bounds : FnScope N_place_bounds ["kept", "many", "low", "high", "total", "place"] (defScope s_place_bounds) := ⟨rfl, rfl, rfl, by decide +kernel, rfl, by decide +kernel, by decide +kernel⟩
abbrev s_place_dealing : Stmt := top 9
abbrev N_place_dealing : List Str := ["kept", "many", "low", "high", "total", "place", "greatest", "values", "turned"]
theorem sc_place_dealing : FnScope N_place_dealing ["kept", "many", "low", "high", "total", "place", "greatest"] (defScope s_place_dealing) := ⟨rfl, rfl, rfl, by decide +kernel, rfl, by decide +kernel, by decide +kernel⟩
abbrev s_over_bounds : Stmt := top 10
abbrev N_over_bounds : List Str := ["kept", "many", "low", "high", "total", "number", "values"]
theorem sc_over_bounds : FnScope N_over_bounds ["kept", "many", "low", "high", "total", "number"] (defScope s_over_bounds) := ⟨rfl, rfl, rfl, by decide +kernel, rfl, by decide +kernel, by decide +kernel⟩
abbrev s_over_dealing : Stmt := top 11
abbrev N_over_dealing : List Str := ["kept", "many", "low", "high", "total", "number", "greatest", "values"]
theorem sc_over_dealing : FnScope N_over_dealing ["kept", "many", "low", "high", "total", "number", "greatest"] (defScope s_over_dealing) := ⟨rfl, rfl, rfl, by decide +kernel, rfl, by decide +kernel, by decide +kernel⟩
abbrev s_values_dealt : Stmt := top 12
abbrev N_values_dealt : List Str := ["kept", "many", "low", "high", "total", "values"]
theorem sc_values_dealt : FnScope N_values_dealt ["kept", "many", "low", "high", "total"] (defScope s_values_dealt) := ⟨rfl, rfl, rfl, by decide +kernel, rfl, by decide +kernel, by decide +kernel⟩
abbrev s_values_with_place : Stmt := top 13
abbrev N_values_with_place : List Str := ["kept", "many", "low", "high", "total", "place"]
theorem sc_values_with_place : FnScope N_values_with_place ["kept", "many", "low", "high", "total", "place"] (defScope s_values_with_place) := ⟨rfl, rfl, rfl, by decide +kernel, rfl, by decide +kernel, by decide +kernel⟩
abbrev s_turned_dealing : Stmt := top 14
abbrev N_turned_dealing : List Str := ["turned", "number", "value"]
theorem sc_turned_dealing : FnScope N_turned_dealing ["turned", "number"] (defScope s_turned_dealing) := ⟨rfl, rfl, rfl, by decide +kernel, rfl, by decide +kernel, by decide +kernel⟩
abbrev s_le_pen : Stmt := top 16
abbrev N_le_pen : List Str := ["script"]
theorem sc_le_pen : FnScope N_le_pen ["script"] (defScope s_le_pen) := ⟨rfl, rfl, rfl, by decide +kernel, rfl, by decide +kernel, by decide +kernel⟩
abbrev s_le_fresh : Stmt := top 17
abbrev N_le_fresh : List Str := ["pen", "at", "cell", "one", "two", "mixed", "other"]
theorem sc_le_fresh : FnScope N_le_fresh ["pen"] (defScope s_le_fresh) := ⟨rfl, rfl, rfl, by decide +kernel, rfl, by decide +kernel, by decide +kernel⟩
abbrev s_le_take : Stmt := top 18
abbrev N_le_take : List Str := ["pen", "many", "found"]
theorem sc_le_take : FnScope N_le_take ["pen", "many"] (defScope s_le_take) := ⟨rfl, rfl, rfl, by decide +kernel, rfl, by decide +kernel, by decide +kernel⟩
abbrev s_le_case : Stmt := top 19
abbrev N_le_case : List Str := ["pen", "base", "many", "low", "high", "kept", "total", "turn"]
theorem sc_le_case : FnScope N_le_case ["pen"] (defScope s_le_case) := ⟨rfl, rfl, rfl, by decide +kernel, rfl, by decide +kernel, by decide +kernel⟩
abbrev s_le_dealings : Stmt := top 20
abbrev N_le_dealings : List Str := ["many", "low", "high", "total", "found", "turn", "longer", "some", "value"]
theorem sc_le_dealings : FnScope N_le_dealings ["many", "low", "high", "total"] (defScope s_le_dealings) := ⟨rfl, rfl, rfl, by decide +kernel, rfl, by decide +kernel, by decide +kernel⟩
abbrev s_le_bounds : Stmt := top 21
abbrev N_le_bounds : List Str := ["case", "kept", "many", "low", "high", "total", "place"]
theorem sc_le_bounds : FnScope N_le_bounds ["case"] (defScope s_le_bounds) := ⟨rfl, rfl, rfl, by decide +kernel, rfl, by decide +kernel, by decide +kernel⟩
abbrev s_le_about : Stmt := top 22
abbrev N_le_about : List Str := ["case", "other", "kept", "many", "low", "high", "total", "value"]
theorem sc_le_about : FnScope N_le_about ["case"] (defScope s_le_about) := ⟨rfl, rfl, rfl, by decide +kernel, rfl, by decide +kernel, by decide +kernel⟩
abbrev s_le_greater : Stmt := top 23
abbrev N_le_greater : List Str := ["case", "by", "other", "kept", "many", "low", "high", "total", "value"]
theorem sc_le_greater : FnScope N_le_greater ["case", "by"] (defScope s_le_greater) := ⟨rfl, rfl, rfl, by decide +kernel, rfl, by decide +kernel, by decide +kernel⟩
abbrev s_le_within : Stmt := top 24
abbrev N_le_within : List Str := ["inner", "outer", "one", "two"]
theorem sc_le_within : FnScope N_le_within ["inner", "outer"] (defScope s_le_within) := ⟨rfl, rfl, rfl, by decide +kernel, rfl, by decide +kernel, by decide +kernel⟩
abbrev s_le_known_more : Stmt := top 25
abbrev N_le_known_more : List Str := ["pen", "case", "bounds", "place", "told", "values", "inner", "value", "less", "kept", "many", "low", "high", "total", "one"]
theorem sc_le_known_more : FnScope N_le_known_more ["pen", "case", "bounds"] (defScope s_le_known_more) := ⟨rfl, rfl, rfl, by decide +kernel, rfl, by decide +kernel, by decide +kernel⟩
abbrev s_le_numbers_right : Stmt := top 26
abbrev N_le_numbers_right : List Str := ["pen", "case", "bounds", "every", "number", "kept", "many", "low", "high", "total", "told", "least", "most", "k", "one", "value"]
theorem sc_le_numbers_right : FnScope N_le_numbers_right ["pen", "case", "bounds"] (defScope s_le_numbers_right) := ⟨rfl, rfl, rfl, by decide +kernel, rfl, by decide +kernel, by decide +kernel⟩
abbrev s_law : Stmt := top 27
abbrev N_law : List Str := ["script", "pen", "turn", "case", "bounds", "by", "one"]
theorem sc_law : FnScope N_law ["script"] (defScope s_law) := ⟨rfl, rfl, rfl, by decide +kernel, rfl, by decide +kernel, by decide +kernel⟩
abbrev s_Values___init__ : Stmt := inClass (top 7) 0
abbrev N_Values___init__ : List Str := ["self", "kept", "many", "low", "high", "total"]
theorem sc_Values___init__ : FnScope N_Values___init__ ["self", "kept", "many", "low", "high", "total"] (defScope s_Values___init__) := ⟨rfl, rfl, rfl, by decide +kernel, rfl, by decide +kernel, by decide +kernel⟩
abbrev s_Values_turned : Stmt := inClass (top 7) 1
abbrev N_Values_turned : List Str := ["self", "total", "value"]
theorem sc_Values_turned : FnScope N_Values_turned ["self"] (defScope s_Values_turned) := ⟨rfl, rfl, rfl, by decide +kernel, rfl, by decide +kernel, by decide +kernel⟩
abbrev s_Values_in_all : Stmt := inClass (top 7) 2
abbrev N_Values_in_all : List Str := ["self"]
theorem sc_Values_in_all : FnScope N_Values_in_all ["self"] (defScope s_Values_in_all) := ⟨rfl, rfl, rfl, by decide +kernel, rfl, by decide +kernel, by decide +kernel⟩
abbrev s_Values_has_dealing : Stmt := inClass (top 7) 3
abbrev N_Values_has_dealing : List Str := ["self"]
theorem sc_Values_has_dealing : FnScope N_Values_has_dealing ["self"] (defScope s_Values_has_dealing) := ⟨rfl, rfl, rfl, by decide +kernel, rfl, by decide +kernel, by decide +kernel⟩
abbrev s_Values_least_total : Stmt := inClass (top 7) 4
abbrev N_Values_least_total : List Str := ["self"]
theorem sc_Values_least_total : FnScope N_Values_least_total ["self"] (defScope s_Values_least_total) := ⟨rfl, rfl, rfl, by decide +kernel, rfl, by decide +kernel, by decide +kernel⟩
abbrev s_Values_most_dealt : Stmt := inClass (top 7) 5
abbrev N_Values_most_dealt : List Str := ["self", "number"]
theorem sc_Values_most_dealt : FnScope N_Values_most_dealt ["self", "number"] (defScope s_Values_most_dealt) := ⟨rfl, rfl, rfl, by decide +kernel, rfl, by decide +kernel, by decide +kernel⟩
abbrev s_Values_most_under : Stmt := inClass (top 7) 6
abbrev N_Values_most_under : List Str := ["self", "number", "value"]
theorem sc_Values_most_under : FnScope N_Values_most_under ["self", "number"] (defScope s_Values_most_under) := ⟨rfl, rfl, rfl, by decide +kernel, rfl, by decide +kernel, by decide +kernel⟩
abbrev s_Values_dealing_under : Stmt := inClass (top 7) 7
abbrev N_Values_dealing_under : List Str := ["self", "number", "under", "lacks", "dealing", "at", "end"]
theorem sc_Values_dealing_under : FnScope N_Values_dealing_under ["self", "number"] (defScope s_Values_dealing_under) := ⟨rfl, rfl, rfl, by decide +kernel, rfl, by decide +kernel, by decide +kernel⟩
abbrev s_Values_least_at : Stmt := inClass (top 7) 8
abbrev N_Values_least_at : List Str := ["self", "place", "least", "most", "middle"]
theorem sc_Values_least_at : FnScope N_Values_least_at ["self", "place"] (defScope s_Values_least_at) := ⟨rfl, rfl, rfl, by decide +kernel, rfl, by decide +kernel, by decide +kernel⟩
abbrev Fl_Values : List Str := ["kept", "many", "low", "high", "total"]
structure Tx (P : Program) (K : PySem.W.Frag) (mg : Str → Option Value) where
  f_is_whole : Addr
  fd_is_whole : FuncData
  F_is_whole : FunV K "is_whole" "is_whole" s_is_whole f_is_whole fd_is_whole
  g_is_whole : mg "is_whole" = some (.ref f_is_whole)
  b_is_whole : Binds K fd_is_whole ["thing"] []
  f_place_bounds : Addr
  fd_place_bounds : FuncData
  F_place_bounds : FunV K "place_bounds" "place_bounds" s_place_bounds f_place_bounds fd_place_bounds
  g_place_bounds : mg "place_bounds" = some (.ref f_place_bounds)
  b_place_bounds : Binds K fd_place_bounds ["kept", "many", "low", "high", "total", "place"] []
  f_place_dealing : Addr
  fd_place_dealing : FuncData
  F_place_dealing : FunV K "place_dealing" "place_dealing" s_place_dealing f_place_dealing fd_place_dealing
  g_place_dealing : mg "place_dealing" = some (.ref f_place_dealing)
  b_place_dealing : Binds K fd_place_dealing ["kept", "many", "low", "high", "total", "place", "greatest"] []
  f_over_bounds : Addr
  fd_over_bounds : FuncData
  F_over_bounds : FunV K "over_bounds" "over_bounds" s_over_bounds f_over_bounds fd_over_bounds
  g_over_bounds : mg "over_bounds" = some (.ref f_over_bounds)
  b_over_bounds : Binds K fd_over_bounds ["kept", "many", "low", "high", "total", "number"] []
  f_over_dealing : Addr
  fd_over_dealing : FuncData
  F_over_dealing : FunV K "over_dealing" "over_dealing" s_over_dealing f_over_dealing fd_over_dealing
  g_over_dealing : mg "over_dealing" = some (.ref f_over_dealing)
  b_over_dealing : Binds K fd_over_dealing ["kept", "many", "low", "high", "total", "number", "greatest"] []
  f_values_dealt : Addr
  fd_values_dealt : FuncData
  F_values_dealt : FunV K "values_dealt" "values_dealt" s_values_dealt f_values_dealt fd_values_dealt
  g_values_dealt : mg "values_dealt" = some (.ref f_values_dealt)
  b_values_dealt : Binds K fd_values_dealt ["kept", "many", "low", "high", "total"] []
  f_values_with_place : Addr
  fd_values_with_place : FuncData
  F_values_with_place : FunV K "values_with_place" "values_with_place" s_values_with_place f_values_with_place fd_values_with_place
  g_values_with_place : mg "values_with_place" = some (.ref f_values_with_place)
  b_values_with_place : Binds K fd_values_with_place ["kept", "many", "low", "high", "total", "place"] []
  f_turned_dealing : Addr
  fd_turned_dealing : FuncData
  F_turned_dealing : FunV K "turned_dealing" "turned_dealing" s_turned_dealing f_turned_dealing fd_turned_dealing
  g_turned_dealing : mg "turned_dealing" = some (.ref f_turned_dealing)
  b_turned_dealing : Binds K fd_turned_dealing ["turned", "number"] []
  f_le_pen : Addr
  fd_le_pen : FuncData
  F_le_pen : FunV K "_law_e_pen" "_law_e_pen" s_le_pen f_le_pen fd_le_pen
  g_le_pen : mg "_law_e_pen" = some (.ref f_le_pen)
  b_le_pen : Binds K fd_le_pen ["script"] []
  f_le_fresh : Addr
  fd_le_fresh : FuncData
  F_le_fresh : FunV K "_law_e_fresh" "_law_e_fresh" s_le_fresh f_le_fresh fd_le_fresh
  g_le_fresh : mg "_law_e_fresh" = some (.ref f_le_fresh)
  b_le_fresh : Binds K fd_le_fresh ["pen"] []
  f_le_take : Addr
  fd_le_take : FuncData
  F_le_take : FunV K "_law_e_take" "_law_e_take" s_le_take f_le_take fd_le_take
  g_le_take : mg "_law_e_take" = some (.ref f_le_take)
  b_le_take : Binds K fd_le_take ["pen", "many"] []
  f_le_case : Addr
  fd_le_case : FuncData
  F_le_case : FunV K "_law_e_case" "_law_e_case" s_le_case f_le_case fd_le_case
  g_le_case : mg "_law_e_case" = some (.ref f_le_case)
  b_le_case : Binds K fd_le_case ["pen"] []
  f_le_dealings : Addr
  fd_le_dealings : FuncData
  F_le_dealings : FunV K "_law_e_dealings" "_law_e_dealings" s_le_dealings f_le_dealings fd_le_dealings
  g_le_dealings : mg "_law_e_dealings" = some (.ref f_le_dealings)
  b_le_dealings : Binds K fd_le_dealings ["many", "low", "high", "total"] []
  f_le_bounds : Addr
  fd_le_bounds : FuncData
  F_le_bounds : FunV K "_law_e_bounds" "_law_e_bounds" s_le_bounds f_le_bounds fd_le_bounds
  g_le_bounds : mg "_law_e_bounds" = some (.ref f_le_bounds)
  b_le_bounds : Binds K fd_le_bounds ["case"] []
  f_le_about : Addr
  fd_le_about : FuncData
  F_le_about : FunV K "_law_e_about" "_law_e_about" s_le_about f_le_about fd_le_about
  g_le_about : mg "_law_e_about" = some (.ref f_le_about)
  b_le_about : Binds K fd_le_about ["case"] []
  f_le_greater : Addr
  fd_le_greater : FuncData
  F_le_greater : FunV K "_law_e_greater" "_law_e_greater" s_le_greater f_le_greater fd_le_greater
  g_le_greater : mg "_law_e_greater" = some (.ref f_le_greater)
  b_le_greater : Binds K fd_le_greater ["case", "by"] []
  f_le_within : Addr
  fd_le_within : FuncData
  F_le_within : FunV K "_law_e_within" "_law_e_within" s_le_within f_le_within fd_le_within
  g_le_within : mg "_law_e_within" = some (.ref f_le_within)
  b_le_within : Binds K fd_le_within ["inner", "outer"] []
  f_le_known_more : Addr
  fd_le_known_more : FuncData
  F_le_known_more : FunV K "_law_e_known_more" "_law_e_known_more" s_le_known_more f_le_known_more fd_le_known_more
  g_le_known_more : mg "_law_e_known_more" = some (.ref f_le_known_more)
  b_le_known_more : Binds K fd_le_known_more ["pen", "case", "bounds"] []
  f_le_numbers_right : Addr
  fd_le_numbers_right : FuncData
  F_le_numbers_right : FunV K "_law_e_numbers_right" "_law_e_numbers_right" s_le_numbers_right f_le_numbers_right fd_le_numbers_right
  g_le_numbers_right : mg "_law_e_numbers_right" = some (.ref f_le_numbers_right)
  b_le_numbers_right : Binds K fd_le_numbers_right ["pen", "case", "bounds"] []
  f_law : Addr
  fd_law : FuncData
  F_law : FunV K "law" "law" s_law f_law fd_law
  g_law : mg "law" = some (.ref f_law)
  b_law : Binds K fd_law ["script"] []
  f_Values___init__ : Addr
  fd_Values___init__ : FuncData
  F_Values___init__ : FunV K "__init__" "Values.__init__" s_Values___init__ f_Values___init__ fd_Values___init__
  b_Values___init__ : Binds K fd_Values___init__ ["self", "kept", "many", "low", "high", "total"] []
  f_Values_turned : Addr
  fd_Values_turned : FuncData
  F_Values_turned : FunV K "turned" "Values.turned" s_Values_turned f_Values_turned fd_Values_turned
  b_Values_turned : Binds K fd_Values_turned ["self"] []
  f_Values_in_all : Addr
  fd_Values_in_all : FuncData
  F_Values_in_all : FunV K "in_all" "Values.in_all" s_Values_in_all f_Values_in_all fd_Values_in_all
  b_Values_in_all : Binds K fd_Values_in_all ["self"] []
  f_Values_has_dealing : Addr
  fd_Values_has_dealing : FuncData
  F_Values_has_dealing : FunV K "has_dealing" "Values.has_dealing" s_Values_has_dealing f_Values_has_dealing fd_Values_has_dealing
  b_Values_has_dealing : Binds K fd_Values_has_dealing ["self"] []
  f_Values_least_total : Addr
  fd_Values_least_total : FuncData
  F_Values_least_total : FunV K "least_total" "Values.least_total" s_Values_least_total f_Values_least_total fd_Values_least_total
  b_Values_least_total : Binds K fd_Values_least_total ["self"] []
  f_Values_most_dealt : Addr
  fd_Values_most_dealt : FuncData
  F_Values_most_dealt : FunV K "most_dealt" "Values.most_dealt" s_Values_most_dealt f_Values_most_dealt fd_Values_most_dealt
  b_Values_most_dealt : Binds K fd_Values_most_dealt ["self", "number"] []
  f_Values_most_under : Addr
  fd_Values_most_under : FuncData
  F_Values_most_under : FunV K "most_under" "Values.most_under" s_Values_most_under f_Values_most_under fd_Values_most_under
  b_Values_most_under : Binds K fd_Values_most_under ["self", "number"] []
  f_Values_dealing_under : Addr
  fd_Values_dealing_under : FuncData
  F_Values_dealing_under : FunV K "dealing_under" "Values.dealing_under" s_Values_dealing_under f_Values_dealing_under fd_Values_dealing_under
  b_Values_dealing_under : Binds K fd_Values_dealing_under ["self", "number"] []
  f_Values_least_at : Addr
  fd_Values_least_at : FuncData
  F_Values_least_at : FunV K "least_at" "Values.least_at" s_Values_least_at f_Values_least_at fd_Values_least_at
  b_Values_least_at : Binds K fd_Values_least_at ["self", "place"] []
  C_Values : Addr
  gC_Values : mg "Values" = some (.ref C_Values)
  cl_Values : Cls K C_Values
  n_Values_kept : NoAttr K C_Values "kept"
  n_Values_many : NoAttr K C_Values "many"
  n_Values_low : NoAttr K C_Values "low"
  n_Values_high : NoAttr K C_Values "high"
  n_Values_total : NoAttr K C_Values "total"
  Mk_Values : Mk K C_Values f_Values___init__
  M_Values_turned : Meth K C_Values "turned" f_Values_turned
  M_Values_in_all : Meth K C_Values "in_all" f_Values_in_all
  M_Values_has_dealing : Meth K C_Values "has_dealing" f_Values_has_dealing
  M_Values_least_total : Meth K C_Values "least_total" f_Values_least_total
  M_Values_most_dealt : Meth K C_Values "most_dealt" f_Values_most_dealt
  M_Values_most_under : Meth K C_Values "most_under" f_Values_most_under
  M_Values_dealing_under : Meth K C_Values "dealing_under" f_Values_dealing_under
  M_Values_least_at : Meth K C_Values "least_at" f_Values_least_at
  C_WoodError : Addr
  gC_WoodError : mg "WoodError" = some (.ref C_WoodError)
  E_WoodError : ErrC K C_WoodError
  q_WoodError : PySem.W.excIn K C_WoodError PySem.HandSPX.veTail "ValueError.__new__" = true
  C_NoDealing : Addr
  gC_NoDealing : mg "NoDealing" = some (.ref C_NoDealing)
  E_NoDealing : ErrC K C_NoDealing
  q_NoDealing : PySem.W.excIn K C_NoDealing PySem.HandSPX.veTail "ValueError.__new__" = true
  C_NoPlace : Addr
  gC_NoPlace : mg "NoPlace" = some (.ref C_NoPlace)
  E_NoPlace : ErrC K C_NoPlace
  q_NoPlace : PySem.W.excIn K C_NoPlace PySem.HandSPX.veTail "ValueError.__new__" = true
  kinds : Kinds K C_WoodError [C_NoDealing, C_NoPlace]
  m_all : mg "all" = none
  m_bool : mg "bool" = none
  m_int : mg "int" = none
  m_isinstance : mg "isinstance" = none
  m_len : mg "len" = none
  m_list : mg "list" = none
  m_max : mg "max" = none
  m_min : mg "min" = none
  m_range : mg "range" = none
  m_sorted : mg "sorted" = none
  m_sum : mg "sum" = none
  m_zip : mg "zip" = none
end LW
namespace LW
open PySem PySem.Spec PyProof.Rows DL
open L2 hiding del del_ne del_same
/-- feed: its cells, how often it was filled, what is left -/
def Feed (M : Mem) (f : Addr) (n : Int) : Prop := ∃ (cs : List Int) (at_ left : Int), M f = some (.lst [.dat (.list (cs.map .int)), .dat (.int at_), .dat (.int left)]) ∧ cs.length ≤ 60 ∧ 0 ≤ at_ ∧ at_ ≤ n
theorem cut60 {ns : List Int} (h : ns.length ≤ 63) : (cut ns none (some 60)).length ≤ 60 := by
  unfold cut
  rw [List.length_take]
  have : HT.sIx ns.length ns.length (some 60) ≤ 60 := by
    unfold HT.sIx
    simp
    omega
  omega
def pr_llmixed : Pr := fun ss M q => ∃ c a : Int, ss = [.dat (.int c), .dat (.int a)] ∧ 0 ≤ a ∧ a ≤ 2 ^ 40 ∧ ∀ r : Int, q (.dat (.int r)) M
def pr_llopen (K : PySem.W.Frag) : Pr := fun ss M q => ∃ ns, ss = [.scr K ns] ∧ ns.length ≤ 63 ∧ ∀ f M', M f = none → Feed M' f 0 → (∀ a, a ≠ f → M' a = M a) → q (.own f) M'
def pr_lldraw : Pr := fun ss M q => ∃ (f : Addr) (many n : Int), ss = [.own f, .dat (.int many)] ∧ 0 < many ∧ many < 2 ^ 200 ∧ Feed M f n ∧ n ≤ 2 ^ 39 ∧ ∀ (r : Int) M', 0 ≤ r → r < many → Feed M' f (n + 1) → (∀ a, a ≠ f → M' a = M a) → q (.dat (.int r)) M'
theorem feed_put {M : Mem} {f : Addr} {cs : List Int} {at_ left n : Int} (h1 : cs.length ≤ 60) (h2 : 0 ≤ at_) (h3 : at_ ≤ n) : Feed (put M f (.lst [.dat (.list (cs.map .int)), .dat (.int at_), .dat (.int left)])) f n := ⟨cs, at_, left, put_at, h1, h2, h3⟩
theorem eqv_nil {cs : List Int} : PyData.eqv (.list (cs.map .int)) (.list []) = cs.isEmpty := by
  cases cs with
  | nil => rfl
  | cons c cs => rfl
theorem canLay_ints : ∀ cs : List Int, PyData.canLayAll0 (cs.map .int) = true
  | [] => rfl
  | c :: cs => by
    show (PyData.canLay0 (.int c) && PyData.canLayAll0 (cs.map .int)) = true
    rw [canLay_ints cs] <;> rfl
theorem depth_ints : ∀ cs : List Int, PyData.depthAll (cs.map .int) ≤ 1
  | [] => by decide
  | c :: cs => by
    show max (PyData.depth (.int c)) (PyData.depthAll (cs.map .int)) ≤ 1
    have := depth_ints cs
    have e : PyData.depth (.int c) = 0 := rfl
    omega
theorem shaped_ints (cs : List Int) : SeqAt.shaped (.list (cs.map .int)) = true := by
  unfold SeqAt.shaped
  rw [Bool.and_eq_true]
  refine ⟨canLay_ints cs, decide_eq_true ?_⟩
  have := depth_ints cs
  show PyData.depthAll (cs.map .int) + 1 ≤ 64
  omega
theorem Feed.up {M : Mem} {f : Addr} {n m : Int} (h : Feed M f n) (le : n ≤ m) : Feed M f m := by
  obtain ⟨cs, a, l, h1, h2, h3, h4⟩ := h
  exact ⟨cs, a, l, h1, h2, h3, by omega⟩
theorem Feed.put {M : Mem} {f p : Addr} {n : Int} {o : MO} (h : Feed M f n) (ne : f ≠ p) : Feed (put M p o) f n := by
  obtain ⟨cs, a, l, h1, h2⟩ := h
  exact ⟨cs, a, l, (put_ne ne).trans h1, h2⟩
theorem Feed.del {M : Mem} {f p : Addr} {n : Int} (h : Feed M f n) (ne : f ≠ p) : Feed (del M p) f n := by
  obtain ⟨cs, a, l, h1, h2⟩ := h
  exact ⟨cs, a, l, (del_ne ne).trans h1, h2⟩
theorem Feed.ne {M : Mem} {f p : Addr} {n : Int} (h : Feed M f n) (hp : M p = none) : f ≠ p := by
  obtain ⟨cs, a, l, h1, h2⟩ := h
  exact ne_mem h1 hp
/-- what was ours stays, but the feed -/
def Keep (f : Addr) (M M' : Mem) : Prop := ∀ x, x ≠ f → M x ≠ none → M' x = M x
theorem Keep.refl {f : Addr} {M : Mem} : Keep f M M := fun _ _ _ => rfl
theorem Keep.trans {f : Addr} {M M1 M2 : Mem} (a : Keep f M M1) (b : Keep f M1 M2) : Keep f M M2 := fun x h1 h2 => (b x h1 (by rw [a x h1 h2]; exact h2)).trans (a x h1 h2)
theorem Keep.of {f : Addr} {M M' : Mem} (h : ∀ x, x ≠ f → M' x = M x) : Keep f M M' := fun x h1 _ => h x h1
theorem Keep.born {f p : Addr} {M : Mem} {o : MO} (h : M p = none) : Keep f M (put M p o) := fun x _ h2 => put_ne fun z => h2 (z ▸ h)
theorem Keep.to {f p : Addr} {M M' : Mem} {o : MO} (k : Keep f M M') (h : M p = none) : Keep f M (put M' p o) := fun x h1 h2 => by
  have n1 : x ≠ p := fun z => h2 (z ▸ h)
  rw [put_ne n1]
  exact k x h1 h2
theorem Keep.un {f p : Addr} {M M' : Mem} (k : Keep f M M') (h : M p = none) : Keep f M (del M' p) := fun x h1 h2 => by
  have n1 : x ≠ p := fun z => h2 (z ▸ h)
  rw [del_ne n1]
  exact k x h1 h2
theorem Keep.at {f p : Addr} {M M' : Mem} {o : MO} (k : Keep f M M') (ne : p ≠ f) (h : M p = some o) : M' p = some o := (k p ne (by rw [h]; exact nofun)).trans h
theorem Keep.no {f p : Addr} {M M' : Mem} (k : Keep f M M') (ne : p ≠ f) (h : M' p = none) : M p = none := by
  cases e : M p with
  | none => rfl
  | some o =>
    rw [k.at ne e] at h
    cases h
theorem erase_map {α β : Type} (g : α → β) : ∀ (l : List α) (j : Nat), (l.map g).eraseIdx j = (l.eraseIdx j).map g
  | [], _ => rfl
  | _ :: _, 0 => rfl
  | a :: l, j + 1 => congrArg (g a :: ·) (erase_map g l j)
theorem erase_perm {α : Type} : ∀ {l : List α} {j : Nat} (h : j < l.length), (l[j] :: l.eraseIdx j).Perm l
  | a :: l, 0, _ => List.Perm.refl _
  | a :: l, j + 1, h => (List.Perm.swap a _ _).trans ((erase_perm (l := l) (j := j) (Nat.lt_of_succ_lt_succ h)).cons a)
/-- whole numbers as slots -/
abbrev li (ns : List Int) : List Sl := ns.map fun n => .dat (.int n)
def upto (many : Int) : List Int := (List.range many.toNat).map fun (i : Nat) => (i : Int)
def pr_llorder : Pr := fun ss M q => ∃ (f : Addr) (many n : Int), ss = [.own f, .dat (.int many)] ∧ 0 ≤ many ∧ many ≤ 1000 ∧ Feed M f n ∧ n ≤ 2 ^ 38 ∧ ∀ (p : Addr) (ns : List Int) M', M p = none → M' p = some (.lst (li ns)) → ns.Perm (upto many) → Feed M' f (n + 1000) → Keep f M M' → q (.own p) M'
def pr_le_pen (K : PySem.W.Frag) : Pr := fun ss M q => ∃ ns, ss = [.scr K ns] ∧ ns.length ≤ 63 ∧ ∀ f M', M f = none → Feed M' f 0 → (∀ a, a ≠ f → M' a = M a) → q (.own f) M'
def pr_le_fresh : Pr := fun ss M q => ∃ (f : Addr) (cs : List Int) (at_ left : Int), ss = [.own f] ∧ M f = some (.lst [.dat (.list (cs.map .int)), .dat (.int at_), .dat (.int left)]) ∧ 0 ≤ at_ ∧ at_ ≤ 2 ^ 30 ∧ cs.length ≤ 60 ∧
  ∀ r : Int, q (.dat (.int r)) (put M f (.lst [.dat (.list (cs.map .int)), .dat (.int (at_ + 1)), .dat (.int left)]))
def pr_le_take : Pr := fun ss M q => ∃ (f : Addr) (many n : Int), ss = [.own f, .dat (.int many)] ∧ 0 < many ∧ many < 2 ^ 200 ∧ Feed M f n ∧ n ≤ 2 ^ 29 ∧ ∀ (r : Int) M', 0 ≤ r → r < many → Feed M' f (n + 1) → (∀ a, a ≠ f → M' a = M a) → q (.dat (.int r)) M'
section
variable {P : Program} {w : World} {K : PySem.W.Frag} {mg : Str → Option Value} {base : Heap}
theorem ok_le_pen (T : Tx P K mg) : Holds P w K mg base 1 T.f_le_pen T.fd_le_pen ["script"] (pr_le_pen K) := by
  refine holds_of T.F_le_pen sc_le_pen (fun ss M q h => ?len) (fun cdv A outer s H hr => (xss_one (xs_ret (xe_lst (xa_cons (xe_fz (xe_callB sim_list (pe_callTy call_list_of rfl T.m_list (by decide +kernel) (xa_cons (xe_slS (K := K) rfl (xv 0) xo_none (xo_some xe_int)) xa_nil)))) (xa_cons xe_int (xa_cons xe_int xa_nil))))))) (fun ss M q h => ?read)
  case len =>
    obtain ⟨c, rfl, _⟩ := h
    rfl
  case read =>
    obtain ⟨ns, rfl, hn, k⟩ := h
    refine ⟨_, rfl, rfl, ?_⟩
    have hz := cut60 hn
    refine ⟨by rw [List.length_map]; omega, fun p hp => ?_⟩
    refine ⟨_, put_at, ?_⟩
    rw [del_put hp]
    refine ⟨rfl, fun f hf => ?_⟩
    exact k f _ hf ⟨_, 0, 0, put_at, hz, by decide, by decide⟩ fun a ha => put_ne ha
theorem ok_le_fresh (T : Tx P K mg) : Holds P w K mg base 1 T.f_le_fresh T.fd_le_fresh ["pen"] pr_le_fresh := by
  refine holds_of T.F_le_fresh sc_le_fresh (fun ss M q h => ?len) (fun cdv A outer s H hr => (xss_cons (xs_asgN (ps_set (i := 1) sc_le_fresh.nd rfl (by first | exact .inl rfl | exact .inr rfl) (xe_ix (xv 0) xe_int)) simLE)
      (xss_cons (xs_setL (ps_asg (xe_addD (xv 1) xe_int) (pg_sub (xv 0) xe_int set_list)))
      (xss_cons (xs_asgN (ps_set (i := 2) sc_le_fresh.nd rfl (by first | exact .inl rfl | exact .inr rfl) xe_int) simLE)
      (xss_cut (xs_if (xb_cmp sim_ne (pt_cmpR (op_neAll hr.rm.units) (xe_ix (xv 0) xe_int) (xe_lstD xa_nil) (nomark _))) (xss_one (xs_asgN (ps_set (i := 2) sc_le_fresh.nd rfl (by first | exact .inl rfl | exact .inr rfl) (xe_fdiv (xe_ix (xe_ix (xv 0) xe_int) (xe_mod (xe_mul (xv 1) xe_int) (xe_callB sim_len (pe_callB call_lenA rfl T.m_len (by decide +kernel) (xa_cons (xe_ix (xv 0) xe_int) xa_nil))))) (xe_addD xe_int (xe_fdiv (xv 1) (xe_callB sim_len (pe_callB call_lenA rfl T.m_len (by decide +kernel) (xa_cons (xe_ix (xv 0) xe_int) xa_nil))))))) simLE)) xss_nil)
      (xss_cut (xs_if (xb_cmp (sim_I0 fun _ _ _ => .bl _) (pt_cmpR op_lt (xv 1) (xe_callB sim_len (pe_callB call_lenA rfl T.m_len (by decide +kernel) (xa_cons (xe_ix (xv 0) xe_int) xa_nil))) (nomark _))) (xss_one (xs_asgN (ps_set (i := 2) sc_le_fresh.nd rfl (by first | exact .inl rfl | exact .inr rfl) (xe_ix (xe_ix (xv 0) xe_int) (xv 1))) simLE)) xss_nil)
      (xss_cons (xs_if (xb_cmp (sim_I0 fun _ _ _ => .bl _) (pt_cmpR op_ge (xv 2) (xe_pow xe_int xe_int) (nomark _))) (xss_one (xs_ret (xv 2))) xss_nil)
      (xss_cons (xs_asgN (ps_set (i := 3) sc_le_fresh.nd rfl (by first | exact .inl rfl | exact .inr rfl) (xe_ix (xe_lstD (xa_cons xe_int (xa_cons xe_int (xa_cons xe_int (xa_cons xe_int (xa_cons xe_int (xa_cons xe_int (xa_cons xe_int xa_nil)))))))) (xe_mod (xv 1) xe_int))) simLE)
      (xss_cons (xs_asgN (ps_set (i := 4) sc_le_fresh.nd rfl (by first | exact .inl rfl | exact .inr rfl) (xe_ix (xe_lstD (xa_cons xe_int (xa_cons xe_int (xa_cons xe_int (xa_cons xe_int (xa_cons xe_int xa_nil)))))) (xe_mod (xv 1) xe_int))) simLE)
      (xss_cons (xs_asgN (ps_set (i := 5) sc_le_fresh.nd rfl (by first | exact .inl rfl | exact .inr rfl) (xe_mod (xe_pow (xe_addD (xe_addD (xe_mod (xv 2) (xv 3)) (xe_mul xe_int (xv 1))) xe_int) xe_int) (xv 3))) simLE)
      (xss_cons (xs_asgN (ps_set (i := 6) sc_le_fresh.nd rfl (by first | exact .inl rfl | exact .inr rfl) (xe_mod (xe_pow (xe_addD (xe_addD (xv 5) (xe_mod (xv 2) (xv 4))) (xe_mul (xv 1) (xv 1))) xe_int) (xv 4))) simLE)
      (xss_one (xs_ret (xe_addD (xe_mul (xe_addD (xv 5) xe_int) (xv 4)) (xv 6))))))))))))))) (fun ss M q h => ?read)
  case len =>
    obtain ⟨f, cs, at_, left, rfl, _⟩ := h
    rfl
  case read =>
    obtain ⟨f, cs, at_, left, rfl, hM, ha0, ha1, hcs, k⟩ := h
    have hL : (cs.map PyData.int).length = cs.length := List.length_map ..
    refine ⟨_, rfl, _, _, hM, rfl, ?_⟩
    refine ⟨_, rfl, _, rfl, f, 1, _, 1, rfl, rfl, hM, rfl, ?_⟩
    obtain ⟨M1, eM1⟩ : ∃ M1, M1 = put M f (.lst [.dat (.list (cs.map .int)), .dat (.int (at_ + 1)), .dat (.int left)]) := ⟨_, rfl⟩
    have hM1 : M1 f = some (.lst [.dat (.list (cs.map .int)), .dat (.int (at_ + 1)), .dat (.int left)]) := by rw [eM1]; exact put_at
    rw [← eM1] at k
    show dCut _ _ _ _ (put M f (.lst [.dat (.list (cs.map .int)), .dat (.int (at_ + 1)), .dat (.int left)]))
    rw [← eM1]
    refine ⟨fun Γ' M' => ∃ c : Int, Γ' = [some (.own f), some (.dat (.int at_)), some (.dat (.int c)), none, none, none, none] ∧ M' = M1, ?_, ?_⟩
    · refine ⟨_, rfl, _, _, hM1, rfl, rfl, _, rfl, _, _, .inl rfl, .inl rfl, shaped_ints cs, rfl, And.intro (fun hne => ?_) (fun _ => ⟨_, rfl, rfl⟩)⟩
      have hpos : 0 < cs.length := by
        cases cs with
        | nil => cases hne
        | cons _ _ => exact Nat.succ_pos _
      have lpos : (0 : Int) < ((cs.map PyData.int).length : Int) := by omega
      have e0 := Int.emod_nonneg (at_ * 7) (show ((cs.map PyData.int).length : Int) ≠ 0 by omega)
      have e1 := Int.emod_lt_of_pos (at_ * 7) lpos
      obtain ⟨j, ej⟩ : ∃ j : Nat, (at_ * 7) % ((cs.map PyData.int).length : Int) = (j : Int) := ⟨((at_ * 7) % ((cs.map PyData.int).length : Int)).toNat, by omega⟩
      have hj : j < cs.length := by omega
      have d0 : 0 ≤ at_ / ((cs.map PyData.int).length : Int) := Int.ediv_nonneg ha0 (by omega)
      have d1 : at_ / ((cs.map PyData.int).length : Int) ≤ at_ := Int.ediv_le_self _ ha0
      refine ⟨_, rfl, _, _, hM1, rfl, _, rfl, .inl ⟨by omega, by omega⟩, _, rfl, _, _, hM1, rfl, lpos, .int cs[j], (congrArg (atI _) ej).trans (atI_nat (by rw [List.getElem?_map, List.getElem?_eq_getElem hj] <;> rfl)), ?_⟩
      refine ⟨_, rfl, _, rfl, _, _, hM1, rfl, wide_div (b := 40) lpos ?_ (by decide) (by decide), ?_⟩
      · rw [hL]; omega
      refine ⟨wide_div (b := 40) ?_ ?_ (by decide) (by decide), ?_⟩
      · omega
      · omega
      exact ⟨_, rfl, rfl⟩
    rintro Γ' M' ⟨c, rfl, e⟩
    rw [e]
    refine ⟨fun Γ' M' => ∃ c : Int, Γ' = [some (.own f), some (.dat (.int at_)), some (.dat (.int c)), none, none, none, none] ∧ M' = M1, ?_, ?_⟩
    · refine ⟨_, rfl, _, rfl, _, _, hM1, rfl, And.intro (fun hlt => ?_) (fun _ => ⟨_, rfl, rfl⟩)⟩
      have hlt' : at_ < ((cs.map PyData.int).length : Int) := of_decide_eq_true hlt
      obtain ⟨j, ej⟩ : ∃ j : Nat, at_ = (j : Int) := ⟨at_.toNat, by omega⟩
      have hj : j < cs.length := by omega
      exact ⟨_, rfl, _, _, hM1, rfl, _, rfl, .int cs[j], (congrArg (atI _) ej).trans (atI_nat (by rw [List.getElem?_map, List.getElem?_eq_getElem hj] <;> rfl)), _, rfl, rfl⟩
    rintro Γ' M' ⟨c, rfl, e⟩
    rw [e]
    refine ⟨_, rfl, ⟨by decide, by decide, by decide⟩, And.intro (fun _ => ⟨_, rfl, k c⟩) (fun _ => ?_)⟩
    refine ⟨rfl, _, rfl, _, rfl, (show (0 : Int) < 7 by decide), ?_⟩
    have m70 := Int.emod_nonneg at_ (show (7 : Int) ≠ 0 by decide)
    have m71 := Int.emod_lt_of_pos at_ (show (0 : Int) < 7 by decide)
    obtain ⟨one, eo, ho⟩ := pickI (P := fun v => 0 < v ∧ v < 2147483648) (xs := [2147483647, 2147483629, 2147483587, 2147483579, 2147483563, 2147483549, 2147483543]) (i := at_ % 7) (by simp) m70 m71
    refine ⟨_, eo, ?_⟩
    refine ⟨rfl, _, rfl, _, rfl, (show (0 : Int) < 5 by decide), ?_⟩
    have m50 := Int.emod_nonneg at_ (show (5 : Int) ≠ 0 by decide)
    have m51 := Int.emod_lt_of_pos at_ (show (0 : Int) < 5 by decide)
    obtain ⟨two, et, ht⟩ := pickI (P := fun v => 0 < v ∧ v < 2147483648) (xs := [2147483497, 2147483489, 2147483477, 2147483423, 2147483399]) (i := at_ % 5) (by simp) m50 m51
    refine ⟨_, et, ?_⟩
    have c0 := Int.emod_nonneg c (show one ≠ 0 by omega)
    have c1 := Int.emod_lt_of_pos c ho.1
    refine ⟨_, rfl, _, rfl, ho.1, _, rfl, .inl ⟨by decide, by decide⟩, ⟨by decide, by decide, ?_⟩, _, rfl, ho.1, ?_⟩
    · omega
    generalize hmix : (c % one + 31 * at_ + 5) ^ (5 : Int).toNat % one = mixed
    have x0 : 0 ≤ mixed := by rw [← hmix]; exact Int.emod_nonneg _ (by omega)
    have x1 : mixed < one := by rw [← hmix]; exact Int.emod_lt_of_pos _ ho.1
    have t0 := Int.emod_nonneg c (show two ≠ 0 by omega)
    have t1 := Int.emod_lt_of_pos c ht.1
    have s0 : 0 ≤ at_ * at_ := Int.mul_nonneg ha0 ha0
    have s1 : at_ * at_ ≤ 2 ^ 30 * 2 ^ 30 := Int.mul_le_mul ha1 ha1 ha0 (by decide)
    refine ⟨_, rfl, _, rfl, _, rfl, ht.1, _, rfl, _, rfl, .inl ⟨by omega, by omega⟩, ⟨by decide, by decide, ?_⟩, _, rfl, ht.1, ?_⟩
    · omega
    exact ⟨_, rfl, _, rfl, .inl ⟨by omega, by omega⟩, _, rfl, k _⟩
theorem ok_le_take (T : Tx P K mg) : Holds P w K mg base 2 T.f_le_take T.fd_le_take ["pen", "many"] pr_le_take := by
  refine holds_of T.F_le_take sc_le_take (fun ss M q h => ?len) (fun cdv A outer s H hr => (xss_cut (xs_if (xb_cmp (sim_I0 fun _ _ _ => .bl _) (pt_cmpR op_lt (xe_ix (xv 0) xe_int) (xv 1) (nomark _))) (xss_one (xs_setL (ps_asg (xe_call (ok_le_fresh T) (hr.mono (by decide)) T.g_le_fresh T.F_le_fresh.kp T.b_le_fresh (xa_cons (xv 0) xa_nil)) (pg_sub (xv 0) xe_int set_list)))) xss_nil)
      (xss_cons (xs_asgN (ps_set (i := 2) sc_le_take.nd rfl (by first | exact .inl rfl | exact .inr rfl) (xe_mod (xe_ix (xv 0) xe_int) (xv 1))) simLE)
      (xss_cons (xs_setL (ps_asg (xe_fdiv (xe_ix (xv 0) xe_int) (xv 1)) (pg_sub (xv 0) xe_int set_list)))
      (xss_one (xs_ret (xv 2))))))) (fun ss M q h => ?read)
  case len =>
    obtain ⟨f, many, n, rfl, _⟩ := h
    rfl
  case read =>
    obtain ⟨f, many, n, rfl, hm0, hm1, ⟨cs, at_, left, hM, hc, ha0, ha1⟩, hn, k⟩ := h
    refine ⟨fun Γ' M' => ∃ (at2 left2 : Int) (x : Option Sl), Γ' = [some (.own f), some (.dat (.int many)), x] ∧ M' f = some (.lst [.dat (.list (cs.map .int)), .dat (.int at2), .dat (.int left2)]) ∧ 0 ≤ at2 ∧ at2 ≤ n + 1 ∧ ∀ a, a ≠ f → M' a = M a, ?_, ?_⟩
    · refine ⟨_, rfl, _, _, hM, rfl, _, rfl, fun hlt => ?_, fun hlt => ?_⟩
      · refine ⟨_, rfl, f, cs, at_, left, rfl, hM, ha0, by omega, hc, fun r => ?_⟩
        refine ⟨_, rfl, f, 2, _, 2, rfl, rfl, put_at, rfl, ?_⟩
        exact ⟨at_ + 1, r, _, rfl, put_at, by omega, by omega, fun a ha => by rw [put_ne ha, put_ne ha]⟩
      · exact ⟨at_, left, _, rfl, hM, ha0, by omega, fun _ _ => rfl⟩
    · rintro Γ' M' ⟨at2, left2, x, rfl, hM2, h20, h21, hoth⟩
      refine ⟨_, rfl, _, _, hM2, rfl, _, rfl, hm0, ?_⟩
      have e0 := Int.emod_nonneg left2 (show many ≠ 0 by omega)
      have e1 := Int.emod_lt_of_pos left2 hm0
      refine ⟨_, rfl, _, _, hM2, rfl, _, rfl, wide_div (b := 200) hm0 (by omega) (by decide) (by decide), ?_⟩
      refine ⟨_, rfl, f, 2, _, 2, rfl, rfl, hM2, rfl, ?_⟩
      refine ⟨_, rfl, ?_⟩
      exact k _ _ e0 e1 ⟨cs, at2, _, put_at, hc, h20, h21⟩ fun a ha => by rw [put_ne ha]; exact hoth a ha
end
end LW
namespace LW
open PySem PySem.Spec PyProof.Rows DL
open L2 hiding del del_ne del_same
theorem lc_mapK {s : Sl} {xs : List Sl} {M1 : Mem} {Γ : Fm} {vs : List Nat} {j : Nat} {el : DE} {K : Addr → Mem → Prop} (f : Sl → Sl) (l : IsL M1 s xs) (hz : xs.length < 16777216)
    (he : ∀ x ∈ xs, ∀ (M' : Mem) (k' : DK), (∀ a o, M1 a = some o → M' a = some o) → k' (f x) M' → el ((wipeF Γ vs).set j (some x)) M' k') (hk : ∀ p, M1 p = none → K p (put M1 p (.lst (xs.map f)))) :
    ∃ xs, IsL M1 s xs ∧ ∀ p, M1 p = none → ∃ Inv : Nat → Mem → Prop, Inv 0 (put M1 p (.lst [])) ∧ (∀ i M', i ≤ xs.length → Inv i M' → IsL M' s xs) ∧
      (∀ i x M', xs[i]? = some x → Inv i M' → lcTurn p Γ vs j dYes el (Inv (i + 1)) x M') ∧ ∀ M', Inv xs.length M' → K p M' := by
  refine ⟨xs, l, fun p hp => ⟨fun i M' => M' = put M1 p (.lst ((xs.take i).map f)), rfl, fun i M' _ e => by rw [e]; exact l.put hp, fun i x M' hx e => ?_, fun M' e => by rw [e, List.take_length]; exact hk p hp⟩⟩
  subst e
  refine ⟨fun _ => he x (List.mem_of_getElem? hx) _ _ (fun a o h => (put_ne (ne_mem h hp)).trans h) ?_, fun z => nomatch z⟩
  have hi : i < xs.length := (List.getElem?_eq_some_iff.mp hx).1
  refine ⟨_, put_at, by rw [List.length_map, List.length_take]; omega, ?_⟩
  show put (put M1 p (.lst ((xs.take i).map f))) p (.lst ((xs.take i).map f ++ [f x])) = put M1 p (.lst ((xs.take (i + 1)).map f))
  rw [put_put, List.take_add_one, hx]
  simp
theorem li_dat (ns : List Int) : li ns = (ns.map PyData.int).map Sl.dat := by
  rw [List.map_map] <;> rfl
def totD : Option Int → Dt
  | none => .none
  | some t => .int t
/-- the values: kept ones, how many more, from lo to hi, in all -/
structure Vs where
  ks : List Int
  m : Int
  lo : Int
  hi : Int
  tot : Option Int
abbrev Vs.fl (v : Vs) : List Sl := [.dat (.list (v.ks.map .int)), .dat (.int v.m), .dat (.int v.lo), .dat (.int v.hi), .dat (totD v.tot)]
def Vs.turn (v : Vs) : Vs := ⟨v.ks.map fun n => -n, v.m, -v.hi, -v.lo, v.tot.map fun n => -n⟩
def Vs.least (v : Vs) : Int := PM.least v.m v.lo v.tot
def Vs.has (v : Vs) : Bool := match v.tot with
  | none => true
  | some t => decide (v.m * v.lo ≤ t) && decide (t ≤ v.m * v.hi)
def Vs.dealt (v : Vs) (x : Int) : Int := PM.dealt v.m v.lo v.hi v.tot x
theorem Vs.has_iff {v : Vs} : v.has = true ↔ PM.has v.m v.lo v.hi v.tot := by
  unfold Vs.has PM.has
  cases v.tot with
  | none => simp
  | some t => simp
def Vs.under (v : Vs) (x : Int) : Int := v.dealt x + PM.below x v.ks
abbrev VAt (C : Addr) (M : Mem) (a : Addr) (v : Vs) : Prop := M a = some (.ins C Fl_Values v.fl)
def Vs.fine (v : Vs) : Prop := (0 ≤ v.m ∧ v.m ≤ 2000) ∧ (-(2 ^ 300) ≤ v.lo ∧ v.lo ≤ 2 ^ 300) ∧ (-(2 ^ 300) ≤ v.hi ∧ v.hi ≤ 2 ^ 300) ∧ v.ks.length ≤ 1000
theorem Vs.fine.turn {v : Vs} (h : v.fine) : v.turn.fine := by
  unfold Vs.fine Vs.turn at *
  dsimp only
  rw [List.length_map]
  omega
def pr_init (C : Addr) : Pr := fun ss M q => ∃ (p : Addr) (v : Vs), ss = .own p :: v.fl ∧ M p = some (.ins C Fl_Values []) ∧ q (.dat .none) (put M p (.ins C Fl_Values v.fl))
def pr_turned (C : Addr) : Pr := fun ss M q => ∃ (a : Addr) (v : Vs), ss = [.own a] ∧ VAt C M a v ∧ v.fine ∧ ∀ p, M p = none → q (.own p) (put M p (.ins C Fl_Values v.turn.fl))
def pr_in_all (C : Addr) : Pr := fun ss M q => ∃ (a : Addr) (v : Vs), ss = [.own a] ∧ VAt C M a v ∧ q (.dat (.int ((v.ks.length : Int) + v.m))) M
def pr_has_dealing (C : Addr) : Pr := fun ss M q => ∃ (a : Addr) (v : Vs), ss = [.own a] ∧ VAt C M a v ∧ v.fine ∧ q (.dat (.bool v.has)) M
def pr_least_total (C : Addr) : Pr := fun ss M q => ∃ (a : Addr) (v : Vs), ss = [.own a] ∧ VAt C M a v ∧ v.fine ∧ q (.dat (.int v.least)) M
def pr_most_dealt (C : Addr) : Pr := fun ss M q => ∃ (a : Addr) (v : Vs) (x : Int), ss = [.own a, .dat (.int x)] ∧ VAt C M a v ∧ v.fine ∧ q (.dat (.int (v.dealt x))) M
def pr_most_under (C : Addr) : Pr := fun ss M q => ∃ (a : Addr) (v : Vs) (x : Int), ss = [.own a, .dat (.int x)] ∧ VAt C M a v ∧ v.fine ∧ q (.dat (.int (v.under x))) M
theorem wide_pos {i j : Int} (h : 0 < j) (hb : j ≤ 2 ^ 301) : CDivW i j := wide_div (b := 302) h (by omega) (by decide) (by decide)
theorem li_map (f : Int → Int) : ∀ ns : List Int, (li ns).map (fun s => match s with | .dat (.int n) => Sl.dat (.int (f n)) | s => s) = li (ns.map f)
  | [] => rfl
  | n :: ns => congrArg (Sl.dat (.int (f n)) :: ·) (li_map f ns)
section
variable {P : Program} {w : World} {K : PySem.W.Frag} {mg : Str → Option Value} {base : Heap}
theorem ok_Values___init__ (T : Tx P K mg) : Holds P w K mg base 1 T.f_Values___init__ T.fd_Values___init__ ["self", "kept", "many", "low", "high", "total"] (pr_init T.C_Values) := by
  refine holds_of T.F_Values___init__ sc_Values___init__ (fun ss M q h => ?len) (fun cdv A outer s H hr => (xss_cons (xs_fld (N := Fl_Values) (i := 0) T.cl_Values T.n_Values_kept (by decide +kernel) rfl (by decide) (xv 0) (xv 1))
      (xss_cons (xs_fld (N := Fl_Values) (i := 1) T.cl_Values T.n_Values_many (by decide +kernel) rfl (by decide) (xv 0) (xv 2))
      (xss_cons (xs_fld (N := Fl_Values) (i := 2) T.cl_Values T.n_Values_low (by decide +kernel) rfl (by decide) (xv 0) (xv 3))
      (xss_cons (xs_fld (N := Fl_Values) (i := 3) T.cl_Values T.n_Values_high (by decide +kernel) rfl (by decide) (xv 0) (xv 4))
      (xss_one (xs_fld (N := Fl_Values) (i := 4) T.cl_Values T.n_Values_total (by decide +kernel) rfl (by decide) (xv 0) (xv 5)))))))) (fun ss M q h => ?read)
  case len =>
    obtain ⟨p, v, rfl, _⟩ := h
    rfl
  case read =>
    obtain ⟨p, v, rfl, hp, k⟩ := h
    refine ⟨_, rfl, _, rfl, p, _, rfl, hp, rfl, ?_⟩
    refine ⟨_, rfl, _, rfl, p, _, rfl, put_at, rfl, ?_⟩
    refine ⟨_, rfl, _, rfl, p, _, rfl, put_at, rfl, ?_⟩
    refine ⟨_, rfl, _, rfl, p, _, rfl, put_at, rfl, ?_⟩
    refine ⟨_, rfl, _, rfl, p, _, rfl, put_at, rfl, ?_⟩
    dsimp only
    rw [put_put, put_put, put_put, put_put]
    exact k
theorem ok_Values_turned (T : Tx P K mg) : Holds P w K mg base 3 T.f_Values_turned T.fd_Values_turned ["self"] (pr_turned T.C_Values) := by
  refine holds_of T.F_Values_turned sc_Values_turned (fun ss M q h => ?len) (fun cdv A outer s H hr => (xss_cons (xs_asgN (ps_set (i := 1) sc_Values_turned.nd rfl (by first | exact .inl rfl | exact .inr rfl) (xe_if (xb_cmp sim_is (pt_cmpR (L2.OpR.or op_isBl op_isN) (xe_fld (N := Fl_Values) (i := 4) T.cl_Values T.n_Values_total (by decide +kernel) rfl (xv 0)) xe_non (nomark _))) xe_non (xe_neg (xe_fld (N := Fl_Values) (i := 4) T.cl_Values T.n_Values_total (by decide +kernel) rfl (xv 0))))) simLE)
      (xss_one (xs_ret (xe_make (N := Fl_Values) T.Mk_Values (ok_Values___init__ T) (hr.mono (by decide)) T.gC_Values T.b_Values___init__ (xa_cons (xe_fz (xe_lcL (pe_lc (own := [("value", 2)]) (g := gName 2) (tt := LB _) rfl sc_Values_turned.nd (pi_list (xe_fld (N := Fl_Values) (i := 0) T.cl_Values T.n_Values_kept (by decide +kernel) rfl (xv 0))) (blkOk_by (own := [("value", 2)]) (N := N_Values_turned) (sc := defScope s_Values_turned) (by decide +kernel)) (fun _ _ _ _ _ => pg_name (i := 2) sc_Values_turned.nd rfl (.inl rfl)) (fun _ _ _ _ _ => xts_nil) (fun _ _ _ _ _ => (xe_neg (xv 2)))) (by decide))) (xa_cons (xe_fld (N := Fl_Values) (i := 1) T.cl_Values T.n_Values_many (by decide +kernel) rfl (xv 0)) (xa_cons (xe_neg (xe_fld (N := Fl_Values) (i := 3) T.cl_Values T.n_Values_high (by decide +kernel) rfl (xv 0))) (xa_cons (xe_neg (xe_fld (N := Fl_Values) (i := 2) T.cl_Values T.n_Values_low (by decide +kernel) rfl (xv 0))) (xa_cons (xv 1) xa_nil)))))))))) (fun ss M q h => ?read)
  case len =>
    obtain ⟨a, v, rfl, _⟩ := h
    rfl
  case read =>
    obtain ⟨a, v, rfl, hM, ⟨hm, hlo, hhi, hk⟩, k⟩ := h
    obtain ⟨ks, m, lo, hi, tot⟩ := v
    dsimp only at hm hlo hhi hk
    have go : ∀ t : Option Int, ∀ (N : Dt), N = totD (t.map fun n => -n) → tot = t → (dRet (dMake T.C_Values Fl_Values (pr_init T.C_Values) (dCons (dFz (dLcL (dFld T.C_Values Fl_Values 0 (dV 0)) 2 dYes (dNeg (dV 2)) [2])) (dCons (dFld T.C_Values Fl_Values 1 (dV 0)) (dCons (dNeg (dFld T.C_Values Fl_Values 3 (dV 0))) (dCons (dNeg (dFld T.C_Values Fl_Values 2 (dV 0))) (dCons (dV 1) dNil))))))) { nx := fun _ M' => q (.dat .none) M', rt := q } [some (.own a), some (.dat N), none] M := by
      intro t N hN ht
      subst ht
      refine ⟨_, rfl, a, _, _, rfl, hM, rfl, lc_mapK (f := fun s => match s with | .dat (.int n) => Sl.dat (.int (-n)) | s => s) (xs := li ks) (by rw [li_dat]; exact IsL.dat) (by rw [List.length_map]; omega) (fun x hx M' k' hk' hgo => ?_) fun p hp => ?_⟩
      · obtain ⟨n, _, rfl⟩ := List.mem_map.mp hx
        exact ⟨_, rfl, hgo⟩
      refine ⟨(ks.map fun n => -n).map .int, put_at.trans (by rw [li_map (fun n => -n) ks, li_dat]), ?_⟩
      rw [del_put hp]
      refine ⟨_, rfl, a, _, _, rfl, hM, rfl, _, rfl, a, _, _, rfl, hM, rfl, _, rfl, a, _, _, rfl, hM, rfl, _, rfl, fun p hp => ?_⟩
      refine ⟨p, Vs.turn ⟨ks, m, lo, hi, tot⟩, by rw [hN]; rfl, put_at, rfl, ?_⟩
      rw [put_put]
      exact k p hp
    refine ⟨_, rfl, a, _, _, rfl, hM, rfl, ?_⟩
    cases tot with
    | none => exact And.intro (fun _ => go none _ rfl rfl) (fun z => nomatch z)
    | some t => exact And.intro (fun z => nomatch z) (fun _ => ⟨_, rfl, a, _, _, rfl, hM, rfl, go (some t) _ rfl rfl⟩)
theorem ok_Values_in_all (T : Tx P K mg) : Holds P w K mg base 1 T.f_Values_in_all T.fd_Values_in_all ["self"] (pr_in_all T.C_Values) := by
  refine holds_of T.F_Values_in_all sc_Values_in_all (fun ss M q h => ?len) (fun cdv A outer s H hr => (xss_one (xs_ret (xe_addD (xe_callB sim_len (pe_callB call_lenA rfl T.m_len (by decide +kernel) (xa_cons (xe_fld (N := Fl_Values) (i := 0) T.cl_Values T.n_Values_kept (by decide +kernel) rfl (xv 0)) xa_nil))) (xe_fld (N := Fl_Values) (i := 1) T.cl_Values T.n_Values_many (by decide +kernel) rfl (xv 0)))))) (fun ss M q h => ?read)
  case len =>
    obtain ⟨a, v, rfl, _⟩ := h
    rfl
  case read =>
    obtain ⟨a, v, rfl, hM, k⟩ := h
    refine ⟨_, rfl, a, _, _, rfl, hM, rfl, _, rfl, a, _, _, rfl, hM, rfl, ?_⟩
    rw [List.length_map]
    exact k
theorem ok_Values_has_dealing (T : Tx P K mg) : Holds P w K mg base 1 T.f_Values_has_dealing T.fd_Values_has_dealing ["self"] (pr_has_dealing T.C_Values) := by
  refine holds_of T.F_Values_has_dealing sc_Values_has_dealing (fun ss M q h => ?len) (fun cdv A outer s H hr => (xss_one (xs_ret (xe_or (xe_is (xe_fld (N := Fl_Values) (i := 4) T.cl_Values T.n_Values_total (by decide +kernel) rfl (xv 0)) xe_non) (xe_one (xe_chainI (pe_chain op_le op_le (xe_mul (xe_fld (N := Fl_Values) (i := 1) T.cl_Values T.n_Values_many (by decide +kernel) rfl (xv 0)) (xe_fld (N := Fl_Values) (i := 2) T.cl_Values T.n_Values_low (by decide +kernel) rfl (xv 0))) (xe_fld (N := Fl_Values) (i := 4) T.cl_Values T.n_Values_total (by decide +kernel) rfl (xv 0)) (xe_mul (xe_fld (N := Fl_Values) (i := 1) T.cl_Values T.n_Values_many (by decide +kernel) rfl (xv 0)) (xe_fld (N := Fl_Values) (i := 3) T.cl_Values T.n_Values_high (by decide +kernel) rfl (xv 0)))))))))) (fun ss M q h => ?read)
  case len =>
    obtain ⟨a, v, rfl, _⟩ := h
    rfl
  case read =>
    obtain ⟨a, v, rfl, hM, ⟨hm, hlo, hhi, hk⟩, k⟩ := h
    obtain ⟨ks, m, lo, hi, tot⟩ := v
    dsimp only at hm hlo hhi hk
    have ml : CMul m lo := .inl ⟨by omega, by omega⟩
    have mh : CMul m hi := .inl ⟨by omega, by omega⟩
    refine ⟨_, rfl, a, _, _, rfl, hM, rfl, ?_⟩
    cases tot with
    | none => exact And.intro (fun _ => k) (fun z => nomatch z)
    | some t =>
      refine And.intro (fun z => nomatch z) (fun _ => ?_)
      refine ⟨_, rfl, a, _, _, rfl, hM, rfl, _, rfl, a, _, _, rfl, hM, rfl, ml, _, rfl, a, _, _, rfl, hM, rfl, And.intro (fun h1 => ?_) (fun h1 => ?_)⟩
      · refine ⟨_, rfl, a, _, _, rfl, hM, rfl, _, rfl, a, _, _, rfl, hM, rfl, mh, ?_⟩
        have e : (Vs.mk ks m lo hi (some t)).has = decide (t ≤ m * hi) := by
          unfold Vs.has
          dsimp only
          rw [show decide (m * lo ≤ t) = true from h1, Bool.true_and]
        rw [e] at k
        exact k
      · have e : (Vs.mk ks m lo hi (some t)).has = false := by
          unfold Vs.has
          dsimp only
          rw [show decide (m * lo ≤ t) = false from h1, Bool.false_and]
        rw [e] at k
        exact k
theorem ok_Values_least_total (T : Tx P K mg) : Holds P w K mg base 1 T.f_Values_least_total T.fd_Values_least_total ["self"] (pr_least_total T.C_Values) := by
  refine holds_of T.F_Values_least_total sc_Values_least_total (fun ss M q h => ?len) (fun cdv A outer s H hr => (xss_one (xs_ret (xe_if (xb_cmp sim_is (pt_cmpR (L2.OpR.or op_isBl op_isN) (xe_fld (N := Fl_Values) (i := 4) T.cl_Values T.n_Values_total (by decide +kernel) rfl (xv 0)) xe_non (nomark _))) (xe_mul (xe_fld (N := Fl_Values) (i := 1) T.cl_Values T.n_Values_many (by decide +kernel) rfl (xv 0)) (xe_fld (N := Fl_Values) (i := 2) T.cl_Values T.n_Values_low (by decide +kernel) rfl (xv 0))) (xe_fld (N := Fl_Values) (i := 4) T.cl_Values T.n_Values_total (by decide +kernel) rfl (xv 0)))))) (fun ss M q h => ?read)
  case len =>
    obtain ⟨a, v, rfl, _⟩ := h
    rfl
  case read =>
    obtain ⟨a, v, rfl, hM, ⟨hm, hlo, hhi, hk⟩, k⟩ := h
    obtain ⟨ks, m, lo, hi, tot⟩ := v
    dsimp only at hm hlo hhi hk
    have ml : CMul m lo := .inl ⟨by omega, by omega⟩
    refine ⟨_, rfl, a, _, _, rfl, hM, rfl, ?_⟩
    cases tot with
    | none => exact And.intro (fun _ => ⟨_, rfl, a, _, _, rfl, hM, rfl, _, rfl, a, _, _, rfl, hM, rfl, ml, k⟩) (fun z => nomatch z)
    | some t => exact And.intro (fun z => nomatch z) (fun _ => ⟨_, rfl, a, _, _, rfl, hM, rfl, k⟩)
theorem ok_Values_most_dealt (T : Tx P K mg) : Holds P w K mg base 2 T.f_Values_most_dealt T.fd_Values_most_dealt ["self", "number"] (pr_most_dealt T.C_Values) := by
  refine holds_of T.F_Values_most_dealt sc_Values_most_dealt (fun ss M q h => ?len) (fun cdv A outer s H hr => (xss_cons (xs_if (xb_cmp (sim_I0 fun _ _ _ => .bl _) (pt_cmpR op_ge (xv 1) (xe_fld (N := Fl_Values) (i := 3) T.cl_Values T.n_Values_high (by decide +kernel) rfl (xv 0)) (nomark _))) (xss_one (xs_ret (xe_fld (N := Fl_Values) (i := 1) T.cl_Values T.n_Values_many (by decide +kernel) rfl (xv 0)))) xss_nil)
      (xss_cons (xs_if (xb_cmp (sim_I0 fun _ _ _ => .bl _) (pt_cmpR op_lt (xv 1) (xe_fld (N := Fl_Values) (i := 2) T.cl_Values T.n_Values_low (by decide +kernel) rfl (xv 0)) (nomark _))) (xss_one (xs_ret xe_int)) xss_nil)
      (xss_one (xs_ret (xe_callB sim_min2 (pe_callB (call_min2 rfl) rfl T.m_min (by decide +kernel) (xa_cons (xe_fld (N := Fl_Values) (i := 1) T.cl_Values T.n_Values_many (by decide +kernel) rfl (xv 0)) (xa_cons (xe_fdiv (xe_sub (xe_mul (xe_fld (N := Fl_Values) (i := 1) T.cl_Values T.n_Values_many (by decide +kernel) rfl (xv 0)) (xe_fld (N := Fl_Values) (i := 3) T.cl_Values T.n_Values_high (by decide +kernel) rfl (xv 0))) (xe_meth0 (N := Fl_Values) (ok_Values_least_total T) (hr.mono (by decide)) T.cl_Values T.M_Values_least_total (by decide +kernel) T.b_Values_least_total (xv 0))) (xe_sub (xe_fld (N := Fl_Values) (i := 3) T.cl_Values T.n_Values_high (by decide +kernel) rfl (xv 0)) (xv 1))) xa_nil))))))))) (fun ss M q h => ?read)
  case len =>
    obtain ⟨a, v, x, rfl, _⟩ := h
    rfl
  case read =>
    obtain ⟨a, v, x, rfl, hM, hf, k⟩ := h
    have hf' := hf
    obtain ⟨hm, hlo, hhi, hk⟩ := hf'
    refine ⟨_, rfl, _, rfl, a, _, _, rfl, hM, rfl, And.intro (fun h1 => ?_) (fun h1 => ?_)⟩
    · refine ⟨_, rfl, a, _, _, rfl, hM, rfl, ?_⟩
      have e : v.dealt x = v.m := if_pos (of_decide_eq_true h1)
      rw [e] at k
      exact k
    have h1' : ¬ v.hi ≤ x := of_decide_eq_false h1
    refine ⟨_, rfl, _, rfl, a, _, _, rfl, hM, rfl, And.intro (fun h2 => ?_) (fun h2 => ?_)⟩
    · have e : v.dealt x = 0 := by
        unfold Vs.dealt PM.dealt
        rw [if_neg h1', if_pos (of_decide_eq_true h2)]
      rw [e] at k
      exact k
    have h2' : ¬ x < v.lo := of_decide_eq_false h2
    refine ⟨_, rfl, a, _, _, rfl, hM, rfl, _, rfl, a, _, _, rfl, hM, rfl, _, rfl, a, _, _, rfl, hM, rfl, .inl ⟨by omega, by omega⟩, ?_⟩
    refine ⟨_, rfl, a, _, rfl, hM, a, v, rfl, hM, hf, ?_⟩
    refine ⟨_, rfl, a, _, _, rfl, hM, rfl, _, rfl, wide_pos (by omega) (by omega), ?_⟩
    have e : v.dealt x = min v.m ((v.m * v.hi - v.least) / (v.hi - x)) := by
      unfold Vs.dealt PM.dealt
      rw [if_neg h1', if_neg h2']
      rfl
    rw [e] at k
    exact k
theorem ok_Values_most_under (T : Tx P K mg) : Holds P w K mg base 3 T.f_Values_most_under T.fd_Values_most_under ["self", "number"] (pr_most_under T.C_Values) := by
  refine holds_of T.F_Values_most_under sc_Values_most_under (fun ss M q h => ?len) (fun cdv A outer s H hr => (xss_one (xs_ret (xe_addD (xe_meth (N := Fl_Values) (ok_Values_most_dealt T) (hr.mono (by decide)) T.cl_Values T.M_Values_most_dealt (by decide +kernel) T.b_Values_most_dealt (xv 0) (xa_cons (xv 1) xa_nil)) (xe_callB sim_len (pe_callB call_lenA rfl T.m_len (by decide +kernel) (xa_cons (xe_fz (xe_lcL (pe_lc (own := [("value", 2)]) (g := gName 2) (tt := LB _) rfl sc_Values_most_under.nd (pi_list (xe_fld (N := Fl_Values) (i := 0) T.cl_Values T.n_Values_kept (by decide +kernel) rfl (xv 0))) (blkOk_by (own := [("value", 2)]) (N := N_Values_most_under) (sc := defScope s_Values_most_under) (by decide +kernel)) (fun _ _ _ _ _ => pg_name (i := 2) sc_Values_most_under.nd rfl (.inl rfl)) (fun _ _ _ _ _ => (xts_one (xb_cmp (sim_I0 fun _ _ _ => .bl _) (pt_cmpR op_le (xv 2) (xv 1) (nomark _))))) (fun _ _ _ _ _ => (xv 2))) (by decide))) xa_nil))))))) (fun ss M q h => ?read)
  case len =>
    obtain ⟨a, v, x, rfl, _⟩ := h
    rfl
  case read =>
    obtain ⟨a, v, x, rfl, hM, hf, k⟩ := h
    have hk := hf.2.2.2
    refine ⟨_, rfl, a, _, rfl, hM, _, rfl, a, v, x, rfl, hM, hf, ?_⟩
    refine ⟨_, rfl, a, _, _, rfl, hM, rfl, li v.ks, by rw [li_dat]; exact IsL.dat, fun p hp => ?_⟩
    refine ⟨fun j M' => M' = put M p (.lst (li ((v.ks.take j).filter fun n => decide (n ≤ x)))), rfl, fun j M' _ e => by rw [li_dat]; exact IsL.dat, fun j y M' hy e => ?_, fun M' e => ?_⟩
    · subst e
      rw [List.getElem?_map] at hy
      cases hz : v.ks[j]? with
      | none => rw [hz] at hy; cases hy
      | some z =>
        rw [hz] at hy
        cases hy
        have hj : j < v.ks.length := (List.getElem?_eq_some_iff.mp hz).1
        have et : v.ks.take (j + 1) = v.ks.take j ++ [z] := by rw [List.take_add_one, hz]; rfl
        have lc := List.length_filter_le (fun n => decide (n ≤ x)) (v.ks.take j)
        rw [List.length_take] at lc
        refine ⟨_, rfl, _, rfl, And.intro (fun hy => ?_) (fun hn => ?_)⟩
        · have hy' : decide (z ≤ x) = true := hy
          refine ⟨_, rfl, _, put_at, by rw [List.length_map]; omega, ?_⟩
          dsimp only
          rw [put_put, et, List.filter_append, List.filter_cons_of_pos (p := fun n => decide (n ≤ x)) hy', List.filter_nil]
          exact congrArg (fun z => put M p (MO.lst z)) (List.map_append (f := fun n : Int => Sl.dat (.int n)) (l₂ := [z])).symm
        · have hn' : decide (z ≤ x) = false := hn
          dsimp only
          rw [et, List.filter_append, List.filter_cons_of_neg (p := fun n => decide (n ≤ x)) (by rw [hn']; exact Bool.false_ne_true), List.filter_nil, List.append_nil]
    rw [List.length_map, List.take_length] at e
    subst e
    refine ⟨(v.ks.filter fun n => decide (n ≤ x)).map .int, put_at.trans (by rw [li_dat]), ?_⟩
    rw [del_put hp]
    show q (.dat (.int (v.dealt x + (((v.ks.filter fun n => decide (n ≤ x)).map PyData.int).length : Int)))) M
    rw [List.length_map]
    exact k
end
end LW
namespace LW
open PySem PySem.Spec PyProof.Rows DL
open L2 hiding del del_ne del_same
abbrev tupI (l : List Int) : Dt := .tuple (l.map .int)
abbrev lt (ds : List (List Int)) : List Sl := ds.map fun l => .dat (tupI l)
theorem lt_dat (ds : List (List Int)) : lt ds = (ds.map tupI).map Sl.dat := by rw [List.map_map]; rfl
theorem shaped_tupI (l : List Int) : SeqAt.shaped (tupI l) = true := by
  unfold SeqAt.shaped
  rw [Bool.and_eq_true]
  refine ⟨canLay_ints l, decide_eq_true ?_⟩
  have := depth_ints l
  show PyData.depthAll (l.map .int) + 1 ≤ 64
  omega
theorem eqv_tup_nil {l : List Int} : PyData.eqv (tupI l) (.tuple []) = l.isEmpty := by
  cases l with
  | nil => rfl
  | cons c cs => rfl
theorem atI_last {α : Type} {xs : List α} {x : α} (h : xs.getLast? = some x) : atI xs (-1) = some x := by
  cases xs with
  | nil => cases h
  | cons a l =>
    rw [List.getLast?_eq_getElem?] at h
    unfold atI ixN
    rw [if_neg (by decide), if_pos (by rw [List.length_cons]; omega)]
    show (a :: l)[_]? = some x
    have e : ((-1 : Int) + ((a :: l).length : Nat)).toNat = (a :: l).length - 1 := by omega
    rw [e]
    exact h
theorem atI_lastI {l : List Int} (h : l ≠ []) : atI (l.map PyData.int) (-1) = some (.int (l.getLastD 0)) := by
  refine atI_last ?_
  rw [List.getLast?_map, List.getLast?_eq_some_getLast h, List.getLastD_eq_getLast?, List.getLast?_eq_some_getLast h]
  rfl
def okTot (tot : Option Int) (l : List Int) : Bool := match tot with
  | none => true
  | some t => decide (l.sum = t)
def every (m lo hi : Int) (tot : Option Int) : List (List Int) := (PM.deals lo hi m.toNat).filter (okTot tot)
theorem every_mem {m lo hi : Int} {tot : Option Int} (hm : 0 ≤ m) {l : List Int} : l ∈ every m lo hi tot ↔ PM.Deal m lo hi tot l ∧ l.Pairwise (· ≤ ·) := by
  unfold every
  rw [List.mem_filter, PM.deals_mem]
  constructor
  · rintro ⟨⟨h1, h2, h3⟩, h4⟩
    refine ⟨⟨by omega, h3, fun t ht => ?_⟩, h2⟩
    subst ht
    exact of_decide_eq_true h4
  · rintro ⟨d, h2⟩
    refine ⟨⟨by have := d.len; omega, h2, d.ins⟩, ?_⟩
    cases tot with
    | none => rfl
    | some t => exact decide_eq_true (d.sum t rfl)
theorem pow_small {a n : Nat} (ha : a ≤ 5) (hn : n ≤ 4) : a ^ n ≤ 625 := Nat.le_trans (Nat.pow_le_pow_left ha n) (Nat.le_trans (Nat.pow_le_pow_right (by decide) hn) (by decide))
theorem every_len {m lo hi : Int} {tot : Option Int} (h1 : hi ≤ lo + 4) (h2 : m ≤ 4) : (every m lo hi tot).length ≤ 625 :=
  Nat.le_trans (List.length_filter_le _ _) (Nat.le_trans (PM.deals_len _) (pow_small (by omega) (by omega)))
def pr_le_dealings : Pr := fun ss M q => ∃ (m lo hi : Int) (tot : Option Int), ss = [.dat (.int m), .dat (.int lo), .dat (.int hi), .dat (totD tot)] ∧ (0 ≤ m ∧ m ≤ 4) ∧ hi ≤ lo + 4 ∧
  ∀ M', (∀ x, M x ≠ none → M' x = M x) → q (.dat (.list ((every m lo hi tot).map tupI))) M'
theorem was_none {M M' : Mem} (h : ∀ x, M x ≠ none → M' x = M x) {a : Addr} (ha : M' a = none) : M a = none := by
  cases e : M a with
  | none => rfl
  | some o => rw [h a (by rw [e]; exact nofun), e] at ha; cases ha
section
variable {P : Program} {w : World} {K : PySem.W.Frag} {mg : Str → Option Value} {base : Heap}
theorem ok_le_dealings (T : Tx P K mg) : Holds P w K mg base 1 T.f_le_dealings T.fd_le_dealings ["many", "low", "high", "total"] pr_le_dealings := by
  refine holds_of T.F_le_dealings sc_le_dealings (fun ss M q h => ?len) (fun cdv A outer s H hr => (xss_cons (xs_asgN (ps_set (i := 4) sc_le_dealings.nd rfl (by first | exact .inl rfl | exact .inr rfl) (xe_lst (xa_cons (xe_tup xa_nil) xa_nil))) simLE)
      (xss_cons (xs_forR1 (ps_for PassesOwn.never rfl (pi_range1 rfl T.m_range (xa_cons (xv 0) xa_nil)) (xg_name (pg_name (i := 5) sc_le_dealings.nd rfl (by first | exact .inl rfl | exact .inr rfl))) (xss_cons (xs_asgN (ps_set (i := 6) sc_le_dealings.nd rfl (by first | exact .inl rfl | exact .inr rfl) (xe_lst xa_nil)) simLE)
      (xss_cons (xs_forL (ps_for PassesOwn.never rfl (pi_list (xv 4)) (xg_name (pg_name (i := 7) sc_le_dealings.nd rfl (by first | exact .inl rfl | exact .inr rfl))) (xss_one (xs_expr (xe_bmL sim_ext (pe_bm PySem.F.plainAttrs_list PySem.F.slot_list_extend PySem.F.type_list_extend mt_extend (xv 6) (xa_cons (xe_lcW2 (pe_lc (own := [("value", 8)]) (g := gName 8) (tt := LB _) rfl sc_le_dealings.nd (pi_rangeW2 rfl T.m_range (xa_cons (xv 1) (xa_cons (xe_addD (xv 2) xe_int) xa_nil))) (blkOk_by (own := [("value", 8)]) (N := N_le_dealings) (sc := defScope s_le_dealings) (by decide +kernel)) (fun _ _ _ _ _ => pg_name (i := 8) sc_le_dealings.nd rfl (.inl rfl)) (fun _ _ _ _ _ => (xts_one (xb_w (xw_or (xb_cmp sim_eq (pt_cmpR (op_eqAll hr.rm.units) (xv 7) (xe_tup xa_nil) (nomark _))) (xw_or1 (xb_cmp (sim_I0 fun _ _ _ => .bl _) (pt_cmpR op_ge (xv 8) (xe_ix (xv 7) (xe_neg xe_int)) (nomark _)))))))) (fun _ _ _ _ _ => (xe_addD (xv 7) (xe_tup (xa_cons (xv 8) xa_nil))))) (by decide)) xa_nil)))))))
      (xss_one (xs_asgN (ps_set (i := 4) sc_le_dealings.nd rfl (by first | exact .inl rfl | exact .inr rfl) (xv 6)) simLE))))))
      (xss_one (xs_ret (xe_fz (xe_lcL (pe_lc (own := [("some", 7)]) (g := gName 7) (tt := LB _) rfl sc_le_dealings.nd (pi_list (xv 4)) (blkOk_by (own := [("some", 7)]) (N := N_le_dealings) (sc := defScope s_le_dealings) (by decide +kernel)) (fun _ _ _ _ _ => pg_name (i := 7) sc_le_dealings.nd rfl (.inl rfl)) (fun _ _ _ _ _ => (xts_one (xb_w (xw_or (xb_cmp sim_is (pt_cmpR (L2.OpR.or op_isBl op_isN) (xv 3) xe_non (nomark _))) (xw_or1 (xb_cmp sim_eq (pt_cmpR (op_eqAll hr.rm.units) (xe_callB sim_sumT (pe_callB (cr_sumT rfl) rfl T.m_sum (by decide +kernel) (xa_cons (xv 7) xa_nil))) (xv 3) (nomark _)))))))) (fun _ _ _ _ _ => (xv 7))) (by decide)))))))) (fun ss M q h => ?read)
  case len =>
    obtain ⟨m, lo, hi, tot, rfl, _⟩ := h
    rfl
  case read =>
    obtain ⟨m, lo, hi, tot, rfl, hm, hh, k⟩ := h
    refine ⟨rfl, _, rfl, rfl, fun p0 hp0 => ?_⟩
    refine ⟨_, rfl, 0, m, rfl, ⟨by decide, by decide, by omega, by omega⟩, fun i Γ' M' => ∃ (p : Addr) (x5 x6 x7 x8 : Option Sl), Γ' = [some (.dat (.int m)), some (.dat (.int lo)), some (.dat (.int hi)), some (.dat (totD tot)), some (.own p), x5, x6, x7, x8] ∧ M' p = some (.lst (lt (PM.deals lo hi i))) ∧ (∀ x, M x ≠ none → M' x = M x) ∧ M p = none,
      ⟨p0, _, _, _, _, rfl, put_at, fun x hx => put_ne fun e => hx (by rw [e]; exact hp0), hp0⟩, ?_, ?_⟩
    · rintro i Γ' M1 hi1 ⟨p, x5, x6, x7, x8, rfl, hp1, o1, hpM⟩
      refine ⟨rfl, fun r hr => ?_⟩
      have hrM := was_none o1 hr
      have npr : p ≠ r := ne_mem hp1 hr
      have li1 : (PM.deals lo hi i).length ≤ 625 := Nat.le_trans (PM.deals_len _) (pow_small (by omega) (by omega))
      refine ⟨_, rfl, lt (PM.deals lo hi i), IsL.own ((put_ne npr).trans hp1), fun j Γ'' M'' => ∃ (x7 x8 : Option Sl), Γ'' = [some (.dat (.int m)), some (.dat (.int lo)), some (.dat (.int hi)), some (.dat (totD tot)), some (.own p), some (.dat (.int (0 + (i : Int)))), some (.own r), x7, x8] ∧ M'' p = some (.lst (lt (PM.deals lo hi i))) ∧
          M'' r = some (.lst (lt (((PM.deals lo hi i).take j).flatMap (PM.ext lo hi)))) ∧ (∀ x, M x ≠ none → M'' x = M x),
        ⟨_, _, rfl, (put_ne npr).trans hp1, put_at, fun x hx => (put_ne fun e => hx (by rw [e]; exact hrM)).trans (o1 x hx)⟩, fun j Γ'' M'' _ h => by obtain ⟨_, _, _, h, _⟩ := h; exact IsL.own h, ?_, ?_⟩
      · rintro j x Γ'' M2 hx ⟨x7', x8', rfl, hp2, hr2, o2⟩
        rw [List.getElem?_map] at hx
        cases hl : (PM.deals lo hi i)[j]? with
        | none => rw [hl] at hx; cases hx
        | some l =>
        rw [hl] at hx
        cases hx
        have hj : j < (PM.deals lo hi i).length := (List.getElem?_eq_some_iff.mp hl).1
        obtain ⟨ok, hok⟩ : ∃ ok : Int → Bool, ok = fun v => l.isEmpty || decide (l.getLastD 0 ≤ v) := ⟨_, rfl⟩
        have lenl : l.length ≤ 4 := by
          have := (PM.deals_mem.mp (List.mem_of_getElem? hl)).1
          omega
        refine ⟨_, rfl, ⟨_, IsL.own hr2⟩, _, rfl, _, rfl, lo, hi + 1, rfl, fun c hc => ⟨fun k M3 => M3 = put M2 c (.lst (lt ((((List.range k).map fun (i : Nat) => lo + (i : Int)).filter ok).map fun v => l ++ [v]))), rfl, fun k M3 hk e => ?_, fun M3 e => ?_⟩⟩
        · subst e
          have er : (List.range (k + 1)).map (fun (i : Nat) => lo + (i : Int)) = (List.range k).map (fun (i : Nat) => lo + (i : Int)) ++ [lo + (k : Int)] := by rw [List.range_succ, List.map_append]; rfl
          have lc := List.length_filter_le ok ((List.range k).map fun (i : Nat) => lo + (i : Int))
          rw [List.length_map, List.length_range] at lc
          have yes : ok (lo + (k : Int)) = true → ∀ x, x = .dat (.tuple (l.map .int ++ [.int (lo + (k : Int))])) → put (put M2 c (.lst (lt ((((List.range k).map fun (i : Nat) => lo + (i : Int)).filter ok).map fun v => l ++ [v])))) c (.lst (lt ((((List.range k).map fun (i : Nat) => lo + (i : Int)).filter ok).map fun v => l ++ [v]) ++ [x])) = put M2 c (.lst (lt ((((List.range (k + 1)).map fun (i : Nat) => lo + (i : Int)).filter ok).map fun v => l ++ [v]))) := fun h x hx => by
            rw [put_put, er, List.filter_append, List.filter_cons_of_pos h, List.filter_nil, List.map_append, hx]
            refine congrArg (fun z => put M2 c (MO.lst z)) ?_
            unfold lt
            rw [List.map_append]
            show _ = _ ++ [Sl.dat (.tuple ((l ++ [lo + (k : Int)]).map .int))]
            rw [List.map_append]
            rfl
          have no : ok (lo + (k : Int)) = false → put M2 c (.lst (lt ((((List.range k).map fun (i : Nat) => lo + (i : Int)).filter ok).map fun v => l ++ [v]))) = put M2 c (.lst (lt ((((List.range (k + 1)).map fun (i : Nat) => lo + (i : Int)).filter ok).map fun v => l ++ [v]))) := fun h => by
            rw [er, List.filter_append, List.filter_cons_of_neg (by rw [h]; exact Bool.false_ne_true), List.filter_nil, List.append_nil]
          have el : ∀ h : ok (lo + (k : Int)) = true, dOp fAddD (dV 7) (dTup (dCons (dV 8) dNil)) ((wipeF [some (.dat (.int m)), some (.dat (.int lo)), some (.dat (.int hi)), some (.dat (totD tot)), some (.own p), some (.dat (.int (0 + (i : Int)))), some (.own r), some (.dat (tupI l)), x8'] [8]).set 8 (some (.dat (.int (lo + (k : Int)))))) (put M2 c (.lst (lt ((((List.range k).map fun (i : Nat) => lo + (i : Int)).filter ok).map fun v => l ++ [v])))) fun y M4 => ∃ acc, M4 c = some (.lst acc) ∧ acc.length < 16777216 ∧ put M4 c (.lst (acc ++ [y])) = put M2 c (.lst (lt ((((List.range (k + 1)).map fun (i : Nat) => lo + (i : Int)).filter ok).map fun v => l ++ [v]))) := fun h => by
            refine ⟨_, rfl, _, rfl, rfl, _, rfl, ?_, _, put_at, ?_, yes h _ rfl⟩
            · show (l.map PyData.int).length + 1 ≤ _
              rw [List.length_map]
              omega
            · rw [List.length_map, List.length_map]
              omega
          refine ⟨_, rfl, rfl, _, rfl, _, _, .inl rfl, .inl rfl, shaped_tupI l, rfl, And.intro (fun h => ?_) (fun h => ?_)⟩
          · have hy : ok (lo + (k : Int)) = true := by
              rw [hok]
              have h' : PyData.eqv (tupI l) (.tuple []) = true := h
              rw [eqv_tup_nil] at h'
              dsimp only
              rw [h', Bool.true_or]
            exact ⟨fun _ => el hy, fun z => nomatch z⟩
          · have h' : PyData.eqv (tupI l) (.tuple []) = false := h
            rw [eqv_tup_nil] at h'
            have hne : l ≠ [] := fun e => by rw [e] at h'; cases h'
            refine ⟨_, rfl, _, rfl, _, atI_lastI hne, ?_⟩
            have eo : ok (lo + (k : Int)) = decide (l.getLastD 0 ≤ lo + (k : Int)) := by
              rw [hok]
              dsimp only
              rw [h', Bool.false_or]
            exact ⟨fun hb => el (eo.trans hb), fun hb => no (eo.trans hb)⟩
        · subst e
          have nrc : r ≠ c := ne_mem hr2 hc
          have npc : p ≠ c := ne_mem hp2 hc
          have hext : (((List.range (hi + 1 - lo).toNat).map fun (i : Nat) => lo + (i : Int)).filter ok).map (fun v => l ++ [v]) = PM.ext lo hi l := by rw [hok]; rfl
          rw [hext]
          have e1 := PM.ext_len (lo := lo) (hi := hi) (l := l)
          have e2 := PM.flat_len (f := PM.ext lo hi) (fun _ => PM.ext_len) ((PM.deals lo hi i).take j)
          have e3 : ((PM.deals lo hi i).take j).length * (hi + 1 - lo).toNat ≤ 625 * 5 := Nat.mul_le_mul (by rw [List.length_take]; omega) (by omega)
          refine ⟨_, _, (put_ne nrc).trans hr2, IsL.own put_at, by rw [List.length_map, List.length_map]; omega, ?_⟩
          refine ⟨_, _, rfl, ?_, ?_, fun x hx => ?_⟩
          · rw [put_ne npr, put_ne npc]; exact hp2
          · rw [put_at, List.take_add_one, hl]
            unfold lt
            rw [Option.toList_some, List.flatMap_append, List.map_append, List.flatMap_cons, List.flatMap_nil, List.append_nil]
          · rw [put_ne fun e => hx (by rw [e]; exact hrM), put_ne fun e => hx (by rw [e]; exact was_none o2 hc)]
            exact o2 x hx
      · rintro Γ'' M2 ⟨x7', x8', rfl, hp2, hr2, o2⟩
        rw [List.length_map, List.take_length] at hr2
        exact ⟨_, rfl, r, _, _, _, _, rfl, hr2, o2, hrM⟩
    · rintro Γ' M1 ⟨p, x5, x6, x7, x8, rfl, hp1, o1, hpM⟩
      rw [Int.sub_zero] at hp1
      have li1 : (PM.deals lo hi m.toNat).length ≤ 625 := Nat.le_trans (PM.deals_len _) (pow_small (by omega) (by omega))
      refine ⟨_, rfl, lt (PM.deals lo hi m.toNat), IsL.own hp1, fun c hc => ⟨fun j M3 => M3 = put M1 c (.lst (lt (((PM.deals lo hi m.toNat).take j).filter (okTot tot)))), rfl, fun j M3 _ e => by rw [e]; exact (IsL.own hp1).put hc, fun j x M3 hx e => ?_, fun M3 e => ?_⟩⟩
      · subst e
        rw [List.getElem?_map] at hx
        cases hl : (PM.deals lo hi m.toNat)[j]? with
        | none => rw [hl] at hx; cases hx
        | some l =>
        rw [hl] at hx
        cases hx
        have hj : j < (PM.deals lo hi m.toNat).length := (List.getElem?_eq_some_iff.mp hl).1
        have et : (PM.deals lo hi m.toNat).take (j + 1) = (PM.deals lo hi m.toNat).take j ++ [l] := by rw [List.take_add_one, hl]; rfl
        have lc := List.length_filter_le (okTot tot) ((PM.deals lo hi m.toNat).take j)
        rw [List.length_take] at lc
        have yes : okTot tot l = true → dV 7 ((wipeF [some (.dat (.int m)), some (.dat (.int lo)), some (.dat (.int hi)), some (.dat (totD tot)), some (.own p), x5, x6, x7, x8] [7]).set 7 (some (.dat (tupI l)))) (put M1 c (.lst (lt (((PM.deals lo hi m.toNat).take j).filter (okTot tot))))) fun y M4 => ∃ acc, M4 c = some (.lst acc) ∧ acc.length < 16777216 ∧ put M4 c (.lst (acc ++ [y])) = put M1 c (.lst (lt (((PM.deals lo hi m.toNat).take (j + 1)).filter (okTot tot)))) := fun h => by
          refine ⟨_, rfl, _, put_at, by rw [List.length_map]; omega, ?_⟩
          rw [put_put, et, List.filter_append, List.filter_cons_of_pos h, List.filter_nil]
          refine congrArg (fun z => put M1 c (MO.lst z)) ?_
          unfold lt
          rw [List.map_append]
          rfl
        have no : okTot tot l = false → put M1 c (.lst (lt (((PM.deals lo hi m.toNat).take j).filter (okTot tot)))) = put M1 c (.lst (lt (((PM.deals lo hi m.toNat).take (j + 1)).filter (okTot tot)))) := fun h => by
          rw [et, List.filter_append, List.filter_cons_of_neg (by rw [h]; exact Bool.false_ne_true), List.filter_nil, List.append_nil]
        refine ⟨_, rfl, ?_⟩
        cases tot with
        | none => exact And.intro (fun _ => ⟨fun _ => yes rfl, fun z => nomatch z⟩) (fun z => nomatch z)
        | some t =>
          refine And.intro (fun z => nomatch z) (fun _ => ⟨_, rfl, l, rfl, _, rfl, ?_⟩)
          exact ⟨fun hb => yes hb, fun hb => no hb⟩
      · rw [List.length_map, List.take_length] at e
        subst e
        refine ⟨(every m lo hi tot).map tupI, put_at.trans (by rw [lt_dat]; rfl), ?_⟩
        rw [del_put hc]
        exact k M1 o1
end
end LW
namespace LW
open PySem PySem.Spec PyProof.Rows DL
open L2 hiding del del_ne del_same
abbrev Vs.ds (v : Vs) : List Dt := [.list (v.ks.map .int), .int v.m, .int v.lo, .int v.hi, totD v.tot]
structure Case (v : Vs) : Prop where
  few : v.ks.length ≤ 5
  m : 0 ≤ v.m ∧ v.m ≤ 4
  lh : v.lo ≤ v.hi
  hl : v.hi ≤ v.lo + 4
  lo : -(10 ^ 30) ≤ v.lo ∧ v.lo ≤ 10 ^ 30
  ks : ∀ x ∈ v.ks, -(10 ^ 30) ≤ x ∧ x ≤ 10 ^ 30
  tot : ∀ t, v.tot = some t → -(10 ^ 32) ≤ t ∧ t ≤ 10 ^ 32
theorem Case.fine {v : Vs} (c : Case v) : v.fine := by
  have h1 := c.few
  have h2 := c.m
  have h3 := c.lh
  have h4 := c.hl
  have h5 := c.lo
  unfold Vs.fine
  omega
def pr_le_case : Pr := fun ss M q => ∃ (f : Addr) (n : Int), ss = [.own f] ∧ Feed M f n ∧ n ≤ 2 ^ 28 ∧
  ∀ (v : Vs) M', Case v → Feed M' f (n + 30) → Keep f M M' → q (.dat (.tuple v.ds)) M'
section
variable {P : Program} {w : World} {K : PySem.W.Frag} {mg : Str → Option Value} {base : Heap}
theorem ok_le_case (T : Tx P K mg) : Holds P w K mg base 3 T.f_le_case T.fd_le_case ["pen"] pr_le_case := by
  refine holds_of T.F_le_case sc_le_case (fun ss M q h => ?len) (fun cdv A outer s H hr => (xss_cons (xs_asgN (ps_set (i := 1) sc_le_case.nd rfl (by first | exact .inl rfl | exact .inr rfl) (xe_ix (xe_lstD (xa_cons xe_int (xa_cons (xe_neg xe_int) (xa_cons (xe_pow xe_int xe_int) (xa_cons (xe_sub xe_int (xe_pow xe_int xe_int)) xa_nil))))) (xe_call (ok_le_take T) (hr.mono (by decide)) T.g_le_take T.F_le_take.kp T.b_le_take (xa_cons (xv 0) (xa_cons xe_int xa_nil))))) simLE)
      (xss_cons (xs_asgN (ps_set (i := 2) sc_le_case.nd rfl (by first | exact .inl rfl | exact .inr rfl) (xe_call (ok_le_take T) (hr.mono (by decide)) T.g_le_take T.F_le_take.kp T.b_le_take (xa_cons (xv 0) (xa_cons xe_int xa_nil)))) simLE)
      (xss_cons (xs_asgN (ps_set (i := 3) sc_le_case.nd rfl (by first | exact .inl rfl | exact .inr rfl) (xe_addD (xv 1) (xe_call (ok_le_take T) (hr.mono (by decide)) T.g_le_take T.F_le_take.kp T.b_le_take (xa_cons (xv 0) (xa_cons xe_int xa_nil))))) simLE)
      (xss_cons (xs_asgN (ps_set (i := 4) sc_le_case.nd rfl (by first | exact .inl rfl | exact .inr rfl) (xe_addD (xv 3) (xe_call (ok_le_take T) (hr.mono (by decide)) T.g_le_take T.F_le_take.kp T.b_le_take (xa_cons (xv 0) (xa_cons xe_int xa_nil))))) simLE)
      (xss_cons (xs_fz (i := 5) (xs_asgN (ps_setLc (i := 5) (own := [("turn", 7)]) (g := gName 7) (tt := LB _) rfl sc_le_case.nd rfl rfl (sw_true rfl rfl rfl (by decide +kernel)) (pi_range1 rfl T.m_range (xa_cons (xe_call (ok_le_take T) (hr.mono (by decide)) T.g_le_take T.F_le_take.kp T.b_le_take (xa_cons (xv 0) (xa_cons xe_int xa_nil))) xa_nil)) (blkOk_by (own := [("turn", 7)]) (N := N_le_case) (sc := defScope s_le_case) (by decide +kernel)) (fun _ _ _ _ _ => pg_name (i := 7) sc_le_case.nd rfl (.inl rfl)) (fun _ _ _ _ _ => xts_nil) (fun _ _ _ _ _ => (xe_sub (xe_addD (xv 1) (xe_call (ok_le_take T) (hr.mono (by decide)) T.g_le_take T.F_le_take.kp T.b_le_take (xa_cons (xv 0) (xa_cons xe_int xa_nil)))) xe_int))) (sim_lcR1 simLA simLB simLE (by decide))))
      (xss_cons (xs_asgN (ps_set (i := 6) sc_le_case.nd rfl (by first | exact .inl rfl | exact .inr rfl) xe_non) simLE)
      (xss_cut (xs_if (xb_cmp (sim_I0 fun _ _ _ => .bl _) (pt_cmpR op_gt (xe_call (ok_le_take T) (hr.mono (by decide)) T.g_le_take T.F_le_take.kp T.b_le_take (xa_cons (xv 0) (xa_cons xe_int xa_nil))) xe_int (nomark _))) (xss_one (xs_asgN (ps_set (i := 6) sc_le_case.nd rfl (by first | exact .inl rfl | exact .inr rfl) (xe_addD (xe_mul (xv 2) (xv 3)) (xe_call (ok_le_take T) (hr.mono (by decide)) T.g_le_take T.F_le_take.kp T.b_le_take (xa_cons (xv 0) (xa_cons (xe_addD (xe_mul (xv 2) (xe_sub (xv 4) (xv 3))) xe_int) xa_nil))))) simLE)) xss_nil)
      (xss_cut (xs_if (xb_cmp sim_eq (pt_cmpR (op_eqAll hr.rm.units) (xe_call (ok_le_take T) (hr.mono (by decide)) T.g_le_take T.F_le_take.kp T.b_le_take (xa_cons (xv 0) (xa_cons xe_int xa_nil))) xe_int (nomark _))) (xss_one (xs_asgN (ps_set (i := 6) sc_le_case.nd rfl (by first | exact .inl rfl | exact .inr rfl) (xe_ix (xe_lstD (xa_cons (xe_sub (xe_mul (xv 2) (xv 3)) xe_int) (xa_cons (xe_addD (xe_mul (xv 2) (xv 4)) xe_int) (xa_cons (xe_sub (xe_sub xe_int (xe_mul (xv 2) (xv 3))) xe_int) (xa_cons (xe_addD (xe_pow xe_int xe_int) xe_int) xa_nil))))) (xe_call (ok_le_take T) (hr.mono (by decide)) T.g_le_take T.F_le_take.kp T.b_le_take (xa_cons (xv 0) (xa_cons xe_int xa_nil))))) simLE)) xss_nil)
      (xss_one (xs_ret (xe_tup (xa_cons (xv 5) (xa_cons (xv 2) (xa_cons (xv 3) (xa_cons (xv 4) (xa_cons (xv 6) xa_nil))))))))))))))))) (fun ss M q h => ?read)
  case len =>
    obtain ⟨f, n, rfl, _⟩ := h
    rfl
  case read =>
    obtain ⟨f, n, rfl, F0, hn, k⟩ := h
    refine ⟨⟨by decide, by decide, by decide⟩, ⟨by decide, by decide, by decide⟩, rfl, _, rfl, _, rfl, f, 4, n, rfl, by decide, by decide, F0, by omega, fun r1 M1 a1 b1 F1 o1 => ?_⟩
    obtain ⟨base, eb, hb⟩ := pickI (P := fun v => -(10 ^ 29) ≤ v ∧ v ≤ 10 ^ 6) (xs := [0, -3, 10 ^ (6 : Int).toNat, 0 - 10 ^ (29 : Int).toNat]) (i := r1) (by decide +kernel) a1 b1
    refine ⟨_, eb, ?_⟩
    refine ⟨_, rfl, f, 5, _, rfl, by decide, by decide, F1, by omega, fun m M2 a2 b2 F2 o2 => ?_⟩
    refine ⟨_, rfl, _, rfl, f, 5, _, rfl, by decide, by decide, F2, by omega, fun r3 M3 a3 b3 F3 o3 => ?_⟩
    refine ⟨_, rfl, _, rfl, f, 5, _, rfl, by decide, by decide, F3, by omega, fun r4 M4 a4 b4 F4 o4 => ?_⟩
    refine ⟨_, rfl, f, 6, _, rfl, by decide, by decide, F4, by omega, fun r5 M5 a5 b5 F5 o5 => ?_⟩
    have K5 : Keep f M M5 := (Keep.of o1).trans ((Keep.of o2).trans ((Keep.of o3).trans ((Keep.of o4).trans (Keep.of o5))))
    refine ⟨0, r5, rfl, ⟨by decide, by decide, by omega, by omega⟩, fun p hp => ?_⟩
    have npf : p ≠ f := (F5.ne hp).symm
    have hpM := K5.no npf hp
    refine ⟨fun j M' => ∃ done : List Int, M' p = some (.lst (li done)) ∧ done.length = j ∧ (∀ x ∈ done, -(10 ^ 30) ≤ x ∧ x ≤ 10 ^ 30) ∧ Feed M' f (n + 5 + j) ∧ Keep f M M', ⟨[], put_at, rfl, fun x h => (nomatch h), (F5.put (F5.ne hp)).up (by omega), K5.to hpM⟩, fun j M' hj ⟨done, hd, hl, hx, F6, K6⟩ => ?_, fun M' ⟨done, hd, hl, hx, F6, K6⟩ => ?_⟩
    · refine ⟨fun _ => ⟨_, rfl, _, rfl, f, 14, _, rfl, by decide, by decide, F6, by omega, fun r6 M7 a6 b6 F7 o7 => ?_⟩, fun z => nomatch z⟩
      have hd7 : M7 p = some (.lst (li done)) := (o7 p npf).trans hd
      refine ⟨_, hd7, by rw [List.length_map]; omega, done ++ [base + r6 - 3], ?_, by rw [List.length_append, hl]; rfl, fun x hx' => ?_, (F7.put npf.symm).up (by rw [Int.natCast_succ]; omega), (K6.trans (Keep.of o7)).to hpM⟩
      · rw [put_at]
        exact congrArg (fun z => some (MO.lst z)) (List.map_append (f := fun n : Int => Sl.dat (.int n)) (l₂ := [base + r6 - 3])).symm
      · rcases List.mem_append.mp hx' with h | h
        · exact hx x h
        · rw [List.mem_singleton.mp h]
          omega
    refine ⟨p, done.map .int, rfl, hd.trans (by rw [li_dat]), ?_⟩
    have F7 : Feed (del M' p) f (n + 10) := (F6.del npf.symm).up (by omega)
    have K7 : Keep f M (del M' p) := K6.un hpM
    generalize del M' p = M7 at F7 K7
    have few : done.length ≤ 5 := by omega
    refine ⟨fun Γ' M' => ∃ (tot : Option Int) (x : Option Sl), Γ' = [some (.own f), some (.dat (.int base)), some (.dat (.int m)), some (.dat (.int (base + r3))), some (.dat (.int (base + r3 + r4))), some (.dat (.list (done.map .int))), some (.dat (totD tot)), x] ∧ (∀ t, tot = some t → -(10 ^ 32) ≤ t ∧ t ≤ 10 ^ 32) ∧ Feed M' f (n + 12) ∧ Keep f M M', ?_, ?_⟩
    · refine ⟨_, rfl, f, 3, _, rfl, by decide, by decide, F7, by omega, fun r8 M8 a8 b8 F8 o8 => And.intro (fun _ => ?_) (fun _ => ?_)⟩
      · have mm : m * (base + r3 + r4 - (base + r3)) = m * r4 := by congr 1; omega
        have m4 : m * r4 ≤ 4 * 4 := Int.mul_le_mul (by omega) (by omega) a4 (by decide)
        have m0 : 0 ≤ m * r4 := Int.mul_nonneg a2 a4
        refine ⟨_, rfl, _, rfl, .inl ⟨by omega, by omega⟩, _, rfl, _, rfl, _, rfl, _, rfl, .inl ⟨by omega, by omega⟩, f, _, _, rfl, by omega, by omega, F8, by omega, fun r9 M9 a9 b9 F9 o9 => ?_⟩
        refine ⟨some (m * (base + r3) + r9), _, rfl, fun t ht => ?_, F9.up (by omega), K7.trans ((Keep.of o8).trans (Keep.of o9))⟩
        cases ht
        rw [mm] at b9
        have e1 : m * (base + r3) ≤ 4 * (10 ^ 6 + 4) := by
          refine Int.le_trans (Int.mul_le_mul_of_nonneg_left (show base + r3 ≤ 10 ^ 6 + 4 by omega) a2) (Int.mul_le_mul_of_nonneg_right (by omega) (by decide))
        have e2 : 4 * (-(10 ^ 29)) ≤ m * (base + r3) := by
          refine Int.le_trans ?_ (Int.mul_le_mul_of_nonneg_left (show -(10 ^ 29) ≤ base + r3 by omega) a2)
          omega
        omega
      · exact ⟨none, _, rfl, fun t ht => (nomatch ht), F8.up (by omega), K7.trans (Keep.of o8)⟩
    rintro Γ' M8 ⟨tot, x, rfl, ht, F8, K8⟩
    refine ⟨fun Γ' M' => ∃ (tot : Option Int) (x : Option Sl), Γ' = [some (.own f), some (.dat (.int base)), some (.dat (.int m)), some (.dat (.int (base + r3))), some (.dat (.int (base + r3 + r4))), some (.dat (.list (done.map .int))), some (.dat (totD tot)), x] ∧ (∀ t, tot = some t → -(10 ^ 32) ≤ t ∧ t ≤ 10 ^ 32) ∧ Feed M' f (n + 30) ∧ Keep f M M', ?_, ?_⟩
    · refine ⟨_, rfl, f, 8, _, rfl, by decide, by decide, F8, by omega, fun r9 M9 a9 b9 F9 o9 => And.intro (fun _ => ?_) (fun _ => ?_)⟩
      · refine ⟨_, rfl, _, rfl, .inl ⟨by omega, by omega⟩, _, rfl, _, rfl, .inl ⟨by omega, by omega⟩, _, rfl, _, rfl, .inl ⟨by omega, by omega⟩, ⟨by decide, by decide, by decide⟩, rfl, _, rfl, _, rfl, f, 4, _, rfl, by decide, by decide, F9, by omega, fun ra Ma aa ba Fa oa => ?_⟩
        have e1 : ∀ y, y = base + r3 ∨ y = base + r3 + r4 → m * y ≤ 4 * (10 ^ 6 + 8) ∧ 4 * (-(10 ^ 29)) ≤ m * y := fun y hy => by
          refine ⟨Int.le_trans (Int.mul_le_mul_of_nonneg_left (show y ≤ 10 ^ 6 + 8 by omega) a2) (Int.mul_le_mul_of_nonneg_right (by omega) (by decide)), Int.le_trans ?_ (Int.mul_le_mul_of_nonneg_left (show -(10 ^ 29) ≤ y by omega) a2)⟩
          omega
        have e2 := e1 _ (.inl rfl)
        have e3 := e1 _ (.inr rfl)
        have pt : ((10 : Int) ^ (30 : Int).toNat) = 10 ^ 30 := rfl
        obtain ⟨t, et, h⟩ := pickI (P := fun v => -(10 ^ 32) ≤ v ∧ v ≤ 10 ^ 32) (xs := [m * (base + r3) - 1, m * (base + r3 + r4) + 1, 0 - m * (base + r3) - 5, 10 ^ (30 : Int).toNat + 1]) (i := ra) (fun v hv => by
          rw [pt] at hv
          simp only [List.mem_cons, List.not_mem_nil, or_false] at hv
          rcases hv with rfl | rfl | rfl | rfl <;> omega) aa ba
        refine ⟨_, et, some t, _, rfl, fun u hu => by cases hu; exact h, Fa.up (by omega), K8.trans ((Keep.of o9).trans (Keep.of oa))⟩
      · exact ⟨tot, _, rfl, ht, F9.up (by omega), K8.trans (Keep.of o9)⟩
    rintro Γ' M9 ⟨tot, x, rfl, ht, F9, K9⟩
    refine ⟨_, rfl, _, rfl, _, rfl, _, rfl, _, rfl, rfl, _, rfl, ?_⟩
    exact k ⟨done, m, base + r3, base + r3 + r4, tot⟩ M9 ⟨few, by dsimp only; omega, by dsimp only; omega, by dsimp only; omega, by dsimp only; omega, hx, ht⟩ F9 K9
end
end LW
namespace LW
open PySem PySem.Spec PyProof.Rows DL
open L2 hiding del del_ne del_same
theorem feed_old {M M' : Mem} {f : Addr} {n : Int} (F : Feed M f n) (h : ∀ x, M x ≠ none → M' x = M x) : Feed M' f n := by
  obtain ⟨cs, at_, left, h1, h2, h3, h4⟩ := F
  exact ⟨cs, at_, left, (h f (by rw [h1]; exact nofun)).trans h1, h2, h3, h4⟩
abbrev Old (M M' : Mem) : Prop := ∀ x, M x ≠ none → M' x = M x
theorem Old.put {M M' : Mem} {p : Addr} {o : MO} (h : Old M M') (hp : M' p = none) : Old M (put M' p o) := fun x hx => (put_ne fun e => hx (by rw [e]; exact was_none h hp)).trans (h x hx)
theorem Old.trans {M M1 M2 : Mem} (h : Old M M1) (h' : Old M1 M2) : Old M M2 := fun x hx => (h' x (by rw [h x hx]; exact hx)).trans (h x hx)
theorem Old.at {M M' : Mem} {p : Addr} {o : MO} (h : Old M M') (hp : M p = some o) : M' p = some o := (h p (by rw [hp]; exact nofun)).trans hp
theorem Old.refl {M : Mem} : Old M M := fun _ _ => rfl
def pr_values_dealt (CV CN : Addr) : PrX := fun ss M q kx => ∃ v : Vs, ss = v.fl ∧ v.fine ∧ (v.has = true → ∀ p, M p = none → q (.own p) (put M p (.ins CV Fl_Values v.fl))) ∧ (v.has = false → kx CN [] M)
def pr_over_bounds (CN : Addr) : PrX := fun ss M q kx => ∃ (v : Vs) (x : Int), ss = v.fl ++ [.dat (.int x)] ∧ v.fine ∧
  (v.has = true → ∀ M', Old M M' → q (.dat (.tuple [.int ((v.ks.length : Int) + v.m - v.under (x - 1)), .int (v.turn.under (-x))])) M') ∧ (v.has = false → ∀ M', Old M M' → kx CN [] M')
/-- six or seven arguments -/
def Sixes (ds : List Dt) : Prop := (∃ a b c d e x, ds = [a, b, c, d, e, x]) ∨ ∃ a b c d e x y, ds = [a, b, c, d, e, x, y]
section
variable (P : Program) (w : World) (K : PySem.W.Frag) (mg : Str → Option Value) (base : Heap)
def pr_le_said (lv : Nat) (CP CN : Addr) : Pr := fun ss M q => ∃ (f : Addr) (ds : List Dt) (fd : FuncData) (ps : List Str) (pr : PrX), ss = [.raw (.ref f), .dat (.tuple ds)] ∧ Sixes ds ∧ HoldsX P w K mg base lv f fd ps pr ∧ PySem.W.keepIn K (.ref f) = true ∧ Binds K fd ps [] ∧
  ((∃ d, (∀ (q' : DK) (kx : DX), (∀ M', Old M M' → q' (.dat d) M') → pr (ds.map .dat) M q' kx) ∧ ∀ M', Old M M' → q (.dat (.tuple [.str "told", d])) M') ∨
   ((∀ (q' : DK) (kx : DX), (∀ M', Old M M' → kx CP [] M') → pr (ds.map .dat) M q' kx) ∧ ∀ M', Old M M' → q (.dat (.tuple [.str "place", .none])) M') ∨
   ((∀ (q' : DK) (kx : DX), (∀ M', Old M M' → kx CN [] M') → pr (ds.map .dat) M q' kx) ∧ ∀ M', Old M M' → q (.dat (.tuple [.str "dealing", .none])) M'))
end
section
variable {P : Program} {w : World} {K : PySem.W.Frag} {mg : Str → Option Value} {base : Heap}
theorem ok_values_dealt (T : Tx P K mg) : HoldsX P w K mg base 3 T.f_values_dealt T.fd_values_dealt ["kept", "many", "low", "high", "total"] (pr_values_dealt T.C_Values T.C_NoDealing) := by
  refine holdsX_of T.F_values_dealt sc_values_dealt (by decide) (fun ss M q kx h => ?len) (fun cdv A outer s H E H0 kx hr wi => (xss_cons (xs_asgN (ps_set (i := 5) sc_values_dealt.nd rfl (by first | exact .inl rfl | exact .inr rfl) (xe_make (N := Fl_Values) T.Mk_Values (ok_Values___init__ T) (hr.mono (by decide)) T.gC_Values T.b_Values___init__ (xa_cons (xv 0) (xa_cons (xv 1) (xa_cons (xv 2) (xa_cons (xv 3) (xa_cons (xv 4) xa_nil))))))) simLE)
      (xss_cons (xs_if (xb_not (xb_val (xe_meth0 (N := Fl_Values) (ok_Values_has_dealing T) (hr.mono (by decide)) T.cl_Values T.M_Values_has_dealing (by decide +kernel) T.b_Values_has_dealing (xv 5)))) (xss_one (xs_raiT (i := 6) wi F.excBase_ValueError T.q_NoDealing T.E_NoDealing T.gC_NoDealing)) xss_nil)
      (xss_one (xs_ret (xv 5)))))) (fun ss M q kx H0 h => ?read)
  case len =>
    obtain ⟨v, rfl, _⟩ := h
    rfl
  case read =>
    obtain ⟨v, rfl, hf, k1, k2⟩ := h
    refine ⟨_, rfl, _, rfl, _, rfl, _, rfl, _, rfl, fun p hp => ⟨p, v, rfl, put_at, rfl, ?_⟩⟩
    rw [put_put]
    refine ⟨_, rfl, p, _, rfl, put_at, p, v, rfl, put_at, hf, And.intro (fun h => ?_) (fun h => ?_)⟩
    · have hh : v.has = false := by
        have h' : (!v.has) = true := h
        simpa using h'
      exact ⟨⟨rfl, trivial⟩, M, fun a o ha => (put_ne (ne_mem ha hp)).trans ha, k2 hh⟩
    · have hh : v.has = true := by
        have h' : (!v.has) = false := h
        simpa using h'
      exact ⟨_, rfl, k1 hh p hp⟩
theorem ok_over_bounds (T : Tx P K mg) : HoldsX P w K mg base 4 T.f_over_bounds T.fd_over_bounds ["kept", "many", "low", "high", "total", "number"] (pr_over_bounds T.C_NoDealing) := by
  refine holdsX_of T.F_over_bounds sc_over_bounds (by decide) (fun ss M q kx h => ?len) (fun cdv A outer s H E H0 kx hr wi => (xss_cons (xs_asgN (ps_set (i := 6) sc_over_bounds.nd rfl (by first | exact .inl rfl | exact .inr rfl) (xe_callX (i := 7) wi (ok_values_dealt T) (hr.mono (by decide)) T.g_values_dealt T.F_values_dealt.kp T.b_values_dealt (xa_cons (xv 0) (xa_cons (xv 1) (xa_cons (xv 2) (xa_cons (xv 3) (xa_cons (xv 4) xa_nil))))))) simLE)
      (xss_one (xs_ret (xe_tup (xa_cons (xe_sub (xe_meth0 (N := Fl_Values) (ok_Values_in_all T) (hr.mono (by decide)) T.cl_Values T.M_Values_in_all (by decide +kernel) T.b_Values_in_all (xv 6)) (xe_meth (N := Fl_Values) (ok_Values_most_under T) (hr.mono (by decide)) T.cl_Values T.M_Values_most_under (by decide +kernel) T.b_Values_most_under (xv 6) (xa_cons (xe_sub (xv 5) xe_int) xa_nil))) (xa_cons (xe_meth (N := Fl_Values) (ok_Values_most_under T) (hr.mono (by decide)) T.cl_Values T.M_Values_most_under (by decide +kernel) T.b_Values_most_under (xe_meth0 (N := Fl_Values) (ok_Values_turned T) (hr.mono (by decide)) T.cl_Values T.M_Values_turned (by decide +kernel) T.b_Values_turned (xv 6)) (xa_cons (xe_neg (xv 5)) xa_nil)) xa_nil))))))) (fun ss M q kx H0 h => ?read)
  case len =>
    obtain ⟨v, x, rfl, _⟩ := h
    rfl
  case read =>
    obtain ⟨v, x, rfl, hf, k1, k2⟩ := h
    refine ⟨⟨rfl, trivial⟩, _, rfl, _, rfl, _, rfl, _, rfl, _, rfl, v, rfl, hf, fun hh p hp => ?_, fun hh => k2 hh M fun _ _ => rfl⟩
    refine ⟨_, rfl, p, _, rfl, put_at, p, v, rfl, put_at, ?_⟩
    refine ⟨_, rfl, p, _, rfl, put_at, _, rfl, p, v, x - 1, rfl, put_at, hf, ?_⟩
    refine ⟨_, rfl, p, _, rfl, put_at, p, v, rfl, put_at, hf, fun r hr => ?_⟩
    refine ⟨r, _, rfl, put_at, _, rfl, r, v.turn, -x, rfl, put_at, hf.turn, rfl, _, rfl, ?_⟩
    have hrM : M r = none := by rw [put_ne (ne_mem put_at hr).symm] at hr; exact hr
    exact k1 hh _ fun y hy => by rw [put_ne fun e => hy (by rw [e]; exact hrM), put_ne fun e => hy (by rw [e]; exact hp)]
end
end LW
namespace LW
open PySem PySem.Spec PyProof.Rows DL
open L2 hiding del del_ne del_same
theorem eqv_ints (ns : List Int) : PyData.eqv (.list (ns.map .int)) (.list (ns.map .int)) = true := by
  show PyData.eqvAll (ns.map PyData.int) (ns.map PyData.int) = true
  induction ns with
  | nil => rfl
  | cons n ns ih =>
    show (decide (n = n) && PyData.eqvAll (ns.map PyData.int) (ns.map PyData.int)) = true
    rw [ih, decide_eq_true rfl]
    rfl
theorem neq_goes {b : Bool} {A B : Prop} (h : b = true) (hb : B) : ((!b) = true → A) ∧ ((!b) = false → B) := ⟨fun z => (by rw [h] at z; cases z), fun _ => hb⟩
theorem sm_said {x : Str} {a b : Int} (hx : (reprText x).length ≤ 3000) (ha : a.natAbs < 2 ^ 1000) (hb : b.natAbs < 2 ^ 1000) : Sm 2 (.tuple [.str x, .tuple [.int a, .int b]]) := Sm.tup (fun d hd => by
  rcases List.mem_cons.mp hd with rfl | hd
  · exact (Sm.str hx).mono (by decide)
  rw [List.mem_singleton.mp hd]
  exact Sm.tup (fun d hd => by
    rcases List.mem_cons.mp hd with rfl | hd
    · exact Sm.int ha
    rw [List.mem_singleton.mp hd]
    exact Sm.int hb) (show 2 ≤ 38 by decide)) (show 2 ≤ 38 by decide)
theorem sm_no {x : Str} (hx : (reprText x).length ≤ 3000) : Sm 2 (.tuple [.str x, .none]) := Sm.tup (fun d hd => by
  rcases List.mem_cons.mp hd with rfl | hd
  · exact (Sm.str hx).mono (by decide)
  rw [List.mem_singleton.mp hd]
  exact Sm.none.mono (by decide)) (show 2 ≤ 38 by decide)
theorem sm_three {d : Dt} (h : Sm 2 d) : d.showable = true ∧ d.shown.length ≤ 16777216 ∧ d.depth ≤ 40 := ⟨h.sh, h.fits, Nat.le_trans h.dp (by decide)⟩
theorem cut_map {α β : Type} (f : α → β) {xs : List α} {lo hi : Option Int} : cut (xs.map f) lo hi = (cut xs lo hi).map f := by
  unfold cut
  rw [List.length_map, List.map_take, List.map_drop]
theorem rgI_len {lo hi : Int} : (rgI lo hi).length = (hi - lo).toNat := by
  unfold rgI
  rw [List.length_map, List.length_range]
def pr_le_numbers : Pr := fun ss M q => ∃ (f : Addr) (n : Int) (v : Vs), ss = [.own f, .dat (.tuple v.ds)] ∧ Case v ∧ Feed M f n ∧ n ≤ 2 ^ 28 ∧
  ∀ (ns : List Int) M', ns.length ≤ 30 → Feed M' f (n + 1) → Keep f M M' → q (.dat (.list (ns.map .int))) M'
def pr_le_over : Pr := fun ss M q => ∃ (ns : List Int) (x : Int), ss = [.dat (.list (ns.map .int)), .dat (.int x)] ∧ ns.length ≤ 100000 ∧ q (.dat (.int (PM.above x ns))) M
/-- a list kept by a test, then written -/
theorem lc_filter {ns : List Int} {M1 : Mem} {Γ : Fm} {vs : List Nat} {j : Nat} {t : DB} {el : DE} {K : Addr → Mem → Prop} {s : Sl} (f : Int → Bool) (l : IsL M1 s (li ns)) (hz : ns.length < 16777216)
    (he : ∀ n ∈ ns, ∀ (M' : Mem) (k' : Bool → Mem → Prop), k' (f n) M' → t ((wipeF Γ vs).set j (some (.dat (.int n)))) M' k')
    (hel : ∀ n ∈ ns, ∀ (M' : Mem) (k' : DK), k' (.dat (.int n)) M' → el ((wipeF Γ vs).set j (some (.dat (.int n)))) M' k') (hk : ∀ p, M1 p = none → K p (put M1 p (.lst (li (ns.filter f))))) :
    ∃ xs, IsL M1 s xs ∧ ∀ p, M1 p = none → ∃ Inv : Nat → Mem → Prop, Inv 0 (put M1 p (.lst [])) ∧ (∀ i M', i ≤ xs.length → Inv i M' → IsL M' s xs) ∧
      (∀ i x M', xs[i]? = some x → Inv i M' → lcTurn p Γ vs j t el (Inv (i + 1)) x M') ∧ ∀ M', Inv xs.length M' → K p M' := by
  refine ⟨li ns, l, fun p hp => ⟨fun i M' => M' = put M1 p (.lst (li ((ns.take i).filter f))), rfl, fun i M' _ e => by rw [e]; exact l.put hp, fun i x M' hx e => ?_, fun M' e => by rw [e, List.length_map, List.take_length]; exact hk p hp⟩⟩
  subst e
  rw [List.getElem?_map] at hx
  cases hn : ns[i]? with
  | none => rw [hn] at hx; cases hx
  | some n =>
  rw [hn] at hx
  cases hx
  have hi : i < ns.length := (List.getElem?_eq_some_iff.mp hn).1
  have et : ns.take (i + 1) = ns.take i ++ [n] := by rw [List.take_add_one, hn]; rfl
  have lc := List.length_filter_le f (ns.take i)
  rw [List.length_take] at lc
  have hm := List.mem_of_getElem? hn
  refine he n hm _ _ ⟨fun h => hel n hm _ _ ⟨_, put_at, by rw [List.length_map]; omega, ?_⟩, fun h => ?_⟩
  · show put (put M1 p _) p (.lst (li ((ns.take i).filter f) ++ [.dat (.int n)])) = put M1 p (.lst (li ((ns.take (i + 1)).filter f)))
    rw [put_put, et, List.filter_append, List.filter_cons_of_pos h, List.filter_nil]
    exact congrArg (fun z => put M1 p (MO.lst z)) (List.map_append (f := fun n : Int => Sl.dat (.int n)) (l₂ := [n])).symm
  · show put M1 p (.lst (li ((ns.take i).filter f))) = put M1 p (.lst (li ((ns.take (i + 1)).filter f)))
    rw [et, List.filter_append, List.filter_cons_of_neg (by rw [h]; exact Bool.false_ne_true), List.filter_nil, List.append_nil]
/-- every dealing's count, the least and the greatest -/
theorem over_least {v : Vs} {x : Int} {l : List Int} (d : PM.Deal v.m v.lo v.hi v.tot l) : (v.ks.length : Int) + v.m - v.under (x - 1) ≤ PM.above x (v.ks ++ l) := by
  have h1 := d.upper (x := x - 1)
  have h2 := d.len
  rw [PM.above_below, PM.below_app, List.length_append]
  unfold Vs.under Vs.dealt
  omega
theorem over_most {v : Vs} {x : Int} {l : List Int} (d : PM.Deal v.m v.lo v.hi v.tot l) : PM.above x (v.ks ++ l) ≤ v.turn.under (-x) := by
  have h1 := d.turn.upper (x := -x)
  rw [← PM.below_neg, List.map_append, PM.below_app]
  unfold Vs.under Vs.dealt Vs.turn
  dsimp only
  omega
theorem least_reach {v : Vs} {x : Int} (hm : 0 ≤ v.m) (hb : v.lo ≤ v.hi) (hh : v.has = true) : ∃ l, (PM.Deal v.m v.lo v.hi v.tot l ∧ l.Pairwise (· ≤ ·)) ∧ PM.above x (v.ks ++ l) = (v.ks.length : Int) + v.m - v.under (x - 1) := by
  obtain ⟨l, d, e⟩ := PM.deal_reach (x := x - 1) hm hb (Vs.has_iff.mp hh)
  obtain ⟨s, hs, hw⟩ := PM.sort_of l
  refine ⟨s, ⟨d.perm hs.symm, hw⟩, ?_⟩
  rw [PM.above_perm (hs.append_left v.ks), PM.above_below, PM.below_app, List.length_append, e]
  have := d.len
  unfold Vs.under Vs.dealt
  omega
theorem most_reach {v : Vs} {x : Int} (hm : 0 ≤ v.m) (hb : v.lo ≤ v.hi) (hh : v.has = true) : ∃ l, (PM.Deal v.m v.lo v.hi v.tot l ∧ l.Pairwise (· ≤ ·)) ∧ PM.above x (v.ks ++ l) = v.turn.under (-x) := by
  obtain ⟨l, d, e⟩ := PM.deal_reach (m := v.m) (lo := -v.hi) (hi := -v.lo) (tot := v.tot.map fun n => -n) (x := -x) hm (by omega) (PM.has_turn.mpr (Vs.has_iff.mp hh))
  obtain ⟨s, hs, hw⟩ := PM.sort_of (l.map fun n => -n)
  refine ⟨s, ⟨d.back.perm hs.symm, hw⟩, ?_⟩
  rw [PM.above_perm (hs.append_left v.ks), ← PM.below_neg, List.map_append, PM.below_app, PM.map_neg_neg, e]
  unfold Vs.under Vs.dealt Vs.turn
  dsimp only
  omega
theorem every_ne {v : Vs} (hm : 0 ≤ v.m) (hb : v.lo ≤ v.hi) : every v.m v.lo v.hi v.tot ≠ [] ↔ v.has = true := by
  constructor
  · intro h
    obtain ⟨l, hl⟩ := List.exists_mem_of_ne_nil _ h
    exact Vs.has_iff.mpr ((every_mem hm).mp hl).1.has
  · intro h e
    obtain ⟨l, d, _⟩ := least_reach (x := 0) hm hb h
    have := (every_mem hm).mpr d
    rw [e] at this
    cases this
section
variable {P : Program} {w : World} {K : PySem.W.Frag} {mg : Str → Option Value} {base : Heap}
end
end LW
namespace LW
open PySem PySem.Spec PyProof.Rows DL
open L2 hiding del del_ne del_same
theorem isLi {M : Mem} {ns : List Int} : IsL M (.dat (.list (ns.map .int))) (li ns) := by rw [li_dat]; exact IsL.dat
theorem isLi1 {M : Mem} {ns : List Int} {a : Int} : IsL M (.dat (.list (ns.map .int ++ [.int a]))) (li (ns ++ [a])) := by
  have e : ns.map PyData.int ++ [.int a] = (ns ++ [a]).map .int := by rw [List.map_append]; rfl
  rw [e]
  exact isLi
def placeOf (n : Int) : Dt → Option Int
  | .int p => if 0 ≤ p ∧ p < n then some p else none
  | _ => none
def wholeD : Dt → Bool
  | .int _ => true
  | _ => false
theorem isi_whole (d : Dt) : (isiD "int" d && !isiD "bool" d) = wholeD d := by cases d <;> rfl
abbrev Vs.Least (v : Vs) (p r : Int) : Prop := PM.Least v.ks v.m v.lo v.hi v.tot p r
theorem Vs.under_eq {v : Vs} {x : Int} : v.under x = PM.under v.ks v.m v.lo v.hi v.tot x := rfl
def pr_is_whole : Pr := fun ss M q => ∃ d : Dt, ss = [.dat d] ∧ q (.dat (.bool (wholeD d))) M
def pr_least_at (C : Addr) : Pr := fun ss M q => ∃ (a : Addr) (v : Vs) (p : Int), ss = [.own a, .dat (.int p)] ∧ VAt C M a v ∧ v.fine ∧ v.lo ≤ v.hi ∧ v.has = true ∧ 0 ≤ p ∧ p < v.ks.length + v.m ∧ ∀ r, v.Least p r → q (.dat (.int r)) M
def pr_with_place (CV CP CN : Addr) : PrX := fun ss M q kx => ∃ (v : Vs) (d : Dt), ss = v.fl ++ [.dat d] ∧ v.fine ∧ (placeOf ((v.ks.length : Int) + v.m) d = none → kx CP [] M) ∧
  (∀ p, placeOf ((v.ks.length : Int) + v.m) d = some p → (v.has = true → ∀ p, M p = none → q (.own p) (put M p (.ins CV Fl_Values v.fl))) ∧ (v.has = false → kx CN [] M))
def pr_place_bounds (CP CN : Addr) : PrX := fun ss M q kx => ∃ (v : Vs) (d : Dt), ss = v.fl ++ [.dat d] ∧ v.fine ∧ v.lo ≤ v.hi ∧ (placeOf ((v.ks.length : Int) + v.m) d = none → ∀ M', Old M M' → kx CP [] M') ∧
  (∀ p, placeOf ((v.ks.length : Int) + v.m) d = some p → (v.has = true → ∀ r1 r2 M', v.Least p r1 → v.turn.Least ((v.ks.length : Int) + v.m - 1 - p) r2 → Old M M' → q (.dat (.tuple [.int r1, .int (-r2)])) M') ∧ (v.has = false → ∀ M', Old M M' → kx CN [] M'))
def pr_le_places : Pr := fun ss M q => ∃ (f : Addr) (n m : Int), ss = [.own f, .dat (.int m)] ∧ 0 ≤ m ∧ m ≤ 1000 ∧ Feed M f n ∧ n ≤ 2 ^ 28 ∧
  ∀ (ds : List Dt) M', ds.length ≤ m.toNat + 3 → Feed M' f (n + 3) → Keep f M M' → q (.dat (.list ds)) M'
def pr_le_is_place : Pr := fun ss M q => ∃ (d : Dt) (n : Int), ss = [.dat d, .dat (.int n)] ∧ q (.dat (.bool (placeOf n d).isSome)) M
theorem placeOf_some {n p : Int} {d : Dt} (h : placeOf n d = some p) : d = .int p ∧ 0 ≤ p ∧ p < n := by
  cases d with
  | int i =>
    unfold placeOf at h
    dsimp only at h
    split at h
    · cases h
      rename_i hh
      exact ⟨rfl, hh⟩
    · cases h
  | _ => cases h
theorem under_end {v : Vs} (hb : v.lo ≤ v.hi) (x : Int) (hx : v.hi ≤ x) (hk : ∀ n ∈ v.ks, n ≤ x) : v.under x = v.ks.length + v.m := by
  unfold Vs.under Vs.dealt PM.dealt
  rw [if_pos hx, PM.below_all hk]
  omega
theorem under_start {v : Vs} (hb : v.lo ≤ v.hi) (y : Int) (hx : y < v.lo) (hk : ∀ n ∈ v.ks, y < n) : v.under y = 0 := by
  unfold Vs.under Vs.dealt PM.dealt
  rw [if_neg (by omega), if_pos hx, PM.below_none hk]
  rfl
theorem Vs.fine.has_turn {v : Vs} : v.turn.has = v.has := by
  have h : v.turn.has = true ↔ v.has = true := by
    rw [Vs.has_iff, Vs.has_iff]
    exact PM.has_turn
  cases e : v.has with
  | true => exact h.mpr e
  | false =>
    cases e2 : v.turn.has with
    | false => rfl
    | true => rw [h.mp e2] at e; cases e
section
variable {P : Program} {w : World} {K : PySem.W.Frag} {mg : Str → Option Value} {base : Heap}
theorem ok_is_whole (T : Tx P K mg) : Holds P w K mg base 1 T.f_is_whole T.fd_is_whole ["thing"] pr_is_whole := by
  refine holds_of T.F_is_whole sc_is_whole (fun ss M q h => ?len) (fun cdv A outer s H hr => (xss_one (xs_ret (xe_and (xe_callB sim_isi (pe_callB call_isi rfl T.m_isinstance (by decide +kernel) (xa_cons (xv 0) (xa_cons (xe_raw (pe_bltn (v := .ty "int") rfl T.m_int (by decide +kernel) rfl)) xa_nil)))) (xe_one (xe_not (xe_callB sim_isi (pe_callB call_isi rfl T.m_isinstance (by decide +kernel) (xa_cons (xv 0) (xa_cons (xe_raw (pe_bltn (v := .ty "bool") rfl T.m_bool (by decide +kernel) rfl)) xa_nil)))))))))) (fun ss M q h => ?read)
  case len =>
    obtain ⟨d, rfl, _⟩ := h
    rfl
  case read =>
    obtain ⟨d, rfl, k⟩ := h
    rw [← isi_whole] at k
    refine ⟨_, rfl, .inl rfl, And.intro (fun h1 => ?_) (fun h1 => ?_)⟩
    · rw [show isiD "int" d = true from h1, Bool.true_and] at k
      exact ⟨_, rfl, .inr (.inl rfl), k⟩
    · rw [show isiD "int" d = false from h1, Bool.false_and] at k
      exact k
theorem ok_Values_least_at (T : Tx P K mg) : Holds P w K mg base 4 T.f_Values_least_at T.fd_Values_least_at ["self", "place"] (pr_least_at T.C_Values) := by
  refine holds_of T.F_Values_least_at sc_Values_least_at (fun ss M q h => ?len) (fun cdv A outer s H hr => (xss_cons (xs_asgN (ps_set (i := 2) sc_Values_least_at.nd rfl (by first | exact .inl rfl | exact .inr rfl) (xe_callB sim_minI (pe_callB (cr_min rfl) rfl T.m_min (by decide +kernel) (xa_cons (xe_addD (xe_fld (N := Fl_Values) (i := 0) T.cl_Values T.n_Values_kept (by decide +kernel) rfl (xv 0)) (xe_lstD (xa_cons (xe_fld (N := Fl_Values) (i := 2) T.cl_Values T.n_Values_low (by decide +kernel) rfl (xv 0)) xa_nil))) xa_nil)))) simLE)
      (xss_cons (xs_asgN (ps_set (i := 3) sc_Values_least_at.nd rfl (by first | exact .inl rfl | exact .inr rfl) (xe_callB sim_maxI (pe_callB (cr_max rfl) rfl T.m_max (by decide +kernel) (xa_cons (xe_addD (xe_fld (N := Fl_Values) (i := 0) T.cl_Values T.n_Values_kept (by decide +kernel) rfl (xv 0)) (xe_lstD (xa_cons (xe_fld (N := Fl_Values) (i := 3) T.cl_Values T.n_Values_high (by decide +kernel) rfl (xv 0)) xa_nil))) xa_nil)))) simLE)
      (xss_cons (xs_while (ps_while PassesOwn.never (xb_cmp (sim_I0 fun _ _ _ => .bl _) (pt_cmpR op_lt (xv 2) (xv 3) (nomark _))) (xss_cons (xs_asgN (ps_set (i := 4) sc_Values_least_at.nd rfl (by first | exact .inl rfl | exact .inr rfl) (xe_fdiv (xe_addD (xv 2) (xv 3)) xe_int)) simLE)
      (xss_one (xs_if (xb_cmp (sim_I0 fun _ _ _ => .bl _) (pt_cmpR op_gt (xe_meth (N := Fl_Values) (ok_Values_most_under T) (hr.mono (by decide)) T.cl_Values T.M_Values_most_under (by decide +kernel) T.b_Values_most_under (xv 0) (xa_cons (xv 4) xa_nil)) (xv 1) (nomark _))) (xss_one (xs_asgN (ps_set (i := 3) sc_Values_least_at.nd rfl (by first | exact .inl rfl | exact .inr rfl) (xv 4)) simLE)) (xss_one (xs_asgN (ps_set (i := 2) sc_Values_least_at.nd rfl (by first | exact .inl rfl | exact .inr rfl) (xe_addD (xv 4) xe_int)) simLE)))))))
      (xss_one (xs_ret (xv 2))))))) (fun ss M q h => ?read)
  case len =>
    obtain ⟨a, v, p, rfl, _⟩ := h
    rfl
  case read =>
    obtain ⟨a, v, p, rfl, hM, hf, hb, hh, hp0, hp1, k⟩ := h
    have hk := hf.2.2.2
    refine ⟨_, rfl, a, _, _, rfl, hM, rfl, _, rfl, a, _, _, rfl, hM, rfl, rfl, _, rfl, _, _, IsL.dat, IsL.dat, by rw [List.length_map]; exact (show v.ks.length + 1 ≤ 16777216 by omega), ?_⟩
    refine ⟨v.ks ++ [v.lo], isLi1 , by rw [List.length_append]; exact Nat.succ_pos _, fun l0 hl1 hl2 => ?_⟩
    refine ⟨_, rfl, a, _, _, rfl, hM, rfl, _, rfl, a, _, _, rfl, hM, rfl, rfl, _, rfl, _, _, IsL.dat, IsL.dat, by rw [List.length_map]; exact (show v.ks.length + 1 ≤ 16777216 by omega), ?_⟩
    refine ⟨v.ks ++ [v.hi], isLi1, by rw [List.length_append]; exact Nat.succ_pos _, fun h0 hh1 hh2 => ?_⟩
    have a1 : ∀ n ∈ v.ks, l0 ≤ n := fun n hn => hl2 n (List.mem_append_left _ hn)
    have a2 : l0 ≤ v.lo := hl2 _ (List.mem_append_right _ (List.mem_singleton.mpr rfl))
    have b1 : ∀ n ∈ v.ks, n ≤ h0 := fun n hn => hh2 n (List.mem_append_left _ hn)
    have b2 : v.hi ≤ h0 := hh2 _ (List.mem_append_right _ (List.mem_singleton.mpr rfl))
    refine ⟨fun m Γ' M' => ∃ (l h : Int) (x4 : Option Sl), Γ' = [some (.own a), some (.dat (.int p)), some (.dat (.int l)), some (.dat (.int h)), x4] ∧ M' = M ∧ m = (h - l).toNat ∧ l ≤ h ∧ p < v.under h ∧ ∀ y, y < l → v.under y ≤ p, ⟨_, l0, h0, _, rfl, rfl, rfl, by omega, by rw [under_end hb h0 b2 b1]; exact hp1, fun y hy => by rw [under_start hb y (by omega) fun n hn => by have := a1 n hn; omega]; exact hp0⟩, ?_⟩
    rintro m Γ' M' ⟨l, h, x4, rfl, e, rfl, hlh, hu, hd⟩
    rw [e]
    refine ⟨_, rfl, _, rfl, And.intro (fun hlt => ?_) (fun hge => ?_)⟩
    · have hlt' : l < h := of_decide_eq_true hlt
      refine ⟨_, rfl, _, rfl, ⟨by decide, by decide⟩, ?_⟩
      have e1 : (l + h) / 2 < h := by omega
      have e2 : l ≤ (l + h) / 2 := by omega
      refine ⟨_, rfl, a, _, rfl, hM, _, rfl, a, v, (l + h) / 2, rfl, hM, hf, _, rfl, And.intro (fun hy => ?_) (fun hn => ?_)⟩
      · have hy' : p < v.under ((l + h) / 2) := of_decide_eq_true hy
        exact ⟨_, rfl, _, by omega, l, (l + h) / 2, _, rfl, rfl, rfl, e2, hy', hd⟩
      · have hn' : ¬ p < v.under ((l + h) / 2) := of_decide_eq_false hn
        refine ⟨_, rfl, _, ?_, (l + h) / 2 + 1, h, _, rfl, rfl, rfl, by omega, hu, fun y hy => ?_⟩
        · omega
        · have := PM.under_mono (ks := v.ks) hf.1.1 hb (Vs.has_iff.mp hh) (show y ≤ (l + h) / 2 by omega)
          rw [← Vs.under_eq, ← Vs.under_eq] at this
          omega
    · have hge' : ¬ l < h := of_decide_eq_false hge
      have e1 : h = l := by omega
      subst e1
      exact ⟨_, rfl, k h ⟨hu, hd⟩⟩
theorem ok_values_with_place (T : Tx P K mg) : HoldsX P w K mg base 4 T.f_values_with_place T.fd_values_with_place ["kept", "many", "low", "high", "total", "place"] (pr_with_place T.C_Values T.C_NoPlace T.C_NoDealing) := by
  refine holdsX_of T.F_values_with_place sc_values_with_place (by decide) (fun ss M q kx h => ?len) (fun cdv A outer s H E H0 kx hr wi => (xss_cons (xs_if (xb_w (xw_or (xb_not (xb_val (xe_call (ok_is_whole T) (hr.mono (by decide)) T.g_is_whole T.F_is_whole.kp T.b_is_whole (xa_cons (xv 5) xa_nil)))) (xw_or1 (xb_not (xb_chainI (pt_chain op_le op_lt xe_int (xv 5) (xe_addD (xe_callB sim_len (pe_callB call_lenA rfl T.m_len (by decide +kernel) (xa_cons (xv 0) xa_nil))) (xv 1)))))))) (xss_one (xs_raiT (i := 6) wi F.excBase_ValueError T.q_NoPlace T.E_NoPlace T.gC_NoPlace)) xss_nil)
      (xss_one (xs_ret (xe_callX (i := 6) wi (ok_values_dealt T) (hr.mono (by decide)) T.g_values_dealt T.F_values_dealt.kp T.b_values_dealt (xa_cons (xv 0) (xa_cons (xv 1) (xa_cons (xv 2) (xa_cons (xv 3) (xa_cons (xv 4) xa_nil)))))))))) (fun ss M q kx H0 h => ?read)
  case len =>
    obtain ⟨v, d, rfl, _⟩ := h
    rfl
  case read =>
    obtain ⟨v, d, rfl, hf, k1, k2⟩ := h
    have hk := hf.2.2.2
    have go : ∀ p, placeOf ((v.ks.length : Int) + v.m) d = some p → dRet (dCallX 6 H0 none kx (pr_values_dealt T.C_Values T.C_NoDealing) (dCons (dV 0) (dCons (dV 1) (dCons (dV 2) (dCons (dV 3) (dCons (dV 4) dNil)))))) { nx := fun _ M' => q (.dat .none) M', rt := q } [some (.dat (.list (v.ks.map .int))), some (.dat (.int v.m)), some (.dat (.int v.lo)), some (.dat (.int v.hi)), some (.dat (totD v.tot)), some (.dat d), some (.base H0)] M := fun p hp =>
      ⟨⟨rfl, trivial⟩, _, rfl, _, rfl, _, rfl, _, rfl, _, rfl, v, rfl, hf, (k2 p hp).1, (k2 p hp).2⟩
    refine ⟨_, rfl, d, rfl, And.intro (fun h1 => ?_) (fun h1 => ?_)⟩
    · refine And.intro (fun _ => ⟨⟨rfl, trivial⟩, M, fun _ _ h => h, k1 ?_⟩) (fun z => nomatch z)
      cases d <;> first | rfl | cases h1
    · obtain ⟨i, rfl⟩ : ∃ i, d = .int i := by
        cases d with
        | int i => exact ⟨i, rfl⟩
        | _ => cases h1
      refine ⟨_, rfl, And.intro (fun h2 => ?_) (fun h2 => ?_)⟩
      · refine ⟨_, rfl, _, rfl, And.intro (fun h3 => ?_) (fun h3 => ?_)⟩
        · refine ⟨⟨rfl, trivial⟩, M, fun _ _ h => h, k1 ?_⟩
          have h3' : (!decide (i < ((v.ks.map PyData.int).length : Int) + v.m)) = true := h3
          rw [List.length_map] at h3'
          show (if _ then _ else _) = _
          rw [if_neg fun z => by rw [decide_eq_true z.2] at h3'; cases h3']
        · have h3' : (!decide (i < ((v.ks.map PyData.int).length : Int) + v.m)) = false := h3
          rw [List.length_map] at h3'
          refine go i ?_
          show (if _ then _ else _) = _
          rw [if_pos ⟨of_decide_eq_true h2, by simpa using h3'⟩]
      · have h2' : decide (0 ≤ i) = false := h2
        refine And.intro (fun _ => ⟨⟨rfl, trivial⟩, M, fun _ _ h => h, k1 ?_⟩) (fun z => nomatch z)
        show (if _ then _ else _) = _
        rw [if_neg fun z => by rw [decide_eq_true z.1] at h2'; cases h2']
theorem ok_place_bounds (T : Tx P K mg) : HoldsX P w K mg base 5 T.f_place_bounds T.fd_place_bounds ["kept", "many", "low", "high", "total", "place"] (pr_place_bounds T.C_NoPlace T.C_NoDealing) := by
  refine holdsX_of T.F_place_bounds sc_place_bounds (by decide) (fun ss M q kx h => ?len) (fun cdv A outer s H E H0 kx hr wi => (xss_cons (xs_asgN (ps_set (i := 6) sc_place_bounds.nd rfl (by first | exact .inl rfl | exact .inr rfl) (xe_callX (i := 8) wi (ok_values_with_place T) (hr.mono (by decide)) T.g_values_with_place T.F_values_with_place.kp T.b_values_with_place (xa_cons (xv 0) (xa_cons (xv 1) (xa_cons (xv 2) (xa_cons (xv 3) (xa_cons (xv 4) (xa_cons (xv 5) xa_nil)))))))) simLE)
      (xss_cons (xs_asgN (ps_set (i := 7) sc_place_bounds.nd rfl (by first | exact .inl rfl | exact .inr rfl) (xe_sub (xe_sub (xe_meth0 (N := Fl_Values) (ok_Values_in_all T) (hr.mono (by decide)) T.cl_Values T.M_Values_in_all (by decide +kernel) T.b_Values_in_all (xv 6)) xe_int) (xv 5))) simLE)
      (xss_one (xs_ret (xe_tup (xa_cons (xe_meth (N := Fl_Values) (ok_Values_least_at T) (hr.mono (by decide)) T.cl_Values T.M_Values_least_at (by decide +kernel) T.b_Values_least_at (xv 6) (xa_cons (xv 5) xa_nil)) (xa_cons (xe_neg (xe_meth (N := Fl_Values) (ok_Values_least_at T) (hr.mono (by decide)) T.cl_Values T.M_Values_least_at (by decide +kernel) T.b_Values_least_at (xe_meth0 (N := Fl_Values) (ok_Values_turned T) (hr.mono (by decide)) T.cl_Values T.M_Values_turned (by decide +kernel) T.b_Values_turned (xv 6)) (xa_cons (xv 7) xa_nil))) xa_nil)))))))) (fun ss M q kx H0 h => ?read)
  case len =>
    obtain ⟨v, d, rfl, _⟩ := h
    rfl
  case read =>
    obtain ⟨v, d, rfl, hf, hb, k1, k2⟩ := h
    refine ⟨⟨rfl, trivial⟩, _, rfl, _, rfl, _, rfl, _, rfl, _, rfl, _, rfl, v, d, rfl, hf, fun h => k1 h M Old.refl, fun p hp => ⟨fun hh a ha => ?_, fun hh => (k2 p hp).2 hh M Old.refl⟩⟩
    obtain ⟨rfl, hp0, hp1⟩ := placeOf_some hp
    refine ⟨_, rfl, a, _, rfl, put_at, a, v, rfl, put_at, _, rfl, ?_⟩
    refine ⟨_, rfl, a, _, rfl, put_at, _, rfl, a, v, p, rfl, put_at, hf, hb, hh, hp0, hp1, fun r1 hr1 => ?_⟩
    refine ⟨_, rfl, a, _, rfl, put_at, a, v, rfl, put_at, hf, fun b hbb => ?_⟩
    refine ⟨b, _, rfl, put_at, _, rfl, b, v.turn, _, rfl, put_at, hf.turn, ?_, ?_, ?_, ?_, fun r2 hr2 => ?_⟩
    · show -v.hi ≤ -v.lo
      omega
    · rw [Vs.fine.has_turn]; exact hh
    · omega
    · show _ < ((v.ks.map fun n => -n).length : Int) + v.m
      rw [List.length_map]
      omega
    refine ⟨rfl, _, rfl, (k2 p hp).1 hh r1 r2 _ hr1 hr2 ((Old.refl.put ha).put hbb)⟩
end
end LW
namespace LW
open PySem PySem.Spec PyProof.Rows DL
open L2 hiding del del_ne del_same
/-- a dealing by which as many as can be are no greater than x -/
structure Best (v : Vs) (x : Int) (l : List Int) : Prop where
  deal : PM.Deal v.m v.lo v.hi v.tot l
  sort : l.Pairwise (· ≤ ·)
  best : PM.below x l = v.dealt x
def pr_dealing_under (C : Addr) : Pr := fun ss M q => ∃ (a : Addr) (v : Vs) (x : Int), ss = [.own a, .dat (.int x)] ∧ VAt C M a v ∧ v.fine ∧ v.lo ≤ v.hi ∧ v.has = true ∧ ∀ (l : List Int) p M', M p = none → M' p = some (.lst (li l)) → Best v x l → Old M M' → q (.own p) M'
def pr_turned_dealing (C : Addr) : Pr := fun ss M q => ∃ (a : Addr) (v : Vs) (x : Int), ss = [.own a, .dat (.int x)] ∧ VAt C M a v ∧ v.fine ∧ v.lo ≤ v.hi ∧ v.has = true ∧ ∀ (l : List Int) p M', M p = none → M' p = some (.lst (li l)) → Best v x (l.map fun n => -n).reverse → Old M M' → q (.own p) M'
theorem Old.none {M M' : Mem} {p : Addr} (h : Old M M') (hp : M' p = none) : M p = none := was_none h hp
section
variable {P : Program} {w : World} {K : PySem.W.Frag} {mg : Str → Option Value} {base : Heap}
theorem ok_Values_dealing_under (T : Tx P K mg) : Holds P w K mg base 3 T.f_Values_dealing_under T.fd_Values_dealing_under ["self", "number"] (pr_dealing_under T.C_Values) := by
  refine holds_of T.F_Values_dealing_under sc_Values_dealing_under (fun ss M q h => ?len) (fun cdv A outer s H hr => (xss_cons (xs_asgN (ps_set (i := 2) sc_Values_dealing_under.nd rfl (by first | exact .inl rfl | exact .inr rfl) (xe_meth (N := Fl_Values) (ok_Values_most_dealt T) (hr.mono (by decide)) T.cl_Values T.M_Values_most_dealt (by decide +kernel) T.b_Values_most_dealt (xv 0) (xa_cons (xv 1) xa_nil))) simLE)
      (xss_cons (xs_asgN (ps_set (i := 3) sc_Values_dealing_under.nd rfl (by first | exact .inl rfl | exact .inr rfl) (xe_sub (xe_meth0 (N := Fl_Values) (ok_Values_least_total T) (hr.mono (by decide)) T.cl_Values T.M_Values_least_total (by decide +kernel) T.b_Values_least_total (xv 0)) (xe_mul (xe_fld (N := Fl_Values) (i := 1) T.cl_Values T.n_Values_many (by decide +kernel) rfl (xv 0)) (xe_fld (N := Fl_Values) (i := 2) T.cl_Values T.n_Values_low (by decide +kernel) rfl (xv 0))))) simLE)
      (xss_cons (xs_asgN (ps_set (i := 4) sc_Values_dealing_under.nd rfl (by first | exact .inl rfl | exact .inr rfl) (xe_lst xa_nil)) simLE)
      (xss_cons (xs_forR1 (ps_for PassesOwn.never rfl (pi_range1 rfl T.m_range (xa_cons (xe_fld (N := Fl_Values) (i := 1) T.cl_Values T.n_Values_many (by decide +kernel) rfl (xv 0)) xa_nil)) (xg_name (pg_name (i := 5) sc_Values_dealing_under.nd rfl (by first | exact .inl rfl | exact .inr rfl))) (xss_cons (xs_asgN (ps_set (i := 6) sc_Values_dealing_under.nd rfl (by first | exact .inl rfl | exact .inr rfl) (xe_if (xb_cmp (sim_I0 fun _ _ _ => .bl _) (pt_cmpR op_lt (xv 5) (xe_sub (xe_fld (N := Fl_Values) (i := 1) T.cl_Values T.n_Values_many (by decide +kernel) rfl (xv 0)) (xv 2)) (nomark _))) (xe_fld (N := Fl_Values) (i := 3) T.cl_Values T.n_Values_high (by decide +kernel) rfl (xv 0)) (xe_callB sim_min2 (pe_callB (call_min2 rfl) rfl T.m_min (by decide +kernel) (xa_cons (xv 1) (xa_cons (xe_fld (N := Fl_Values) (i := 3) T.cl_Values T.n_Values_high (by decide +kernel) rfl (xv 0)) xa_nil)))))) simLE)
      (xss_cons (xs_expr (xe_bmL sim_app (pe_bm PySem.F.plainAttrs_list PySem.F.slot_list_append PySem.F.type_list_append mt_append (xv 4) (xa_cons (xe_addD (xe_fld (N := Fl_Values) (i := 2) T.cl_Values T.n_Values_low (by decide +kernel) rfl (xv 0)) (xe_callB sim_min2 (pe_callB (call_min2 rfl) rfl T.m_min (by decide +kernel) (xa_cons (xv 3) (xa_cons (xe_sub (xv 6) (xe_fld (N := Fl_Values) (i := 2) T.cl_Values T.n_Values_low (by decide +kernel) rfl (xv 0))) xa_nil))))) xa_nil))))
      (xss_one (xs_aug (i := 3) sim_ipI (ps_aug sc_Values_dealing_under.nd rfl (by first | exact .inl rfl | exact .inr rfl) (xe_sub (xe_ix (xv 4) (xe_neg xe_int)) (xe_fld (N := Fl_Values) (i := 2) T.cl_Values T.n_Values_low (by decide +kernel) rfl (xv 0))) ip_sub) rfl))))))
      (xss_one (xs_ret (xe_revO (xv 4))))))))) (fun ss M q h => ?read)
  case len =>
    obtain ⟨a, v, x, rfl, _⟩ := h
    rfl
  case read =>
    obtain ⟨a, v, x, rfl, hM, hf, hb, hh, k⟩ := h
    have hf' := hf
    obtain ⟨hm, hlo, hhi, hk⟩ := hf'
    have H := Vs.has_iff.mp hh
    refine ⟨_, rfl, a, _, rfl, hM, _, rfl, a, v, x, rfl, hM, hf, ?_⟩
    have ml : CMul v.m v.lo := .inl ⟨by omega, by omega⟩
    refine ⟨_, rfl, a, _, rfl, hM, a, v, rfl, hM, hf, _, rfl, a, _, _, rfl, hM, rfl, _, rfl, a, _, _, rfl, hM, rfl, ml, ?_⟩
    refine ⟨rfl, fun p hp => ?_⟩
    have nap : a ≠ p := ne_mem hM hp
    have at_ : ∀ o, VAt T.C_Values (put M p o) a v := fun o => (put_ne nap).trans hM
    refine ⟨_, rfl, a, _, _, rfl, at_ _, rfl, 0, v.m, rfl, ⟨by decide, by decide, by omega, by omega⟩, fun i Γ' M' => ∃ (d : List Int) (lacks : Int) (x5 x6 : Option Sl), Γ' = [some (.own a), some (.dat (.int x)), some (.dat (.int (v.dealt x))), some (.dat (.int lacks)), some (.own p), x5, x6] ∧ M' = put M p (.lst (li d)) ∧ PM.Fill v.m v.lo v.hi v.tot x i d lacks, ⟨[], _, _, _, rfl, rfl, PM.Fill.start hm.1 hb H⟩, ?_, ?_⟩
    · rintro i Γ' M' hi ⟨d, lacks, x5, x6, rfl, e, F⟩
      rw [e]
      have him : (i : Int) < v.m := by omega
      have F' := F.step hm.1 hb H him
      have ln := F.len
      refine ⟨_, rfl, _, rfl, a, _, _, rfl, at_ _, rfl, _, rfl, And.intro (fun h => ?_) (fun h => ?_)⟩
      · have h' : (0 + (i : Int)) < v.m - v.dealt x := of_decide_eq_true h
        have er : v.hi - v.lo = PM.room v.m v.lo v.hi v.tot x i := by
          unfold PM.room
          rw [if_pos (by show (i : Int) < v.m - v.dealt x; omega)]
        refine ⟨_, rfl, a, _, _, rfl, at_ _, rfl, ?_⟩
        have F2 := F'
        rw [show lacks - min lacks (PM.room v.m v.lo v.hi v.tot x i) = lacks - (v.lo + min lacks (PM.room v.m v.lo v.hi v.tot x i) - v.lo) by omega] at F2
        refine ⟨_, rfl, ⟨_, IsL.own put_at⟩, _, rfl, a, _, _, rfl, at_ _, rfl, _, rfl, _, rfl, _, rfl, a, _, _, rfl, at_ _, rfl, _, put_at, by rw [List.length_map]; omega, ?_⟩
        dsimp only
        rw [put_put, er]
        have e9 : li d ++ [Sl.dat (.int (v.lo + min lacks (PM.room v.m v.lo v.hi v.tot x i)))] = li (d ++ [v.lo + min lacks (PM.room v.m v.lo v.hi v.tot x i)]) := (List.map_append (f := fun n : Int => Sl.dat (.int n)) (l₂ := [_])).symm
        rw [e9]
        refine ⟨_, rfl, _, rfl, _, _, put_at, atI_last (x := Sl.dat (.int (v.lo + min lacks (PM.room v.m v.lo v.hi v.tot x i)))) (by rw [List.getLast?_map, List.getLast?_concat]; rfl), _, rfl, a, _, _, rfl, at_ _, rfl, d ++ [v.lo + min lacks (PM.room v.m v.lo v.hi v.tot x i)], _, _, _, rfl, rfl, F2⟩
      · have h' : ¬ (0 + (i : Int)) < v.m - v.dealt x := of_decide_eq_false h
        have er : min x v.hi - v.lo = PM.room v.m v.lo v.hi v.tot x i := by
          unfold PM.room
          rw [if_neg (by show ¬ (i : Int) < v.m - v.dealt x; omega)]
        refine ⟨_, rfl, _, rfl, a, _, _, rfl, at_ _, rfl, ?_⟩
        have F2 := F'
        rw [show lacks - min lacks (PM.room v.m v.lo v.hi v.tot x i) = lacks - (v.lo + min lacks (PM.room v.m v.lo v.hi v.tot x i) - v.lo) by omega] at F2
        refine ⟨_, rfl, ⟨_, IsL.own put_at⟩, _, rfl, a, _, _, rfl, at_ _, rfl, _, rfl, _, rfl, _, rfl, a, _, _, rfl, at_ _, rfl, _, put_at, by rw [List.length_map]; omega, ?_⟩
        dsimp only
        rw [put_put, er]
        have e9 : li d ++ [Sl.dat (.int (v.lo + min lacks (PM.room v.m v.lo v.hi v.tot x i)))] = li (d ++ [v.lo + min lacks (PM.room v.m v.lo v.hi v.tot x i)]) := (List.map_append (f := fun n : Int => Sl.dat (.int n)) (l₂ := [_])).symm
        rw [e9]
        refine ⟨_, rfl, _, rfl, _, _, put_at, atI_last (x := Sl.dat (.int (v.lo + min lacks (PM.room v.m v.lo v.hi v.tot x i)))) (by rw [List.getLast?_map, List.getLast?_concat]; rfl), _, rfl, a, _, _, rfl, at_ _, rfl, d ++ [v.lo + min lacks (PM.room v.m v.lo v.hi v.tot x i)], _, _, _, rfl, rfl, F2⟩
    · rintro Γ' M' ⟨d, lacks, x5, x6, rfl, e, F⟩
      rw [e]
      rw [Int.sub_zero] at F
      obtain ⟨h1, h2, h3, h4⟩ := F.done hm.1 hb H (by omega)
      have ln := F.len
      refine ⟨_, rfl, li d, IsL.own put_at, by rw [List.length_map]; omega, fun r hr => ?_⟩
      have er : (li d).reverse = li d.reverse := (List.map_reverse ..).symm
      rw [er]
      exact k d.reverse r _ (was_none (Old.refl.put hp) hr) put_at ⟨h1, h2, h3⟩ ((Old.refl.put hp).put hr)
theorem ok_turned_dealing (T : Tx P K mg) : Holds P w K mg base 4 T.f_turned_dealing T.fd_turned_dealing ["turned", "number"] (pr_turned_dealing T.C_Values) := by
  refine holds_of T.F_turned_dealing sc_turned_dealing (fun ss M q h => ?len) (fun cdv A outer s H hr => (xss_one (xs_ret (xe_lcL (pe_lc (own := [("value", 2)]) (g := gName 2) (tt := LB _) rfl sc_turned_dealing.nd (pi_list (xe_rev (xe_meth (N := Fl_Values) (ok_Values_dealing_under T) (hr.mono (by decide)) T.cl_Values T.M_Values_dealing_under (by decide +kernel) T.b_Values_dealing_under (xv 0) (xa_cons (xv 1) xa_nil)))) (blkOk_by (own := [("value", 2)]) (N := N_turned_dealing) (sc := defScope s_turned_dealing) (by decide +kernel)) (fun _ _ _ _ _ => pg_name (i := 2) sc_turned_dealing.nd rfl (.inl rfl)) (fun _ _ _ _ _ => xts_nil) (fun _ _ _ _ _ => (xe_neg (xv 2)))) (by decide))))) (fun ss M q h => ?read)
  case len =>
    obtain ⟨a, v, x, rfl, _⟩ := h
    rfl
  case read =>
    obtain ⟨a, v, x, rfl, hM, hf, hb, hh, k⟩ := h
    have hm := hf.1
    refine ⟨_, rfl, a, _, rfl, hM, _, rfl, a, v, x, rfl, hM, hf, hb, hh, fun l p M1 hp hl B o1 => ?_⟩
    have ll := B.deal.len
    refine ⟨l.map .int, hl.trans (by rw [li_dat]), ?_⟩
    have er : (l.map PyData.int).reverse = l.reverse.map .int := (List.map_reverse ..).symm
    rw [er]
    refine lc_mapK (f := fun s => match s with | .dat (.int n) => Sl.dat (.int (-n)) | s => s) (xs := li l.reverse) (by rw [li_dat]; exact IsL.dat) (by rw [List.length_map, List.length_reverse]; omega) (fun x hx M' k' hk' hgo => ?_) fun r hr => ?_
    · obtain ⟨n, _, rfl⟩ := List.mem_map.mp hx
      exact ⟨_, rfl, hgo⟩
    refine k (l.reverse.map fun n => -n) r _ (was_none o1 hr) (put_at.trans (congrArg (fun z => some (MO.lst z)) (li_map (fun n => -n) _))) ?_ (o1.put hr)
    rw [PM.map_neg_neg, List.reverse_reverse]
    exact B
end
end LW
namespace LW
open PySem PySem.Spec PyProof.Rows DL
open L2 hiding del del_ne del_same
theorem canLay_lt : ∀ F : List (List Int), PyData.canLayAll0 (F.map tupI) = true
  | [] => rfl
  | l :: F => by
    show (PyData.canLayAll0 (l.map .int) && PyData.canLayAll0 (F.map tupI)) = true
    rw [canLay_ints, canLay_lt F] <;> rfl
theorem depth_lt : ∀ F : List (List Int), PyData.depthAll (F.map tupI) ≤ 2
  | [] => by decide
  | l :: F => by
    show max (PyData.depthAll (l.map .int) + 1) (PyData.depthAll (F.map tupI)) ≤ 2
    have := depth_lt F
    have := depth_ints l
    omega
theorem shaped_lt (F : List (List Int)) : SeqAt.shaped (.list (F.map tupI)) = true := by
  unfold SeqAt.shaped
  rw [Bool.and_eq_true]
  refine ⟨canLay_lt F, decide_eq_true ?_⟩
  have := depth_lt F
  show PyData.depthAll (F.map tupI) + 1 ≤ 64
  omega
theorem eqv_lt_nil {F : List (List Int)} : PyData.eqv (.list (F.map tupI)) (.list []) = F.isEmpty := by cases F <;> rfl
def unI : Dt → List Int
  | .tuple ds => ds.map fun d => match d with | .int i => i | _ => 0
  | _ => []
theorem unI_tupI (l : List Int) : unI (tupI l) = l := by
  show ((l.map PyData.int).map fun d => match d with | .int i => i | _ => 0) = l
  induction l with
  | nil => rfl
  | cons n l ih => exact congrArg (n :: ·) ih
theorem lift_lt (F : List Int → Int) : ∃ fl : Sl → Sl, (∀ l : List Int, fl (.dat (tupI l)) = .dat (.int (F l))) ∧ ∀ ev, (lt ev).map fl = li (ev.map F) := by
  refine ⟨fun s => match s with | .dat d => .dat (.int (F (unI d))) | s => s, fun l => ?_, fun ev => ?_⟩
  · show Sl.dat (.int (F (unI (tupI l)))) = _
    rw [unI_tupI]
  · show (ev.map fun l => Sl.dat (tupI l)).map _ = (ev.map F).map fun n => Sl.dat (.int n)
    rw [List.map_map, List.map_map]
    refine List.map_congr_left fun l _ => ?_
    show Sl.dat (.int (F (unI (tupI l)))) = _
    rw [unI_tupI]
    rfl
theorem every_ne2 {v : Vs} (c : Case v) : every v.m v.lo v.hi v.tot ≠ [] ↔ v.has = true := by
  constructor
  · intro h
    obtain ⟨l, hl⟩ := List.exists_mem_of_ne_nil _ h
    exact Vs.has_iff.mpr ((every_mem c.m.1).mp hl).1.has
  · intro h e
    obtain ⟨l, d, _⟩ := PM.deal_reach (x := 0) c.m.1 c.lh (Vs.has_iff.mp h)
    obtain ⟨s, hs, hw⟩ := PM.sort_of l
    have := (every_mem (tot := v.tot) c.m.1).mpr ⟨d.perm hs.symm, hw⟩
    rw [e] at this
    cases this
/-- the value at a place -/
def nth (v : Vs) (p : Int) (l : List Int) : Int := (PM.sortI (v.ks ++ l)).getD p.toNat 0
theorem nth_at {v : Vs} {p : Int} {l : List Int} (h0 : 0 ≤ p) (h1 : p < v.ks.length + l.length) : ∃ hl : p.toNat < (PM.sortI (v.ks ++ l)).length, nth v p l = (PM.sortI (v.ks ++ l))[p.toNat] := by
  have e : (PM.sortI (v.ks ++ l)).length = v.ks.length + l.length := by rw [(PM.sortI_perm _).length_eq, List.length_append]
  refine ⟨by omega, ?_⟩
  unfold nth
  rw [List.getD_eq_getElem?_getD, List.getElem?_eq_getElem (by omega)]
  rfl
theorem least_min {v : Vs} (c : Case v) (hh : v.has = true) {p r mn : Int} (h0 : 0 ≤ p) (h1 : p < v.ks.length + v.m) (L : v.Least p r) (a1 : mn ∈ (every v.m v.lo v.hi v.tot).map (nth v p)) (a2 : ∀ y ∈ (every v.m v.lo v.hi v.tot).map (nth v p), mn ≤ y) : mn = r := by
  have L' : PM.Least v.ks v.m v.lo v.hi v.tot (p.toNat : Int) r := by rw [Int.toNat_of_nonneg h0]; exact L
  obtain ⟨l, d, hw, hs⟩ := L'.reach c.m.1 c.lh (Vs.has_iff.mp hh)
  have e1 := d.len
  obtain ⟨q1, q2⟩ := nth_at (v := v) (l := l) h0 (by omega)
  have z1 := a2 _ (List.mem_map.mpr ⟨l, (every_mem c.m.1).mpr ⟨d, hw⟩, rfl⟩)
  rw [q2, hs (PM.sortI_perm _) (PM.sortI_pw _) q1] at z1
  obtain ⟨l2, m2, e2⟩ := List.mem_map.mp a1
  obtain ⟨d2, w2⟩ := (every_mem c.m.1).mp m2
  have e3 := d2.len
  obtain ⟨q3, q4⟩ := nth_at (v := v) (l := l2) h0 (by omega)
  have z2 := L'.low d2 (PM.sortI_perm _) (PM.sortI_pw _) q3
  rw [← q4, e2] at z2
  omega
theorem most_max {v : Vs} (c : Case v) (hh : v.has = true) {p r mx : Int} (h0 : 0 ≤ p) (h1 : p < v.ks.length + v.m) (L : v.turn.Least ((v.ks.length : Int) + v.m - 1 - p) r) (a1 : mx ∈ (every v.m v.lo v.hi v.tot).map (nth v p)) (a2 : ∀ y ∈ (every v.m v.lo v.hi v.tot).map (nth v p), y ≤ mx) : mx = -r := by
  have L' : PM.Least (v.ks.map fun n => -n) v.m (-v.hi) (-v.lo) (v.tot.map fun n => -n) ((v.ks.length : Int) + v.m - 1 - (p.toNat : Int)) r := by rw [Int.toNat_of_nonneg h0]; exact L
  obtain ⟨l, d, hw, hs⟩ := PM.Least.reachH c.m.1 c.lh (Vs.has_iff.mp hh) L' rfl
  have e1 := d.len
  obtain ⟨q1, q2⟩ := nth_at (v := v) (l := l) h0 (by omega)
  have z1 := a2 _ (List.mem_map.mpr ⟨l, (every_mem c.m.1).mpr ⟨d, hw⟩, rfl⟩)
  rw [q2, hs (PM.sortI_perm _) (PM.sortI_pw _) q1] at z1
  obtain ⟨l2, m2, e2⟩ := List.mem_map.mp a1
  obtain ⟨d2, w2⟩ := (every_mem c.m.1).mp m2
  have e3 := d2.len
  obtain ⟨q3, q4⟩ := nth_at (v := v) (l := l2) h0 (by omega)
  have z2 := PM.Least.high L' (by rw [(PM.sortI_perm _).length_eq, List.length_append]; omega) d2 (PM.sortI_perm _) (PM.sortI_pw _) q3
  rw [← q4, e2] at z2
  omega
theorem nth_small {v : Vs} (c : Case v) {p y : Int} (h0 : 0 ≤ p) (h1 : p < v.ks.length + v.m) (hy : y ∈ (every v.m v.lo v.hi v.tot).map (nth v p)) : y.natAbs < 2 ^ 1000 := by
  obtain ⟨l, hl, rfl⟩ := List.mem_map.mp hy
  obtain ⟨d, _⟩ := (every_mem c.m.1).mp hl
  have e := d.len
  obtain ⟨q1, q2⟩ := nth_at (v := v) (l := l) h0 (by omega)
  rw [q2]
  have hm := (PM.sortI_perm (v.ks ++ l)).mem_iff.mp (List.getElem_mem q1)
  refine Nat.lt_of_le_of_lt (show _ ≤ 10 ^ 31 from ?_) (by decide)
  have h2 := c.lo
  have h3 := c.hl
  rcases List.mem_append.mp hm with h | h
  · have := c.ks _ h; omega
  · have := d.ins _ h; omega
def pr_le_due : Pr := fun ss M q => ∃ (v : Vs) (d : Dt), ss = [.dat (.tuple v.ds), .dat d] ∧ Case v ∧ (placeOf ((v.ks.length : Int) + v.m) d = none → ∀ M', Old M M' → q (.dat (.tuple [.str "place", .none])) M') ∧
  (∀ p, placeOf ((v.ks.length : Int) + v.m) d = some p → (v.has = true → ∃ r1 r2, v.Least p r1 ∧ v.turn.Least ((v.ks.length : Int) + v.m - 1 - p) r2 ∧ (r1.natAbs < 2 ^ 1000 → (-r2).natAbs < 2 ^ 1000 → ∀ M', Old M M' → q (.dat (.tuple [.str "told", .tuple [.int r1, .int (-r2)]])) M')) ∧ (v.has = false → ∀ M', Old M M' → q (.dat (.tuple [.str "dealing", .none])) M'))
theorem best_low {v : Vs} {p r : Int} {l : List Int} (L : v.Least p r) (B : Best v r l) (h0 : 0 ≤ p) (h1 : p < v.ks.length + v.m) : nth v p l = r := by
  have e := B.deal.len
  have L' : PM.Least v.ks v.m v.lo v.hi v.tot (p.toNat : Int) r := by rw [Int.toNat_of_nonneg h0]; exact L
  obtain ⟨q1, q2⟩ := nth_at (v := v) (l := l) h0 (by omega)
  have z1 := L'.low B.deal (PM.sortI_perm _) (PM.sortI_pw _) q1
  have z2 := (PM.below_sorted (PM.sortI_pw _) q1 r).mpr (by
    rw [PM.below_perm (PM.sortI_perm _), PM.below_app, B.best]
    have := L.1
    unfold PM.under at this
    unfold Vs.dealt
    omega)
  rw [q2]
  omega
theorem best_high {v : Vs} {p r : Int} {l : List Int} (L : v.turn.Least ((v.ks.length : Int) + v.m - 1 - p) r) (D : PM.Deal v.m v.lo v.hi v.tot l) (hb : PM.above (-r) l = v.turn.dealt r) (h0 : 0 ≤ p) (h1 : p < v.ks.length + v.m) : nth v p l = -r := by
  have e := D.len
  have L' : PM.Least (v.ks.map fun n => -n) v.m (-v.hi) (-v.lo) (v.tot.map fun n => -n) ((v.ks.length : Int) + v.m - 1 - (p.toNat : Int)) r := by rw [Int.toNat_of_nonneg h0]; exact L
  obtain ⟨q1, q2⟩ := nth_at (v := v) (l := l) h0 (by omega)
  have z1 := PM.Least.high L' (by rw [(PM.sortI_perm _).length_eq, List.length_append]; omega) D (PM.sortI_perm _) (PM.sortI_pw _) q1
  have z2 := (PM.above_sorted (PM.sortI_pw _) q1 (-r)).mpr (by
    rw [PM.above_perm (PM.sortI_perm _), PM.above_app, hb, ← PM.below_neg (ns := v.ks), Int.neg_neg, (PM.sortI_perm _).length_eq, List.length_append]
    have := L.1
    unfold PM.under at this
    unfold Vs.dealt
    change _ < PM.dealt v.m (-v.hi) (-v.lo) (v.tot.map fun n => -n) r + _ at this
    show _ < _ + PM.dealt v.m (-v.hi) (-v.lo) (v.tot.map fun n => -n) r
    have e2 : PM.below r v.turn.ks = PM.below r (v.ks.map fun n => -n) := rfl
    omega)
  rw [q2]
  omega
/-- a best one of the turned ones, turned back -/
theorem best_back {v : Vs} {x : Int} {l : List Int} (B : Best v.turn x (l.map fun n => -n).reverse) : PM.Deal v.m v.lo v.hi v.tot l ∧ l.Pairwise (· ≤ ·) ∧ PM.above (-x) l = v.turn.dealt x := by
  have e1 : ((l.map fun n => -n).reverse.map fun n => -n) = l.reverse := by rw [List.map_reverse, PM.map_neg_neg]
  have d := PM.Deal.back (m := v.m) (lo := v.lo) (hi := v.hi) (tot := v.tot) B.deal
  rw [e1] at d
  refine ⟨d.perm (List.reverse_perm l), ?_, ?_⟩
  · have := B.sort
    rw [List.pairwise_reverse, List.pairwise_map] at this
    exact this.imp fun h => by omega
  · rw [← PM.below_neg, Int.neg_neg, ← B.best, PM.below_perm (List.reverse_perm _)]
def pr_place_dealing (CP CN : Addr) : PrX := fun ss M q kx => ∃ (v : Vs) (d : Dt) (g : Bool), ss = v.fl ++ [.dat d, .dat (.bool g)] ∧ v.fine ∧ v.lo ≤ v.hi ∧ (placeOf ((v.ks.length : Int) + v.m) d = none → ∀ M', Old M M' → kx CP [] M') ∧
  (∀ p, placeOf ((v.ks.length : Int) + v.m) d = some p → (v.has = true → ∀ (l : List Int) r M', M r = none → M' r = some (.lst (li l)) → PM.Deal v.m v.lo v.hi v.tot l → l.Pairwise (· ≤ ·) → (g = false → ∀ r1, v.Least p r1 → nth v p l = r1) → (g = true → ∀ r2, v.turn.Least ((v.ks.length : Int) + v.m - 1 - p) r2 → nth v p l = -r2) → Old M M' → q (.own r) M') ∧
    (v.has = false → ∀ M', Old M M' → kx CN [] M'))
def pr_over_dealing (CN : Addr) : PrX := fun ss M q kx => ∃ (v : Vs) (x : Int) (g : Bool), ss = v.fl ++ [.dat (.int x), .dat (.bool g)] ∧ v.fine ∧ v.lo ≤ v.hi ∧
  (v.has = true → ∀ (l : List Int) r M', M r = none → M' r = some (.lst (li l)) → PM.Deal v.m v.lo v.hi v.tot l → l.Pairwise (· ≤ ·) → (g = false → PM.above x (v.ks ++ l) = (v.ks.length : Int) + v.m - v.under (x - 1)) → (g = true → PM.above x (v.ks ++ l) = v.turn.under (-x)) → Old M M' → q (.own r) M') ∧
  (v.has = false → ∀ M', Old M M' → kx CN [] M')
def pr_le_is_dealing : Pr := fun ss M q => ∃ (a : Addr) (m lo hi : Int) (tot : Option Int) (l : List Int), ss = [.own a, .dat (.int m), .dat (.int lo), .dat (.int hi), .dat (totD tot)] ∧ M a = some (.lst (li l)) ∧ PM.Deal m lo hi tot l ∧ l.Pairwise (· ≤ ·) ∧ l.length ≤ 100000 ∧ q (.dat (.bool true)) M
section
variable {P : Program} {w : World} {K : PySem.W.Frag} {mg : Str → Option Value} {base : Heap}
theorem ok_place_dealing (T : Tx P K mg) : HoldsX P w K mg base 5 T.f_place_dealing T.fd_place_dealing ["kept", "many", "low", "high", "total", "place", "greatest"] (pr_place_dealing T.C_NoPlace T.C_NoDealing) := by
  refine holdsX_of T.F_place_dealing sc_place_dealing (by decide) (fun ss M q kx h => ?len) (fun cdv A outer s H E H0 kx hr wi => (xss_cons (xs_asgN (ps_set (i := 7) sc_place_dealing.nd rfl (by first | exact .inl rfl | exact .inr rfl) (xe_callX (i := 9) wi (ok_values_with_place T) (hr.mono (by decide)) T.g_values_with_place T.F_values_with_place.kp T.b_values_with_place (xa_cons (xv 0) (xa_cons (xv 1) (xa_cons (xv 2) (xa_cons (xv 3) (xa_cons (xv 4) (xa_cons (xv 5) xa_nil)))))))) simLE)
      (xss_cons (xs_if (xb_val (xv 6)) (xss_cons (xs_asgN (ps_set (i := 8) sc_place_dealing.nd rfl (by first | exact .inl rfl | exact .inr rfl) (xe_meth0 (N := Fl_Values) (ok_Values_turned T) (hr.mono (by decide)) T.cl_Values T.M_Values_turned (by decide +kernel) T.b_Values_turned (xv 7))) simLE)
      (xss_one (xs_ret (xe_call (ok_turned_dealing T) (hr.mono (by decide)) T.g_turned_dealing T.F_turned_dealing.kp T.b_turned_dealing (xa_cons (xv 8) (xa_cons (xe_meth (N := Fl_Values) (ok_Values_least_at T) (hr.mono (by decide)) T.cl_Values T.M_Values_least_at (by decide +kernel) T.b_Values_least_at (xv 8) (xa_cons (xe_sub (xe_sub (xe_meth0 (N := Fl_Values) (ok_Values_in_all T) (hr.mono (by decide)) T.cl_Values T.M_Values_in_all (by decide +kernel) T.b_Values_in_all (xv 7)) xe_int) (xv 5)) xa_nil)) xa_nil)))))) xss_nil)
      (xss_one (xs_ret (xe_meth (N := Fl_Values) (ok_Values_dealing_under T) (hr.mono (by decide)) T.cl_Values T.M_Values_dealing_under (by decide +kernel) T.b_Values_dealing_under (xv 7) (xa_cons (xe_meth (N := Fl_Values) (ok_Values_least_at T) (hr.mono (by decide)) T.cl_Values T.M_Values_least_at (by decide +kernel) T.b_Values_least_at (xv 7) (xa_cons (xv 5) xa_nil)) xa_nil))))))) (fun ss M q kx H0 h => ?read)
  case len =>
    obtain ⟨v, d, gr, rfl, _⟩ := h
    rfl
  case read =>
    obtain ⟨v, d, gr, rfl, hf, hb, k1, k2⟩ := h
    refine ⟨⟨rfl, trivial⟩, _, rfl, _, rfl, _, rfl, _, rfl, _, rfl, _, rfl, v, d, rfl, hf, fun h => k1 h M Old.refl, fun p hp => ⟨fun hh a ha => ?_, fun hh => (k2 p hp).2 hh M Old.refl⟩⟩
    obtain ⟨rfl, hp0, hp1⟩ := placeOf_some hp
    have k3 := (k2 p hp).1 hh
    refine ⟨_, rfl, And.intro (fun hg => ?_) (fun hg => ?_)⟩
    · refine ⟨_, rfl, a, _, rfl, put_at, a, v, rfl, put_at, hf, fun b hbb => ?_⟩
      have nab : a ≠ b := ne_mem put_at hbb
      have hbM := was_none (Old.refl.put ha) hbb
      have hva : VAt T.C_Values (put (put M a (.ins T.C_Values Fl_Values v.fl)) b (.ins T.C_Values Fl_Values v.turn.fl)) a v := (put_ne nab).trans put_at
      have hht : v.turn.has = true := by rw [Vs.fine.has_turn]; exact hh
      have hbt : v.turn.lo ≤ v.turn.hi := by show -v.hi ≤ -v.lo; omega
      refine ⟨_, rfl, _, rfl, b, _, rfl, put_at, _, rfl, a, _, rfl, hva, a, v, rfl, hva, _, rfl, b, v.turn, (v.ks.length : Int) + v.m - 1 - p, rfl, put_at, hf.turn, hbt, hht, by omega, ?_, fun r2 L2 => ⟨b, v.turn, r2, rfl, put_at, hf.turn, hbt, hht, fun l p' M' hp' hl B o => ?_⟩⟩
      · show _ < ((v.ks.map fun n => -n).length : Int) + v.m
        rw [List.length_map]
        omega
      obtain ⟨D, hs, hab⟩ := best_back B
      have o2 : Old M M' := ((Old.refl.put ha).put hbb).trans o
      refine k3 l p' M' (was_none ((Old.refl.put ha).put hbb) hp') hl D hs (fun z => absurd (z.symm.trans hg) Bool.false_ne_true) (fun _ r L => ?_) o2
      rw [L.uni L2]
      exact best_high L2 D hab hp0 hp1
    · refine ⟨_, rfl, a, _, rfl, put_at, _, rfl, a, _, rfl, put_at, _, rfl, a, v, p, rfl, put_at, hf, hb, hh, hp0, hp1, fun r1 L1 => ⟨a, v, r1, rfl, put_at, hf, hb, hh, fun l p' M' hp' hl B o => ?_⟩⟩
      refine k3 l p' M' (was_none (Old.refl.put ha) hp') hl B.deal B.sort (fun _ r L => ?_) (fun z => absurd (hg.symm.trans z) Bool.false_ne_true) ((Old.refl.put ha).trans o)
      rw [L.uni L1]
      exact best_low L1 B hp0 hp1
theorem ok_over_dealing (T : Tx P K mg) : HoldsX P w K mg base 5 T.f_over_dealing T.fd_over_dealing ["kept", "many", "low", "high", "total", "number", "greatest"] (pr_over_dealing T.C_NoDealing) := by
  refine holdsX_of T.F_over_dealing sc_over_dealing (by decide) (fun ss M q kx h => ?len) (fun cdv A outer s H E H0 kx hr wi => (xss_cons (xs_asgN (ps_set (i := 7) sc_over_dealing.nd rfl (by first | exact .inl rfl | exact .inr rfl) (xe_callX (i := 8) wi (ok_values_dealt T) (hr.mono (by decide)) T.g_values_dealt T.F_values_dealt.kp T.b_values_dealt (xa_cons (xv 0) (xa_cons (xv 1) (xa_cons (xv 2) (xa_cons (xv 3) (xa_cons (xv 4) xa_nil))))))) simLE)
      (xss_cons (xs_if (xb_val (xv 6)) (xss_one (xs_ret (xe_call (ok_turned_dealing T) (hr.mono (by decide)) T.g_turned_dealing T.F_turned_dealing.kp T.b_turned_dealing (xa_cons (xe_meth0 (N := Fl_Values) (ok_Values_turned T) (hr.mono (by decide)) T.cl_Values T.M_Values_turned (by decide +kernel) T.b_Values_turned (xv 7)) (xa_cons (xe_neg (xv 5)) xa_nil))))) xss_nil)
      (xss_one (xs_ret (xe_meth (N := Fl_Values) (ok_Values_dealing_under T) (hr.mono (by decide)) T.cl_Values T.M_Values_dealing_under (by decide +kernel) T.b_Values_dealing_under (xv 7) (xa_cons (xe_sub (xv 5) xe_int) xa_nil))))))) (fun ss M q kx H0 h => ?read)
  case len =>
    obtain ⟨v, x, gr, rfl, _⟩ := h
    rfl
  case read =>
    obtain ⟨v, x, gr, rfl, hf, hb, k1, k2⟩ := h
    refine ⟨⟨rfl, trivial⟩, _, rfl, _, rfl, _, rfl, _, rfl, _, rfl, v, rfl, hf, fun hh a ha => ?_, fun hh => k2 hh M Old.refl⟩
    have k3 := k1 hh
    refine ⟨_, rfl, And.intro (fun hg => ?_) (fun hg => ?_)⟩
    · refine ⟨_, rfl, a, _, rfl, put_at, a, v, rfl, put_at, hf, fun b hbb => ?_⟩
      have hht : v.turn.has = true := by rw [Vs.fine.has_turn]; exact hh
      have hbt : v.turn.lo ≤ v.turn.hi := by show -v.hi ≤ -v.lo; omega
      refine ⟨_, rfl, b, v.turn, -x, rfl, put_at, hf.turn, hbt, hht, fun l p' M' hp' hl B o => ?_⟩
      obtain ⟨D, hs, hab⟩ := best_back B
      refine k3 l p' M' (was_none ((Old.refl.put ha).put hbb) hp') hl D hs (fun z => absurd (z.symm.trans hg) Bool.false_ne_true) (fun _ => ?_) (((Old.refl.put ha).put hbb).trans o)
      rw [Int.neg_neg] at hab
      rw [PM.above_app, hab, ← PM.below_neg (ns := v.ks)]
      unfold Vs.under
      exact Int.add_comm _ _
    · refine ⟨_, rfl, a, _, rfl, put_at, _, rfl, a, v, x - 1, rfl, put_at, hf, hb, hh, fun l p' M' hp' hl B o => ?_⟩
      refine k3 l p' M' (was_none (Old.refl.put ha) hp') hl B.deal B.sort (fun _ => ?_) (fun z => absurd (hg.symm.trans z) Bool.false_ne_true) ((Old.refl.put ha).trans o)
      have e := B.deal.len
      rw [PM.above_below, PM.below_app, B.best, List.length_append]
      unfold Vs.under
      omega
end
end LW
namespace LW
open PySem PySem.Spec PyProof.Rows DL
open L2 hiding del del_ne del_same
abbrev prI (b : Int × Int) : Dt := .tuple [.int b.1, .int b.2]
abbrev bsD (bs : List (Int × Int)) : Dt := .list (bs.map prI)
abbrev lb (bs : List (Int × Int)) : List Sl := bs.map fun b => .dat (prI b)
theorem lb_dat (bs : List (Int × Int)) : lb bs = (bs.map prI).map Sl.dat := by rw [List.map_map]; rfl
theorem isLb {M : Mem} {bs : List (Int × Int)} : IsL M (.dat (bsD bs)) (lb bs) := by rw [lb_dat]; exact IsL.dat
structure Ok (v : Vs) : Prop where
  fine : v.fine
  lh : v.lo ≤ v.hi
  has : v.has = true
  few : v.ks.length ≤ 20
  m : 0 ≤ v.m ∧ v.m ≤ 20
/-- the bounds at every place -/
structure Bds (v : Vs) (bs : List (Int × Int)) : Prop where
  len : (bs.length : Int) = v.ks.length + v.m
  at_ : ∀ (k : Nat) (b : Int × Int), bs[k]? = some b → v.Least k b.1 ∧ v.turn.Least ((v.ks.length : Int) + v.m - 1 - k) (-b.2)
theorem Bds.uni {v : Vs} {bs cs : List (Int × Int)} (h : Bds v bs) (h' : Bds v cs) : bs = cs := by
  refine List.ext_getElem? fun k => ?_
  have l1 := h.len
  have l2 := h'.len
  rcases Nat.lt_or_ge k bs.length with hk | hk
  · obtain ⟨b, hb⟩ : ∃ b, bs[k]? = some b := ⟨bs[k], List.getElem?_eq_getElem hk⟩
    obtain ⟨c, hc⟩ : ∃ c, cs[k]? = some c := ⟨cs[k]'(by omega), List.getElem?_eq_getElem (by omega)⟩
    rw [hb, hc]
    obtain ⟨x1, x2⟩ := h.at_ k b hb
    obtain ⟨y1, y2⟩ := h'.at_ k c hc
    have e1 := PM.Least.uni x1 y1
    have e2 := PM.Least.uni x2 y2
    exact congrArg some (Prod.ext e1 (by omega))
  · rw [List.getElem?_eq_none hk, List.getElem?_eq_none (by omega)]
theorem turn_turn (v : Vs) : v.turn.turn = v := by
  obtain ⟨ks, m, lo, hi, tot⟩ := v
  show Vs.mk ((ks.map fun n => -n).map fun n => -n) m (- -lo) (- -hi) ((tot.map fun n => -n).map fun n => -n) = _
  rw [PM.map_neg_neg, Int.neg_neg, Int.neg_neg]
  cases tot with
  | none => rfl
  | some t =>
    show Vs.mk ks m lo hi (some (- -t)) = _
    rw [Int.neg_neg]
theorem Bds.turn {v : Vs} {bs : List (Int × Int)} (h : Bds v bs) : Bds v.turn (bs.reverse.map fun b => (-b.2, -b.1)) := by
  have l1 := h.len
  have lk : v.turn.ks.length = v.ks.length := List.length_map ..
  have lm : v.turn.m = v.m := rfl
  refine ⟨by rw [List.length_map, List.length_reverse, lk, lm]; exact l1, fun k b hb => ?_⟩
  rw [List.getElem?_map] at hb
  cases hc : bs.reverse[k]? with
  | none => rw [hc] at hb; cases hb
  | some c =>
  rw [hc] at hb
  cases hb
  have hk : k < bs.length := by
    have := (List.getElem?_eq_some_iff.mp hc).1
    rw [List.length_reverse] at this
    exact this
  rw [List.getElem?_reverse hk] at hc
  obtain ⟨x1, x2⟩ := h.at_ _ c hc
  have e : ((bs.length - 1 - k : Nat) : Int) = (v.ks.length : Int) + v.m - 1 - k := by omega
  rw [e] at x1 x2
  dsimp only
  refine ⟨?_, ?_⟩
  · rw [show (k : Int) = (v.ks.length : Int) + v.m - 1 - ((v.ks.length : Int) + v.m - 1 - k) by omega]
    exact x2
  · rw [turn_turn, Int.neg_neg, lk, lm]
    exact x1
def Vs.move (v : Vs) (b : Int) : Vs := ⟨v.ks.map fun n => n + b, v.m, v.lo + b, v.hi + b, v.tot.map fun n => n + v.m * b⟩
theorem Vs.move_turn (v : Vs) (b : Int) : (v.move b).turn = v.turn.move (-b) := by
  obtain ⟨ks, m, lo, hi, tot⟩ := v
  show Vs.mk ((ks.map fun n => n + b).map fun n => -n) m (-(hi + b)) (-(lo + b)) ((tot.map fun n => n + m * b).map fun n => -n) = Vs.mk ((ks.map fun n => -n).map fun n => n + -b) m (-hi + -b) (-lo + -b) ((tot.map fun n => -n).map fun n => n + m * -b)
  have e1 : ((ks.map fun n => n + b).map fun n => -n) = ((ks.map fun n => -n).map fun n => n + -b) := by
    rw [List.map_map, List.map_map]
    exact List.map_congr_left fun n _ => by show -(n + b) = -n + -b; omega
  have e2 : ((tot.map fun n => n + m * b).map fun n => -n) = ((tot.map fun n => -n).map fun n => n + m * -b) := by
    cases tot with
    | none => rfl
    | some t =>
      show some (-(t + m * b)) = some (-t + m * -b)
      rw [Int.mul_neg]
      congr 1
      omega
  rw [e1, e2, show -(hi + b) = -hi + -b by omega, show -(lo + b) = -lo + -b by omega]
theorem Bds.move {v : Vs} {bs : List (Int × Int)} (b : Int) (h : Bds v bs) : Bds (v.move b) (bs.map fun c => (c.1 + b, c.2 + b)) := by
  have l1 := h.len
  have lk : (v.move b).ks.length = v.ks.length := List.length_map ..
  have lm : (v.move b).m = v.m := rfl
  refine ⟨by rw [List.length_map, lk, lm]; exact l1, fun k c hc => ?_⟩
  rw [List.getElem?_map] at hc
  cases hd : bs[k]? with
  | none => rw [hd] at hc; cases hc
  | some d =>
  rw [hd] at hc
  cases hc
  obtain ⟨x1, x2⟩ := h.at_ k d hd
  refine ⟨PM.Least.move x1, ?_⟩
  rw [Vs.move_turn, lk, lm]
  have := PM.Least.move (b := -b) x2
  rw [show -(d.2 + b) = -d.2 + -b by omega]
  exact this
theorem Ok.turn {v : Vs} (h : Ok v) : Ok v.turn := by
  have h1 := h.lh
  have h2 := h.few
  refine ⟨h.fine.turn, by show -v.hi ≤ -v.lo; omega, by rw [Vs.fine.has_turn]; exact h.has, by show (v.ks.map fun n => -n).length ≤ 20; rw [List.length_map]; exact h2, h.m⟩
theorem Bds.narrow {v v' : Vs} {bs cs : List (Int × Int)} (o : Ok v) (o' : Ok v') (h : Bds v bs) (h' : Bds v' cs) (n : (v'.ks.length : Int) + v'.m = v.ks.length + v.m)
    (sub : ∀ l', PM.Deal v'.m v'.lo v'.hi v'.tot l' → ∃ l, PM.Deal v.m v.lo v.hi v.tot l ∧ (v'.ks ++ l').Perm (v.ks ++ l)) {k : Nat} {c b : Int × Int} (hc : cs[k]? = some c) (hb : bs[k]? = some b) : b.1 ≤ c.1 ∧ c.2 ≤ b.2 := by
  have l1 := h'.len
  have hk := (List.getElem?_eq_some_iff.mp hc).1
  obtain ⟨x1, x2⟩ := h.at_ k b hb
  obtain ⟨y1, y2⟩ := h'.at_ k c hc
  have H' := Vs.has_iff.mp o'.has
  refine ⟨PM.narrow_low o'.m.1 o'.lh H' (by omega) x1 y1 sub, ?_⟩
  rw [← n] at x2
  have := PM.narrow_high o'.m.1 o'.lh H' (p := k) (by omega) rfl x2 y2 sub
  omega
/-- what was dealt lies within the bounds -/
theorem Bds.holds {v : Vs} {bs : List (Int × Int)} (h : Bds v bs) {l s : List Int} (d : PM.Deal v.m v.lo v.hi v.tot l) (hp : s.Perm (v.ks ++ l)) (hs : s.Pairwise (· ≤ ·)) {k : Nat} {b : Int × Int} {n : Int} (hb : bs[k]? = some b) (hn : s[k]? = some n) : b.1 ≤ n ∧ n ≤ b.2 := by
  obtain ⟨x1, x2⟩ := h.at_ k b hb
  obtain ⟨hk, e⟩ := List.getElem?_eq_some_iff.mp hn
  have e1 := d.len
  have e2 := hp.length_eq
  rw [List.length_append] at e2
  have h1 := PM.Least.low x1 d hp hs hk
  have h2 := PM.Least.high x2 (by omega) d hp hs hk
  omega
theorem Bds.low_up {v : Vs} {bs : List (Int × Int)} (h : Bds v bs) : (bs.map (·.1)).Pairwise (· ≤ ·) := by
  refine List.pairwise_iff_getElem.mpr fun i j hi hj hij => ?_
  rw [List.length_map] at hi hj
  rw [List.getElem_map, List.getElem_map]
  exact PM.Least.up (h.at_ i bs[i] (List.getElem?_eq_getElem hi)).1 (h.at_ j bs[j] (List.getElem?_eq_getElem hj)).1 (by omega)
theorem Bds.high_up {v : Vs} {bs : List (Int × Int)} (h : Bds v bs) : (bs.map (·.2)).Pairwise (· ≤ ·) := by
  refine List.pairwise_iff_getElem.mpr fun i j hi hj hij => ?_
  rw [List.length_map] at hi hj
  rw [List.getElem_map, List.getElem_map]
  have := PM.Least.up (h.at_ j bs[j] (List.getElem?_eq_getElem hj)).2 (h.at_ i bs[i] (List.getElem?_eq_getElem hi)).2 (by omega)
  omega
theorem Bds.snoc {v : Vs} {bs : List (Int × Int)} {b : Int × Int} (h : ∀ (k : Nat) (b : Int × Int), bs[k]? = some b → v.Least k b.1 ∧ v.turn.Least ((v.ks.length : Int) + v.m - 1 - k) (-b.2)) (hb : v.Least (bs.length : Int) b.1 ∧ v.turn.Least ((v.ks.length : Int) + v.m - 1 - (bs.length : Int)) (-b.2)) :
    ∀ (k : Nat) (c : Int × Int), (bs ++ [b])[k]? = some c → v.Least k c.1 ∧ v.turn.Least ((v.ks.length : Int) + v.m - 1 - k) (-c.2) := fun k c hc => by
  rcases Nat.lt_or_ge k bs.length with hk | hk
  · rw [List.getElem?_append_left hk] at hc
    exact h k c hc
  · rw [List.getElem?_append_right hk] at hc
    obtain ⟨hz, e⟩ := List.getElem?_eq_some_iff.mp hc
    have hz' : k - bs.length < 1 := hz
    have ek : k = bs.length := by omega
    subst ek
    simp at e
    rw [← e]
    exact hb
/-- over a zip, all true -/
theorem lc_allZ {s u : Sl} {ds es : List Dt} {M1 : Mem} {Γ : Fm} {vs js : List Nat} {el : DE} {K : Addr → Mem → Prop} (ls : IsL M1 s (ds.map .dat)) (lu : IsL M1 u (es.map .dat)) (hz : ds.length < 16777216) (hj : js.length = 2)
    (he : ∀ (i : Nat) x y, ds[i]? = some x → es[i]? = some y → ∀ (M' : Mem) (k' : DK), (∀ a o, M1 a = some o → M' a = some o) → k' (.dat (.bool true)) M' → el (setsF (wipeF Γ vs) js [x, y]) M' k') (hk : ∀ p n, M1 p = none → K p (put M1 p (.lst (List.replicate n (.dat (.bool true)))))) :
    ∃ (ds' es' : List Dt) (s' u' : Sl), [s, u] = [s', u'] ∧ IsL M1 s' (ds'.map .dat) ∧ IsL M1 u' (es'.map .dat) ∧ ∀ p, M1 p = none → ∃ Inv : Nat → Mem → Prop, Inv 0 (put M1 p (.lst [])) ∧
      (∀ i M', Inv i M' → IsL M' s' (ds'.map .dat) ∧ IsL M' u' (es'.map .dat)) ∧
      (∀ i x y M', ds'[i]? = some x → es'[i]? = some y → Inv i M' → lcTurnP p Γ vs js dYes el (Inv (i + 1)) (.dat (.tuple [x, y])) M') ∧ ∀ M', Inv (min ds'.length es'.length) M' → K p M' := by
  refine ⟨ds, es, s, u, rfl, ls, lu, fun p hp => ⟨fun i M' => i ≤ min ds.length es.length ∧ M' = put M1 p (.lst (List.replicate i (.dat (.bool true)))), ⟨Nat.zero_le _, rfl⟩, fun i M' e => by rw [e.2]; exact ⟨ls.put hp, lu.put hp⟩, fun i x y M' hx hy e => ?_, fun M' e => by rw [e.2]; exact hk p _ hp⟩⟩
  obtain ⟨hi, rfl⟩ := e
  have h1 := (List.getElem?_eq_some_iff.mp hx).1
  have h2 := (List.getElem?_eq_some_iff.mp hy).1
  refine ⟨[x, y], rfl, hj.symm, fun _ => he i x y hx hy _ _ (fun a o h => (put_ne (ne_mem h hp)).trans h) ?_, fun z => nomatch z⟩
  refine ⟨_, put_at, by rw [List.length_replicate]; omega, by omega, ?_⟩
  show put (put M1 p _) p (.lst (List.replicate i _ ++ [_])) = _
  rw [put_put, List.replicate_succ']
theorem boolsD_rep : ∀ n : Nat, boolsD (List.replicate n (.dat (.bool true))) = some (List.replicate n true)
  | 0 => rfl
  | n + 1 => by
    rw [List.replicate_succ, List.replicate_succ]
    show (boolsD (List.replicate n (.dat (.bool true)))).map (true :: ·) = _
    rw [boolsD_rep n] <;> rfl
theorem all_rep (n : Nat) : (List.replicate n true).all id = true := List.all_eq_true.mpr fun x hx => (List.eq_of_mem_replicate hx)
def pr_le_bounds : Pr := fun ss M q => ∃ v : Vs, ss = [.dat (.tuple v.ds)] ∧ Ok v ∧ ∀ bs M', Bds v bs → Old M M' → q (.dat (bsD bs)) M'
def pr_le_about : Pr := fun ss M q => ∃ v : Vs, ss = [.dat (.tuple v.ds)] ∧ v.ks.length ≤ 1000 ∧ q (.dat (.tuple v.turn.ds)) M
def pr_le_greater : Pr := fun ss M q => ∃ (v : Vs) (b : Int), ss = [.dat (.tuple v.ds), .dat (.int b)] ∧ v.ks.length ≤ 1000 ∧ (0 ≤ v.m ∧ v.m ≤ 1000) ∧ q (.dat (.tuple (v.move b).ds)) M
def pr_le_within : Pr := fun ss M q => ∃ xs ys : List (Int × Int), ss = [.dat (bsD xs), .dat (bsD ys)] ∧ xs.length ≤ 1000 ∧ (∀ (k : Nat) (a b : Int × Int), xs[k]? = some a → ys[k]? = some b → b.1 ≤ a.1 ∧ a.2 ≤ b.2) ∧ q (.dat (.bool true)) M
theorem bs_at {bs : List (Int × Int)} {i : Nat} {x : Dt} (h : (bs.map prI)[i]? = some x) : ∃ b, bs[i]? = some b ∧ x = prI b := by
  rw [List.getElem?_map] at h
  cases hb : bs[i]? with
  | none => rw [hb] at h; cases h
  | some b => rw [hb] at h; cases h; exact ⟨b, rfl, rfl⟩
section
variable {P : Program} {w : World} {K : PySem.W.Frag} {mg : Str → Option Value} {base : Heap}
theorem ok_le_bounds (T : Tx P K mg) : Holds P w K mg base 6 T.f_le_bounds T.fd_le_bounds ["case"] pr_le_bounds := by
  refine holds_of T.F_le_bounds sc_le_bounds (fun ss M q h => ?len) (fun cdv A outer s H hr => (xss_cons (xs_asg (ps_asg (xv 0) (xg_tup (pg_tup (n := 5) rfl (xgs_cons (pgs_cons (xg_name (pg_name (i := 1) sc_le_bounds.nd rfl (by first | exact .inl rfl | exact .inr rfl))) (xgs_cons (pgs_cons (xg_name (pg_name (i := 2) sc_le_bounds.nd rfl (by first | exact .inl rfl | exact .inr rfl))) (xgs_cons (pgs_cons (xg_name (pg_name (i := 3) sc_le_bounds.nd rfl (by first | exact .inl rfl | exact .inr rfl))) (xgs_cons (pgs_cons (xg_name (pg_name (i := 4) sc_le_bounds.nd rfl (by first | exact .inl rfl | exact .inr rfl))) (xgs_cons (pgs_cons (xg_name (pg_name (i := 5) sc_le_bounds.nd rfl (by first | exact .inl rfl | exact .inr rfl))) xgs_nil))))))))))))))
      (xss_one (xs_ret (xe_fz (xe_lcR1 (pe_lc (own := [("place", 6)]) (g := gName 6) (tt := LB _) rfl sc_le_bounds.nd (pi_range1 rfl T.m_range (xa_cons (xe_addD (xe_callB sim_len (pe_callB call_lenA rfl T.m_len (by decide +kernel) (xa_cons (xv 1) xa_nil))) (xv 2)) xa_nil)) (blkOk_by (own := [("place", 6)]) (N := N_le_bounds) (sc := defScope s_le_bounds) (by decide +kernel)) (fun _ _ _ _ _ => pg_name (i := 6) sc_le_bounds.nd rfl (.inl rfl)) (fun _ _ _ _ _ => xts_nil) (fun _ _ _ _ _ => (xe_callN (ok_place_bounds T) (hr.mono (by decide)) T.g_place_bounds T.F_place_bounds.kp T.b_place_bounds (xa_cons (xv 1) (xa_cons (xv 2) (xa_cons (xv 3) (xa_cons (xv 4) (xa_cons (xv 5) (xa_cons (xv 6) xa_nil))))))))) (by decide))))))) (fun ss M q h => ?read)
  case len =>
    obtain ⟨v, rfl, _⟩ := h
    rfl
  case read =>
    obtain ⟨v, rfl, o, k⟩ := h
    have few := o.few
    have hm := o.m
    have lh := o.lh
    refine ⟨_, rfl, rfl, ?_⟩
    have el : ((v.ks.map PyData.int).length : Int) = (v.ks.length : Int) := by rw [List.length_map]
    refine ⟨_, rfl, _, rfl, 0, ((v.ks.map PyData.int).length : Int) + v.m, rfl, ⟨by decide, by decide, by omega, by omega⟩, fun p hp => ?_⟩
    refine ⟨fun j M' => ∃ bs : List (Int × Int), M' p = some (.lst (lb bs)) ∧ bs.length = j ∧ (∀ (k : Nat) (b : Int × Int), bs[k]? = some b → v.Least k b.1 ∧ v.turn.Least ((v.ks.length : Int) + v.m - 1 - k) (-b.2)) ∧ Old M M', ⟨[], put_at, rfl, fun k b h => by simp at h, Old.refl.put hp⟩, fun j M' hj ⟨bs, hd, hl, hx, O6⟩ => ?_, fun M' ⟨bs, hd, hl, hx, O6⟩ => ?_⟩
    · have hp0 : (0 : Int) ≤ 0 + (j : Int) := by omega
      have hp1 : 0 + (j : Int) < v.ks.length + v.m := by omega
      have hpl : placeOf ((v.ks.length : Int) + v.m) (.int (0 + (j : Int))) = some (0 + (j : Int)) := if_pos ⟨hp0, hp1⟩
      refine ⟨fun _ => ⟨_, rfl, _, rfl, _, rfl, _, rfl, _, rfl, _, rfl, v, .int (0 + (j : Int)), rfl, o.fine, o.lh, fun h => absurd (hpl.symm.trans h) nofun, fun p' h' => ⟨fun _ r1 r2 M7 L1 L2 o7 => ?_, fun h => absurd (h.symm.trans o.has) Bool.false_ne_true⟩⟩, fun z => nomatch z⟩
      have e3 : p' = 0 + (j : Int) := Option.some.inj (h'.symm.trans hpl)
      subst e3
      rw [Int.zero_add] at L1 L2
      have hd7 := o7.at hd
      refine ⟨_, hd7, by rw [List.length_map]; omega, bs ++ [(r1, -r2)], ?_, by rw [List.length_append, hl]; rfl, Bds.snoc hx ?_, fun x hx' => ?_⟩
      · rw [put_at]
        exact congrArg (fun z => some (MO.lst z)) (show lb bs ++ [Sl.dat (prI (r1, -r2))] = lb (bs ++ [(r1, -r2)]) from by show lb bs ++ _ = List.map _ (bs ++ [_]); rw [List.map_append]; rfl)
      · rw [hl]
        dsimp only
        rw [Int.neg_neg]
        exact ⟨L1, L2⟩
      · have h2 := O6 x hx'
        rw [put_ne fun e => hx' (by rw [e]; exact hp), o7 x (by rw [h2]; exact hx'), h2]
    refine ⟨bs.map prI, hd.trans (by rw [lb_dat]), ?_⟩
    refine k bs _ ⟨by omega, hx⟩ fun x hx' => ?_
    rw [del_ne fun e => hx' (by rw [e]; exact hp)]
    exact O6 x hx'
theorem ok_le_about (T : Tx P K mg) : Holds P w K mg base 1 T.f_le_about T.fd_le_about ["case"] pr_le_about := by
  refine holds_of T.F_le_about sc_le_about (fun ss M q h => ?len) (fun cdv A outer s H hr => (xss_cons (xs_asg (ps_asg (xv 0) (xg_tup (pg_tup (n := 5) rfl (xgs_cons (pgs_cons (xg_name (pg_name (i := 2) sc_le_about.nd rfl (by first | exact .inl rfl | exact .inr rfl))) (xgs_cons (pgs_cons (xg_name (pg_name (i := 3) sc_le_about.nd rfl (by first | exact .inl rfl | exact .inr rfl))) (xgs_cons (pgs_cons (xg_name (pg_name (i := 4) sc_le_about.nd rfl (by first | exact .inl rfl | exact .inr rfl))) (xgs_cons (pgs_cons (xg_name (pg_name (i := 5) sc_le_about.nd rfl (by first | exact .inl rfl | exact .inr rfl))) (xgs_cons (pgs_cons (xg_name (pg_name (i := 6) sc_le_about.nd rfl (by first | exact .inl rfl | exact .inr rfl))) xgs_nil))))))))))))))
      (xss_cons (xs_asgN (ps_set (i := 1) sc_le_about.nd rfl (by first | exact .inl rfl | exact .inr rfl) (xe_if (xb_cmp sim_is (pt_cmpR (L2.OpR.or op_isBl op_isN) (xv 6) xe_non (nomark _))) xe_non (xe_sub xe_int (xv 6)))) simLE)
      (xss_one (xs_ret (xe_tup (xa_cons (xe_fz (xe_lcL (pe_lc (own := [("value", 7)]) (g := gName 7) (tt := LB _) rfl sc_le_about.nd (pi_list (xv 2)) (blkOk_by (own := [("value", 7)]) (N := N_le_about) (sc := defScope s_le_about) (by decide +kernel)) (fun _ _ _ _ _ => pg_name (i := 7) sc_le_about.nd rfl (.inl rfl)) (fun _ _ _ _ _ => xts_nil) (fun _ _ _ _ _ => (xe_sub xe_int (xv 7)))) (by decide))) (xa_cons (xv 3) (xa_cons (xe_sub xe_int (xv 5)) (xa_cons (xe_sub xe_int (xv 4)) (xa_cons (xv 1) xa_nil))))))))))) (fun ss M q h => ?read)
  case len =>
    obtain ⟨v, rfl, _⟩ := h
    rfl
  case read =>
    obtain ⟨v, rfl, hz, k⟩ := h
    refine ⟨_, rfl, rfl, ?_⟩
    have go : ∀ N : Dt, N = totD v.turn.tot → (dRet (dTup (dCons (dFz (dLcL (dV 2) 7 dYes (dOp (fI0 fun i j => .int (i - j)) (dC (.int 0)) (dV 7)) [7])) (dCons (dV 3) (dCons (dOp (fI0 fun i j => .int (i - j)) (dC (.int 0)) (dV 5)) (dCons (dOp (fI0 fun i j => .int (i - j)) (dC (.int 0)) (dV 4)) (dCons (dV 1) dNil))))))) { nx := fun _ M' => q (.dat .none) M', rt := q } [some (.dat (.tuple v.ds)), some (.dat N), some (.dat (.list (v.ks.map .int))), some (.dat (.int v.m)), some (.dat (.int v.lo)), some (.dat (.int v.hi)), some (.dat (totD v.tot)), none] M := by
      intro N hN
      refine ⟨_, rfl, lc_mapK (f := fun s => match s with | .dat (.int n) => Sl.dat (.int (-n)) | s => s) (xs := li v.ks) (by rw [li_dat]; exact IsL.dat) (by rw [List.length_map]; omega) (fun x hx M' k' _ hgo => ?_) fun p hp => ?_⟩
      · obtain ⟨n, _, rfl⟩ := List.mem_map.mp hx
        refine ⟨_, rfl, ?_⟩
        show k' (.dat (.int (0 - n))) M'
        rw [Int.zero_sub]
        exact hgo
      refine ⟨(v.ks.map fun n => -n).map .int, put_at.trans (congrArg (fun z => some (MO.lst z)) ((li_map (fun n => -n) v.ks).trans (li_dat _))), ?_⟩
      rw [del_put hp]
      refine ⟨_, rfl, _, rfl, _, rfl, _, rfl, rfl, _, rfl, ?_⟩
      rw [hN]
      show q (.dat (.tuple [.list ((v.ks.map fun n => -n).map .int), .int v.m, .int (0 - v.hi), .int (0 - v.lo), totD v.turn.tot])) M
      rw [Int.zero_sub, Int.zero_sub]
      exact k
    refine ⟨_, rfl, ?_⟩
    cases e : v.tot with
    | none =>
      rw [e] at go
      exact And.intro (fun _ => go _ (by show _ = totD (v.tot.map _); rw [e]; rfl)) (fun z => nomatch z)
    | some t =>
      rw [e] at go
      refine And.intro (fun z => nomatch z) (fun _ => ⟨_, rfl, ?_⟩)
      exact go (.int (0 - t)) (by rw [Int.zero_sub]; show _ = totD (v.tot.map _); rw [e]; rfl)
theorem ok_le_greater (T : Tx P K mg) : Holds P w K mg base 1 T.f_le_greater T.fd_le_greater ["case", "by"] pr_le_greater := by
  refine holds_of T.F_le_greater sc_le_greater (fun ss M q h => ?len) (fun cdv A outer s H hr => (xss_cons (xs_asg (ps_asg (xv 0) (xg_tup (pg_tup (n := 5) rfl (xgs_cons (pgs_cons (xg_name (pg_name (i := 3) sc_le_greater.nd rfl (by first | exact .inl rfl | exact .inr rfl))) (xgs_cons (pgs_cons (xg_name (pg_name (i := 4) sc_le_greater.nd rfl (by first | exact .inl rfl | exact .inr rfl))) (xgs_cons (pgs_cons (xg_name (pg_name (i := 5) sc_le_greater.nd rfl (by first | exact .inl rfl | exact .inr rfl))) (xgs_cons (pgs_cons (xg_name (pg_name (i := 6) sc_le_greater.nd rfl (by first | exact .inl rfl | exact .inr rfl))) (xgs_cons (pgs_cons (xg_name (pg_name (i := 7) sc_le_greater.nd rfl (by first | exact .inl rfl | exact .inr rfl))) xgs_nil))))))))))))))
      (xss_cons (xs_asgN (ps_set (i := 2) sc_le_greater.nd rfl (by first | exact .inl rfl | exact .inr rfl) (xe_if (xb_cmp sim_is (pt_cmpR (L2.OpR.or op_isBl op_isN) (xv 7) xe_non (nomark _))) xe_non (xe_addD (xv 7) (xe_mul (xv 4) (xv 1))))) simLE)
      (xss_one (xs_ret (xe_tup (xa_cons (xe_fz (xe_lcL (pe_lc (own := [("value", 8)]) (g := gName 8) (tt := LB _) rfl sc_le_greater.nd (pi_list (xv 3)) (blkOk_by (own := [("value", 8)]) (N := N_le_greater) (sc := defScope s_le_greater) (by decide +kernel)) (fun _ _ _ _ _ => pg_name (i := 8) sc_le_greater.nd rfl (.inl rfl)) (fun _ _ _ _ _ => xts_nil) (fun _ _ _ _ _ => (xe_addD (xv 8) (xv 1)))) (by decide))) (xa_cons (xv 4) (xa_cons (xe_addD (xv 5) (xv 1)) (xa_cons (xe_addD (xv 6) (xv 1)) (xa_cons (xv 2) xa_nil))))))))))) (fun ss M q h => ?read)
  case len =>
    obtain ⟨v, b, rfl, _⟩ := h
    rfl
  case read =>
    obtain ⟨v, b, rfl, hz, hm, k⟩ := h
    refine ⟨_, rfl, rfl, ?_⟩
    have go : ∀ N : Dt, N = totD (v.move b).tot → (dRet (dTup (dCons (dFz (dLcL (dV 3) 8 dYes (dOp fAddD (dV 8) (dV 1)) [8])) (dCons (dV 4) (dCons (dOp fAddD (dV 5) (dV 1)) (dCons (dOp fAddD (dV 6) (dV 1)) (dCons (dV 2) dNil))))))) { nx := fun _ M' => q (.dat .none) M', rt := q } [some (.dat (.tuple v.ds)), some (.dat (.int b)), some (.dat N), some (.dat (.list (v.ks.map .int))), some (.dat (.int v.m)), some (.dat (.int v.lo)), some (.dat (.int v.hi)), some (.dat (totD v.tot)), none] M := by
      intro N hN
      refine ⟨_, rfl, lc_mapK (f := fun s => match s with | .dat (.int n) => Sl.dat (.int (n + b)) | s => s) (xs := li v.ks) (by rw [li_dat]; exact IsL.dat) (by rw [List.length_map]; omega) (fun x hx M' k' _ hgo => ?_) fun p hp => ?_⟩
      · obtain ⟨n, _, rfl⟩ := List.mem_map.mp hx
        exact ⟨_, rfl, _, rfl, hgo⟩
      refine ⟨(v.ks.map fun n => n + b).map .int, put_at.trans (congrArg (fun z => some (MO.lst z)) ((li_map (fun n => n + b) v.ks).trans (li_dat _))), ?_⟩
      rw [del_put hp]
      refine ⟨_, rfl, _, rfl, _, rfl, _, rfl, _, rfl, _, rfl, rfl, _, rfl, ?_⟩
      rw [hN]
      exact k
    refine ⟨_, rfl, ?_⟩
    cases e : v.tot with
    | none =>
      rw [e] at go
      exact And.intro (fun _ => go _ (by show _ = totD (v.tot.map _); rw [e]; rfl)) (fun z => nomatch z)
    | some t =>
      rw [e] at go
      refine And.intro (fun z => nomatch z) (fun _ => ⟨_, rfl, _, rfl, _, rfl, .inl ⟨by omega, by omega⟩, ?_⟩)
      exact go _ (by show _ = totD (v.tot.map _); rw [e]; rfl)
theorem ok_le_within (T : Tx P K mg) : Holds P w K mg base 1 T.f_le_within T.fd_le_within ["inner", "outer"] pr_le_within := by
  refine holds_of T.F_le_within sc_le_within (fun ss M q h => ?len) (fun cdv A outer s H hr => (xss_one (xs_ret (xe_callB sim_all (pe_callB (cr_all rfl) rfl T.m_all (by decide +kernel) (xa_cons (xe_lcZP (js := [2, 3]) (pe_lc (own := [("one", 2), ("two", 3)]) (g := gTup _ 2 (gNs [2, 3])) (tt := LB _) rfl sc_le_within.nd (pi_zip rfl T.m_zip (xa_cons (xv 0) (xa_cons (xv 1) xa_nil))) (blkOk_by (own := [("one", 2), ("two", 3)]) (N := N_le_within) (sc := defScope s_le_within) (by decide +kernel)) (fun _ _ _ _ _ => pg_tup (n := 2) rfl (pgs_cons (pg_name (i := 2) sc_le_within.nd rfl (.inl rfl)) (pgs_cons (pg_name (i := 3) sc_le_within.nd rfl (.inl rfl)) (pgs_nil)))) (fun _ _ _ _ _ => xts_nil) (fun _ _ _ _ _ => (xe_and (xe_ge (xe_ix (xv 2) xe_int) (xe_ix (xv 3) xe_int)) (xe_one (xe_le (xe_ix (xv 2) xe_int) (xe_ix (xv 3) xe_int)))))) rfl (by decide)) xa_nil)))))) (fun ss M q h => ?read)
  case len =>
    obtain ⟨xs, ys, rfl, _⟩ := h
    rfl
  case read =>
    obtain ⟨xs, ys, rfl, hz, hw, k⟩ := h
    refine ⟨_, rfl, _, rfl, lc_allZ (ds := xs.map prI) (es := ys.map prI) IsL.dat IsL.dat (by rw [List.length_map]; omega) rfl (fun i x y hx hy M' k' _ hgo => ?_) fun p n hp => ?_⟩
    · obtain ⟨a, ha, rfl⟩ := bs_at hx
      obtain ⟨b, hb, rfl⟩ := bs_at hy
      have := hw i a b ha hb
      refine ⟨_, rfl, .int a.1, rfl, _, rfl, .int b.1, rfl, And.intro (fun _ => ?_) (fun z => absurd this.1 (of_decide_eq_false z))⟩
      refine ⟨_, rfl, .int a.2, rfl, _, rfl, .int b.2, rfl, ?_⟩
      show k' (.dat (.bool (decide (a.2 ≤ b.2)))) M'
      rw [decide_eq_true this.2]
      exact hgo
    refine ⟨_, _, put_at, boolsD_rep n, ?_⟩
    rw [all_rep, del_put hp]
    exact k
end
end LW
namespace LW
open PySem PySem.Spec PyProof.Rows DL
open L2 hiding del del_ne del_same
theorem isLi2 {M : Mem} {a b : List Int} : IsL M (.dat (.list (a.map .int ++ b.map .int))) (li (a ++ b)) := by
  rw [← List.map_append]
  exact isLi
theorem canLay_prs : ∀ bs : List (Int × Int), PyData.canLayAll0 (bs.map prI) = true
  | [] => rfl
  | b :: bs => by
    show (PyData.canLay0 (prI b) && PyData.canLayAll0 (bs.map prI)) = true
    rw [canLay_prs bs]
    rfl
theorem depth_prs : ∀ bs : List (Int × Int), PyData.depthAll (bs.map prI) ≤ 2
  | [] => by decide
  | b :: bs => by
    show max (PyData.depth (prI b)) (PyData.depthAll (bs.map prI)) ≤ 2
    have := depth_prs bs
    have : PyData.depth (prI b) ≤ 2 := Nat.le_of_ble_eq_true rfl
    omega
theorem shaped_prs (bs : List (Int × Int)) : SeqAt.shaped (bsD bs) = true := by
  unfold SeqAt.shaped
  rw [Bool.and_eq_true]
  refine ⟨canLay_prs bs, decide_eq_true ?_⟩
  have := depth_prs bs
  show PyData.depthAll (bs.map prI) + 1 ≤ 64
  omega
theorem eqv_prs (bs : List (Int × Int)) : PyData.eqv (bsD bs) (bsD bs) = true := by
  show PyData.eqvAll (bs.map prI) (bs.map prI) = true
  induction bs with
  | nil => rfl
  | cons b bs ih =>
    show ((decide (b.1 = b.1) && (decide (b.2 = b.2) && true)) && PyData.eqvAll (bs.map prI) (bs.map prI)) = true
    rw [ih, decide_eq_true rfl, decide_eq_true rfl]
    rfl
theorem eqv_ints_nil {l : List Int} : PyData.eqv (.list (l.map .int)) (.list []) = l.isEmpty := by cases l <;> rfl
/-- numbers from 0 on, kept by a test -/
theorem lc_rgF {n : Nat} {p : Addr} {M1 : Mem} {Γ : Fm} {vs : List Nat} {j : Nat} {t : DB} {el : DE} {K : Mem → Prop} (f : Nat → Bool) (hp : M1 p = none) (hz : n < 16777216)
    (he : ∀ i < n, ∀ (M' : Mem) (k' : Bool → Mem → Prop), (∀ a o, M1 a = some o → M' a = some o) → k' (f i) M' → t ((wipeF Γ vs).set j (some (.dat (.int (0 + (i : Int)))))) M' k')
    (hel : ∀ i < n, ∀ (M' : Mem) (k' : DK), (∀ a o, M1 a = some o → M' a = some o) → k' (.dat (.int (i : Int))) M' → el ((wipeF Γ vs).set j (some (.dat (.int (0 + (i : Int)))))) M' k')
    (hk : K (put M1 p (.lst (li (((List.range n).filter f).map fun (k : Nat) => (k : Int)))))) :
    ∃ Inv : Nat → Mem → Prop, Inv 0 (put M1 p (.lst [])) ∧ (∀ (i : Nat) M', i < ((n : Int) - 0).toNat → Inv i M' → lcTurn p Γ vs j t el (Inv (i + 1)) (.dat (.int (0 + i))) M') ∧ ∀ M', Inv ((n : Int) - 0).toNat M' → K M' := by
  have en : ((n : Int) - 0).toNat = n := by omega
  rw [en]
  refine ⟨fun i M' => i ≤ n ∧ M' = put M1 p (.lst (li (((List.range i).filter f).map fun (k : Nat) => (k : Int)))), ⟨Nat.zero_le _, rfl⟩, fun i M' hi e => ?_, fun M' e => by rw [e.2]; exact hk⟩
  obtain ⟨_, rfl⟩ := e
  have lc := List.length_filter_le f (List.range i)
  rw [List.length_range] at lc
  have kp : ∀ o', ∀ a o, M1 a = some o → put M1 p o' a = some o := fun o' a o h => (put_ne (ne_mem h hp)).trans h
  refine he i hi _ _ (kp _) ⟨fun h => hel i hi _ _ (kp _) ⟨_, put_at, by rw [List.length_map, List.length_map]; omega, hi, ?_⟩, fun h => ⟨hi, ?_⟩⟩
  · show put (put M1 p _) p (.lst (li _ ++ [_])) = _
    rw [put_put, List.range_succ, List.filter_append, List.filter_cons_of_pos h, List.filter_nil, List.map_append]
    exact congrArg (fun z => put M1 p (MO.lst z)) (List.map_append (f := fun n : Int => Sl.dat (.int n)) (l₂ := [_])).symm
  · show put M1 p _ = _
    rw [List.range_succ, List.filter_append, List.filter_cons_of_neg (by rw [h]; exact Bool.false_ne_true), List.filter_nil, List.append_nil]
theorem rg_eq {n : Nat} {c : Int} (h0 : 0 ≤ c) (h1 : c ≤ n) {f : Nat → Bool} (hf : ∀ k < n, f k = decide ((n : Int) - c ≤ (k : Int))) : ((List.range n).filter f).map (fun (k : Nat) => (k : Int)) = rgI ((n : Int) - c) n := by
  obtain ⟨u, hu⟩ : ∃ u : Nat, (n : Int) - c = (u : Int) := ⟨((n : Int) - c).toNat, by omega⟩
  have e : (List.range n).filter f = (List.range n).filter fun k => decide (u ≤ k) := List.filter_congr fun k hk => by
    rw [hf k (List.mem_range.mp hk), hu]
    congr 1
    simp
  rw [e, PM.range_from (by omega), hu]
  unfold rgI
  rw [List.map_map, show ((n : Int) - (u : Int)).toNat = n - u by omega]
  rfl
theorem Bds.low_iff {v : Vs} {bs : List (Int × Int)} (o : Ok v) (B : Bds v bs) {x : Int} {k : Nat} {b : Int × Int} (hb : bs[k]? = some b) : x ≤ b.1 ↔ (bs.length : Int) - ((v.ks.length : Int) + v.m - v.under (x - 1)) ≤ k := by
  rw [PM.Least.ge_iff o.m.1 o.lh (Vs.has_iff.mp o.has) (B.at_ k b hb).1, ← Vs.under_eq, B.len]
  omega
theorem Bds.high_iff {v : Vs} {bs : List (Int × Int)} (o : Ok v) (B : Bds v bs) {x : Int} {k : Nat} {b : Int × Int} (hb : bs[k]? = some b) : x ≤ b.2 ↔ (bs.length : Int) - v.turn.under (-x) ≤ k := by
  have h := PM.Least.ge_iff (x := -x + 1) o.turn.m.1 o.turn.lh (Vs.has_iff.mp o.turn.has) (B.at_ k b hb).2
  rw [← Vs.under_eq, show -x + 1 - 1 = -x by omega] at h
  have l := B.len
  constructor
  · intro hx
    rcases Int.lt_or_le (k : Int) ((bs.length : Int) - v.turn.under (-x)) with z | z
    · have := h.mpr (by omega)
      omega
    · exact z
  · intro hx
    rcases Int.lt_or_le b.2 x with z | z
    · have := h.mp (by omega)
      omega
    · exact z
theorem under_bds {v : Vs} (o : Ok v) (x : Int) : 0 ≤ v.under x ∧ v.under x ≤ v.ks.length + v.m := by
  have h1 := PM.dealt_nn (x := x) o.m.1 (Vs.has_iff.mp o.has) o.lh
  have h2 := PM.below_nn (x := x) (ns := v.ks)
  have h3 := PM.below_len (x := x) (ns := v.ks)
  unfold Vs.under Vs.dealt
  omega
def pr_le_known_more : Pr := fun ss M q => ∃ (f : Addr) (n : Int) (v : Vs) (bs : List (Int × Int)), ss = [.own f, .dat (.tuple v.ds), .dat (bsD bs)] ∧ Ok v ∧ v.ks.length ≤ 10 ∧ Bds v bs ∧ 0 < bs.length ∧ Feed M f n ∧ n ≤ 2 ^ 27 ∧ ∀ M', Feed M' f (n + 5) → q (.dat (.bool true)) M'
def pr_le_numbers_right : Pr := fun ss M q => ∃ (f : Addr) (n : Int) (v : Vs) (bs : List (Int × Int)), ss = [.own f, .dat (.tuple v.ds), .dat (bsD bs)] ∧ Ok v ∧ v.hi ≤ v.lo + 10 ∧ Bds v bs ∧ Feed M f n ∧ n ≤ 2 ^ 27 ∧ ∀ M', Feed M' f (n + 50) → q (.dat (.bool true)) M'
theorem Ok.fixed {v : Vs} (o : Ok v) {l : List Int} (D : PM.Deal v.m v.lo v.hi v.tot l) : Ok ⟨v.ks, v.m, v.lo, v.hi, some l.sum⟩ :=
  ⟨o.fine, o.lh, Vs.has_iff.mpr (PM.Deal.has (l := l) ⟨D.len, D.ins, fun t ht => by cases ht; rfl⟩), o.few, o.m⟩
theorem Deal.less {m lo hi : Int} {tot : Option Int} {l : List Int} {n : Int} (D : PM.Deal m lo hi tot l) (hn : n ∈ l) : PM.Deal (m - 1) lo hi (tot.map fun t => t - n) (l.erase n) := by
  have p := List.perm_cons_erase hn
  have e := p.length_eq
  rw [List.length_cons] at e
  have := D.len
  refine ⟨by omega, fun x hx => D.ins x (List.mem_of_mem_erase hx), fun t ht => ?_⟩
  cases tot with
  | none => cases ht
  | some u =>
    have e1 := D.sum u rfl
    have e2 := PM.sum_perm p
    rw [List.sum_cons] at e2
    have : u - n = t := Option.some.inj ht
    omega
theorem Deal.more {m lo hi : Int} {tot : Option Int} {l' : List Int} {n : Int} (D : PM.Deal (m - 1) lo hi (tot.map fun t => t - n) l') (h : lo ≤ n ∧ n ≤ hi) : PM.Deal m lo hi tot (n :: l') := by
  have := D.len
  refine ⟨by rw [List.length_cons]; omega, fun x hx => ?_, fun t ht => ?_⟩
  · rcases List.mem_cons.mp hx with rfl | hx
    · exact h
    · exact D.ins x hx
  · subst ht
    have := D.sum (t - n) rfl
    rw [List.sum_cons]
    omega
abbrev Vs.known (v : Vs) (n : Int) : Vs := ⟨v.ks ++ [n], v.m - 1, v.lo, v.hi, v.tot.map fun t => t - n⟩
theorem Ok.known {v : Vs} (o : Ok v) (few : v.ks.length ≤ 10) {l : List Int} {n : Int} (D : PM.Deal v.m v.lo v.hi v.tot l) (hn : n ∈ l) : Ok (v.known n) := by
  have h1 := o.fine
  have h2 := o.m
  have h3 := o.few
  have pos := List.length_pos_of_mem hn
  have := D.len
  unfold Vs.fine at h1
  refine ⟨?_, o.lh, Vs.has_iff.mpr (Deal.less D hn).has, ?_, ?_⟩
  · unfold Vs.fine
    dsimp only
    rw [List.length_append]
    simp
    omega
  · rw [List.length_append]
    simp
    omega
  · dsimp only
    omega
section
variable {P : Program} {w : World} {K : PySem.W.Frag} {mg : Str → Option Value} {base : Heap}
theorem ok_le_known_more (T : Tx P K mg) : Holds P w K mg base 7 T.f_le_known_more T.fd_le_known_more ["pen", "case", "bounds"] pr_le_known_more := by
  refine holds_of T.F_le_known_more sc_le_known_more (fun ss M q h => ?len) (fun cdv A outer s H hr => (xss_cons (xs_asg (ps_asg (xv 1) (xg_tup (pg_tup (n := 5) rfl (xgs_cons (pgs_cons (xg_name (pg_name (i := 9) sc_le_known_more.nd rfl (by first | exact .inl rfl | exact .inr rfl))) (xgs_cons (pgs_cons (xg_name (pg_name (i := 10) sc_le_known_more.nd rfl (by first | exact .inl rfl | exact .inr rfl))) (xgs_cons (pgs_cons (xg_name (pg_name (i := 11) sc_le_known_more.nd rfl (by first | exact .inl rfl | exact .inr rfl))) (xgs_cons (pgs_cons (xg_name (pg_name (i := 12) sc_le_known_more.nd rfl (by first | exact .inl rfl | exact .inr rfl))) (xgs_cons (pgs_cons (xg_name (pg_name (i := 13) sc_le_known_more.nd rfl (by first | exact .inl rfl | exact .inr rfl))) xgs_nil))))))))))))))
      (xss_cons (xs_asgN (ps_set (i := 3) sc_le_known_more.nd rfl (by first | exact .inl rfl | exact .inr rfl) (xe_call (ok_le_take T) (hr.mono (by decide)) T.g_le_take T.F_le_take.kp T.b_le_take (xa_cons (xv 0) (xa_cons (xe_callB sim_len (pe_callB call_lenA rfl T.m_len (by decide +kernel) (xa_cons (xv 2) xa_nil))) xa_nil)))) simLE)
      (xss_cons (xs_asgN (ps_set (i := 4) sc_le_known_more.nd rfl (by first | exact .inl rfl | exact .inr rfl) (xe_callN (ok_place_dealing T) (hr.mono (by decide)) T.g_place_dealing T.F_place_dealing.kp T.b_place_dealing (xa_cons (xv 9) (xa_cons (xv 10) (xa_cons (xv 11) (xa_cons (xv 12) (xa_cons (xv 13) (xa_cons (xv 3) (xa_cons (xe_eq hr.rm.units (xe_call (ok_le_take T) (hr.mono (by decide)) T.g_le_take T.F_le_take.kp T.b_le_take (xa_cons (xv 0) (xa_cons xe_int xa_nil))) xe_int) xa_nil))))))))) simLE)
      (xss_cons (xs_asgN (ps_set (i := 5) sc_le_known_more.nd rfl (by first | exact .inl rfl | exact .inr rfl) (xe_fz (xe_callB sim_sortI (pe_callB cr_sortedI rfl T.m_sorted (by decide +kernel) (xa_cons (xe_addD (xv 9) (xv 4)) xa_nil))))) simLE)
      (xss_cons (xs_if (xb_not (xb_val (xe_callB sim_all (pe_callB (cr_all rfl) rfl T.m_all (by decide +kernel) (xa_cons (xe_lcZP (js := [14, 7]) (pe_lc (own := [("one", 14), ("value", 7)]) (g := gTup _ 2 (gNs [14, 7])) (tt := LB _) rfl sc_le_known_more.nd (pi_zip rfl T.m_zip (xa_cons (xv 2) (xa_cons (xv 5) xa_nil))) (blkOk_by (own := [("one", 14), ("value", 7)]) (N := N_le_known_more) (sc := defScope s_le_known_more) (by decide +kernel)) (fun _ _ _ _ _ => pg_tup (n := 2) rfl (pgs_cons (pg_name (i := 14) sc_le_known_more.nd rfl (.inl rfl)) (pgs_cons (pg_name (i := 7) sc_le_known_more.nd rfl (.inl rfl)) (pgs_nil)))) (fun _ _ _ _ _ => xts_nil) (fun _ _ _ _ _ => (xe_chainI (pe_chain op_le op_le (xe_ix (xv 14) xe_int) (xv 7) (xe_ix (xv 14) xe_int))))) rfl (by decide)) xa_nil))))) (xss_one (xs_ret xe_bl)) xss_nil)
      (xss_cons (xs_asgN (ps_set (i := 6) sc_le_known_more.nd rfl (by first | exact .inl rfl | exact .inr rfl) (xe_call (ok_le_bounds T) (hr.mono (by decide)) T.g_le_bounds T.F_le_bounds.kp T.b_le_bounds (xa_cons (xe_tup (xa_cons (xv 9) (xa_cons (xv 10) (xa_cons (xv 11) (xa_cons (xv 12) (xa_cons (xe_callB sim_sumI (pe_callB (cr_sum rfl) rfl T.m_sum (by decide +kernel) (xa_cons (xv 4) xa_nil))) xa_nil)))))) xa_nil))) simLE)
      (xss_cut (xs_if (xb_w (xw_and (xb_cmp sim_is (pt_cmpR (L2.OpR.or op_isBl op_isN) (xv 13) xe_non (nomark _))) (xw_and1 (xb_not (xb_val (xe_call (ok_le_within T) (hr.mono (by decide)) T.g_le_within T.F_le_within.kp T.b_le_within (xa_cons (xv 6) (xa_cons (xv 2) xa_nil)))))))) (xss_one (xs_ret xe_bl)) xss_nil)
      (xss_cons (xs_if (xb_cmp sim_eq (pt_cmpR (op_eqAll hr.rm.units) (xv 4) (xe_lstD xa_nil) (nomark _))) (xss_one (xs_ret xe_bl)) xss_nil)
      (xss_cons (xs_asgN (ps_set (i := 7) sc_le_known_more.nd rfl (by first | exact .inl rfl | exact .inr rfl) (xe_ix (xv 4) (xe_call (ok_le_take T) (hr.mono (by decide)) T.g_le_take T.F_le_take.kp T.b_le_take (xa_cons (xv 0) (xa_cons (xe_callB sim_len (pe_callB call_lenA rfl T.m_len (by decide +kernel) (xa_cons (xv 4) xa_nil))) xa_nil))))) simLE)
      (xss_cut (xs_asgN (ps_set (i := 8) sc_le_known_more.nd rfl (by first | exact .inl rfl | exact .inr rfl) (xe_if (xb_cmp sim_is (pt_cmpR (L2.OpR.or op_isBl op_isN) (xv 13) xe_non (nomark _))) xe_non (xe_sub (xv 13) (xv 7)))) simLE)
      (xss_one (xs_ret (xe_call (ok_le_within T) (hr.mono (by decide)) T.g_le_within T.F_le_within.kp T.b_le_within (xa_cons (xe_call (ok_le_bounds T) (hr.mono (by decide)) T.g_le_bounds T.F_le_bounds.kp T.b_le_bounds (xa_cons (xe_tup (xa_cons (xe_addD (xv 9) (xe_lstD (xa_cons (xv 7) xa_nil))) (xa_cons (xe_sub (xv 10) xe_int) (xa_cons (xv 11) (xa_cons (xv 12) (xa_cons (xv 8) xa_nil)))))) xa_nil)) (xa_cons (xv 2) xa_nil)))))))))))))))) (fun ss M q h => ?read)
  case len =>
    obtain ⟨f, n, v, bs, rfl, _⟩ := h
    rfl
  case read =>
    obtain ⟨f, n, v, bs, rfl, o, few10, B, hpos, F0, hn, k⟩ := h
    have few := o.few
    have hm := o.m
    have hh := o.has
    have lB := B.len
    have el : ((bs.map prI).length : Int) = (bs.length : Int) := by rw [List.length_map]
    refine ⟨_, rfl, rfl, ?_⟩
    refine ⟨_, rfl, _, rfl, f, _, n, rfl, by omega, by omega, F0, by omega, fun pl M1 a1 b1 F1 o1 => ?_⟩
    have hp0 := a1
    have hp1 : pl < v.ks.length + v.m := by omega
    have hpl : placeOf ((v.ks.length : Int) + v.m) (.int pl) = some pl := if_pos ⟨hp0, hp1⟩
    refine ⟨_, rfl, _, rfl, _, rfl, _, rfl, _, rfl, _, rfl, _, rfl, f, 2, _, rfl, by decide, by decide, F1, by omega, fun r2 M2 a2 b2 F2 o2 => ?_⟩
    refine ⟨v, .int pl, _, rfl, o.fine, o.lh, fun h => absurd (hpl.symm.trans h) nofun, fun p' h' => ⟨fun _ l r M3 hr hl D hs g0 g1 o3 => ?_, fun h => absurd (h.symm.trans hh) Bool.false_ne_true⟩⟩
    clear g0 g1
    have hlen := D.len
    have F3 := feed_old F2 o3
    have hrf : r ≠ f := (F2.ne hr).symm
    have hl' : M3 r = some (.lst ((l.map PyData.int).map .dat)) := hl.trans (by rw [li_dat])
    refine ⟨_, rfl, _, rfl, _, l.map .int, IsL.dat, IsL.own hl', by rw [List.length_map, List.length_map]; omega, v.ks ++ l, isLi2, by rw [List.length_append]; omega, fun ns' p3 hperm hsort hp3 => ⟨ns'.map .int, put_at.trans (congrArg (fun z => some (MO.lst z)) (li_dat _)), ?_⟩⟩
    rw [del_put hp3]
    refine ⟨_, rfl, _, rfl, lc_allZ (ds := bs.map prI) (es := ns'.map .int) IsL.dat IsL.dat (by rw [List.length_map]; omega) rfl (fun i x y hx hy M' k' _ hgo => ?_) fun p n hp => ?_⟩
    · obtain ⟨b, hb, rfl⟩ := bs_at hx
      rw [List.getElem?_map] at hy
      cases hn : ns'[i]? with
      | none => rw [hn] at hy; cases hy
      | some n =>
      rw [hn] at hy
      cases hy
      have hbd := B.holds D hperm hsort hb hn
      refine ⟨_, rfl, .int b.1, rfl, _, rfl, And.intro (fun _ => ?_) (fun z => absurd hbd.1 (of_decide_eq_false z))⟩
      refine ⟨_, rfl, .int b.2, rfl, ?_⟩
      show k' (.dat (.bool (decide (n ≤ b.2)))) M'
      rw [decide_eq_true hbd.2]
      exact hgo
    refine ⟨_, _, put_at, boolsD_rep n, ?_⟩
    rw [all_rep, del_put hp]
    refine And.intro (fun z => nomatch z) (fun _ => ?_)
    refine ⟨_, rfl, _, rfl, _, rfl, _, rfl, _, rfl, l, IsL.own hl, rfl, _, rfl, ⟨v.ks, v.m, v.lo, v.hi, some l.sum⟩, rfl, o.fixed D, fun cs M4 B' o4 => ?_⟩
    have F4 := feed_old F3 o4
    have hl4 := o4.at hl
    refine ⟨fun Γ' M' => Γ' = [some (.own f), some (.dat (.tuple v.ds)), some (.dat (bsD bs)), some (.dat (.int pl)), some (.own r), some (.dat (.list (ns'.map .int))), some (.dat (bsD cs)), none, none, some (.dat (.list (v.ks.map .int))), some (.dat (.int v.m)), some (.dat (.int v.lo)), some (.dat (.int v.hi)), some (.dat (totD v.tot)), none] ∧ M' = M4, ?_, ?_⟩
    · refine ⟨_, rfl, ?_⟩
      cases e : v.tot with
      | none =>
        refine And.intro (fun _ => ?_) (fun z => nomatch z)
        refine ⟨_, rfl, _, rfl, cs, bs, rfl, by have := B'.len; dsimp only at this; omega, fun i a b ha hb => ?_, And.intro (fun z => nomatch z) (fun _ => ⟨by rw [← e]; rfl, rfl⟩)⟩
        exact B.narrow o (o.fixed D) B' rfl (fun l' d' => ⟨l', ⟨d'.len, d'.ins, fun t ht => by rw [e] at ht; cases ht⟩, .rfl⟩) ha hb
      | some t => exact And.intro (fun z => nomatch z) (fun _ => And.intro (fun z => nomatch z) (fun _ => ⟨by rw [← e]; rfl, rfl⟩))
    rintro Γ' M' ⟨rfl, e⟩
    rw [e]
    have hl4' : M4 r = some (.lst ((l.map PyData.int).map .dat)) := hl4.trans (by rw [li_dat])
    refine ⟨_, rfl, rfl, _, rfl, _, _, .inr ⟨r, l.map .int, rfl, hl4', rfl⟩, .inl rfl, shaped_ints l, rfl, And.intro (fun _ => k M4 (F4.up (by omega))) (fun hne => ?_)⟩
    have hpos2 : 0 < l.length := by
      cases l with
      | nil => cases hne
      | cons _ _ => exact Nat.succ_pos _
    refine ⟨_, rfl, _, rfl, _, rfl, _, hl4, f, _, _, rfl, by rw [List.length_map]; omega, by rw [List.length_map]; omega, F4, by omega, fun j M6 a6 b6 F6 o6 => ?_⟩
    rw [List.length_map] at b6
    obtain ⟨ji, rfl⟩ : ∃ ji : Nat, j = (ji : Int) := ⟨j.toNat, by omega⟩
    have hj : ji < l.length := by omega
    have hl6 : M6 r = some (.lst (li l)) := (o6 r hrf).trans hl4
    refine ⟨_, .dat (.int l[ji]), hl6, atI_nat (by rw [List.getElem?_map, List.getElem?_eq_getElem hj]; rfl), ?_⟩
    obtain ⟨val, hval⟩ : ∃ val, val = l[ji] := ⟨_, rfl⟩
    have hv : val ∈ l := by rw [hval]; exact List.getElem_mem hj
    rw [← hval]
    refine ⟨fun Γ' M' => Γ' = [some (.own f), some (.dat (.tuple v.ds)), some (.dat (bsD bs)), some (.dat (.int pl)), some (.own r), some (.dat (.list (ns'.map .int))), some (.dat (bsD cs)), some (.dat (.int val)), some (.dat (totD (v.tot.map fun t => t - val))), some (.dat (.list (v.ks.map .int))), some (.dat (.int v.m)), some (.dat (.int v.lo)), some (.dat (.int v.hi)), some (.dat (totD v.tot)), none] ∧ M' = M6, ?_, ?_⟩
    · refine ⟨_, rfl, ?_⟩
      cases e : v.tot with
      | none => exact And.intro (fun _ => ⟨by rw [← e]; simp [e]; rfl, rfl⟩) (fun z => nomatch z)
      | some t => exact And.intro (fun z => nomatch z) (fun _ => ⟨_, rfl, _, rfl, by rw [← e]; simp [e]; rfl, rfl⟩)
    rintro Γ' M' ⟨rfl, e⟩
    rw [e]
    have ok2 := o.known (by omega) D hv
    refine ⟨_, rfl, _, rfl, rfl, _, rfl, v.ks.map .int, [.int val], IsL.dat, IsL.dat, by rw [List.length_map]; simp; omega, _, rfl, _, rfl, _, rfl, _, rfl, rfl, _, rfl, v.known val, by show _ = [Sl.dat (.tuple [.list ((v.ks ++ [val]).map .int), _, _, _, _])]; rw [List.map_append]; rfl, ok2, fun cs2 M7 B2 o7 => ?_⟩
    have l2 := B2.len
    refine ⟨_, rfl, cs2, bs, rfl, by rw [List.length_append] at l2; simp at l2; omega, fun i a b ha hb => ?_, k M7 (feed_old (F6.up (by omega)) o7)⟩
    refine B.narrow o ok2 B2 (by rw [List.length_append]; simp; omega) (fun l' d' => ⟨val :: l', Deal.more d' (D.ins val hv), ?_⟩) ha hb
    show ((v.ks ++ [val]) ++ l').Perm _
    rw [List.append_assoc]
    exact .rfl
theorem ok_le_numbers_right (T : Tx P K mg) : Holds P w K mg base 6 T.f_le_numbers_right T.fd_le_numbers_right ["pen", "case", "bounds"] pr_le_numbers_right := by
  refine holds_of T.F_le_numbers_right sc_le_numbers_right (fun ss M q h => ?len) (fun cdv A outer s H hr => (xss_cons (xs_asg (ps_asg (xv 1) (xg_tup (pg_tup (n := 5) rfl (xgs_cons (pgs_cons (xg_name (pg_name (i := 5) sc_le_numbers_right.nd rfl (by first | exact .inl rfl | exact .inr rfl))) (xgs_cons (pgs_cons (xg_name (pg_name (i := 6) sc_le_numbers_right.nd rfl (by first | exact .inl rfl | exact .inr rfl))) (xgs_cons (pgs_cons (xg_name (pg_name (i := 7) sc_le_numbers_right.nd rfl (by first | exact .inl rfl | exact .inr rfl))) (xgs_cons (pgs_cons (xg_name (pg_name (i := 8) sc_le_numbers_right.nd rfl (by first | exact .inl rfl | exact .inr rfl))) (xgs_cons (pgs_cons (xg_name (pg_name (i := 9) sc_le_numbers_right.nd rfl (by first | exact .inl rfl | exact .inr rfl))) xgs_nil))))))))))))))
      (xss_cons (xs_asgN (ps_set (i := 3) sc_le_numbers_right.nd rfl (by first | exact .inl rfl | exact .inr rfl) (xe_callB sim_len (pe_callB call_lenA rfl T.m_len (by decide +kernel) (xa_cons (xv 2) xa_nil)))) simLE)
      (xss_cons (xs_forW2 (ps_for PassesOwn.never rfl (pi_rangeW2 rfl T.m_range (xa_cons (xe_sub (xv 7) xe_int) (xa_cons (xe_addD (xv 8) xe_int) xa_nil))) (xg_name (pg_name (i := 4) sc_le_numbers_right.nd rfl (by first | exact .inl rfl | exact .inr rfl))) (xss_cons (xs_asg (ps_asg (xe_callN (ok_over_bounds T) (hr.mono (by decide)) T.g_over_bounds T.F_over_bounds.kp T.b_over_bounds (xa_cons (xv 5) (xa_cons (xv 6) (xa_cons (xv 7) (xa_cons (xv 8) (xa_cons (xv 9) (xa_cons (xv 4) xa_nil))))))) (xg_tup (pg_tup (n := 2) rfl (xgs_cons (pgs_cons (xg_name (pg_name (i := 11) sc_le_numbers_right.nd rfl (by first | exact .inl rfl | exact .inr rfl))) (xgs_cons (pgs_cons (xg_name (pg_name (i := 12) sc_le_numbers_right.nd rfl (by first | exact .inl rfl | exact .inr rfl))) xgs_nil))))))))
      (xss_cons (xs_if (xb_cmp sim_ne (pt_cmpR (op_neAll hr.rm.units) (xe_fz (xe_lcR1 (pe_lc (own := [("k", 13)]) (g := gName 13) (tt := LB _) rfl sc_le_numbers_right.nd (pi_range1 rfl T.m_range (xa_cons (xv 3) xa_nil)) (blkOk_by (own := [("k", 13)]) (N := N_le_numbers_right) (sc := defScope s_le_numbers_right) (by decide +kernel)) (fun _ _ _ _ _ => pg_name (i := 13) sc_le_numbers_right.nd rfl (.inl rfl)) (fun _ _ _ _ _ => (xts_one (xb_cmp (sim_I0 fun _ _ _ => .bl _) (pt_cmpR op_ge (xe_ix (xe_ix (xv 2) (xv 13)) xe_int) (xv 4) (nomark _))))) (fun _ _ _ _ _ => (xv 13))) (by decide))) (xe_fz (xe_listRW (pe_listRgW rfl rfl T.m_list (prg_2 rfl T.m_range (xe_sub (xv 3) (xv 11)) (xv 3))))) (nomark _))) (xss_one (xs_ret xe_bl)) xss_nil)
      (xss_cons (xs_if (xb_cmp sim_ne (pt_cmpR (op_neAll hr.rm.units) (xe_fz (xe_lcR1 (pe_lc (own := [("k", 13)]) (g := gName 13) (tt := LB _) rfl sc_le_numbers_right.nd (pi_range1 rfl T.m_range (xa_cons (xv 3) xa_nil)) (blkOk_by (own := [("k", 13)]) (N := N_le_numbers_right) (sc := defScope s_le_numbers_right) (by decide +kernel)) (fun _ _ _ _ _ => pg_name (i := 13) sc_le_numbers_right.nd rfl (.inl rfl)) (fun _ _ _ _ _ => (xts_one (xb_cmp (sim_I0 fun _ _ _ => .bl _) (pt_cmpR op_ge (xe_ix (xe_ix (xv 2) (xv 13)) xe_int) (xv 4) (nomark _))))) (fun _ _ _ _ _ => (xv 13))) (by decide))) (xe_fz (xe_listRW (pe_listRgW rfl rfl T.m_list (prg_2 rfl T.m_range (xe_sub (xv 3) (xv 12)) (xv 3))))) (nomark _))) (xss_one (xs_ret xe_bl)) xss_nil)
      (xss_cons (xs_asgN (ps_set (i := 10) sc_le_numbers_right.nd rfl (by first | exact .inl rfl | exact .inr rfl) (xe_callN (ok_over_dealing T) (hr.mono (by decide)) T.g_over_dealing T.F_over_dealing.kp T.b_over_dealing (xa_cons (xv 5) (xa_cons (xv 6) (xa_cons (xv 7) (xa_cons (xv 8) (xa_cons (xv 9) (xa_cons (xv 4) (xa_cons (xe_eq hr.rm.units (xe_call (ok_le_take T) (hr.mono (by decide)) T.g_le_take T.F_le_take.kp T.b_le_take (xa_cons (xv 0) (xa_cons xe_int xa_nil))) xe_int) xa_nil))))))))) simLE)
      (xss_one (xs_if (xb_not (xb_val (xe_callB sim_all (pe_callB (cr_all rfl) rfl T.m_all (by decide +kernel) (xa_cons (xe_lcZP (js := [14, 15]) (pe_lc (own := [("one", 14), ("value", 15)]) (g := gTup _ 2 (gNs [14, 15])) (tt := LB _) rfl sc_le_numbers_right.nd (pi_zip rfl T.m_zip (xa_cons (xv 2) (xa_cons (xe_fz (xe_callB sim_sortI (pe_callB cr_sortedI rfl T.m_sorted (by decide +kernel) (xa_cons (xe_addD (xv 5) (xv 10)) xa_nil)))) xa_nil))) (blkOk_by (own := [("one", 14), ("value", 15)]) (N := N_le_numbers_right) (sc := defScope s_le_numbers_right) (by decide +kernel)) (fun _ _ _ _ _ => pg_tup (n := 2) rfl (pgs_cons (pg_name (i := 14) sc_le_numbers_right.nd rfl (.inl rfl)) (pgs_cons (pg_name (i := 15) sc_le_numbers_right.nd rfl (.inl rfl)) (pgs_nil)))) (fun _ _ _ _ _ => xts_nil) (fun _ _ _ _ _ => (xe_chainI (pe_chain op_le op_le (xe_ix (xv 14) xe_int) (xv 15) (xe_ix (xv 14) xe_int))))) rfl (by decide)) xa_nil))))) (xss_one (xs_ret xe_bl)) xss_nil))))))))
      (xss_one (xs_ret xe_bl)))))) (fun ss M q h => ?read)
  case len =>
    obtain ⟨f, n, v, bs, rfl, _⟩ := h
    rfl
  case read =>
    obtain ⟨f, n, v, bs, rfl, o, hw, B, F0, hn, k⟩ := h
    have few := o.few
    have hm := o.m
    have hh := o.has
    have lB := B.len
    have el : ((bs.map prI).length : Int) = (bs.length : Int) := by rw [List.length_map]
    refine ⟨_, rfl, rfl, ?_⟩
    refine ⟨_, rfl, ?_⟩
    refine ⟨_, rfl, _, rfl, v.lo - 1, v.hi + 2, rfl, fun j Γ' M' => ∃ (x4 x10 x11 x12 x13 x14 x15 : Option Sl), Γ' = [some (.own f), some (.dat (.tuple v.ds)), some (.dat (bsD bs)), some (.dat (.int ((bs.map prI).length : Int))), x4, some (.dat (.list (v.ks.map .int))), some (.dat (.int v.m)), some (.dat (.int v.lo)), some (.dat (.int v.hi)), some (.dat (totD v.tot)), x10, x11, x12, x13, x14, x15] ∧ Feed M' f (n + j), ⟨_, _, _, _, _, _, _, rfl, F0.up (by omega)⟩, ?_, ?_⟩
    · rintro j Γ' M1 hj ⟨x4, x10, x11, x12, x13, x14, x15, rfl, F1⟩
      obtain ⟨x, hx⟩ : ∃ x, v.lo - 1 + (j : Int) = x := ⟨_, rfl⟩
      rw [hx]
      have hj2 : (j : Int) < 14 := by omega
      refine ⟨_, rfl, _, rfl, _, rfl, _, rfl, _, rfl, _, rfl, v, x, rfl, o.fine, fun _ M2 o2 => ?_, fun h => absurd (h.symm.trans hh) Bool.false_ne_true⟩
      have F2 := feed_old F1 o2
      have u1 := under_bds o (x - 1)
      have u2 := under_bds o.turn (-x)
      have lk : (v.turn.ks.length : Int) = v.ks.length := by show ((v.ks.map fun n => -n).length : Int) = _; rw [List.length_map]
      have lm : v.turn.m = v.m := rfl
      rw [lk, lm] at u2
      obtain ⟨fa, hfa⟩ : ∃ fa : Int, (v.ks.length : Int) + v.m - v.under (x - 1) = fa := ⟨_, rfl⟩
      obtain ⟨fb, hfb⟩ : ∃ fb : Int, v.turn.under (-x) = fb := ⟨_, rfl⟩
      rw [hfa, hfb]
      refine ⟨rfl, ?_⟩
      refine ⟨_, rfl, 0, ((bs.map prI).length : Int), rfl, ⟨by decide, by decide, by omega, by omega⟩, fun p hp => ?_⟩
      refine lc_rgF (n := (bs.map prI).length) (fun i => decide (x ≤ (bs.getD i (0, 0)).1)) hp (by rw [List.length_map]; omega) (fun i hi M' k' _ hgo => ?_) (fun i hi M' k' _ hgo => ?_) ?_
      · rw [List.length_map] at hi
        obtain ⟨b, hb⟩ : ∃ b, bs[i]? = some b := ⟨bs[i], List.getElem?_eq_getElem hi⟩
        have eb : bs.getD i (0, 0) = b := by rw [List.getD_eq_getElem?_getD, hb]; rfl
        rw [eb] at hgo
        exact ⟨_, rfl, _, rfl, prI b, by rw [Int.zero_add]; exact atI_nat (by rw [List.getElem?_map, hb]; rfl), .int b.1, rfl, _, rfl, hgo⟩
      · refine ⟨_, rfl, ?_⟩
        rw [Int.zero_add]
        exact hgo
      refine ⟨(((List.range (bs.map prI).length).filter fun i => decide (x ≤ (bs.getD i (0, 0)).1)).map fun (k : Nat) => (k : Int)).map .int, put_at.trans (by rw [li_dat]), ?_⟩
      rw [del_put hp]
      refine ⟨_, rfl, _, rfl, _, rfl, _, _, rfl, rfl, by omega, fun p2 hp2 => ⟨(rgI (((bs.map prI).length : Int) - fa) ((bs.map prI).length : Int)).map .int, put_at.trans (by rw [← li_dat]), ?_⟩⟩
      rw [del_put hp2]
      rw [rg_eq (n := (bs.map prI).length) (c := fa) (by omega) (by omega) fun i hi => by
        rw [List.length_map] at hi
        obtain ⟨b, hb⟩ : ∃ b, bs[i]? = some b := ⟨bs[i], List.getElem?_eq_getElem hi⟩
        have eb : bs.getD i (0, 0) = b := by rw [List.getD_eq_getElem?_getD, hb]; rfl
        rw [eb]
        refine decide_eq_decide.mpr ?_
        have h := B.low_iff o (x := x) hb
        rw [hfa] at h
        rw [el]
        exact h]
      refine ⟨_, _, .inl rfl, .inl rfl, shaped_ints _, shaped_ints _, neq_goes (eqv_ints _) ?_⟩
      refine ⟨_, rfl, 0, ((bs.map prI).length : Int), rfl, ⟨by decide, by decide, by omega, by omega⟩, fun p hp => ?_⟩
      refine lc_rgF (n := (bs.map prI).length) (fun i => decide (x ≤ (bs.getD i (0, 0)).2)) hp (by rw [List.length_map]; omega) (fun i hi M' k' _ hgo => ?_) (fun i hi M' k' _ hgo => ?_) ?_
      · rw [List.length_map] at hi
        obtain ⟨b, hb⟩ : ∃ b, bs[i]? = some b := ⟨bs[i], List.getElem?_eq_getElem hi⟩
        have eb : bs.getD i (0, 0) = b := by rw [List.getD_eq_getElem?_getD, hb]; rfl
        rw [eb] at hgo
        exact ⟨_, rfl, _, rfl, prI b, by rw [Int.zero_add]; exact atI_nat (by rw [List.getElem?_map, hb]; rfl), .int b.2, rfl, _, rfl, hgo⟩
      · refine ⟨_, rfl, ?_⟩
        rw [Int.zero_add]
        exact hgo
      refine ⟨(((List.range (bs.map prI).length).filter fun i => decide (x ≤ (bs.getD i (0, 0)).2)).map fun (k : Nat) => (k : Int)).map .int, put_at.trans (by rw [li_dat]), ?_⟩
      rw [del_put hp]
      refine ⟨_, rfl, _, rfl, _, rfl, _, _, rfl, rfl, by omega, fun p2 hp2 => ⟨(rgI (((bs.map prI).length : Int) - fb) ((bs.map prI).length : Int)).map .int, put_at.trans (by rw [← li_dat]), ?_⟩⟩
      rw [del_put hp2]
      rw [rg_eq (n := (bs.map prI).length) (c := fb) (by omega) (by omega) fun i hi => by
        rw [List.length_map] at hi
        obtain ⟨b, hb⟩ : ∃ b, bs[i]? = some b := ⟨bs[i], List.getElem?_eq_getElem hi⟩
        have eb : bs.getD i (0, 0) = b := by rw [List.getD_eq_getElem?_getD, hb]; rfl
        rw [eb]
        refine decide_eq_decide.mpr ?_
        have h := B.high_iff o (x := x) hb
        rw [hfb] at h
        rw [el]
        exact h]
      refine ⟨_, _, .inl rfl, .inl rfl, shaped_ints _, shaped_ints _, neq_goes (eqv_ints _) ?_⟩
      refine ⟨_, rfl, _, rfl, _, rfl, _, rfl, _, rfl, _, rfl, _, rfl, f, 2, _, rfl, by decide, by decide, F2, by omega, fun r2 M3 a3 b3 F3 o3 => ?_⟩
      refine ⟨v, x, _, rfl, o.fine, o.lh, fun _ l r M4 hr hl D hs g0 g1 o4 => ?_, fun h => absurd (h.symm.trans hh) Bool.false_ne_true⟩
      clear g0 g1
      have hlen := D.len
      have F4 := feed_old F3 o4
      have hl' : M4 r = some (.lst ((l.map PyData.int).map .dat)) := hl.trans (by rw [li_dat])
      refine ⟨_, rfl, _, rfl, _, rfl, _, l.map .int, IsL.dat, IsL.own hl', by rw [List.length_map, List.length_map]; omega, v.ks ++ l, isLi2, by rw [List.length_append]; omega, fun ns' p3 hperm hsort hp3 => ⟨ns'.map .int, put_at.trans (congrArg (fun z => some (MO.lst z)) (li_dat _)), ?_⟩⟩
      rw [del_put hp3]
      refine lc_allZ (ds := bs.map prI) (es := ns'.map .int) IsL.dat IsL.dat (by rw [List.length_map]; omega) rfl (fun i x y hx hy M' k' _ hgo => ?_) fun p n hp => ?_
      · obtain ⟨b, hb, rfl⟩ := bs_at hx
        rw [List.getElem?_map] at hy
        cases hn : ns'[i]? with
        | none => rw [hn] at hy; cases hy
        | some n =>
        rw [hn] at hy
        cases hy
        have hbd := B.holds D hperm hsort hb hn
        refine ⟨_, rfl, .int b.1, rfl, _, rfl, And.intro (fun _ => ?_) (fun z => absurd hbd.1 (of_decide_eq_false z))⟩
        refine ⟨_, rfl, .int b.2, rfl, ?_⟩
        show k' (.dat (.bool (decide (n ≤ b.2)))) M'
        rw [decide_eq_true hbd.2]
        exact hgo
      refine ⟨_, _, put_at, boolsD_rep n, ?_⟩
      rw [all_rep, del_put hp]
      exact And.intro (fun z => nomatch z) (fun _ => ⟨_, _, _, _, _, _, _, rfl, F4.up (by rw [Int.natCast_succ]; omega)⟩)
    · rintro Γ' M1 ⟨x4, x10, x11, x12, x13, x14, x15, rfl, F1⟩
      exact k M1 (F1.up (by omega))
end
end LW
namespace LW
open PySem PySem.Spec PyProof.Rows DL
open L2 hiding del del_ne del_same
section
variable {P : Program} {w : World} {K : PySem.W.Frag} {mg : Str → Option Value} {base : Heap}
theorem ok_law (T : Tx P K mg) : Holds P w K mg base 8 T.f_law T.fd_law ["script"] (prLaw K) := by
  refine holds_of T.F_law sc_law (fun ss M q h => ?len) (fun cdv A outer s H hr => (xss_cons (xs_asgN (ps_set (i := 1) sc_law.nd rfl (by first | exact .inl rfl | exact .inr rfl) (xe_call (ok_le_pen T) (hr.mono (by decide)) T.g_le_pen T.F_le_pen.kp T.b_le_pen (xa_cons (xv 0) xa_nil))) simLE)
      (xss_cons (xs_forR1 (ps_for PassesOwn.never rfl (pi_range1 rfl T.m_range (xa_cons xe_int xa_nil)) (xg_name (pg_name (i := 2) sc_law.nd rfl (by first | exact .inl rfl | exact .inr rfl))) (xss_cons (xs_asgN (ps_set (i := 3) sc_law.nd rfl (by first | exact .inl rfl | exact .inr rfl) (xe_call (ok_le_case T) (hr.mono (by decide)) T.g_le_case T.F_le_case.kp T.b_le_case (xa_cons (xv 1) xa_nil))) simLE)
      (xss_cut (xs_if (xb_w (xw_or (xb_cmp sim_eq (pt_cmpR (op_eqAll hr.rm.units) (xe_call (ok_le_dealings T) (hr.mono (by decide)) T.g_le_dealings T.F_le_dealings.kp T.b_le_dealings (xa_cons (xe_ix (xv 3) xe_int) (xa_cons (xe_ix (xv 3) xe_int) (xa_cons (xe_ix (xv 3) xe_int) (xa_cons (xe_ix (xv 3) xe_int) xa_nil))))) (xe_lstD xa_nil) (nomark _))) (xw_or1 (xb_cmp sim_eq (pt_cmpR (op_eqAll hr.rm.units) (xe_addD (xe_callB sim_len (pe_callB call_lenA rfl T.m_len (by decide +kernel) (xa_cons (xe_ix (xv 3) xe_int) xa_nil))) (xe_ix (xv 3) xe_int)) xe_int (nomark _)))))) (xss_one (xs_asgN (ps_set (i := 3) sc_law.nd rfl (by first | exact .inl rfl | exact .inr rfl) (xe_tup (xa_cons (xe_addD (xe_ix (xv 3) xe_int) (xe_lstD (xa_cons (xe_ix (xv 3) xe_int) xa_nil))) (xa_cons (xe_ix (xv 3) xe_int) (xa_cons (xe_ix (xv 3) xe_int) (xa_cons (xe_ix (xv 3) xe_int) (xa_cons xe_non xa_nil))))))) simLE)) xss_nil)
      (xss_cons (xs_asgN (ps_set (i := 4) sc_law.nd rfl (by first | exact .inl rfl | exact .inr rfl) (xe_call (ok_le_bounds T) (hr.mono (by decide)) T.g_le_bounds T.F_le_bounds.kp T.b_le_bounds (xa_cons (xv 3) xa_nil))) simLE)
      (xss_cons (xs_if (xb_cmp sim_ne (pt_cmpR (op_neAll hr.rm.units) (xe_fz (xe_lcL (pe_lc (own := [("one", 6)]) (g := gName 6) (tt := LB _) rfl sc_law.nd (pi_list (xv 4)) (blkOk_by (own := [("one", 6)]) (N := N_law) (sc := defScope s_law) (by decide +kernel)) (fun _ _ _ _ _ => pg_name (i := 6) sc_law.nd rfl (.inl rfl)) (fun _ _ _ _ _ => xts_nil) (fun _ _ _ _ _ => (xe_ix (xv 6) xe_int))) (by decide))) (xe_fz (xe_callB sim_sortI (pe_callB cr_sortedI rfl T.m_sorted (by decide +kernel) (xa_cons (xe_fz (xe_lcL (pe_lc (own := [("one", 6)]) (g := gName 6) (tt := LB _) rfl sc_law.nd (pi_list (xv 4)) (blkOk_by (own := [("one", 6)]) (N := N_law) (sc := defScope s_law) (by decide +kernel)) (fun _ _ _ _ _ => pg_name (i := 6) sc_law.nd rfl (.inl rfl)) (fun _ _ _ _ _ => xts_nil) (fun _ _ _ _ _ => (xe_ix (xv 6) xe_int))) (by decide))) xa_nil)))) (nomark _))) (xss_one (xs_ret xe_bl)) xss_nil)
      (xss_cons (xs_if (xb_cmp sim_ne (pt_cmpR (op_neAll hr.rm.units) (xe_fz (xe_lcL (pe_lc (own := [("one", 6)]) (g := gName 6) (tt := LB _) rfl sc_law.nd (pi_list (xv 4)) (blkOk_by (own := [("one", 6)]) (N := N_law) (sc := defScope s_law) (by decide +kernel)) (fun _ _ _ _ _ => pg_name (i := 6) sc_law.nd rfl (.inl rfl)) (fun _ _ _ _ _ => xts_nil) (fun _ _ _ _ _ => (xe_ix (xv 6) xe_int))) (by decide))) (xe_fz (xe_callB sim_sortI (pe_callB cr_sortedI rfl T.m_sorted (by decide +kernel) (xa_cons (xe_fz (xe_lcL (pe_lc (own := [("one", 6)]) (g := gName 6) (tt := LB _) rfl sc_law.nd (pi_list (xv 4)) (blkOk_by (own := [("one", 6)]) (N := N_law) (sc := defScope s_law) (by decide +kernel)) (fun _ _ _ _ _ => pg_name (i := 6) sc_law.nd rfl (.inl rfl)) (fun _ _ _ _ _ => xts_nil) (fun _ _ _ _ _ => (xe_ix (xv 6) xe_int))) (by decide))) xa_nil)))) (nomark _))) (xss_one (xs_ret xe_bl)) xss_nil)
      (xss_cons (xs_if (xb_cmp sim_ne (pt_cmpR (op_neAll hr.rm.units) (xe_call (ok_le_bounds T) (hr.mono (by decide)) T.g_le_bounds T.F_le_bounds.kp T.b_le_bounds (xa_cons (xe_call (ok_le_about T) (hr.mono (by decide)) T.g_le_about T.F_le_about.kp T.b_le_about (xa_cons (xv 3) xa_nil)) xa_nil)) (xe_fz (xe_lcL (pe_lc (own := [("one", 6)]) (g := gName 6) (tt := LB _) rfl sc_law.nd (pi_list (xe_rev (xv 4))) (blkOk_by (own := [("one", 6)]) (N := N_law) (sc := defScope s_law) (by decide +kernel)) (fun _ _ _ _ _ => pg_name (i := 6) sc_law.nd rfl (.inl rfl)) (fun _ _ _ _ _ => xts_nil) (fun _ _ _ _ _ => (xe_tup (xa_cons (xe_sub xe_int (xe_ix (xv 6) xe_int)) (xa_cons (xe_sub xe_int (xe_ix (xv 6) xe_int)) xa_nil))))) (by decide))) (nomark _))) (xss_one (xs_ret xe_bl)) xss_nil)
      (xss_cons (xs_asgN (ps_set (i := 5) sc_law.nd rfl (by first | exact .inl rfl | exact .inr rfl) (xe_sub (xe_call (ok_le_take T) (hr.mono (by decide)) T.g_le_take T.F_le_take.kp T.b_le_take (xa_cons (xv 1) (xa_cons xe_int xa_nil))) xe_int)) simLE)
      (xss_cons (xs_if (xb_cmp sim_ne (pt_cmpR (op_neAll hr.rm.units) (xe_call (ok_le_bounds T) (hr.mono (by decide)) T.g_le_bounds T.F_le_bounds.kp T.b_le_bounds (xa_cons (xe_call (ok_le_greater T) (hr.mono (by decide)) T.g_le_greater T.F_le_greater.kp T.b_le_greater (xa_cons (xv 3) (xa_cons (xv 5) xa_nil))) xa_nil)) (xe_fz (xe_lcL (pe_lc (own := [("one", 6)]) (g := gName 6) (tt := LB _) rfl sc_law.nd (pi_list (xv 4)) (blkOk_by (own := [("one", 6)]) (N := N_law) (sc := defScope s_law) (by decide +kernel)) (fun _ _ _ _ _ => pg_name (i := 6) sc_law.nd rfl (.inl rfl)) (fun _ _ _ _ _ => xts_nil) (fun _ _ _ _ _ => (xe_tup (xa_cons (xe_addD (xe_ix (xv 6) xe_int) (xv 5)) (xa_cons (xe_addD (xe_ix (xv 6) xe_int) (xv 5)) xa_nil))))) (by decide))) (nomark _))) (xss_one (xs_ret xe_bl)) xss_nil)
      (xss_one (xs_if (xb_w (xw_or (xb_not (xb_val (xe_call (ok_le_known_more T) (hr.mono (by decide)) T.g_le_known_more T.F_le_known_more.kp T.b_le_known_more (xa_cons (xv 1) (xa_cons (xv 3) (xa_cons (xv 4) xa_nil)))))) (xw_or1 (xb_not (xb_val (xe_call (ok_le_numbers_right T) (hr.mono (by decide)) T.g_le_numbers_right T.F_le_numbers_right.kp T.b_le_numbers_right (xa_cons (xv 1) (xa_cons (xv 3) (xa_cons (xv 4) xa_nil))))))))) (xss_one (xs_ret xe_bl)) xss_nil))))))))))))
      (xss_one (xs_ret xe_bl))))) (fun ss M q h => ?read)
  case len =>
    obtain ⟨ns, rfl, _⟩ := h
    rfl
  case read =>
    obtain ⟨ns, rfl, hns, k⟩ := h
    refine ⟨_, rfl, ns, rfl, hns, fun f M0 hf F0 o0 => ?_⟩
    refine ⟨0, 4, rfl, ⟨by decide, by decide, by decide, by decide⟩, fun i Γ' M' => ∃ (x2 x3 x4 x5 x6 : Option Sl), Γ' = [some (.scr K ns), some (.own f), x2, x3, x4, x5, x6] ∧ Feed M' f (1000 * i), ⟨_, _, _, _, _, rfl, F0.up (by decide)⟩, ?_, ?_⟩
    · rintro i Γ' M1 hi ⟨x2, x3, x4, x5, x6, rfl, F1⟩
      have hi3 : (i : Int) < 4 := by omega
      refine ⟨_, rfl, f, _, rfl, F1, by omega, fun v M2 c F2 K2 => ?_⟩
      have few := c.few
      have hm := c.m
      have lh := c.lh
      have hl := c.hl
      have cf := c.fine
      have cl := c.lo
      refine ⟨fun Γ' M' => ∃ (v' : Vs), Γ' = [some (.scr K ns), some (.own f), some (.dat (.int (0 + (i : Int)))), some (.dat (.tuple v'.ds)), x4, x5, x6] ∧ Ok v' ∧ v'.ks.length ≤ 10 ∧ v'.hi ≤ v'.lo + 10 ∧ (-(10 ^ 32) ≤ v'.lo ∧ v'.lo ≤ 10 ^ 32) ∧ 0 < (v'.ks.length : Int) + v'.m ∧ Feed M' f (1000 * i + 30), ?_, ?_⟩
      · refine ⟨_, rfl, .int v.m, rfl, _, rfl, .int v.lo, rfl, _, rfl, .int v.hi, rfl, _, rfl, totD v.tot, rfl, v.m, v.lo, v.hi, v.tot, rfl, c.m, c.hl, fun M3 o3 => ?_⟩
        have F3 := feed_old F2 o3
        have en := every_ne2 c
        generalize every v.m v.lo v.hi v.tot = ev at en
        have new : ∃ v' : Vs, v'.ds = [.list (v.ks.map .int ++ [.int v.lo]), .int v.m, .int v.lo, .int v.hi, .none] ∧ Ok v' ∧ v'.ks.length ≤ 10 ∧ v'.hi ≤ v'.lo + 10 ∧ (-(10 ^ 32) ≤ v'.lo ∧ v'.lo ≤ 10 ^ 32) ∧ 0 < (v'.ks.length : Int) + v'.m := by
          refine ⟨⟨v.ks ++ [v.lo], v.m, v.lo, v.hi, none⟩, ?_, ⟨?_, lh, rfl, ?_, ?_⟩, ?_, ?_, ?_, ?_⟩
          · show [PyData.list ((v.ks ++ [v.lo]).map .int), _, _, _, _] = _
            rw [List.map_append]
            rfl
          · unfold Vs.fine at cf ⊢
            dsimp only
            rw [List.length_append]
            simp
            omega
          · rw [List.length_append]
            simp
            omega
          · dsimp only
            omega
          · rw [List.length_append]
            simp
            omega
          · dsimp only
            omega
          · dsimp only
            omega
          · rw [List.length_append]
            simp
            omega
        obtain ⟨v2, e2, ok2, f2, w2, l2, n2⟩ := new
        have el : ((v.ks.map PyData.int).length : Int) = (v.ks.length : Int) := by rw [List.length_map]
        refine ⟨rfl, _, rfl, _, _, .inl rfl, .inl rfl, shaped_lt ev, rfl, ?_⟩
        show (PyData.eqv (.list (ev.map tupI)) (.list []) = true → _) ∧ (PyData.eqv (.list (ev.map tupI)) (.list []) = false → _)
        rw [eqv_lt_nil]
        refine And.intro (fun _ => ?_) (fun hne => ?_)
        · refine And.intro (fun _ => ?_) (fun z => nomatch z)
          refine ⟨_, rfl, .list (v.ks.map .int), rfl, _, rfl, .int v.lo, rfl, rfl, _, rfl, v.ks.map .int, [.int v.lo], IsL.dat, IsL.dat, by rw [List.length_map]; simp; omega, _, rfl, .int v.m, rfl, _, rfl, .int v.lo, rfl, _, rfl, .int v.hi, rfl, rfl, _, rfl, v2, ?_, ok2, f2, w2, l2, n2, F3.up (by omega)⟩
          rw [e2]
          rfl
        · have hh : v.has = true := en.mp fun e => by rw [e] at hne; cases hne
          refine ⟨_, rfl, .list (v.ks.map .int), rfl, _, rfl, .int v.m, rfl, And.intro (fun _ => ?_) (fun hn => ?_)⟩
          · refine ⟨_, rfl, .list (v.ks.map .int), rfl, _, rfl, .int v.lo, rfl, rfl, _, rfl, v.ks.map .int, [.int v.lo], IsL.dat, IsL.dat, by rw [List.length_map]; simp; omega, _, rfl, .int v.m, rfl, _, rfl, .int v.lo, rfl, _, rfl, .int v.hi, rfl, rfl, _, rfl, v2, ?_, ok2, f2, w2, l2, n2, F3.up (by omega)⟩
            rw [e2]
            rfl
          · have hn' : ¬ ((v.ks.map PyData.int).length : Int) + v.m = 0 := of_decide_eq_false hn
            exact ⟨v, rfl, ⟨c.fine, lh, hh, by omega, by omega⟩, by omega, by omega, by omega, by omega, F3.up (by omega)⟩
      clear few hm lh hl cf cl c K2 F2 v
      rintro Γ' M3 ⟨v, rfl, o, few, hw, hlb, hpos, F3⟩
      refine ⟨_, rfl, v, rfl, o, fun bs M4 B o4 => ?_⟩
      have F4 := feed_old F3 o4
      have lB := B.len
      have hm := o.m
      refine ⟨_, rfl, lc_mapK (f := fun s => match s with | .dat (.tuple [.int a, .int b]) => Sl.dat (.int a) | s => s) (xs := lb bs) isLb (by rw [List.length_map]; omega) (fun x hx M' k' _ hgo => ?_) fun p hp => ?_⟩
      · obtain ⟨b, _, rfl⟩ := List.mem_map.mp hx
        exact ⟨_, rfl, .int b.1, rfl, hgo⟩
      refine ⟨(bs.map (·.1)).map .int, put_at.trans (by rw [← li_dat]; unfold lb li; rw [List.map_map, List.map_map]; rfl), ?_⟩
      rw [del_put hp]
      refine ⟨_, rfl, lc_mapK (f := fun s => match s with | .dat (.tuple [.int a, .int b]) => Sl.dat (.int a) | s => s) (xs := lb bs) isLb (by rw [List.length_map]; omega) (fun x hx M' k' _ hgo => ?_) fun p hp => ?_⟩
      · obtain ⟨b, _, rfl⟩ := List.mem_map.mp hx
        exact ⟨_, rfl, .int b.1, rfl, hgo⟩
      refine ⟨(bs.map (·.1)).map .int, put_at.trans (by rw [← li_dat]; unfold lb li; rw [List.map_map, List.map_map]; rfl), ?_⟩
      rw [del_put hp]
      refine ⟨bs.map (·.1), isLi, by rw [List.length_map]; omega, fun ns' p3 hperm hsort hp3 => ⟨ns'.map .int, put_at.trans (congrArg (fun z => some (MO.lst z)) (li_dat _)), ?_⟩⟩
      rw [del_put hp3, PM.sorted_uni hperm hsort B.low_up]
      refine ⟨_, _, .inl rfl, .inl rfl, shaped_ints _, shaped_ints _, neq_goes (eqv_ints _) ?_⟩
      refine ⟨_, rfl, lc_mapK (f := fun s => match s with | .dat (.tuple [.int a, .int b]) => Sl.dat (.int b) | s => s) (xs := lb bs) isLb (by rw [List.length_map]; omega) (fun x hx M' k' _ hgo => ?_) fun p hp => ?_⟩
      · obtain ⟨b, _, rfl⟩ := List.mem_map.mp hx
        exact ⟨_, rfl, .int b.2, rfl, hgo⟩
      refine ⟨(bs.map (·.2)).map .int, put_at.trans (by rw [← li_dat]; unfold lb li; rw [List.map_map, List.map_map]; rfl), ?_⟩
      rw [del_put hp]
      refine ⟨_, rfl, lc_mapK (f := fun s => match s with | .dat (.tuple [.int a, .int b]) => Sl.dat (.int b) | s => s) (xs := lb bs) isLb (by rw [List.length_map]; omega) (fun x hx M' k' _ hgo => ?_) fun p hp => ?_⟩
      · obtain ⟨b, _, rfl⟩ := List.mem_map.mp hx
        exact ⟨_, rfl, .int b.2, rfl, hgo⟩
      refine ⟨(bs.map (·.2)).map .int, put_at.trans (by rw [← li_dat]; unfold lb li; rw [List.map_map, List.map_map]; rfl), ?_⟩
      rw [del_put hp]
      refine ⟨bs.map (·.2), isLi, by rw [List.length_map]; omega, fun ns' p3 hperm hsort hp3 => ⟨ns'.map .int, put_at.trans (congrArg (fun z => some (MO.lst z)) (li_dat _)), ?_⟩⟩
      rw [del_put hp3, PM.sorted_uni hperm hsort B.high_up]
      refine ⟨_, _, .inl rfl, .inl rfl, shaped_ints _, shaped_ints _, neq_goes (eqv_ints _) ?_⟩
      refine ⟨_, rfl, v, rfl, by omega, v.turn, rfl, o.turn, fun cs M5 C o5 => ?_⟩
      have F5 := feed_old F4 o5
      have ec := C.uni B.turn
      refine ⟨_, rfl, lc_mapK (f := fun s => match s with | .dat (.tuple [.int a, .int b]) => Sl.dat (.tuple [.int (0 - b), .int (0 - a)]) | s => s) (xs := lb bs.reverse) (by rw [lb_dat, List.map_reverse]; exact IsL.dat) (by rw [List.length_map, List.length_reverse]; omega) (fun x hx M' k' _ hgo => ?_) fun p hp => ?_⟩
      · obtain ⟨b, _, rfl⟩ := List.mem_map.mp hx
        exact ⟨_, rfl, .int b.2, rfl, _, rfl, .int b.1, rfl, rfl, _, rfl, hgo⟩
      have em : (lb bs.reverse).map (fun s => match s with | .dat (.tuple [.int a, .int b]) => Sl.dat (.tuple [.int (0 - b), .int (0 - a)]) | s => s) = lb (bs.reverse.map fun b => (-b.2, -b.1)) := by
        unfold lb
        rw [List.map_map, List.map_map]
        refine List.map_congr_left fun b _ => ?_
        show Sl.dat (.tuple [.int (0 - b.2), .int (0 - b.1)]) = Sl.dat (.tuple [.int (-b.2), .int (-b.1)])
        rw [Int.zero_sub, Int.zero_sub]
      refine ⟨(bs.reverse.map fun b => (-b.2, -b.1)).map prI, put_at.trans (congrArg (fun z => some (MO.lst z)) (em.trans (lb_dat _))), ?_⟩
      rw [del_put hp, ec]
      refine ⟨_, _, .inl rfl, .inl rfl, shaped_prs _, shaped_prs _, neq_goes (eqv_prs _) ?_⟩
      refine ⟨_, rfl, f, 2000, _, rfl, by decide, by decide, F5, by omega, fun r6 M6 a6 b6 F6 o6 => ?_⟩
      obtain ⟨by_, hby⟩ : ∃ by_, r6 - 1000 = by_ := ⟨_, rfl⟩
      unfold dC fI0 gN
      dsimp only [List.set]
      rw [hby]
      have okm : Ok (v.move by_) := by
        have h1 := o.fine
        have h2 := o.lh
        have e : (v.move by_).ks.length = v.ks.length := List.length_map ..
        unfold Vs.fine at h1
        refine ⟨?_, by show v.lo + by_ ≤ v.hi + by_; omega, Vs.has_iff.mpr (PM.has_move (Vs.has_iff.mp o.has)), by rw [e]; omega, hm⟩
        unfold Vs.fine
        rw [e]
        show (0 ≤ v.m ∧ v.m ≤ 2000) ∧ (_ ≤ v.lo + by_ ∧ v.lo + by_ ≤ _) ∧ (_ ≤ v.hi + by_ ∧ v.hi + by_ ≤ _) ∧ _
        omega
      refine ⟨_, rfl, _, rfl, v, by_, rfl, by omega, by omega, v.move by_, rfl, okm, fun cs2 M7 C2 o7 => ?_⟩
      have F7 := feed_old F6 o7
      have ec2 := C2.uni (B.move by_)
      refine ⟨_, rfl, lc_mapK (f := fun s => match s with | .dat (.tuple [.int a, .int b]) => Sl.dat (.tuple [.int (a + by_), .int (b + by_)]) | s => s) (xs := lb bs) isLb (by rw [List.length_map]; omega) (fun x hx M' k' _ hgo => ?_) fun p hp => ?_⟩
      · obtain ⟨b, _, rfl⟩ := List.mem_map.mp hx
        exact ⟨_, rfl, .int b.1, rfl, _, rfl, _, rfl, .int b.2, rfl, _, rfl, rfl, _, rfl, hgo⟩
      have em2 : (lb bs).map (fun s => match s with | .dat (.tuple [.int a, .int b]) => Sl.dat (.tuple [.int (a + by_), .int (b + by_)]) | s => s) = lb (bs.map fun c => (c.1 + by_, c.2 + by_)) := by
        unfold lb
        rw [List.map_map, List.map_map]
        rfl
      refine ⟨(bs.map fun c => (c.1 + by_, c.2 + by_)).map prI, put_at.trans (congrArg (fun z => some (MO.lst z)) (em2.trans (lb_dat _))), ?_⟩
      rw [del_put hp, ec2]
      refine ⟨_, _, .inl rfl, .inl rfl, shaped_prs _, shaped_prs _, neq_goes (eqv_prs _) ?_⟩
      refine ⟨_, rfl, _, rfl, _, rfl, f, _, v, bs, rfl, o, few, B, by omega, F7, by omega, fun M8 F8 => And.intro (fun z => nomatch z) (fun _ => ?_)⟩
      refine ⟨_, rfl, _, rfl, _, rfl, f, _, v, bs, rfl, o, hw, B, F8, by omega, fun M9 F9 => And.intro (fun z => nomatch z) (fun _ => ?_)⟩
      exact ⟨_, _, _, _, _, rfl, F9.up (by rw [Int.natCast_succ]; omega)⟩
    · rintro Γ' M1 ⟨x2, x3, x4, x5, x6, rfl, F1⟩
      exact k M1
end
end LW
namespace LW
open PySem PySem.Spec PyProof.Rows DL
open L2 hiding del del_ne del_same
theorem all_mk {l : PySem.W.OpenLaw} {w : World} {K : PySem.W.Frag} {h : Heap} {mg : Str → Option Value} {fa : Addr} (X : K.In h) (G : h.Ns mainGlobals mg) (hfa : mg "law" = some (.ref fa))
    {f_is_whole : Addr} {od_is_whole an_is_whole : Option Addr} {sl_is_whole : Array (Option Value)} {oc_is_whole kV_is_whole dc_is_whole pm_is_whole cd_is_whole ct_is_whole : Value} {f_place_bounds : Addr} {od_place_bounds an_place_bounds : Option Addr} {sl_place_bounds : Array (Option Value)} {oc_place_bounds kV_place_bounds dc_place_bounds pm_place_bounds cd_place_bounds ct_place_bounds : Value} {f_place_dealing : Addr} {od_place_dealing an_place_dealing : Option Addr} {sl_place_dealing : Array (Option Value)} {oc_place_dealing kV_place_dealing dc_place_dealing pm_place_dealing cd_place_dealing ct_place_dealing : Value} {dT_place_dealing : Addr} {f_over_bounds : Addr} {od_over_bounds an_over_bounds : Option Addr} {sl_over_bounds : Array (Option Value)} {oc_over_bounds kV_over_bounds dc_over_bounds pm_over_bounds cd_over_bounds ct_over_bounds : Value} {f_over_dealing : Addr} {od_over_dealing an_over_dealing : Option Addr} {sl_over_dealing : Array (Option Value)} {oc_over_dealing kV_over_dealing dc_over_dealing pm_over_dealing cd_over_dealing ct_over_dealing : Value} {dT_over_dealing : Addr} {f_values_dealt : Addr} {od_values_dealt an_values_dealt : Option Addr} {sl_values_dealt : Array (Option Value)} {oc_values_dealt kV_values_dealt dc_values_dealt pm_values_dealt cd_values_dealt ct_values_dealt : Value} {f_values_with_place : Addr} {od_values_with_place an_values_with_place : Option Addr} {sl_values_with_place : Array (Option Value)} {oc_values_with_place kV_values_with_place dc_values_with_place pm_values_with_place cd_values_with_place ct_values_with_place : Value} {f_turned_dealing : Addr} {od_turned_dealing an_turned_dealing : Option Addr} {sl_turned_dealing : Array (Option Value)} {oc_turned_dealing kV_turned_dealing dc_turned_dealing pm_turned_dealing cd_turned_dealing ct_turned_dealing : Value} {f_le_pen : Addr} {od_le_pen an_le_pen : Option Addr} {sl_le_pen : Array (Option Value)} {oc_le_pen kV_le_pen dc_le_pen pm_le_pen cd_le_pen ct_le_pen : Value} {f_le_fresh : Addr} {od_le_fresh an_le_fresh : Option Addr} {sl_le_fresh : Array (Option Value)} {oc_le_fresh kV_le_fresh dc_le_fresh pm_le_fresh cd_le_fresh ct_le_fresh : Value} {f_le_take : Addr} {od_le_take an_le_take : Option Addr} {sl_le_take : Array (Option Value)} {oc_le_take kV_le_take dc_le_take pm_le_take cd_le_take ct_le_take : Value} {f_le_case : Addr} {od_le_case an_le_case : Option Addr} {sl_le_case : Array (Option Value)} {oc_le_case kV_le_case dc_le_case pm_le_case cd_le_case ct_le_case : Value} {f_le_dealings : Addr} {od_le_dealings an_le_dealings : Option Addr} {sl_le_dealings : Array (Option Value)} {oc_le_dealings kV_le_dealings dc_le_dealings pm_le_dealings cd_le_dealings ct_le_dealings : Value} {f_le_bounds : Addr} {od_le_bounds an_le_bounds : Option Addr} {sl_le_bounds : Array (Option Value)} {oc_le_bounds kV_le_bounds dc_le_bounds pm_le_bounds cd_le_bounds ct_le_bounds : Value} {f_le_about : Addr} {od_le_about an_le_about : Option Addr} {sl_le_about : Array (Option Value)} {oc_le_about kV_le_about dc_le_about pm_le_about cd_le_about ct_le_about : Value} {f_le_greater : Addr} {od_le_greater an_le_greater : Option Addr} {sl_le_greater : Array (Option Value)} {oc_le_greater kV_le_greater dc_le_greater pm_le_greater cd_le_greater ct_le_greater : Value} {f_le_within : Addr} {od_le_within an_le_within : Option Addr} {sl_le_within : Array (Option Value)} {oc_le_within kV_le_within dc_le_within pm_le_within cd_le_within ct_le_within : Value} {f_le_known_more : Addr} {od_le_known_more an_le_known_more : Option Addr} {sl_le_known_more : Array (Option Value)} {oc_le_known_more kV_le_known_more dc_le_known_more pm_le_known_more cd_le_known_more ct_le_known_more : Value} {f_le_numbers_right : Addr} {od_le_numbers_right an_le_numbers_right : Option Addr} {sl_le_numbers_right : Array (Option Value)} {oc_le_numbers_right kV_le_numbers_right dc_le_numbers_right pm_le_numbers_right cd_le_numbers_right ct_le_numbers_right : Value} {f_law : Addr} {od_law an_law : Option Addr} {sl_law : Array (Option Value)} {oc_law kV_law dc_law pm_law cd_law ct_law : Value} {f_Values___init__ : Addr} {od_Values___init__ an_Values___init__ : Option Addr} {sl_Values___init__ : Array (Option Value)} {oc_Values___init__ kV_Values___init__ dc_Values___init__ pm_Values___init__ cd_Values___init__ ct_Values___init__ : Value} {f_Values_turned : Addr} {od_Values_turned an_Values_turned : Option Addr} {sl_Values_turned : Array (Option Value)} {oc_Values_turned kV_Values_turned dc_Values_turned pm_Values_turned cd_Values_turned ct_Values_turned : Value} {f_Values_in_all : Addr} {od_Values_in_all an_Values_in_all : Option Addr} {sl_Values_in_all : Array (Option Value)} {oc_Values_in_all kV_Values_in_all dc_Values_in_all pm_Values_in_all cd_Values_in_all ct_Values_in_all : Value} {f_Values_has_dealing : Addr} {od_Values_has_dealing an_Values_has_dealing : Option Addr} {sl_Values_has_dealing : Array (Option Value)} {oc_Values_has_dealing kV_Values_has_dealing dc_Values_has_dealing pm_Values_has_dealing cd_Values_has_dealing ct_Values_has_dealing : Value} {f_Values_least_total : Addr} {od_Values_least_total an_Values_least_total : Option Addr} {sl_Values_least_total : Array (Option Value)} {oc_Values_least_total kV_Values_least_total dc_Values_least_total pm_Values_least_total cd_Values_least_total ct_Values_least_total : Value} {f_Values_most_dealt : Addr} {od_Values_most_dealt an_Values_most_dealt : Option Addr} {sl_Values_most_dealt : Array (Option Value)} {oc_Values_most_dealt kV_Values_most_dealt dc_Values_most_dealt pm_Values_most_dealt cd_Values_most_dealt ct_Values_most_dealt : Value} {f_Values_most_under : Addr} {od_Values_most_under an_Values_most_under : Option Addr} {sl_Values_most_under : Array (Option Value)} {oc_Values_most_under kV_Values_most_under dc_Values_most_under pm_Values_most_under cd_Values_most_under ct_Values_most_under : Value} {f_Values_dealing_under : Addr} {od_Values_dealing_under an_Values_dealing_under : Option Addr} {sl_Values_dealing_under : Array (Option Value)} {oc_Values_dealing_under kV_Values_dealing_under dc_Values_dealing_under pm_Values_dealing_under cd_Values_dealing_under ct_Values_dealing_under : Value} {f_Values_least_at : Addr} {od_Values_least_at an_Values_least_at : Option Addr} {sl_Values_least_at : Array (Option Value)} {oc_Values_least_at kV_Values_least_at dc_Values_least_at pm_Values_least_at cd_Values_least_at ct_Values_least_at : Value} {C_Values : Addr} {C_WoodError : Addr} {C_NoDealing : Addr} {C_NoPlace : Addr}
    (aC_Values : PySem.W.nsIn K mainGlobals "Values" = some (some (.ref C_Values)))
    (pg_Values : PySem.W.plainGet K C_Values Str.empty = true)
    (hd_Values : PySem.W.hasDictIn K C_Values = true)
    (po_Values : PySem.W.plainOver K C_Values = true)
    (sa_Values : PySem.W.findIn K (.ref C_Values) "__setattr__" = some (some (.builtin "object.__setattr__")))
    (mkC_Values : PySem.W.makesIn K C_Values = true)
    (kC_Values : PySem.W.keepIn K (.ref C_Values) = true)
    (nA_Values_kept : PySem.W.findIn K (.ref C_Values) "kept" = some none)
    (nA_Values_many : PySem.W.findIn K (.ref C_Values) "many" = some none)
    (nA_Values_low : PySem.W.findIn K (.ref C_Values) "low" = some none)
    (nA_Values_high : PySem.W.findIn K (.ref C_Values) "high" = some none)
    (nA_Values_total : PySem.W.findIn K (.ref C_Values) "total" = some none)
    (a_is_whole : PySem.W.nsIn K mainGlobals "is_whole" = some (some (.ref f_is_whole)))
    (l_is_whole : K.lookup f_is_whole = some ⟨oc_is_whole, od_is_whole, .func (PySem.W.fnOf "is_whole" "is_whole" (defArgs s_is_whole) (defBody s_is_whole) (defScope s_is_whole) .none kV_is_whole dc_is_whole pm_is_whole an_is_whole cd_is_whole ct_is_whole), sl_is_whole⟩)
    (e_is_whole : PySem.W.codeIn K cd_is_whole "is_whole" = true)
    (k_is_whole : PySem.W.keepIn K (.ref f_is_whole) = true)
    (a_place_bounds : PySem.W.nsIn K mainGlobals "place_bounds" = some (some (.ref f_place_bounds)))
    (l_place_bounds : K.lookup f_place_bounds = some ⟨oc_place_bounds, od_place_bounds, .func (PySem.W.fnOf "place_bounds" "place_bounds" (defArgs s_place_bounds) (defBody s_place_bounds) (defScope s_place_bounds) .none kV_place_bounds dc_place_bounds pm_place_bounds an_place_bounds cd_place_bounds ct_place_bounds), sl_place_bounds⟩)
    (e_place_bounds : PySem.W.codeIn K cd_place_bounds "place_bounds" = true)
    (k_place_bounds : PySem.W.keepIn K (.ref f_place_bounds) = true)
    (a_place_dealing : PySem.W.nsIn K mainGlobals "place_dealing" = some (some (.ref f_place_dealing)))
    (l_place_dealing : K.lookup f_place_dealing = some ⟨oc_place_dealing, od_place_dealing, .func (PySem.W.fnOf "place_dealing" "place_dealing" (defArgs s_place_dealing) (defBody s_place_dealing) (defScope s_place_dealing) (.ref dT_place_dealing) kV_place_dealing dc_place_dealing pm_place_dealing an_place_dealing cd_place_dealing ct_place_dealing), sl_place_dealing⟩)
    (e_place_dealing : PySem.W.codeIn K cd_place_dealing "place_dealing" = true)
    (k_place_dealing : PySem.W.keepIn K (.ref f_place_dealing) = true)
    (d_place_dealing : dfB K dT_place_dealing 1 = true)
    (a_over_bounds : PySem.W.nsIn K mainGlobals "over_bounds" = some (some (.ref f_over_bounds)))
    (l_over_bounds : K.lookup f_over_bounds = some ⟨oc_over_bounds, od_over_bounds, .func (PySem.W.fnOf "over_bounds" "over_bounds" (defArgs s_over_bounds) (defBody s_over_bounds) (defScope s_over_bounds) .none kV_over_bounds dc_over_bounds pm_over_bounds an_over_bounds cd_over_bounds ct_over_bounds), sl_over_bounds⟩)
    (e_over_bounds : PySem.W.codeIn K cd_over_bounds "over_bounds" = true)
    (k_over_bounds : PySem.W.keepIn K (.ref f_over_bounds) = true)
    (a_over_dealing : PySem.W.nsIn K mainGlobals "over_dealing" = some (some (.ref f_over_dealing)))
    (l_over_dealing : K.lookup f_over_dealing = some ⟨oc_over_dealing, od_over_dealing, .func (PySem.W.fnOf "over_dealing" "over_dealing" (defArgs s_over_dealing) (defBody s_over_dealing) (defScope s_over_dealing) (.ref dT_over_dealing) kV_over_dealing dc_over_dealing pm_over_dealing an_over_dealing cd_over_dealing ct_over_dealing), sl_over_dealing⟩)
    (e_over_dealing : PySem.W.codeIn K cd_over_dealing "over_dealing" = true)
    (k_over_dealing : PySem.W.keepIn K (.ref f_over_dealing) = true)
    (d_over_dealing : dfB K dT_over_dealing 1 = true)
    (a_values_dealt : PySem.W.nsIn K mainGlobals "values_dealt" = some (some (.ref f_values_dealt)))
    (l_values_dealt : K.lookup f_values_dealt = some ⟨oc_values_dealt, od_values_dealt, .func (PySem.W.fnOf "values_dealt" "values_dealt" (defArgs s_values_dealt) (defBody s_values_dealt) (defScope s_values_dealt) .none kV_values_dealt dc_values_dealt pm_values_dealt an_values_dealt cd_values_dealt ct_values_dealt), sl_values_dealt⟩)
    (e_values_dealt : PySem.W.codeIn K cd_values_dealt "values_dealt" = true)
    (k_values_dealt : PySem.W.keepIn K (.ref f_values_dealt) = true)
    (a_values_with_place : PySem.W.nsIn K mainGlobals "values_with_place" = some (some (.ref f_values_with_place)))
    (l_values_with_place : K.lookup f_values_with_place = some ⟨oc_values_with_place, od_values_with_place, .func (PySem.W.fnOf "values_with_place" "values_with_place" (defArgs s_values_with_place) (defBody s_values_with_place) (defScope s_values_with_place) .none kV_values_with_place dc_values_with_place pm_values_with_place an_values_with_place cd_values_with_place ct_values_with_place), sl_values_with_place⟩)
    (e_values_with_place : PySem.W.codeIn K cd_values_with_place "values_with_place" = true)
    (k_values_with_place : PySem.W.keepIn K (.ref f_values_with_place) = true)
    (a_turned_dealing : PySem.W.nsIn K mainGlobals "turned_dealing" = some (some (.ref f_turned_dealing)))
    (l_turned_dealing : K.lookup f_turned_dealing = some ⟨oc_turned_dealing, od_turned_dealing, .func (PySem.W.fnOf "turned_dealing" "turned_dealing" (defArgs s_turned_dealing) (defBody s_turned_dealing) (defScope s_turned_dealing) .none kV_turned_dealing dc_turned_dealing pm_turned_dealing an_turned_dealing cd_turned_dealing ct_turned_dealing), sl_turned_dealing⟩)
    (e_turned_dealing : PySem.W.codeIn K cd_turned_dealing "turned_dealing" = true)
    (k_turned_dealing : PySem.W.keepIn K (.ref f_turned_dealing) = true)
    (a_le_pen : PySem.W.nsIn K mainGlobals "_law_e_pen" = some (some (.ref f_le_pen)))
    (l_le_pen : K.lookup f_le_pen = some ⟨oc_le_pen, od_le_pen, .func (PySem.W.fnOf "_law_e_pen" "_law_e_pen" (defArgs s_le_pen) (defBody s_le_pen) (defScope s_le_pen) .none kV_le_pen dc_le_pen pm_le_pen an_le_pen cd_le_pen ct_le_pen), sl_le_pen⟩)
    (e_le_pen : PySem.W.codeIn K cd_le_pen "_law_e_pen" = true)
    (k_le_pen : PySem.W.keepIn K (.ref f_le_pen) = true)
    (a_le_fresh : PySem.W.nsIn K mainGlobals "_law_e_fresh" = some (some (.ref f_le_fresh)))
    (l_le_fresh : K.lookup f_le_fresh = some ⟨oc_le_fresh, od_le_fresh, .func (PySem.W.fnOf "_law_e_fresh" "_law_e_fresh" (defArgs s_le_fresh) (defBody s_le_fresh) (defScope s_le_fresh) .none kV_le_fresh dc_le_fresh pm_le_fresh an_le_fresh cd_le_fresh ct_le_fresh), sl_le_fresh⟩)
    (e_le_fresh : PySem.W.codeIn K cd_le_fresh "_law_e_fresh" = true)
    (k_le_fresh : PySem.W.keepIn K (.ref f_le_fresh) = true)
    (a_le_take : PySem.W.nsIn K mainGlobals "_law_e_take" = some (some (.ref f_le_take)))
    (l_le_take : K.lookup f_le_take = some ⟨oc_le_take, od_le_take, .func (PySem.W.fnOf "_law_e_take" "_law_e_take" (defArgs s_le_take) (defBody s_le_take) (defScope s_le_take) .none kV_le_take dc_le_take pm_le_take an_le_take cd_le_take ct_le_take), sl_le_take⟩)
    (e_le_take : PySem.W.codeIn K cd_le_take "_law_e_take" = true)
    (k_le_take : PySem.W.keepIn K (.ref f_le_take) = true)
    (a_le_case : PySem.W.nsIn K mainGlobals "_law_e_case" = some (some (.ref f_le_case)))
    (l_le_case : K.lookup f_le_case = some ⟨oc_le_case, od_le_case, .func (PySem.W.fnOf "_law_e_case" "_law_e_case" (defArgs s_le_case) (defBody s_le_case) (defScope s_le_case) .none kV_le_case dc_le_case pm_le_case an_le_case cd_le_case ct_le_case), sl_le_case⟩)
    (e_le_case : PySem.W.codeIn K cd_le_case "_law_e_case" = true)
    (k_le_case : PySem.W.keepIn K (.ref f_le_case) = true)
    (a_le_dealings : PySem.W.nsIn K mainGlobals "_law_e_dealings" = some (some (.ref f_le_dealings)))
    (l_le_dealings : K.lookup f_le_dealings = some ⟨oc_le_dealings, od_le_dealings, .func (PySem.W.fnOf "_law_e_dealings" "_law_e_dealings" (defArgs s_le_dealings) (defBody s_le_dealings) (defScope s_le_dealings) .none kV_le_dealings dc_le_dealings pm_le_dealings an_le_dealings cd_le_dealings ct_le_dealings), sl_le_dealings⟩)
    (e_le_dealings : PySem.W.codeIn K cd_le_dealings "_law_e_dealings" = true)
    (k_le_dealings : PySem.W.keepIn K (.ref f_le_dealings) = true)
    (a_le_bounds : PySem.W.nsIn K mainGlobals "_law_e_bounds" = some (some (.ref f_le_bounds)))
    (l_le_bounds : K.lookup f_le_bounds = some ⟨oc_le_bounds, od_le_bounds, .func (PySem.W.fnOf "_law_e_bounds" "_law_e_bounds" (defArgs s_le_bounds) (defBody s_le_bounds) (defScope s_le_bounds) .none kV_le_bounds dc_le_bounds pm_le_bounds an_le_bounds cd_le_bounds ct_le_bounds), sl_le_bounds⟩)
    (e_le_bounds : PySem.W.codeIn K cd_le_bounds "_law_e_bounds" = true)
    (k_le_bounds : PySem.W.keepIn K (.ref f_le_bounds) = true)
    (a_le_about : PySem.W.nsIn K mainGlobals "_law_e_about" = some (some (.ref f_le_about)))
    (l_le_about : K.lookup f_le_about = some ⟨oc_le_about, od_le_about, .func (PySem.W.fnOf "_law_e_about" "_law_e_about" (defArgs s_le_about) (defBody s_le_about) (defScope s_le_about) .none kV_le_about dc_le_about pm_le_about an_le_about cd_le_about ct_le_about), sl_le_about⟩)
    (e_le_about : PySem.W.codeIn K cd_le_about "_law_e_about" = true)
    (k_le_about : PySem.W.keepIn K (.ref f_le_about) = true)
    (a_le_greater : PySem.W.nsIn K mainGlobals "_law_e_greater" = some (some (.ref f_le_greater)))
    (l_le_greater : K.lookup f_le_greater = some ⟨oc_le_greater, od_le_greater, .func (PySem.W.fnOf "_law_e_greater" "_law_e_greater" (defArgs s_le_greater) (defBody s_le_greater) (defScope s_le_greater) .none kV_le_greater dc_le_greater pm_le_greater an_le_greater cd_le_greater ct_le_greater), sl_le_greater⟩)
    (e_le_greater : PySem.W.codeIn K cd_le_greater "_law_e_greater" = true)
    (k_le_greater : PySem.W.keepIn K (.ref f_le_greater) = true)
    (a_le_within : PySem.W.nsIn K mainGlobals "_law_e_within" = some (some (.ref f_le_within)))
    (l_le_within : K.lookup f_le_within = some ⟨oc_le_within, od_le_within, .func (PySem.W.fnOf "_law_e_within" "_law_e_within" (defArgs s_le_within) (defBody s_le_within) (defScope s_le_within) .none kV_le_within dc_le_within pm_le_within an_le_within cd_le_within ct_le_within), sl_le_within⟩)
    (e_le_within : PySem.W.codeIn K cd_le_within "_law_e_within" = true)
    (k_le_within : PySem.W.keepIn K (.ref f_le_within) = true)
    (a_le_known_more : PySem.W.nsIn K mainGlobals "_law_e_known_more" = some (some (.ref f_le_known_more)))
    (l_le_known_more : K.lookup f_le_known_more = some ⟨oc_le_known_more, od_le_known_more, .func (PySem.W.fnOf "_law_e_known_more" "_law_e_known_more" (defArgs s_le_known_more) (defBody s_le_known_more) (defScope s_le_known_more) .none kV_le_known_more dc_le_known_more pm_le_known_more an_le_known_more cd_le_known_more ct_le_known_more), sl_le_known_more⟩)
    (e_le_known_more : PySem.W.codeIn K cd_le_known_more "_law_e_known_more" = true)
    (k_le_known_more : PySem.W.keepIn K (.ref f_le_known_more) = true)
    (a_le_numbers_right : PySem.W.nsIn K mainGlobals "_law_e_numbers_right" = some (some (.ref f_le_numbers_right)))
    (l_le_numbers_right : K.lookup f_le_numbers_right = some ⟨oc_le_numbers_right, od_le_numbers_right, .func (PySem.W.fnOf "_law_e_numbers_right" "_law_e_numbers_right" (defArgs s_le_numbers_right) (defBody s_le_numbers_right) (defScope s_le_numbers_right) .none kV_le_numbers_right dc_le_numbers_right pm_le_numbers_right an_le_numbers_right cd_le_numbers_right ct_le_numbers_right), sl_le_numbers_right⟩)
    (e_le_numbers_right : PySem.W.codeIn K cd_le_numbers_right "_law_e_numbers_right" = true)
    (k_le_numbers_right : PySem.W.keepIn K (.ref f_le_numbers_right) = true)
    (a_law : PySem.W.nsIn K mainGlobals "law" = some (some (.ref f_law)))
    (l_law : K.lookup f_law = some ⟨oc_law, od_law, .func (PySem.W.fnOf "law" "law" (defArgs s_law) (defBody s_law) (defScope s_law) .none kV_law dc_law pm_law an_law cd_law ct_law), sl_law⟩)
    (e_law : PySem.W.codeIn K cd_law "law" = true)
    (k_law : PySem.W.keepIn K (.ref f_law) = true)
    (a_Values___init__ : PySem.W.findIn K (.ref C_Values) "__init__" = some (some (.ref f_Values___init__)))
    (i_Values___init__ : PySem.W.isFn K (.ref f_Values___init__) = true)
    (l_Values___init__ : K.lookup f_Values___init__ = some ⟨oc_Values___init__, od_Values___init__, .func (PySem.W.fnOf "__init__" "Values.__init__" (defArgs s_Values___init__) (defBody s_Values___init__) (defScope s_Values___init__) .none kV_Values___init__ dc_Values___init__ pm_Values___init__ an_Values___init__ cd_Values___init__ ct_Values___init__), sl_Values___init__⟩)
    (e_Values___init__ : PySem.W.codeIn K cd_Values___init__ "Values.__init__" = true)
    (k_Values___init__ : PySem.W.keepIn K (.ref f_Values___init__) = true)
    (a_Values_turned : PySem.W.findIn K (.ref C_Values) "turned" = some (some (.ref f_Values_turned)))
    (i_Values_turned : PySem.W.isFn K (.ref f_Values_turned) = true)
    (l_Values_turned : K.lookup f_Values_turned = some ⟨oc_Values_turned, od_Values_turned, .func (PySem.W.fnOf "turned" "Values.turned" (defArgs s_Values_turned) (defBody s_Values_turned) (defScope s_Values_turned) .none kV_Values_turned dc_Values_turned pm_Values_turned an_Values_turned cd_Values_turned ct_Values_turned), sl_Values_turned⟩)
    (e_Values_turned : PySem.W.codeIn K cd_Values_turned "Values.turned" = true)
    (k_Values_turned : PySem.W.keepIn K (.ref f_Values_turned) = true)
    (a_Values_in_all : PySem.W.findIn K (.ref C_Values) "in_all" = some (some (.ref f_Values_in_all)))
    (i_Values_in_all : PySem.W.isFn K (.ref f_Values_in_all) = true)
    (l_Values_in_all : K.lookup f_Values_in_all = some ⟨oc_Values_in_all, od_Values_in_all, .func (PySem.W.fnOf "in_all" "Values.in_all" (defArgs s_Values_in_all) (defBody s_Values_in_all) (defScope s_Values_in_all) .none kV_Values_in_all dc_Values_in_all pm_Values_in_all an_Values_in_all cd_Values_in_all ct_Values_in_all), sl_Values_in_all⟩)
    (e_Values_in_all : PySem.W.codeIn K cd_Values_in_all "Values.in_all" = true)
    (k_Values_in_all : PySem.W.keepIn K (.ref f_Values_in_all) = true)
    (a_Values_has_dealing : PySem.W.findIn K (.ref C_Values) "has_dealing" = some (some (.ref f_Values_has_dealing)))
    (i_Values_has_dealing : PySem.W.isFn K (.ref f_Values_has_dealing) = true)
    (l_Values_has_dealing : K.lookup f_Values_has_dealing = some ⟨oc_Values_has_dealing, od_Values_has_dealing, .func (PySem.W.fnOf "has_dealing" "Values.has_dealing" (defArgs s_Values_has_dealing) (defBody s_Values_has_dealing) (defScope s_Values_has_dealing) .none kV_Values_has_dealing dc_Values_has_dealing pm_Values_has_dealing an_Values_has_dealing cd_Values_has_dealing ct_Values_has_dealing), sl_Values_has_dealing⟩)
    (e_Values_has_dealing : PySem.W.codeIn K cd_Values_has_dealing "Values.has_dealing" = true)
    (k_Values_has_dealing : PySem.W.keepIn K (.ref f_Values_has_dealing) = true)
    (a_Values_least_total : PySem.W.findIn K (.ref C_Values) "least_total" = some (some (.ref f_Values_least_total)))
    (i_Values_least_total : PySem.W.isFn K (.ref f_Values_least_total) = true)
    (l_Values_least_total : K.lookup f_Values_least_total = some ⟨oc_Values_least_total, od_Values_least_total, .func (PySem.W.fnOf "least_total" "Values.least_total" (defArgs s_Values_least_total) (defBody s_Values_least_total) (defScope s_Values_least_total) .none kV_Values_least_total dc_Values_least_total pm_Values_least_total an_Values_least_total cd_Values_least_total ct_Values_least_total), sl_Values_least_total⟩)
    (e_Values_least_total : PySem.W.codeIn K cd_Values_least_total "Values.least_total" = true)
    (k_Values_least_total : PySem.W.keepIn K (.ref f_Values_least_total) = true)
    (a_Values_most_dealt : PySem.W.findIn K (.ref C_Values) "most_dealt" = some (some (.ref f_Values_most_dealt)))
    (i_Values_most_dealt : PySem.W.isFn K (.ref f_Values_most_dealt) = true)
    (l_Values_most_dealt : K.lookup f_Values_most_dealt = some ⟨oc_Values_most_dealt, od_Values_most_dealt, .func (PySem.W.fnOf "most_dealt" "Values.most_dealt" (defArgs s_Values_most_dealt) (defBody s_Values_most_dealt) (defScope s_Values_most_dealt) .none kV_Values_most_dealt dc_Values_most_dealt pm_Values_most_dealt an_Values_most_dealt cd_Values_most_dealt ct_Values_most_dealt), sl_Values_most_dealt⟩)
    (e_Values_most_dealt : PySem.W.codeIn K cd_Values_most_dealt "Values.most_dealt" = true)
    (k_Values_most_dealt : PySem.W.keepIn K (.ref f_Values_most_dealt) = true)
    (a_Values_most_under : PySem.W.findIn K (.ref C_Values) "most_under" = some (some (.ref f_Values_most_under)))
    (i_Values_most_under : PySem.W.isFn K (.ref f_Values_most_under) = true)
    (l_Values_most_under : K.lookup f_Values_most_under = some ⟨oc_Values_most_under, od_Values_most_under, .func (PySem.W.fnOf "most_under" "Values.most_under" (defArgs s_Values_most_under) (defBody s_Values_most_under) (defScope s_Values_most_under) .none kV_Values_most_under dc_Values_most_under pm_Values_most_under an_Values_most_under cd_Values_most_under ct_Values_most_under), sl_Values_most_under⟩)
    (e_Values_most_under : PySem.W.codeIn K cd_Values_most_under "Values.most_under" = true)
    (k_Values_most_under : PySem.W.keepIn K (.ref f_Values_most_under) = true)
    (a_Values_dealing_under : PySem.W.findIn K (.ref C_Values) "dealing_under" = some (some (.ref f_Values_dealing_under)))
    (i_Values_dealing_under : PySem.W.isFn K (.ref f_Values_dealing_under) = true)
    (l_Values_dealing_under : K.lookup f_Values_dealing_under = some ⟨oc_Values_dealing_under, od_Values_dealing_under, .func (PySem.W.fnOf "dealing_under" "Values.dealing_under" (defArgs s_Values_dealing_under) (defBody s_Values_dealing_under) (defScope s_Values_dealing_under) .none kV_Values_dealing_under dc_Values_dealing_under pm_Values_dealing_under an_Values_dealing_under cd_Values_dealing_under ct_Values_dealing_under), sl_Values_dealing_under⟩)
    (e_Values_dealing_under : PySem.W.codeIn K cd_Values_dealing_under "Values.dealing_under" = true)
    (k_Values_dealing_under : PySem.W.keepIn K (.ref f_Values_dealing_under) = true)
    (a_Values_least_at : PySem.W.findIn K (.ref C_Values) "least_at" = some (some (.ref f_Values_least_at)))
    (i_Values_least_at : PySem.W.isFn K (.ref f_Values_least_at) = true)
    (l_Values_least_at : K.lookup f_Values_least_at = some ⟨oc_Values_least_at, od_Values_least_at, .func (PySem.W.fnOf "least_at" "Values.least_at" (defArgs s_Values_least_at) (defBody s_Values_least_at) (defScope s_Values_least_at) .none kV_Values_least_at dc_Values_least_at pm_Values_least_at an_Values_least_at cd_Values_least_at ct_Values_least_at), sl_Values_least_at⟩)
    (e_Values_least_at : PySem.W.codeIn K cd_Values_least_at "Values.least_at" = true)
    (k_Values_least_at : PySem.W.keepIn K (.ref f_Values_least_at) = true)
    (aC_WoodError : PySem.W.nsIn K mainGlobals "WoodError" = some (some (.ref C_WoodError)))
    (eC_WoodError : errB K C_WoodError = true)
    (qC_WoodError : PySem.W.excIn K C_WoodError PySem.HandSPX.veTail "ValueError.__new__" = true)
    (aC_NoDealing : PySem.W.nsIn K mainGlobals "NoDealing" = some (some (.ref C_NoDealing)))
    (eC_NoDealing : errB K C_NoDealing = true)
    (qC_NoDealing : PySem.W.excIn K C_NoDealing PySem.HandSPX.veTail "ValueError.__new__" = true)
    (aC_NoPlace : PySem.W.nsIn K mainGlobals "NoPlace" = some (some (.ref C_NoPlace)))
    (eC_NoPlace : errB K C_NoPlace = true)
    (qC_NoPlace : PySem.W.excIn K C_NoPlace PySem.HandSPX.veTail "ValueError.__new__" = true)
    (kindsE : kindsB K C_WoodError [C_NoDealing, C_NoPlace] = true)
    (z_all : PySem.W.nsIn K mainGlobals "all" = some none)
    (z_bool : PySem.W.nsIn K mainGlobals "bool" = some none)
    (z_int : PySem.W.nsIn K mainGlobals "int" = some none)
    (z_isinstance : PySem.W.nsIn K mainGlobals "isinstance" = some none)
    (z_len : PySem.W.nsIn K mainGlobals "len" = some none)
    (z_list : PySem.W.nsIn K mainGlobals "list" = some none)
    (z_max : PySem.W.nsIn K mainGlobals "max" = some none)
    (z_min : PySem.W.nsIn K mainGlobals "min" = some none)
    (z_range : PySem.W.nsIn K mainGlobals "range" = some none)
    (z_sorted : PySem.W.nsIn K mainGlobals "sorted" = some none)
    (z_sum : PySem.W.nsIn K mainGlobals "sum" = some none)
    (z_zip : PySem.W.nsIn K mainGlobals "zip" = some none) :
    ∃ fd : FuncData, (∀ (s : Shared) (v : Value), BindsTo s fd ⟨[v], []⟩ [("script", v)]) ∧ ∀ base : Heap, K.In base → base.Ns mainGlobals mg → Holds l.prog w K mg base 8 fa fd ["script"] (prLaw K) := by
  have e := (PySem.W.mg_of X G a_law).symm.trans hfa
  cases e
  let T : Tx l.prog K mg := { f_is_whole := _, fd_is_whole := _, F_is_whole := funV_mk (st := s_is_whole) l_is_whole e_is_whole k_is_whole, g_is_whole := PySem.W.mg_of X G a_is_whole, b_is_whole := (fun_mk (st := s_is_whole) l_is_whole e_is_whole k_is_whole).binds (ps := ["thing"]) (fun _ _ _ _ _ _ us hl => match us, hl with | [_], _ => rfl), f_place_bounds := _, fd_place_bounds := _, F_place_bounds := funV_mk (st := s_place_bounds) l_place_bounds e_place_bounds k_place_bounds, g_place_bounds := PySem.W.mg_of X G a_place_bounds, b_place_bounds := (fun_mk (st := s_place_bounds) l_place_bounds e_place_bounds k_place_bounds).binds (ps := ["kept", "many", "low", "high", "total", "place"]) (fun _ _ _ _ _ _ us hl => match us, hl with | [_, _, _, _, _, _], _ => rfl), f_place_dealing := _, fd_place_dealing := _, F_place_dealing := funV_mk (st := s_place_dealing) l_place_dealing e_place_dealing k_place_dealing, g_place_dealing := PySem.W.mg_of X G a_place_dealing, b_place_dealing := binds_dfl (ps := ["kept", "many", "low", "high", "total", "place", "greatest"]) d_place_dealing (fun us its hl hd => match us, hl, its, hd with | [_, _, _, _, _, _, _], _, [_], _ => ⟨_, rfl, rfl⟩), f_over_bounds := _, fd_over_bounds := _, F_over_bounds := funV_mk (st := s_over_bounds) l_over_bounds e_over_bounds k_over_bounds, g_over_bounds := PySem.W.mg_of X G a_over_bounds, b_over_bounds := (fun_mk (st := s_over_bounds) l_over_bounds e_over_bounds k_over_bounds).binds (ps := ["kept", "many", "low", "high", "total", "number"]) (fun _ _ _ _ _ _ us hl => match us, hl with | [_, _, _, _, _, _], _ => rfl), f_over_dealing := _, fd_over_dealing := _, F_over_dealing := funV_mk (st := s_over_dealing) l_over_dealing e_over_dealing k_over_dealing, g_over_dealing := PySem.W.mg_of X G a_over_dealing, b_over_dealing := binds_dfl (ps := ["kept", "many", "low", "high", "total", "number", "greatest"]) d_over_dealing (fun us its hl hd => match us, hl, its, hd with | [_, _, _, _, _, _, _], _, [_], _ => ⟨_, rfl, rfl⟩), f_values_dealt := _, fd_values_dealt := _, F_values_dealt := funV_mk (st := s_values_dealt) l_values_dealt e_values_dealt k_values_dealt, g_values_dealt := PySem.W.mg_of X G a_values_dealt, b_values_dealt := (fun_mk (st := s_values_dealt) l_values_dealt e_values_dealt k_values_dealt).binds (ps := ["kept", "many", "low", "high", "total"]) (fun _ _ _ _ _ _ us hl => match us, hl with | [_, _, _, _, _], _ => rfl), f_values_with_place := _, fd_values_with_place := _, F_values_with_place := funV_mk (st := s_values_with_place) l_values_with_place e_values_with_place k_values_with_place, g_values_with_place := PySem.W.mg_of X G a_values_with_place, b_values_with_place := (fun_mk (st := s_values_with_place) l_values_with_place e_values_with_place k_values_with_place).binds (ps := ["kept", "many", "low", "high", "total", "place"]) (fun _ _ _ _ _ _ us hl => match us, hl with | [_, _, _, _, _, _], _ => rfl), f_turned_dealing := _, fd_turned_dealing := _, F_turned_dealing := funV_mk (st := s_turned_dealing) l_turned_dealing e_turned_dealing k_turned_dealing, g_turned_dealing := PySem.W.mg_of X G a_turned_dealing, b_turned_dealing := (fun_mk (st := s_turned_dealing) l_turned_dealing e_turned_dealing k_turned_dealing).binds (ps := ["turned", "number"]) (fun _ _ _ _ _ _ us hl => match us, hl with | [_, _], _ => rfl), f_le_pen := _, fd_le_pen := _, F_le_pen := funV_mk (st := s_le_pen) l_le_pen e_le_pen k_le_pen, g_le_pen := PySem.W.mg_of X G a_le_pen, b_le_pen := (fun_mk (st := s_le_pen) l_le_pen e_le_pen k_le_pen).binds (ps := ["script"]) (fun _ _ _ _ _ _ us hl => match us, hl with | [_], _ => rfl), f_le_fresh := _, fd_le_fresh := _, F_le_fresh := funV_mk (st := s_le_fresh) l_le_fresh e_le_fresh k_le_fresh, g_le_fresh := PySem.W.mg_of X G a_le_fresh, b_le_fresh := (fun_mk (st := s_le_fresh) l_le_fresh e_le_fresh k_le_fresh).binds (ps := ["pen"]) (fun _ _ _ _ _ _ us hl => match us, hl with | [_], _ => rfl), f_le_take := _, fd_le_take := _, F_le_take := funV_mk (st := s_le_take) l_le_take e_le_take k_le_take, g_le_take := PySem.W.mg_of X G a_le_take, b_le_take := (fun_mk (st := s_le_take) l_le_take e_le_take k_le_take).binds (ps := ["pen", "many"]) (fun _ _ _ _ _ _ us hl => match us, hl with | [_, _], _ => rfl), f_le_case := _, fd_le_case := _, F_le_case := funV_mk (st := s_le_case) l_le_case e_le_case k_le_case, g_le_case := PySem.W.mg_of X G a_le_case, b_le_case := (fun_mk (st := s_le_case) l_le_case e_le_case k_le_case).binds (ps := ["pen"]) (fun _ _ _ _ _ _ us hl => match us, hl with | [_], _ => rfl), f_le_dealings := _, fd_le_dealings := _, F_le_dealings := funV_mk (st := s_le_dealings) l_le_dealings e_le_dealings k_le_dealings, g_le_dealings := PySem.W.mg_of X G a_le_dealings, b_le_dealings := (fun_mk (st := s_le_dealings) l_le_dealings e_le_dealings k_le_dealings).binds (ps := ["many", "low", "high", "total"]) (fun _ _ _ _ _ _ us hl => match us, hl with | [_, _, _, _], _ => rfl), f_le_bounds := _, fd_le_bounds := _, F_le_bounds := funV_mk (st := s_le_bounds) l_le_bounds e_le_bounds k_le_bounds, g_le_bounds := PySem.W.mg_of X G a_le_bounds, b_le_bounds := (fun_mk (st := s_le_bounds) l_le_bounds e_le_bounds k_le_bounds).binds (ps := ["case"]) (fun _ _ _ _ _ _ us hl => match us, hl with | [_], _ => rfl), f_le_about := _, fd_le_about := _, F_le_about := funV_mk (st := s_le_about) l_le_about e_le_about k_le_about, g_le_about := PySem.W.mg_of X G a_le_about, b_le_about := (fun_mk (st := s_le_about) l_le_about e_le_about k_le_about).binds (ps := ["case"]) (fun _ _ _ _ _ _ us hl => match us, hl with | [_], _ => rfl), f_le_greater := _, fd_le_greater := _, F_le_greater := funV_mk (st := s_le_greater) l_le_greater e_le_greater k_le_greater, g_le_greater := PySem.W.mg_of X G a_le_greater, b_le_greater := (fun_mk (st := s_le_greater) l_le_greater e_le_greater k_le_greater).binds (ps := ["case", "by"]) (fun _ _ _ _ _ _ us hl => match us, hl with | [_, _], _ => rfl), f_le_within := _, fd_le_within := _, F_le_within := funV_mk (st := s_le_within) l_le_within e_le_within k_le_within, g_le_within := PySem.W.mg_of X G a_le_within, b_le_within := (fun_mk (st := s_le_within) l_le_within e_le_within k_le_within).binds (ps := ["inner", "outer"]) (fun _ _ _ _ _ _ us hl => match us, hl with | [_, _], _ => rfl), f_le_known_more := _, fd_le_known_more := _, F_le_known_more := funV_mk (st := s_le_known_more) l_le_known_more e_le_known_more k_le_known_more, g_le_known_more := PySem.W.mg_of X G a_le_known_more, b_le_known_more := (fun_mk (st := s_le_known_more) l_le_known_more e_le_known_more k_le_known_more).binds (ps := ["pen", "case", "bounds"]) (fun _ _ _ _ _ _ us hl => match us, hl with | [_, _, _], _ => rfl), f_le_numbers_right := _, fd_le_numbers_right := _, F_le_numbers_right := funV_mk (st := s_le_numbers_right) l_le_numbers_right e_le_numbers_right k_le_numbers_right, g_le_numbers_right := PySem.W.mg_of X G a_le_numbers_right, b_le_numbers_right := (fun_mk (st := s_le_numbers_right) l_le_numbers_right e_le_numbers_right k_le_numbers_right).binds (ps := ["pen", "case", "bounds"]) (fun _ _ _ _ _ _ us hl => match us, hl with | [_, _, _], _ => rfl), f_law := _, fd_law := _, F_law := funV_mk (st := s_law) l_law e_law k_law, g_law := PySem.W.mg_of X G a_law, b_law := (fun_mk (st := s_law) l_law e_law k_law).binds (ps := ["script"]) (fun _ _ _ _ _ _ us hl => match us, hl with | [_], _ => rfl), f_Values___init__ := _, fd_Values___init__ := _, F_Values___init__ := funV_mk (st := s_Values___init__) l_Values___init__ e_Values___init__ k_Values___init__, Mk_Values := ⟨mkC_Values, a_Values___init__, i_Values___init__, kC_Values⟩, b_Values___init__ := (fun_mk (st := s_Values___init__) l_Values___init__ e_Values___init__ k_Values___init__).binds (ps := ["self", "kept", "many", "low", "high", "total"]) (fun _ _ _ _ _ _ us hl => match us, hl with | [_, _, _, _, _, _], _ => rfl), f_Values_turned := _, fd_Values_turned := _, F_Values_turned := funV_mk (st := s_Values_turned) l_Values_turned e_Values_turned k_Values_turned, M_Values_turned := ⟨a_Values_turned, i_Values_turned, k_Values_turned⟩, b_Values_turned := (fun_mk (st := s_Values_turned) l_Values_turned e_Values_turned k_Values_turned).binds (ps := ["self"]) (fun _ _ _ _ _ _ us hl => match us, hl with | [_], _ => rfl), f_Values_in_all := _, fd_Values_in_all := _, F_Values_in_all := funV_mk (st := s_Values_in_all) l_Values_in_all e_Values_in_all k_Values_in_all, M_Values_in_all := ⟨a_Values_in_all, i_Values_in_all, k_Values_in_all⟩, b_Values_in_all := (fun_mk (st := s_Values_in_all) l_Values_in_all e_Values_in_all k_Values_in_all).binds (ps := ["self"]) (fun _ _ _ _ _ _ us hl => match us, hl with | [_], _ => rfl), f_Values_has_dealing := _, fd_Values_has_dealing := _, F_Values_has_dealing := funV_mk (st := s_Values_has_dealing) l_Values_has_dealing e_Values_has_dealing k_Values_has_dealing, M_Values_has_dealing := ⟨a_Values_has_dealing, i_Values_has_dealing, k_Values_has_dealing⟩, b_Values_has_dealing := (fun_mk (st := s_Values_has_dealing) l_Values_has_dealing e_Values_has_dealing k_Values_has_dealing).binds (ps := ["self"]) (fun _ _ _ _ _ _ us hl => match us, hl with | [_], _ => rfl), f_Values_least_total := _, fd_Values_least_total := _, F_Values_least_total := funV_mk (st := s_Values_least_total) l_Values_least_total e_Values_least_total k_Values_least_total, M_Values_least_total := ⟨a_Values_least_total, i_Values_least_total, k_Values_least_total⟩, b_Values_least_total := (fun_mk (st := s_Values_least_total) l_Values_least_total e_Values_least_total k_Values_least_total).binds (ps := ["self"]) (fun _ _ _ _ _ _ us hl => match us, hl with | [_], _ => rfl), f_Values_most_dealt := _, fd_Values_most_dealt := _, F_Values_most_dealt := funV_mk (st := s_Values_most_dealt) l_Values_most_dealt e_Values_most_dealt k_Values_most_dealt, M_Values_most_dealt := ⟨a_Values_most_dealt, i_Values_most_dealt, k_Values_most_dealt⟩, b_Values_most_dealt := (fun_mk (st := s_Values_most_dealt) l_Values_most_dealt e_Values_most_dealt k_Values_most_dealt).binds (ps := ["self", "number"]) (fun _ _ _ _ _ _ us hl => match us, hl with | [_, _], _ => rfl), f_Values_most_under := _, fd_Values_most_under := _, F_Values_most_under := funV_mk (st := s_Values_most_under) l_Values_most_under e_Values_most_under k_Values_most_under, M_Values_most_under := ⟨a_Values_most_under, i_Values_most_under, k_Values_most_under⟩, b_Values_most_under := (fun_mk (st := s_Values_most_under) l_Values_most_under e_Values_most_under k_Values_most_under).binds (ps := ["self", "number"]) (fun _ _ _ _ _ _ us hl => match us, hl with | [_, _], _ => rfl), f_Values_dealing_under := _, fd_Values_dealing_under := _, F_Values_dealing_under := funV_mk (st := s_Values_dealing_under) l_Values_dealing_under e_Values_dealing_under k_Values_dealing_under, M_Values_dealing_under := ⟨a_Values_dealing_under, i_Values_dealing_under, k_Values_dealing_under⟩, b_Values_dealing_under := (fun_mk (st := s_Values_dealing_under) l_Values_dealing_under e_Values_dealing_under k_Values_dealing_under).binds (ps := ["self", "number"]) (fun _ _ _ _ _ _ us hl => match us, hl with | [_, _], _ => rfl), f_Values_least_at := _, fd_Values_least_at := _, F_Values_least_at := funV_mk (st := s_Values_least_at) l_Values_least_at e_Values_least_at k_Values_least_at, M_Values_least_at := ⟨a_Values_least_at, i_Values_least_at, k_Values_least_at⟩, b_Values_least_at := (fun_mk (st := s_Values_least_at) l_Values_least_at e_Values_least_at k_Values_least_at).binds (ps := ["self", "place"]) (fun _ _ _ _ _ _ us hl => match us, hl with | [_, _], _ => rfl), C_Values := C_Values, gC_Values := PySem.W.mg_of X G aC_Values, cl_Values := ⟨pg_Values, hd_Values, po_Values, sa_Values⟩, n_Values_kept := nA_Values_kept, n_Values_many := nA_Values_many, n_Values_low := nA_Values_low, n_Values_high := nA_Values_high, n_Values_total := nA_Values_total, C_WoodError := C_WoodError, gC_WoodError := PySem.W.mg_of X G aC_WoodError, E_WoodError := errB_ok eC_WoodError, q_WoodError := qC_WoodError, C_NoDealing := C_NoDealing, gC_NoDealing := PySem.W.mg_of X G aC_NoDealing, E_NoDealing := errB_ok eC_NoDealing, q_NoDealing := qC_NoDealing, C_NoPlace := C_NoPlace, gC_NoPlace := PySem.W.mg_of X G aC_NoPlace, E_NoPlace := errB_ok eC_NoPlace, q_NoPlace := qC_NoPlace, kinds := kindsB_ok kindsE, m_all := PySem.W.mg_none_of X G z_all, m_bool := PySem.W.mg_none_of X G z_bool, m_int := PySem.W.mg_none_of X G z_int, m_isinstance := PySem.W.mg_none_of X G z_isinstance, m_len := PySem.W.mg_none_of X G z_len, m_list := PySem.W.mg_none_of X G z_list, m_max := PySem.W.mg_none_of X G z_max, m_min := PySem.W.mg_none_of X G z_min, m_range := PySem.W.mg_none_of X G z_range, m_sorted := PySem.W.mg_none_of X G z_sorted, m_sum := PySem.W.mg_none_of X G z_sum, m_zip := PySem.W.mg_none_of X G z_zip }
  exact ⟨PySem.W.fnOf "law" "law" (defArgs s_law) (defBody s_law) (defScope s_law) .none kV_law dc_law pm_law an_law cd_law ct_law, fun s v => .of_eq rfl, fun base _ _ => ok_law T⟩
end LW
open PySem PySem.W PyProof.Rows
set_option maxRecDepth 100000 in
set_option maxHeartbeats 0 in
theorem PySem.Challenge.cw_latewood_k66_whole_bounds_for_all_holds : PySem.Challenge.rw_latewood_k66_whole_bounds_for_all.Holds := by
  w_on; o_law; k_head; (case hw => w_witness2)
  k_fill
  refine DL.walk_law (l := PySem.Challenge.rw_latewood_k66_whole_bounds_for_all) (x := "script") (k := 8) rfl rfl ⟨rfl, by decide, by decide⟩ (fun w h Y => PySem.W.kIn_of Y) ?F
  case F =>
    intro w mg fa h KX G hmg
    refine' LW.all_mk KX G hmg ?aC_Values ?pg_Values ?hd_Values ?po_Values ?sa_Values ?mkC_Values ?kC_Values ?nA_Values_kept ?nA_Values_many ?nA_Values_low ?nA_Values_high ?nA_Values_total ?a_is_whole ?l_is_whole ?e_is_whole ?k_is_whole ?a_place_bounds ?l_place_bounds ?e_place_bounds ?k_place_bounds ?a_place_dealing ?l_place_dealing ?e_place_dealing ?k_place_dealing ?d_place_dealing ?a_over_bounds ?l_over_bounds ?e_over_bounds ?k_over_bounds ?a_over_dealing ?l_over_dealing ?e_over_dealing ?k_over_dealing ?d_over_dealing ?a_values_dealt ?l_values_dealt ?e_values_dealt ?k_values_dealt ?a_values_with_place ?l_values_with_place ?e_values_with_place ?k_values_with_place ?a_turned_dealing ?l_turned_dealing ?e_turned_dealing ?k_turned_dealing ?a_le_pen ?l_le_pen ?e_le_pen ?k_le_pen ?a_le_fresh ?l_le_fresh ?e_le_fresh ?k_le_fresh ?a_le_take ?l_le_take ?e_le_take ?k_le_take ?a_le_case ?l_le_case ?e_le_case ?k_le_case ?a_le_dealings ?l_le_dealings ?e_le_dealings ?k_le_dealings ?a_le_bounds ?l_le_bounds ?e_le_bounds ?k_le_bounds ?a_le_about ?l_le_about ?e_le_about ?k_le_about ?a_le_greater ?l_le_greater ?e_le_greater ?k_le_greater ?a_le_within ?l_le_within ?e_le_within ?k_le_within ?a_le_known_more ?l_le_known_more ?e_le_known_more ?k_le_known_more ?a_le_numbers_right ?l_le_numbers_right ?e_le_numbers_right ?k_le_numbers_right ?a_law ?l_law ?e_law ?k_law ?a_Values___init__ ?i_Values___init__ ?l_Values___init__ ?e_Values___init__ ?k_Values___init__ ?a_Values_turned ?i_Values_turned ?l_Values_turned ?e_Values_turned ?k_Values_turned ?a_Values_in_all ?i_Values_in_all ?l_Values_in_all ?e_Values_in_all ?k_Values_in_all ?a_Values_has_dealing ?i_Values_has_dealing ?l_Values_has_dealing ?e_Values_has_dealing ?k_Values_has_dealing ?a_Values_least_total ?i_Values_least_total ?l_Values_least_total ?e_Values_least_total ?k_Values_least_total ?a_Values_most_dealt ?i_Values_most_dealt ?l_Values_most_dealt ?e_Values_most_dealt ?k_Values_most_dealt ?a_Values_most_under ?i_Values_most_under ?l_Values_most_under ?e_Values_most_under ?k_Values_most_under ?a_Values_dealing_under ?i_Values_dealing_under ?l_Values_dealing_under ?e_Values_dealing_under ?k_Values_dealing_under ?a_Values_least_at ?i_Values_least_at ?l_Values_least_at ?e_Values_least_at ?k_Values_least_at ?aC_WoodError ?eC_WoodError ?qC_WoodError ?aC_NoDealing ?eC_NoDealing ?qC_NoDealing ?aC_NoPlace ?eC_NoPlace ?qC_NoPlace ?kindsE ?z_all ?z_bool ?z_int ?z_isinstance ?z_len ?z_list ?z_max ?z_min ?z_range ?z_sorted ?z_sum ?z_zip
    (case aC_Values => k_is)
    (case pg_Values => k_is)
    (case hd_Values => k_is)
    (case po_Values => k_is)
    (case sa_Values => k_is)
    (case mkC_Values => k_is)
    (case kC_Values => k_is)
    (case nA_Values_kept => k_is)
    (case nA_Values_many => k_is)
    (case nA_Values_low => k_is)
    (case nA_Values_high => k_is)
    (case nA_Values_total => k_is)
    (case a_is_whole => k_is)
    (case l_is_whole => k_is)
    (case e_is_whole => k_is)
    (case k_is_whole => k_is)
    (case a_place_bounds => k_is)
    (case l_place_bounds => k_is)
    (case e_place_bounds => k_is)
    (case k_place_bounds => k_is)
    (case a_place_dealing => k_is)
    (case l_place_dealing => k_is)
    (case e_place_dealing => k_is)
    (case k_place_dealing => k_is)
    (case d_place_dealing => kernel_rfl)
    (case a_over_bounds => k_is)
    (case l_over_bounds => k_is)
    (case e_over_bounds => k_is)
    (case k_over_bounds => k_is)
    (case a_over_dealing => k_is)
    (case l_over_dealing => k_is)
    (case e_over_dealing => k_is)
    (case k_over_dealing => k_is)
    (case d_over_dealing => kernel_rfl)
    (case a_values_dealt => k_is)
    (case l_values_dealt => k_is)
    (case e_values_dealt => k_is)
    (case k_values_dealt => k_is)
    (case a_values_with_place => k_is)
    (case l_values_with_place => k_is)
    (case e_values_with_place => k_is)
    (case k_values_with_place => k_is)
    (case a_turned_dealing => k_is)
    (case l_turned_dealing => k_is)
    (case e_turned_dealing => k_is)
    (case k_turned_dealing => k_is)
    (case a_le_pen => k_is)
    (case l_le_pen => k_is)
    (case e_le_pen => k_is)
    (case k_le_pen => k_is)
    (case a_le_fresh => k_is)
    (case l_le_fresh => k_is)
    (case e_le_fresh => k_is)
    (case k_le_fresh => k_is)
    (case a_le_take => k_is)
    (case l_le_take => k_is)
    (case e_le_take => k_is)
    (case k_le_take => k_is)
    (case a_le_case => k_is)
    (case l_le_case => k_is)
    (case e_le_case => k_is)
    (case k_le_case => k_is)
    (case a_le_dealings => k_is)
    (case l_le_dealings => k_is)
    (case e_le_dealings => k_is)
    (case k_le_dealings => k_is)
    (case a_le_bounds => k_is)
    (case l_le_bounds => k_is)
    (case e_le_bounds => k_is)
    (case k_le_bounds => k_is)
    (case a_le_about => k_is)
    (case l_le_about => k_is)
    (case e_le_about => k_is)
    (case k_le_about => k_is)
    (case a_le_greater => k_is)
    (case l_le_greater => k_is)
    (case e_le_greater => k_is)
    (case k_le_greater => k_is)
    (case a_le_within => k_is)
    (case l_le_within => k_is)
    (case e_le_within => k_is)
    (case k_le_within => k_is)
    (case a_le_known_more => k_is)
    (case l_le_known_more => k_is)
    (case e_le_known_more => k_is)
    (case k_le_known_more => k_is)
    (case a_le_numbers_right => k_is)
    (case l_le_numbers_right => k_is)
    (case e_le_numbers_right => k_is)
    (case k_le_numbers_right => k_is)
    (case a_law => k_is)
    (case l_law => k_is)
    (case e_law => k_is)
    (case k_law => k_is)
    (case a_Values___init__ => k_is)
    (case i_Values___init__ => k_is)
    (case l_Values___init__ => k_is)
    (case e_Values___init__ => k_is)
    (case k_Values___init__ => k_is)
    (case a_Values_turned => k_is)
    (case i_Values_turned => k_is)
    (case l_Values_turned => k_is)
    (case e_Values_turned => k_is)
    (case k_Values_turned => k_is)
    (case a_Values_in_all => k_is)
    (case i_Values_in_all => k_is)
    (case l_Values_in_all => k_is)
    (case e_Values_in_all => k_is)
    (case k_Values_in_all => k_is)
    (case a_Values_has_dealing => k_is)
    (case i_Values_has_dealing => k_is)
    (case l_Values_has_dealing => k_is)
    (case e_Values_has_dealing => k_is)
    (case k_Values_has_dealing => k_is)
    (case a_Values_least_total => k_is)
    (case i_Values_least_total => k_is)
    (case l_Values_least_total => k_is)
    (case e_Values_least_total => k_is)
    (case k_Values_least_total => k_is)
    (case a_Values_most_dealt => k_is)
    (case i_Values_most_dealt => k_is)
    (case l_Values_most_dealt => k_is)
    (case e_Values_most_dealt => k_is)
    (case k_Values_most_dealt => k_is)
    (case a_Values_most_under => k_is)
    (case i_Values_most_under => k_is)
    (case l_Values_most_under => k_is)
    (case e_Values_most_under => k_is)
    (case k_Values_most_under => k_is)
    (case a_Values_dealing_under => k_is)
    (case i_Values_dealing_under => k_is)
    (case l_Values_dealing_under => k_is)
    (case e_Values_dealing_under => k_is)
    (case k_Values_dealing_under => k_is)
    (case a_Values_least_at => k_is)
    (case i_Values_least_at => k_is)
    (case l_Values_least_at => k_is)
    (case e_Values_least_at => k_is)
    (case k_Values_least_at => k_is)
    (case aC_WoodError => k_is)
    (case eC_WoodError => kernel_rfl)
    (case qC_WoodError => kernel_rfl)
    (case aC_NoDealing => k_is)
    (case eC_NoDealing => kernel_rfl)
    (case qC_NoDealing => kernel_rfl)
    (case aC_NoPlace => k_is)
    (case eC_NoPlace => kernel_rfl)
    (case qC_NoPlace => kernel_rfl)
    (case kindsE => kernel_rfl)
    (case z_all => k_is)
    (case z_bool => k_is)
    (case z_int => k_is)
    (case z_isinstance => k_is)
    (case z_len => k_is)
    (case z_list => k_is)
    (case z_max => k_is)
    (case z_min => k_is)
    (case z_range => k_is)
    (case z_sorted => k_is)
    (case z_sum => k_is)
    (case z_zip => k_is)
