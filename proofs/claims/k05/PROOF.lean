import PyProof.Rows.All
import Wide.All
import OpenK.AllK
import Wide.FinOn
import HandS.ForMost
import HandS.Evl
import HandS.IsInst
import HandS.Wide
import HandS.TupAny
import HandS.Exc
import KE.LtData
import HandS.Style
import HandS.SortInts
import PyProof.ReprLen
import HandS.Dict
import HandS.SetKeys
import HandS.WordsDict
import HandS.Conv
import HandS.Small
import KE.SortData
import HandS.Iter
import HandS.ExcInit
import HandS.ExcValue
import HandS.TryOnly
import HandS.ExcOwn
import HandS.ExcField
import KE.KExcSuper
import KE.KExcIs
import KE.DataEq
import PySem.Challenge.RW_latewood_k05_refusals_apart
set_option Elab.async false
set_option linter.all false
set_option maxRecDepth 100000
set_option maxHeartbeats 4000000
/-! A layer without heaps over HandS: what a name, an item holds is a datum, or an object of one's own that may change. -/
namespace DL
open PySem PySem.Spec PyProof.Rows L2
open Evl (Ex)
abbrev Dt := PyData
/-- the script; an exception that was made; what stood still at a def's entry -/
inductive Fx where
  | scr (K : PySem.W.Frag) (xs : List Int)
  | exc (C : Addr) (fs : List (Str × Dt))
  | base (H0 : Hp)
/-- what a slot or an item holds -/
inductive Sl where
  | dat (d : Dt)
  | own (a : Addr)
  | raw (v : V)
  | fix (x : Fx)
abbrev Sl.scr (K : PySem.W.Frag) (xs : List Int) : Sl := .fix (.scr K xs)
abbrev Sl.exc (C : Addr) (fs : List (Str × Dt)) : Sl := .fix (.exc C fs)
abbrev Sl.base (H0 : Hp) : Sl := .fix (.base H0)
/-- an object of ours that may change (a tuple of what may change, too) -/
inductive MO where
  | lst (xs : List Sl)
  | dct (kvs : List (Key × Sl))
  | tup (xs : List Sl)
abbrev Mem := Addr → Option MO
def put (M : Mem) (a : Addr) (o : MO) : Mem := fun b => if b = a then some o else M b
def del (M : Mem) (a : Addr) : Mem := fun b => if b = a then none else M b
theorem put_at {M : Mem} {a : Addr} {o : MO} : put M a o a = some o := by unfold put; rw [if_pos rfl]
theorem put_ne {M : Mem} {a b : Addr} {o : MO} (h : b ≠ a) : put M a o b = M b := by unfold put; rw [if_neg h]
theorem del_at {M : Mem} {a : Addr} : del M a a = none := by unfold del; rw [if_pos rfl]
theorem del_ne {M : Mem} {a b : Addr} (h : b ≠ a) : del M a b = M b := by unfold del; rw [if_neg h]
theorem put_put {M : Mem} {a : Addr} {o u : MO} : put (put M a o) a u = put M a u := by
  funext b; unfold put; split <;> rfl
theorem del_put {M : Mem} {a : Addr} {o : MO} (h : M a = none) : del (put M a o) a = M := by
  funext b
  by_cases e : b = a
  · rw [e, del_at, h]
  · rw [del_ne e, put_ne e]
theorem ne_mem {M : Mem} {a b : Addr} {o : MO} (h : M a = some o) (h' : M b = none) : a ≠ b := by
  intro e; subst e; rw [h] at h'; cases h'
abbrev Fm := List (Option Sl)
mutual
/-- v is the datum d: all its lists and tuples are tracked -/
inductive Dq (H : Hp) : V → PyData → Prop
  | non : Dq H .non .none
  | bl (b : Bool) : Dq H (.bl b) (.bool b)
  | int (i : Int) : Dq H (.int i) (.int i)
  | str (x : Str) : Dq H (.str x) (.str x)
  | lst {a : Addr} {xs : List V} {ds : List PyData} : H a = some (.lst xs) → DqAll H xs ds → Dq H (.ref a) (.list ds)
  | tup {a : Addr} {xs : List V} {ds : List PyData} : H a = some (.tup xs) → DqAll H xs ds → Dq H (.ref a) (.tuple ds)
inductive DqAll (H : Hp) : List V → List PyData → Prop
  | nil : DqAll H [] []
  | cons {v : V} {vs : List V} {d : PyData} {ds : List PyData} : Dq H v d → DqAll H vs ds → DqAll H (v :: vs) (d :: ds)
end
/-- at a: an exception that was made, of the class at C, its own dict -/
def Kx (a C : Addr) (d : Option Addr) (h : Heap) : Prop := ∃ (oe : Obj) (vs : Array Value), h.get? a = some oe ∧ Zc (.ref C) d oe ∧ oe.data = .fields vs
def exk (a C : Addr) (d : Option Addr) : HO := .ext (Kx a C d)
/-- its fields -/
def FsAt (H : Hp) (d : Option Addr) (fs : List (Str × Dt)) : Prop := match d with
  | none => fs = []
  | some dd => ∃ ws : List (Str × V), H dd = some (.xd ws) ∧ Paired (fun (p : Str × Dt) (q : Str × V) => p.1 = q.1 ∧ Dq H q.2 p.2) fs ws
section
def RpF (H : Hp) (v : V) : Fx → Prop
  | .scr K xs => ∃ a, v = .ref a ∧ SqL K H a (xs.map .int)
  | .exc C fs => ∃ a d φ, v = .ref a ∧ H a = some (.ext φ) ∧ (∀ h, φ h → Kx a C d h) ∧ FsAt H d fs
  | .base _ => False
/-- v is what s says, in the heap H of what stands still -/
def Rp (H : Hp) : Sl → V → Prop
  | .dat d, v => Dq H v d
  | .own a, v => v = .ref a
  | .raw u, v => v = u
  | .fix x, v => RpF H v x
abbrev Rps (H : Hp) : List Sl → List V → Prop := Paired (Rp H)
def RpO (H : Hp) (Hc : Option HO) : MO → Prop
  | .lst xs => xs.length ≤ sizeLine ∧ ∃ vs, Hc = some (.lst vs) ∧ Rps H xs vs
  | .dct kvs => ∃ ws, Hc = some (.dK ws) ∧ Paired (fun (p : Key × Sl) (q : Key × V) => p.1 = q.1 ∧ Rp H p.2 q.2) kvs ws
  | .tup xs => ∃ vs, Hc = some (.tup vs) ∧ Rps H xs vs
structure Own (H Hc : Hp) (M : Mem) : Prop where
  ex : Ex H Hc
  no : ∀ a o, M a = some o → H a = none
  ob : ∀ a o, M a = some o → RpO H (Hc a) o
structure Fr (H : Hp) (σ : L2.St) (Γ : Fm) : Prop where
  len : σ.length ≤ Γ.length
  sl : ∀ (i : Nat) (s : Sl), i < σ.length → Γ[i]? = some (some s) → ∃ v, σ[i]? = some (some v) ∧ Rp H s v
  gh : ∀ (i : Nat) (H0 : Hp), Γ[i]? = some (some (.base H0)) → Ex H0 H
end
section
variable {H H' Hc Hc' : Hp} {M M' : Mem} {s : Sl} {v : V} {a : Addr}
mutual
theorem dp_ex (e : Ex H H') : ∀ {d : Dt} {v : V}, Dq H v d → Dq H' v d
  | .none, _, h => by cases h; exact .non
  | .bool b, _, h => by cases h; exact .bl b
  | .int i, _, h => by cases h; exact .int i
  | .str x, _, h => by cases h; exact .str x
  | .list ds, _, h => by cases h with | lst hs ha => exact .lst (e _ _ hs) (dps_ex e ha)
  | .tuple ds, _, h => by cases h with | tup hs ha => exact .tup (e _ _ hs) (dps_ex e ha)
  | .dict _, _, h => by cases h
theorem dps_ex (e : Ex H H') : ∀ {ds : List Dt} {vs : List V}, DqAll H vs ds → DqAll H' vs ds
  | [], _, h => by cases h; exact .nil
  | d :: ds, _, h => by cases h with | cons h1 h2 => exact .cons (dp_ex e h1) (dps_ex e h2)
end
mutual
theorem dq_dp {K : PySem.W.Frag} : ∀ {d : Dt} {v : V}, Dq H v d → Dp K H v d
  | .none, _, h => by cases h; exact .non
  | .bool b, _, h => by cases h; exact .bl b
  | .int i, _, h => by cases h; exact .int i
  | .str x, _, h => by cases h; exact .str x
  | .list ds, _, h => by cases h with | lst hs ha => exact .lst (SqL.of hs) (dqs_dps ha)
  | .tuple ds, _, h => by cases h with | tup hs ha => exact .tup (SqT.of hs) (dqs_dps ha)
  | .dict _, _, h => by cases h
theorem dqs_dps {K : PySem.W.Frag} : ∀ {ds : List Dt} {vs : List V}, DqAll H vs ds → DpAll K H vs ds
  | [], _, h => by cases h; exact .nil
  | d :: ds, _, h => by cases h with | cons h1 h2 => exact .cons (dq_dp h1) (dqs_dps h2)
end
theorem fs_ex {d : Option Addr} {fs : List (Str × Dt)} (e : Ex H H') (h : FsAt H d fs) : FsAt H' d fs := by
  cases d with
  | none => exact h
  | some dd => obtain ⟨ws, h1, h2⟩ := h; exact ⟨ws, e _ _ h1, Paired.mapP h2 fun p q r => ⟨r.1, dp_ex e r.2⟩⟩
theorem rp_ex (e : Ex H H') (h : Rp H s v) : Rp H' s v := by
  cases s with
  | dat d => exact dp_ex e h
  | own a => exact h
  | raw u => exact h
  | fix x => cases x with
    | scr K xs => obtain ⟨a, h1, h2⟩ := h; exact ⟨a, h1, Evl.ex_l e h2⟩
    | exc C fs => obtain ⟨a, d, φ, h1, h2, h3, h4⟩ := h; exact ⟨a, d, φ, h1, e _ _ h2, h3, fs_ex e h4⟩
    | base H0 => exact h.elim
theorem rps_ex (e : Ex H H') : ∀ {ss : List Sl} {vs : List V}, Rps H ss vs → Rps H' ss vs
  | [], _, .nil => .nil
  | _ :: _, _, .cons r t => .cons (rp_ex e r) (rps_ex e t)
theorem rpo_ex {c : Option HO} {o : MO} (e : Ex H H') (h : RpO H c o) : RpO H' c o := by
  cases o with
  | lst xs => obtain ⟨z, vs, h1, h2⟩ := h; exact ⟨z, vs, h1, rps_ex e h2⟩
  | dct kvs => obtain ⟨ws, h1, h2⟩ := h; exact ⟨ws, h1, Paired.mapP h2 fun p q r => ⟨r.1, rp_ex e r.2⟩⟩
  | tup xs => obtain ⟨vs, h1, h2⟩ := h; exact ⟨vs, h1, rps_ex e h2⟩
theorem Fr.ex {σ : L2.St} {Γ : Fm} (e : Ex H H') (F : Fr H σ Γ) : Fr H' σ Γ :=
  ⟨F.len, fun i s hi h => by obtain ⟨v, h1, h2⟩ := F.sl i s hi h; exact ⟨v, h1, rp_ex e h2⟩, fun i H0 h => (F.gh i H0 h).trans e⟩
theorem Fr.set {σ : L2.St} {Γ : Fm} (F : Fr H σ Γ) {i : Nat} (r : Rp H s v) : Fr H (σ.set i (some v)) (Γ.set i (some s)) := by
  refine ⟨by rw [List.length_set, List.length_set]; exact F.len, fun j t hj h => ?_, fun j H0 h => ?_⟩
  · rw [List.length_set] at hj
    by_cases e : i = j
    · subst e
      rw [List.getElem?_set_self (Nat.lt_of_lt_of_le hj F.len)] at h
      cases h
      exact ⟨v, List.getElem?_set_self hj, r⟩
    · rw [List.getElem?_set_ne e] at h ⊢
      exact F.sl j t hj h
  · by_cases e : i = j
    · subst e
      by_cases hl : i < Γ.length
      · rw [List.getElem?_set_self hl] at h
        cases h
        exact r.elim
      · rw [List.getElem?_eq_none (by rw [List.length_set]; omega)] at h
        cases h
    · rw [List.getElem?_set_ne e] at h
      exact F.gh j H0 h
/-- forgetting -/
theorem Fr.weak {σ : L2.St} {Γ Γ' : Fm} (F : Fr H σ Γ) (hl : Γ'.length = Γ.length) (h : ∀ (i : Nat) s, Γ'[i]? = some (some s) → Γ[i]? = some (some s)) : Fr H σ Γ' :=
  ⟨by rw [hl]; exact F.len, fun i s hi e => F.sl i s hi (h i s e), fun i H0 e => F.gh i H0 (h i _ e)⟩
/-! ### the heaps grow -/
theorem Own.grow {p : Addr} {o : HO} (O : Own H Hc M) (h : Hc p = none) : Own (upd H p o) (upd Hc p o) M ∧ Ex H (upd H p o) := by
  have h0 : H p = none := Evl.fresh_back O.ex h
  have e0 : Ex H (upd H p o) := Evl.Ex.new h0
  refine ⟨⟨fun b u e => ?_, fun b u e => ?_, fun b u e => ?_⟩, e0⟩
  · by_cases hb : b = p
    · subst hb; rw [upd_same] at e ⊢; exact e
    · rw [upd_ne hb] at e ⊢; exact O.ex b u e
  · have hb : b ≠ p := by
      rintro rfl
      have := O.ob b u e
      cases u with
      | lst xs => obtain ⟨_, vs, q, _⟩ := this; rw [h] at q; cases q
      | dct kvs => obtain ⟨ws, q, _⟩ := this; rw [h] at q; cases q
      | tup xs => obtain ⟨vs, q, _⟩ := this; rw [h] at q; cases q
    rw [upd_ne hb]; exact O.no b u e
  · have hb : b ≠ p := by
      rintro rfl
      have := O.ob b u e
      cases u with
      | lst xs => obtain ⟨_, vs, q, _⟩ := this; rw [h] at q; cases q
      | dct kvs => obtain ⟨ws, q, _⟩ := this; rw [h] at q; cases q
      | tup xs => obtain ⟨vs, q, _⟩ := this; rw [h] at q; cases q
    rw [upd_ne hb]; exact rpo_ex e0 (O.ob b u e)
theorem Own.freeM {p : Addr} (O : Own H Hc M) (h : Hc p = none) : M p = none := by
  cases e : M p with
  | none => rfl
  | some u =>
    have := O.ob p u e
    cases u with
    | lst xs => obtain ⟨_, vs, q, _⟩ := this; rw [h] at q; cases q
    | dct kvs => obtain ⟨ws, q, _⟩ := this; rw [h] at q; cases q
    | tup xs => obtain ⟨vs, q, _⟩ := this; rw [h] at q; cases q
/-- what nobody speaks of any more -/
theorem Own.waste {p : Addr} {o : HO} (O : Own H Hc M) (h : Hc p = none) : Own H (upd Hc p o) M := by
  have h0 : H p = none := Evl.fresh_back O.ex h
  have hm := O.freeM h
  refine ⟨fun b u e => ?_, O.no, fun b u e => ?_⟩
  · rw [upd_ne (ne_of_none e h0)]; exact O.ex b u e
  · rw [upd_ne (ne_mem e hm)]; exact O.ob b u e
/-- a new object of ours -/
theorem Own.born {p : Addr} {o : HO} {u : MO} (O : Own H Hc M) (h : Hc p = none) (r : RpO H (some o) u) : Own H (upd Hc p o) (put M p u) := by
  have h0 : H p = none := Evl.fresh_back O.ex h
  refine ⟨fun b x e => ?_, fun b x e => ?_, fun b x e => ?_⟩
  · rw [upd_ne (ne_of_none e h0)]; exact O.ex b x e
  · by_cases hb : b = p
    · subst hb; exact h0
    · rw [put_ne hb] at e; exact O.no b x e
  · by_cases hb : b = p
    · subst hb; rw [put_at] at e; cases e; rw [upd_same]; exact r
    · rw [put_ne hb] at e; rw [upd_ne hb]; exact O.ob b x e
/-- an object of ours changes -/
theorem Own.turn {p : Addr} {o : HO} {u u0 : MO} (O : Own H Hc M) (h : M p = some u0) (r : RpO H (some o) u) : Own H (upd Hc p o) (put M p u) := by
  have h0 : H p = none := O.no p u0 h
  refine ⟨fun b x e => ?_, fun b x e => ?_, fun b x e => ?_⟩
  · rw [upd_ne (ne_of_none e h0)]; exact O.ex b x e
  · by_cases hb : b = p
    · subst hb; exact h0
    · rw [put_ne hb] at e; exact O.no b x e
  · by_cases hb : b = p
    · subst hb; rw [put_at] at e; cases e; rw [upd_same]; exact r
    · rw [put_ne hb] at e; rw [upd_ne hb]; exact O.ob b x e
theorem rps_dat : ∀ {ds : List Dt} {vs : List V}, Rps H (ds.map .dat) vs → DqAll H vs ds
  | [], _, .nil => .nil
  | d :: ds, _, .cons r t => .cons r (rps_dat t)
theorem dat_rps : ∀ {ds : List Dt} {vs : List V}, DqAll H vs ds → Rps H (ds.map .dat) vs
  | [], _, .nil => .nil
  | d :: ds, _, .cons r t => .cons r (dat_rps t)
theorem dps_len : ∀ {ds : List Dt} {vs : List V}, DqAll H vs ds → vs.length = ds.length
  | [], _, .nil => rfl
  | d :: ds, _, .cons r t => congrArg (· + 1) (dps_len t)
/-- a list of ours is given away: it stands still from now on -/
theorem Own.freeze {p : Addr} {ds : List Dt} (O : Own H Hc M) (h : M p = some (.lst (ds.map .dat))) :
    ∃ H', Ex H H' ∧ Own H' Hc (del M p) ∧ Dq H' (.ref p) (.list ds) := by
  have h0 : H p = none := O.no p _ h
  obtain ⟨z, vs, h1, h2⟩ := O.ob p _ h
  have e0 : Ex H (upd H p (.lst vs)) := Evl.Ex.new h0
  refine ⟨upd H p (.lst vs), e0, ⟨fun b x e => ?_, fun b x e => ?_, fun b x e => ?_⟩, .lst upd_same (dps_ex e0 (rps_dat h2))⟩
  · by_cases hb : b = p
    · subst hb; rw [upd_same] at e; rw [h1]; exact e
    · rw [upd_ne hb] at e; exact O.ex b x e
  · by_cases hb : b = p
    · subst hb; rw [del_at] at e; cases e
    · rw [del_ne hb] at e; rw [upd_ne hb]; exact O.no b x e
  · by_cases hb : b = p
    · subst hb; rw [del_at] at e; cases e
    · rw [del_ne hb] at e; exact rpo_ex e0 (O.ob b x e)
/-- an object of ours that nobody speaks of any more -/
theorem Own.drop {p : Addr} (O : Own H Hc M) : Own H Hc (del M p) := by
  refine ⟨O.ex, fun b x e => ?_, fun b x e => ?_⟩
  · by_cases hb : b = p
    · subst hb; rw [del_at] at e; cases e
    · rw [del_ne hb] at e; exact O.no b x e
  · by_cases hb : b = p
    · subst hb; rw [del_at] at e; cases e
    · rw [del_ne hb] at e; exact O.ob b x e
end
/-! ### the judgements, by values of the heapless kind -/
abbrev DK := Sl → Mem → Prop
abbrev DE := Fm → Mem → DK → Prop
abbrev DB := Fm → Mem → (Bool → Mem → Prop) → Prop
abbrev DA := Fm → Mem → (List Sl → Mem → Prop) → Prop
structure DEnds where
  nx : Fm → Mem → Prop
  rt : DK
  bk : Fm → Mem → Prop := fun _ _ => False
  ct : Fm → Mem → Prop := fun _ _ => False
abbrev DS := DEnds → Fm → Mem → Prop
/-- the way on, asked of the heaps -/
def On (H : Hp) (k : DK) (Q : VK) : Prop := ∀ v s M' H' Hc', Ex H H' → Own H' Hc' M' → Rp H' s v → k s M' → Q v Hc'
def OnB (H : Hp) (k : Bool → Mem → Prop) (Q : Bool → Hp → Prop) : Prop := ∀ b M' H' Hc', Ex H H' → Own H' Hc' M' → k b M' → Q b Hc'
def OnA (H : Hp) (k : List Sl → Mem → Prop) (Q : List V → Hp → Prop) : Prop := ∀ vs ss M' H' Hc', Ex H H' → Own H' Hc' M' → Rps H' ss vs → k ss M' → Q vs Hc'
def OnF (H : Hp) (k : Fm → Mem → Prop) (Q : L2.St → Hp → Prop) : Prop := ∀ σ' Γ' M' H' Hc', Ex H H' → Fr H' σ' Γ' → Own H' Hc' M' → k Γ' M' → Q σ' Hc'
structure OnD (H : Hp) (D : DEnds) (E : Ends) : Prop where
  nx : OnF H D.nx E.nx
  rt : On H D.rt E.rt
  bk : OnF H D.bk E.bk
  ct : OnF H D.ct E.ct
def SimE (te : TE) (de : DE) : Prop := ∀ Γ M k σ H Hc Q, de Γ M k → Fr H σ Γ → Own H Hc M → On H k Q → te σ Hc Q
def SimB (te : TT) (de : DB) : Prop := ∀ Γ M k σ H Hc Q, de Γ M k → Fr H σ Γ → Own H Hc M → OnB H k Q → te σ Hc Q
def SimA (te : TA) (de : DA) : Prop := ∀ Γ M k σ H Hc Q, de Γ M k → Fr H σ Γ → Own H Hc M → OnA H k Q → te σ Hc Q
def SimS (ts : TS) (ds : DS) : Prop := ∀ Γ M D σ H Hc E, ds D Γ M → Fr H σ Γ → Own H Hc M → OnD H D E → ts E σ Hc
theorem On.ex {H H' : Hp} {k : DK} {Q : VK} (e : Ex H H') (h : On H k Q) : On H' k Q := fun v s M' H2 Hc' e2 => h v s M' H2 Hc' (e.trans e2)
theorem OnF.ex {H H' : Hp} {k : Fm → Mem → Prop} {Q : L2.St → Hp → Prop} (e : Ex H H') (h : OnF H k Q) : OnF H' k Q := fun v s M' H2 Hc' e2 => h v s M' H2 Hc' (e.trans e2)
theorem OnB.ex {H H' : Hp} {k : Bool → Mem → Prop} {Q : Bool → Hp → Prop} (e : Ex H H') (h : OnB H k Q) : OnB H' k Q := fun b M' H2 Hc' e2 => h b M' H2 Hc' (e.trans e2)
theorem OnA.ex {H H' : Hp} {k : List Sl → Mem → Prop} {Q : List V → Hp → Prop} (e : Ex H H') (h : OnA H k Q) : OnA H' k Q := fun v s M' H2 Hc' e2 => h v s M' H2 Hc' (e.trans e2)
theorem OnD.ex {H H' : Hp} {D : DEnds} {E : Ends} (e : Ex H H') (h : OnD H D E) : OnD H' D E := ⟨h.nx.ex e, h.rt.ex e, h.bk.ex e, h.ct.ex e⟩
/-- the heapless reading, as a reading of the layer -/
def LE (de : DE) : TE := fun σ Hc Q => ∃ Γ M H k, de Γ M k ∧ Fr H σ Γ ∧ Own H Hc M ∧ On H k Q
def LB (de : DB) : TT := fun σ Hc Q => ∃ Γ M H k, de Γ M k ∧ Fr H σ Γ ∧ Own H Hc M ∧ OnB H k Q
def LA (de : DA) : TA := fun σ Hc Q => ∃ Γ M H k, de Γ M k ∧ Fr H σ Γ ∧ Own H Hc M ∧ OnA H k Q
def LS (ds : DS) : TS := fun E σ Hc => ∃ Γ M H D, ds D Γ M ∧ Fr H σ Γ ∧ Own H Hc M ∧ OnD H D E
theorem simLE {de : DE} : SimE (LE de) de := fun Γ M k _ H _ _ h F O q => ⟨Γ, M, H, k, h, F, O, q⟩
theorem simLB {de : DB} : SimB (LB de) de := fun Γ M k _ H _ _ h F O q => ⟨Γ, M, H, k, h, F, O, q⟩
theorem simLA {de : DA} : SimA (LA de) de := fun Γ M k _ H _ _ h F O q => ⟨Γ, M, H, k, h, F, O, q⟩
theorem simLS {ds : DS} : SimS (LS ds) ds := fun Γ M D _ H _ _ h F O q => ⟨Γ, M, H, D, h, F, O, q⟩
abbrev XE (X : Cx) (e : Expr) (de : DE) : Prop := PE X e (LE de)
abbrev XB (X : Cx) (e : Expr) (de : DB) : Prop := PT X e (LB de)
abbrev XW (X : Cx) (e : Expr) (de : DB) : Prop := PW X e (LB de)
abbrev XA (X : Cx) (es : List Expr) (de : DA) : Prop := PA X es (LA de)
abbrev XS (X : Cx) (st : Stmt) (ds : DS) : Prop := PS X st (LS ds)
abbrev XSs (X : Cx) (st : List Stmt) (ds : DS) : Prop := PSs X st (LS ds)
section
variable {X : Cx}
theorem xe_of {e : Expr} {te : TE} {de : DE} (h : PE X e te) (s : SimE te de) : XE X e de :=
  ⟨fun pins st σ Hc Q I ⟨Γ, M, H, k, hd, F, O, q⟩ => h.run pins st σ Hc Q I (s Γ M k σ H Hc Q hd F O q)⟩
theorem xb_of {e : Expr} {te : TT} {de : DB} (h : PT X e te) (s : SimB te de) : XB X e de :=
  ⟨fun pins st σ Hc Q I ⟨Γ, M, H, k, hd, F, O, q⟩ => h.run pins st σ Hc Q I (s Γ M k σ H Hc Q hd F O q)⟩
theorem xw_of {e : Expr} {te : TT} {de : DB} (h : PW X e te) (s : SimB te de) : XW X e de :=
  ⟨fun wh pins st σ Hc Q I ⟨Γ, M, H, k, hd, F, O, q⟩ => h.run wh pins st σ Hc Q I (s Γ M k σ H Hc Q hd F O q)⟩
theorem xa_of {e : List Expr} {te : TA} {de : DA} (h : PA X e te) (s : SimA te de) : XA X e de :=
  ⟨fun pos pins st σ Hc Q I ⟨Γ, M, H, k, hd, F, O, q⟩ => h.run pos pins st σ Hc Q I (s Γ M k σ H Hc Q hd F O q)⟩
theorem xs_of {st : Stmt} {ts : TS} {ds : DS} (h : PS X st ts) (s : SimS ts ds) : XS X st ds :=
  ⟨fun pins sh σ Hc E I ⟨Γ, M, H, D, hd, F, O, q⟩ => h.run pins sh σ Hc E I (s Γ M D σ H Hc E hd F O q)⟩
theorem xss_of {st : List Stmt} {ts : TS} {ds : DS} (h : PSs X st ts) (s : SimS ts ds) : XSs X st ds :=
  ⟨fun pins sh σ Hc E I ⟨Γ, M, H, D, hd, F, O, q⟩ => h.run pins sh σ Hc E I (s Γ M D σ H Hc E hd F O q)⟩
end
theorem dp_int_inv {H : Hp} {v : V} {i : Int} (h : Dq H v (.int i)) : v = .int i := by cases h; rfl
theorem dp_bl_inv {H : Hp} {v : V} {i : Bool} (h : Dq H v (.bool i)) : v = .bl i := by cases h; rfl
theorem dp_str_inv {H : Hp} {v : V} {i : Str} (h : Dq H v (.str i)) : v = .str i := by cases h; rfl
theorem dp_non_inv {H : Hp} {v : V} (h : Dq H v .none) : v = .non := by cases h; rfl
theorem dp_lst_inv {H : Hp} {v : V} {ds : List Dt} (h : Dq H v (.list ds)) : ∃ a vs, v = .ref a ∧ H a = some (.lst vs) ∧ DqAll H vs ds := by cases h with | lst h1 h2 => exact ⟨_, _, rfl, h1, h2⟩
theorem dp_tup_inv {H : Hp} {v : V} {ds : List Dt} (h : Dq H v (.tuple ds)) : ∃ a vs, v = .ref a ∧ H a = some (.tup vs) ∧ DqAll H vs ds := by cases h with | tup h1 h2 => exact ⟨_, _, rfl, h1, h2⟩
end DL
namespace DL
open PySem PySem.Spec PyProof.Rows L2
open Evl (Ex)
/-- s is a list of these (a datum, or ours) -/
def IsL (M : Mem) (s : Sl) (xs : List Sl) : Prop := (∃ ds, s = .dat (.list ds) ∧ xs = ds.map .dat) ∨ ∃ a, s = .own a ∧ M a = some (.lst xs)
theorem IsL.dat {M : Mem} {ds : List Dt} : IsL M (.dat (.list ds)) (ds.map .dat) := .inl ⟨ds, rfl, rfl⟩
theorem IsL.own {M : Mem} {a : Addr} {xs : List Sl} (h : M a = some (.lst xs)) : IsL M (.own a) xs := .inr ⟨a, rfl, h⟩
theorem dqs_rps {H : Hp} : ∀ {ds : List Dt} {vs : List V}, DqAll H vs ds → Rps H (ds.map .dat) vs := dat_rps
theorem IsL.at_ {H Hc : Hp} {M : Mem} {s : Sl} {xs : List Sl} {x : V} (h : IsL M s xs) (O : Own H Hc M) (r : Rp H s x) : ∃ a vs, x = .ref a ∧ Hc a = some (.lst vs) ∧ Rps H xs vs := by
  rcases h with ⟨ds, rfl, rfl⟩ | ⟨a, rfl, h⟩
  · obtain ⟨a, vs, rfl, h1, h2⟩ := dq_lst r
    exact ⟨a, vs, rfl, O.ex _ _ h1, dat_rps h2⟩
  · cases r
    obtain ⟨_, vs, h1, h2⟩ := O.ob a _ h
    exact ⟨a, vs, rfl, h1, h2⟩
where dq_lst {H : Hp} {x : V} {ds : List Dt} (h : Rp H (.dat (.list ds)) x) : ∃ a vs, x = .ref a ∧ H a = some (.lst vs) ∧ DqAll H vs ds := dp_lst_inv h
theorem rps_len {H : Hp} : ∀ {ss : List Sl} {vs : List V}, Rps H ss vs → vs.length = ss.length
  | _, _, .nil => rfl
  | _, _, .cons _ t => congrArg (· + 1) (rps_len t)
theorem rps_get {H : Hp} : ∀ {ss : List Sl} {vs : List V} {i : Nat} {v : V}, Rps H ss vs → vs[i]? = some v → ∃ s, ss[i]? = some s ∧ Rp H s v
  | _, _, _, _, .nil, e => by simp at e
  | _, _, 0, _, .cons r _, e => by simp at e; subst e; exact ⟨_, rfl, r⟩
  | _, _, i + 1, x, .cons _ t, e => by
    obtain ⟨u, h1, h2⟩ := rps_get (i := i) (v := x) t (by simpa using e)
    exact ⟨u, by simpa using h1, h2⟩
theorem rps_get' {H : Hp} : ∀ {ss : List Sl} {vs : List V} {i : Nat} {s : Sl}, Rps H ss vs → ss[i]? = some s → ∃ v, vs[i]? = some v ∧ Rp H s v
  | _, _, _, _, .nil, e => by simp at e
  | _, _, 0, _, .cons r _, e => by simp at e; subst e; exact ⟨_, rfl, r⟩
  | _, _, i + 1, x, .cons _ t, e => by
    obtain ⟨u, h1, h2⟩ := rps_get' (i := i) (s := x) t (by simpa using e)
    exact ⟨u, by simpa using h1, h2⟩
theorem rps_app {H : Hp} : ∀ {ss ts : List Sl} {vs ws : List V}, Rps H ss vs → Rps H ts ws → Rps H (ss ++ ts) (vs ++ ws)
  | _, _, _, _, .nil, h => h
  | _, _, _, _, .cons r t, h => .cons r (rps_app t h)
theorem rps_take {H : Hp} : ∀ {ss : List Sl} {vs : List V} (n : Nat), Rps H ss vs → Rps H (ss.take n) (vs.take n)
  | _, _, 0, _ => .nil
  | _, _, _ + 1, .nil => .nil
  | _, _, n + 1, .cons r t => .cons r (rps_take n t)
theorem rps_drop {H : Hp} : ∀ {ss : List Sl} {vs : List V} (n : Nat), Rps H ss vs → Rps H (ss.drop n) (vs.drop n)
  | _, _, 0, h => h
  | _, _, _ + 1, .nil => .nil
  | _, _, n + 1, .cons _ t => rps_drop n t
theorem rps_set {H : Hp} {s : Sl} {v : V} (q : Rp H s v) : ∀ {ss : List Sl} {vs : List V} (n : Nat), Rps H ss vs → Rps H (ss.set n s) (vs.set n v)
  | _, _, _, .nil => .nil
  | _, _, 0, .cons r t => .cons q t
  | _, _, n + 1, .cons r t => .cons r (rps_set q n t)
theorem dqs_rev {H : Hp} : ∀ {ds : List Dt} {vs : List V}, DqAll H vs ds → ∀ {es : List Dt} {ws : List V}, DqAll H ws es → DqAll H (vs.reverseAux ws) (ds.reverseAux es)
  | [], _, .nil, _, _, q => q
  | d :: ds, _, .cons r t, _, _, q => dqs_rev t (.cons r q)
def cut {α : Type} (xs : List α) (lo hi : Option Int) : List α := (xs.drop (HT.sIx xs.length 0 lo)).take (HT.sIx xs.length xs.length hi - HT.sIx xs.length 0 lo)
theorem rps_cut {H : Hp} {ss : List Sl} {vs : List V} (lo hi : Option Int) (h : Rps H ss vs) : Rps H (cut ss lo hi) (cutV vs lo hi) := by
  unfold cut cutV
  rw [rps_len h]
  exact rps_take _ (rps_drop _ h)
theorem dqs_cut {H : Hp} {ds : List Dt} {vs : List V} (lo hi : Option Int) (h : DqAll H vs ds) : DqAll H (cutV vs lo hi) (cut ds lo hi) := by
  have h2 := rps_cut lo hi (dat_rps h)
  have e : cut (ds.map Sl.dat) lo hi = (cut ds lo hi).map Sl.dat := by
    unfold cut
    rw [List.length_map, List.map_take, List.map_drop]
  rw [e] at h2
  exact rps_dat h2
theorem dqs_app {H : Hp} {ds es : List Dt} {vs ws : List V} (h : DqAll H vs ds) (h' : DqAll H ws es) : DqAll H (vs ++ ws) (ds ++ es) := by
  have h2 := rps_app (dat_rps h) (dat_rps h')
  rw [← List.map_append] at h2
  exact rps_dat h2
theorem atI_rp {H : Hp} {ss : List Sl} {vs : List V} {i : Int} {s : Sl} (h : Rps H ss vs) (e : atI ss i = some s) : ∃ v, atI vs i = some v ∧ Rp H s v := by
  unfold atI at e ⊢
  rw [rps_len h]
  cases q : ixN ss.length i with
  | none => rw [q] at e; cases e
  | some j =>
    rw [q] at e
    obtain ⟨v, h1, h2⟩ := rps_get' h e
    exact ⟨v, h1, h2⟩
theorem atI_dq {H : Hp} {ds : List Dt} {vs : List V} {i : Int} {d : Dt} (h : DqAll H vs ds) (e : atI ds i = some d) : ∃ v, atI vs i = some v ∧ Dq H v d := by
  have e2 : atI (ds.map Sl.dat) i = some (.dat d) := by
    unfold atI at e ⊢
    rw [List.length_map]
    cases q : ixN ds.length i with
    | none => rw [q] at e; cases e
    | some j =>
      rw [q] at e
      have e' : ds[j]? = some d := e
      show (ds.map Sl.dat)[j]? = _
      rw [List.getElem?_map, e'] <;> rfl
  obtain ⟨v, h1, h2⟩ := atI_rp (dat_rps h) e2
  exact ⟨v, h1, h2⟩
def datOf : Sl → Option Dt
  | .dat d => some d
  | _ => none
def datsOf : List Sl → Option (List Dt)
  | [] => some []
  | s :: ss => match datOf s, datsOf ss with
    | some d, some ds => some (d :: ds)
    | _, _ => none
theorem datsOf_eq : ∀ {ss : List Sl} {ds : List Dt}, datsOf ss = some ds → ss = ds.map .dat
  | [], ds, h => by cases h; rfl
  | s :: ss, ds, h => by
    unfold datsOf at h
    cases e1 : datOf s with
    | none => rw [e1] at h; cases h
    | some d =>
      cases e2 : datsOf ss with
      | none => rw [e1, e2] at h; cases h
      | some es =>
        rw [e1, e2] at h
        cases h
        rw [datsOf_eq e2]
        cases s with
        | dat d' => cases e1; rfl
        | own a => cases e1
        | raw v => cases e1
        | fix _ => cases e1
section
variable {X : Cx} {e a b c : Expr} {de da db dc : DE} {pos : Pos} {es : List Expr} {das : DA}
/-! ### names and constants -/
def dV (i : Nat) : DE := fun Γ M k => ∃ s, Γ[i]? = some (some s) ∧ k s M
def dC (d : Dt) : DE := fun _ M k => k (.dat d) M
def dR (v : V) : DE := fun _ M k => k (.raw v) M
theorem slot_lt {σ : L2.St} {pins : List (Addr × Obj)} {H : Hp} {s : Shared} {i : Nat} {x : Str} (I : Inv X pins σ H s) (hN : X.N[i]? = some x) : i < σ.length := by
  rw [I.len]
  exact (List.getElem?_eq_some_iff.mp hN).1
theorem xe_var {i : Nat} {x : Str} {pos : Pos} (hN : X.N[i]? = some x) (h : PE X (.Name x pos) (tVar i)) : XE X (.Name x pos) (dV i) :=
  ⟨fun pins st σ Hc Q I ⟨Γ, M, H, k, ⟨s, h1, h2⟩, F, O, q⟩ => by
    obtain ⟨v, h3, h4⟩ := F.sl i s (slot_lt I hN) h1
    exact h.run pins st σ Hc Q I ⟨v, h3, q v s M H Hc (Evl.Ex.refl H) O h4 h2⟩⟩
theorem xv (i : Nat) {x : Str} {pos : Pos} (hN : X.N[i]? = some x := by rfl) (hv : Vis X.env.scope x := by first | exact Or.inl rfl | exact Or.inr (Or.inl rfl) | exact Or.inr (Or.inr rfl)) (hd : (x == ("__debug__" : Str)) = false := by decide)
    (hcd : (x == ("__classdict__" : Str)) = false := by decide) : XE X (.Name x pos) (dV i) := xe_var hN (pv i hN hv hd hcd)
theorem sim_c {v : V} {d : Dt} (h : ∀ H, Dq H v d) : SimE (tC v) (dC d) := fun Γ M k σ H Hc Q hk F O q => q v (.dat d) M H Hc (Evl.Ex.refl H) O (h H) hk
theorem xe_int {i : Int} {j pos} : XE X (.Constant (.int i) j pos) (dC (.int i)) := xe_of pe_int (sim_c fun _ => .int i)
theorem xe_bl {b : Bool} {j pos} : XE X (.Constant (.bool b) j pos) (dC (.bool b)) := xe_of pe_bl (sim_c fun _ => .bl b)
theorem xe_non {j pos} : XE X (.Constant .none j pos) (dC .none) := xe_of pe_non (sim_c fun _ => .non)
theorem xe_str {x : Str} {j pos} : XE X (.Constant (.str x) j pos) (dC (.str x)) := xe_of pe_str (sim_c fun _ => .str x)
theorem xe_globI {x : Str} {pos : Pos} {i : Int} {t : Tok} (hm : X.mg x = some (.int i t)) (hg : Gl X x := by rfl) (hdb : (x == ("__debug__" : Str)) = false := by decide) : XE X (.Name x pos) (dC (.int i)) :=
  xe_of (pe_glob (v := .int i) hg hm ⟨t, rfl⟩ hdb) (sim_c fun _ => .int i)
theorem xe_raw {v : V} (h : PE X e (tC v)) : XE X e (dR v) := xe_of h fun Γ M k σ H Hc Q hk F O q => q v (.raw v) M H Hc (Evl.Ex.refl H) O rfl hk
/-! ### two-place operations by values -/
abbrev D2 := Sl → Sl → Mem → DK → Prop
def Sim2 (r : R2) (f : D2) : Prop := ∀ s t M k x y H Hc Q, f s t M k → Rp H s x → Rp H t y → Own H Hc M → On H k Q → r x y Hc Q
def dOp (f : D2) (da db : DE) : DE := fun Γ M k => da Γ M fun s M1 => db Γ M1 fun t M2 => f s t M2 k
theorem sim_op {r : R2} {f : D2} {ta tb : TE} (hr : Sim2 r f) (ha : SimE ta da) (hb : SimE tb db) : SimE (tOp r ta tb) (dOp f da db) := by
  intro Γ M k σ H Hc Q h F O q
  refine ha Γ M _ σ H Hc _ h F O fun x s M1 H1 Hc1 e1 O1 r1 h1 => ?_
  refine hb Γ M1 _ σ H1 Hc1 _ h1 (F.ex e1) O1 fun y t M2 H2 Hc2 e2 O2 r2 h2 => ?_
  exact hr s t M2 k x y H2 Hc2 Q h2 (rp_ex e2 r1) r2 O2 (q.ex (e1.trans e2))
theorem xe_op {op : Operator} {r : R2} {f : D2} (ho : OpR X (binaryOp op) r) (hr : Sim2 r f) (ha : XE X a da) (hb : XE X b db) : XE X (.BinOp a op b pos) (dOp f da db) :=
  xe_of (pe_op ho ha hb) (sim_op hr simLE simLE)
theorem xe_cmp {op : CmpOp} {r : R2} {f : D2} (ho : OpR X (compareOp op) r) (hm : behindInMarks op b = false) (hr : Sim2 r f) (ha : XE X a da) (hb : XE X b db) : XE X (.Compare a [op] [b] pos) (dOp f da db) :=
  xe_of (pe_cmpR ho ha hb hm) (sim_op hr simLE simLE)
theorem OpR.or {f : Value → Value → Sem Value} {r r' : R2} (h : OpR X f r) (h' : OpR X f r') : OpR X f (fun x y H Q => r x y H Q ∨ r' x y H Q) := by
  intro pins s σ H x y v u Q I rx ry q
  rcases q with q | q
  · exact h pins s σ H x y v u Q I rx ry q
  · exact h' pins s σ H x y v u Q I rx ry q
/-- a datum found -/
theorem On.dat {H Hc : Hp} {M : Mem} {k : DK} {Q : VK} {v : V} {d : Dt} (q : On H k Q) (O : Own H Hc M) (r : Dq H v d) (h : k (.dat d) M) : Q v Hc := q v (.dat d) M H Hc (Evl.Ex.refl H) O r h
/-- a new tuple -/
theorem On.tup {H Hc : Hp} {M : Mem} {k : DK} {Q : VK} {vs : List V} {ds : List Dt} {p : Addr} (q : On H k Q) (O : Own H Hc M) (r : DqAll H vs ds) (hp : Hc p = none) (h : k (.dat (.tuple ds)) M) : Q (.ref p) (upd Hc p (.tup vs)) := by
  obtain ⟨O', e⟩ := O.grow (o := .tup vs) hp
  exact q _ (.dat (.tuple ds)) _ _ _ e O' (Dq.tup upd_same (dps_ex e r)) h
/-- a new list that stands still -/
theorem On.lst {H Hc : Hp} {M : Mem} {k : DK} {Q : VK} {vs : List V} {ds : List Dt} {p : Addr} (q : On H k Q) (O : Own H Hc M) (r : DqAll H vs ds) (hp : Hc p = none) (h : k (.dat (.list ds)) M) : Q (.ref p) (upd Hc p (.lst vs)) := by
  obtain ⟨O', e⟩ := O.grow (o := .lst vs) hp
  exact q _ (.dat (.list ds)) _ _ _ e O' (Dq.lst upd_same (dps_ex e r)) h
/-- a new list of ours -/
theorem On.own {H Hc : Hp} {M : Mem} {k : DK} {Q : VK} {vs : List V} {ss : List Sl} {p : Addr} (q : On H k Q) (O : Own H Hc M) (r : Rps H ss vs) (hz : ss.length ≤ sizeLine) (hp : Hc p = none) (h : k (.own p) (put M p (.lst ss))) : Q (.ref p) (upd Hc p (.lst vs)) :=
  q _ (.own p) _ H _ (Evl.Ex.refl H) (O.born (u := .lst ss) hp ⟨hz, vs, rfl, r⟩) rfl h
/-- ints by a function -/
def fI (C : Int → Int → Prop) (g : Int → Int → Dt) : D2 := fun s t M k => match s, t with
  | .dat (.int i), .dat (.int j) => C i j ∧ k (.dat (g i j)) M
  | _, _ => False
def fI0 (g : Int → Int → Dt) : D2 := fun s t M k => match s, t with
  | .dat (.int i), .dat (.int j) => k (.dat (g i j)) M
  | _, _ => False
theorem sim_I {C : Int → Int → Prop} {g : Int → Int → V} {g' : Int → Int → Dt} (hg : ∀ i j H, Dq H (g i j) (g' i j)) : Sim2 (rI C g) (fI C g') := by
  intro s t M k x y H Hc Q h rx ry O q
  unfold fI at h
  split at h
  · exact ⟨_, _, dp_int_inv rx, dp_int_inv ry, h.1, q.dat O (hg _ _ H) h.2⟩
  · exact h.elim
theorem sim_I0 {g : Int → Int → V} {g' : Int → Int → Dt} (hg : ∀ i j H, Dq H (g i j) (g' i j)) : Sim2 (rI0 g) (fI0 g') := by
  intro s t M k x y H Hc Q h rx ry O q
  unfold fI0 at h
  split at h
  · exact ⟨_, _, dp_int_inv rx, dp_int_inv ry, q.dat O (hg _ _ H) h⟩
  · exact h.elim
theorem xe_sub (ha : XE X a da) (hb : XE X b db) : XE X (.BinOp a .Sub b pos) (dOp (fI0 fun i j => .int (i - j)) da db) := xe_op op_sub (sim_I0 fun _ _ _ => .int _) ha hb
theorem xe_mul (ha : XE X a da) (hb : XE X b db) : XE X (.BinOp a .Mult b pos) (dOp (fI CMul fun i j => .int (i * j)) da db) := xe_op op_mul (sim_I fun _ _ _ => .int _) ha hb
theorem xe_mulW (ha : XE X a da) (hb : XE X b db) : XE X (.BinOp a .Mult b pos) (dOp (fI CMulW fun i j => .int (i * j)) da db) := xe_op op_mulW (sim_I fun _ _ _ => .int _) ha hb
theorem xe_mod (ha : XE X a da) (hb : XE X b db) : XE X (.BinOp a .Mod b pos) (dOp (fI (fun _ j => 0 < j) fun i j => .int (i % j)) da db) := xe_op op_mod (sim_I fun _ _ _ => .int _) ha hb
theorem xe_fdiv (ha : XE X a da) (hb : XE X b db) : XE X (.BinOp a .FloorDiv b pos) (dOp (fI CDivW fun i j => .int (i / j)) da db) := xe_op op_fdivW (sim_I fun _ _ _ => .int _) ha hb
theorem xe_pow (ha : XE X a da) (hb : XE X b db) : XE X (.BinOp a .Pow b pos) (dOp (fI CPow fun i j => .int (i ^ j.toNat)) da db) := xe_op op_pow (sim_I fun _ _ _ => .int _) ha hb
theorem xe_le (ha : XE X a da) (hb : XE X b db) : XE X (.Compare a [.LtE] [b] pos) (dOp (fI0 fun i j => .bool (decide (i ≤ j))) da db) := xe_cmp op_le (nomark _) (sim_I0 fun _ _ _ => .bl _) ha hb
theorem xe_gt (ha : XE X a da) (hb : XE X b db) : XE X (.Compare a [.Gt] [b] pos) (dOp (fI0 fun i j => .bool (decide (j < i))) da db) := xe_cmp op_gt (nomark _) (sim_I0 fun _ _ _ => .bl _) ha hb
theorem xe_ge (ha : XE X a da) (hb : XE X b db) : XE X (.Compare a [.GtE] [b] pos) (dOp (fI0 fun i j => .bool (decide (j ≤ i))) da db) := xe_cmp op_ge (nomark _) (sim_I0 fun _ _ _ => .bl _) ha hb
theorem xe_ltI (ha : XE X a da) (hb : XE X b db) : XE X (.Compare a [.Lt] [b] pos) (dOp (fI0 fun i j => .bool (decide (i < j))) da db) := xe_cmp op_lt (nomark _) (sim_I0 fun _ _ _ => .bl _) ha hb
/-! ### a + b -/
/-- new lists are ours -/
def fAdd : D2 := fun s t M k => match s, t with
  | .dat (.int i), .dat (.int j) => k (.dat (.int (i + j))) M
  | .dat (.str i), .dat (.str j) => i.length + j.length ≤ 16777216 ∧ k (.dat (.str (i ++ j))) M
  | .dat (.tuple i), .dat (.tuple j) => i.length + j.length ≤ 16777216 ∧ k (.dat (.tuple (i ++ j))) M
  | s, t => ∃ xs ys, IsL M s xs ∧ IsL M t ys ∧ xs.length + ys.length ≤ 16777216 ∧ ∀ p, M p = none → k (.own p) (put M p (.lst (xs ++ ys)))
/-- new lists stand still -/
def fAddD : D2 := fun s t M k => match s, t with
  | .dat (.int i), .dat (.int j) => k (.dat (.int (i + j))) M
  | .dat (.str i), .dat (.str j) => i.length + j.length ≤ 16777216 ∧ k (.dat (.str (i ++ j))) M
  | .dat (.tuple i), .dat (.tuple j) => i.length + j.length ≤ 16777216 ∧ k (.dat (.tuple (i ++ j))) M
  | s, t => ∃ xs ys, IsL M s (xs.map .dat) ∧ IsL M t (ys.map .dat) ∧ xs.length + ys.length ≤ 16777216 ∧ k (.dat (.list (xs ++ ys))) M
abbrev rStrAdd : R2 := fun x y H Q => ∃ i j, x = .str i ∧ y = .str j ∧ i.length + j.length ≤ sizeLine ∧ Q (.str (i ++ j)) H
theorem op_addAll : OpR X (binaryOp .Add) (fun x y H Q => (rI0 fun i j => .int (i + j)) x y H Q ∨ rStrAdd x y H Q ∨ rCatA X.K x y H Q ∨ rCat x y H Q) := OpR.or op_add (OpR.or op_add_str (OpR.or op_catA op_cat))
theorem cat_tup {K : PySem.W.Frag} {H Hc : Hp} {M : Mem} {k : DK} {Q : VK} {i j : List Dt} {x y : V} (rx : Rp H (.dat (.tuple i)) x) (ry : Rp H (.dat (.tuple j)) y) (O : Own H Hc M) (q : On H k Q) (hz : i.length + j.length ≤ sizeLine) (h : k (.dat (.tuple (i ++ j))) M) : rCatA K x y Hc Q := by
  obtain ⟨a, vs, rfl, h1, h2⟩ := dp_tup_inv rx
  obtain ⟨b, ws, rfl, h3, h4⟩ := dp_tup_inv ry
  refine ⟨a, b, vs, ws, rfl, rfl, SqT.of (O.ex _ _ h1), SqT.of (O.ex _ _ h3), by rw [dps_len h2, dps_len h4]; exact hz, fun e => ?_, fun _ e => ?_, fun _ _ p hp => ?_⟩
  · subst e
    cases h2
    exact q.dat O ry h
  · subst e
    cases h4
    rw [List.append_nil] at h
    exact q.dat O rx h
  · exact q.tup O (dqs_app h2 h4) hp h
theorem sim_add {K : PySem.W.Frag} : Sim2 (fun x y H Q => (rI0 fun i j => .int (i + j)) x y H Q ∨ rStrAdd x y H Q ∨ rCatA K x y H Q ∨ rCat x y H Q) fAdd := by
  intro s t M k x y H Hc Q h rx ry O q
  have lists : (∃ xs ys, IsL M s xs ∧ IsL M t ys ∧ xs.length + ys.length ≤ 16777216 ∧ ∀ p, M p = none → k (.own p) (put M p (.lst (xs ++ ys)))) → rCat x y Hc Q := by
    rintro ⟨xs, ys, l1, l2, hz, k1⟩
    obtain ⟨a, vs, rfl, h1, h2⟩ := l1.at_ O rx
    obtain ⟨b, ws, rfl, h3, h4⟩ := l2.at_ O ry
    exact ⟨a, b, vs, ws, rfl, rfl, h1, h3, by rw [rps_len h2, rps_len h4]; exact hz, fun p hp => q.own O (rps_app h2 h4) (by rw [List.length_append]; exact hz) hp (k1 p (O.freeM hp))⟩
  unfold fAdd at h
  split at h
  · exact .inl ⟨_, _, dp_int_inv rx, dp_int_inv ry, q.dat O (.int _) h⟩
  · exact .inr (.inl ⟨_, _, dp_str_inv rx, dp_str_inv ry, h.1, q.dat O (.str _) h.2⟩)
  · exact .inr (.inr (.inl (cat_tup rx ry O q h.1 h.2)))
  · exact .inr (.inr (.inr (lists h)))
theorem sim_addD {K : PySem.W.Frag} : Sim2 (fun x y H Q => (rI0 fun i j => .int (i + j)) x y H Q ∨ rStrAdd x y H Q ∨ rCatA K x y H Q ∨ rCat x y H Q) fAddD := by
  intro s t M k x y H Hc Q h rx ry O q
  have lists : (∃ xs ys, IsL M s (xs.map .dat) ∧ IsL M t (ys.map .dat) ∧ xs.length + ys.length ≤ 16777216 ∧ k (.dat (.list (xs ++ ys))) M) → rCat x y Hc Q := by
    rintro ⟨xs, ys, l1, l2, hz, k1⟩
    obtain ⟨a, vs, rfl, h1, h2⟩ := l1.at_ O rx
    obtain ⟨b, ws, rfl, h3, h4⟩ := l2.at_ O ry
    exact ⟨a, b, vs, ws, rfl, rfl, h1, h3, by rw [rps_len h2, rps_len h4, List.length_map, List.length_map]; exact hz, fun p hp => q.lst O (dqs_app (rps_dat h2) (rps_dat h4)) hp k1⟩
  unfold fAddD at h
  split at h
  · exact .inl ⟨_, _, dp_int_inv rx, dp_int_inv ry, q.dat O (.int _) h⟩
  · exact .inr (.inl ⟨_, _, dp_str_inv rx, dp_str_inv ry, h.1, q.dat O (.str _) h.2⟩)
  · exact .inr (.inr (.inl (cat_tup rx ry O q h.1 h.2)))
  · exact .inr (.inr (.inr (lists h)))
theorem xe_add (ha : XE X a da) (hb : XE X b db) : XE X (.BinOp a .Add b pos) (dOp fAdd da db) := xe_op op_addAll sim_add ha hb
theorem xe_addD (ha : XE X a da) (hb : XE X b db) : XE X (.BinOp a .Add b pos) (dOp fAddD da db) := xe_op op_addAll sim_addD ha hb
/-! ### a == b -/
/-- as a datum -/
def IsD (M : Mem) (s : Sl) (d : Dt) : Prop := s = .dat d ∨ ∃ a ds, s = .own a ∧ M a = some (.lst (ds.map .dat)) ∧ d = .list ds
theorem IsD.at_ {K : PySem.W.Frag} {H Hc : Hp} {M : Mem} {s : Sl} {d : Dt} {x : V} (h : IsD M s d) (O : Own H Hc M) (r : Rp H s x) : Dp K Hc x d := by
  rcases h with rfl | ⟨a, ds, rfl, h, rfl⟩
  · exact dq_dp (dp_ex O.ex r)
  · cases r
    obtain ⟨_, vs, h1, h2⟩ := O.ob a _ h
    exact .lst (SqL.of h1) (dqs_dps (dps_ex O.ex (rps_dat h2)))
def fEq (neg : Bool) : D2 := fun s t M k => match s, t with
  | .dat (.int i), .dat (.int j) => k (.dat (.bool (if neg = true then !decide (i = j) else decide (i = j)))) M
  | .dat (.str i), .dat (.str j) => k (.dat (.bool (if neg = true then !decide (i = j) else decide (i = j)))) M
  | s, t => ∃ d e, IsD M s d ∧ IsD M t e ∧ SeqAt.shaped d = true ∧ SeqAt.shaped e = true ∧ k (.dat (.bool (if neg = true then !PyData.eqv d e else PyData.eqv d e))) M
theorem op_eqAll (hu : X.A.units + 64 < cLine) : OpR X (compareOp .Eq) (fun x y H Q => rEq x y H Q ∨ rEqD X.K x y H Q) := OpR.or op_eq (op_eqD hu)
theorem op_neAll (hu : X.A.units + 64 < cLine) : OpR X (compareOp .NotEq) (fun x y H Q => rNe x y H Q ∨ rNeD X.K x y H Q) := OpR.or op_ne (op_neD hu)
theorem dec_V {i j : Int} : decide (V.int i = V.int j) = decide (i = j) := by
  by_cases h : i = j
  · rw [decide_eq_true h, decide_eq_true (by rw [h])]
  · rw [decide_eq_false h, decide_eq_false (fun q => h (V.int.inj q))]
theorem dec_VS {i j : Str} : decide (V.str i = V.str j) = decide (i = j) := by
  by_cases h : i = j
  · rw [decide_eq_true h, decide_eq_true (by rw [h])]
  · rw [decide_eq_false h, decide_eq_false (fun q => h (V.str.inj q))]
theorem sim_eq {K : PySem.W.Frag} : Sim2 (fun x y H Q => rEq x y H Q ∨ rEqD K x y H Q) (fEq false) := by
  intro s t M k x y H Hc Q h rx ry O q
  unfold fEq at h
  split at h
  · left
    rw [dp_int_inv rx, dp_int_inv ry]
    refine ⟨rfl, ?_⟩
    rw [dec_V]
    exact q.dat O (.bl _) h
  · left
    rw [dp_str_inv rx, dp_str_inv ry]
    refine ⟨rfl, ?_⟩
    rw [dec_VS]
    exact q.dat O (.bl _) h
  · right
    obtain ⟨d, e, h1, h2, s1, s2, h3⟩ := h
    exact ⟨d, e, h1.at_ O rx, h2.at_ O ry, s1, s2, q.dat O (.bl _) h3⟩
theorem sim_ne {K : PySem.W.Frag} : Sim2 (fun x y H Q => rNe x y H Q ∨ rNeD K x y H Q) (fEq true) := by
  intro s t M k x y H Hc Q h rx ry O q
  unfold fEq at h
  split at h
  · left
    rw [dp_int_inv rx, dp_int_inv ry]
    refine ⟨rfl, ?_⟩
    rw [dec_V]
    exact q.dat O (.bl _) h
  · left
    rw [dp_str_inv rx, dp_str_inv ry]
    refine ⟨rfl, ?_⟩
    rw [dec_VS]
    exact q.dat O (.bl _) h
  · right
    obtain ⟨d, e, h1, h2, s1, s2, h3⟩ := h
    exact ⟨d, e, h1.at_ O rx, h2.at_ O ry, s1, s2, q.dat O (.bl _) h3⟩
theorem xe_eq (hu : X.A.units + 64 < cLine) (ha : XE X a da) (hb : XE X b db) : XE X (.Compare a [.Eq] [b] pos) (dOp (fEq false) da db) := xe_cmp (op_eqAll hu) (nomark _) sim_eq ha hb
theorem xe_ne (hu : X.A.units + 64 < cLine) (ha : XE X a da) (hb : XE X b db) : XE X (.Compare a [.NotEq] [b] pos) (dOp (fEq true) da db) := xe_cmp (op_neAll hu) (nomark _) sim_ne ha hb
/-! ### and, or, not, if; tests -/
def dT (de : DE) : DB := fun Γ M k => de Γ M fun s M1 => match s with
  | .dat (.bool b) => k b M1
  | _ => False
theorem sim_t {te : TE} (h : SimE te de) : SimB (tB te) (dT de) := by
  intro Γ M k σ H Hc Q hd F O q
  refine h Γ M _ σ H Hc _ hd F O fun v s M1 H1 Hc1 e1 O1 r1 h1 => ?_
  split at h1
  · exact ⟨_, dp_bl_inv r1, q _ M1 H1 Hc1 e1 O1 h1⟩
  · exact h1.elim
theorem xb_val (h : XE X e de) (he : ∀ whole, isTrue e X.env whole = (do let v ← whole; standAt e.pos; holding [v] (truthy v)) := by intro _; rfl) : XB X e (dT de) := xb_of (pt_val h he) (sim_t simLE)
theorem sim_tt {te : TE} (h : SimE te de) : SimB (tTest te) (dT de) := by
  intro Γ M k σ H Hc Q hd F O q
  refine h Γ M _ σ H Hc _ hd F O fun v s M1 H1 Hc1 e1 O1 r1 h1 => ?_
  split at h1
  · exact ⟨_, dp_bl_inv r1, q _ M1 H1 Hc1 e1 O1 h1⟩
  · exact h1.elim
theorem xb_cmp {r : R2} {f : D2} (hr : Sim2 r f) (h : PT X e (tTest (tOp r (LE da) (LE db)))) : XB X e (dT (dOp f da db)) := xb_of h (sim_tt (sim_op hr simLE simLE))
def dAnd (t u : DB) : DB := fun Γ M k => t Γ M fun b M1 => (b = true → u Γ M1 k) ∧ (b = false → k false M1)
def dOr (t u : DB) : DB := fun Γ M k => t Γ M fun b M1 => (b = true → k true M1) ∧ (b = false → u Γ M1 k)
def dNot (t : DB) : DB := fun Γ M k => t Γ M fun b M1 => k (!b) M1
theorem sim_and {ta tb : TT} {ba bb : DB} (ha : SimB ta ba) (hb : SimB tb bb) : SimB (tAnd ta tb) (dAnd ba bb) := by
  intro Γ M k σ H Hc Q hd F O q
  refine ha Γ M _ σ H Hc _ hd F O fun v M1 H1 Hc1 e1 O1 h1 => ?_
  cases v with
  | true => rw [if_pos rfl]; exact hb Γ M1 k σ H1 Hc1 Q (h1.1 rfl) (F.ex e1) O1 (q.ex e1)
  | false => rw [if_neg Bool.false_ne_true]; exact q _ _ _ _ e1 O1 (h1.2 rfl)
theorem sim_or {ta tb : TT} {ba bb : DB} (ha : SimB ta ba) (hb : SimB tb bb) : SimB (tOr ta tb) (dOr ba bb) := by
  intro Γ M k σ H Hc Q hd F O q
  refine ha Γ M _ σ H Hc _ hd F O fun v M1 H1 Hc1 e1 O1 h1 => ?_
  cases v with
  | true => rw [if_pos rfl]; exact q _ _ _ _ e1 O1 (h1.1 rfl)
  | false => rw [if_neg Bool.false_ne_true]; exact hb Γ M1 k σ H1 Hc1 Q (h1.2 rfl) (F.ex e1) O1 (q.ex e1)
theorem sim_not {ta : TT} {ba : DB} (ha : SimB ta ba) : SimB (tNot ta) (dNot ba) := by
  intro Γ M k σ H Hc Q hd F O q
  exact ha Γ M _ σ H Hc _ hd F O fun v M1 H1 Hc1 e1 O1 h1 => q _ _ _ _ e1 O1 h1
section
variable {ba bb : DB} {rest : List Expr}
theorem xw_one {op} (h : XB X a ba) (h2 : PT X a (LB ba) → PW X (.BoolOp op [a] pos) (LB ba)) : XW X (.BoolOp op [a] pos) ba := h2 h
theorem xw_and1 (h : XB X a ba) : XW X (.BoolOp .And [a] pos) ba := pw_and1 h
theorem xw_or1 (h : XB X a ba) : XW X (.BoolOp .Or [a] pos) ba := pw_or1 h
theorem xw_and (ha : XB X a ba) (hb : XW X (.BoolOp .And (b :: rest) pos) bb) : XW X (.BoolOp .And (a :: b :: rest) pos) (dAnd ba bb) := xw_of (pw_and ha hb) (sim_and simLB simLB)
theorem xw_or (ha : XB X a ba) (hb : XW X (.BoolOp .Or (b :: rest) pos) bb) : XW X (.BoolOp .Or (a :: b :: rest) pos) (dOr ba bb) := xw_of (pw_or ha hb) (sim_or simLB simLB)
theorem xb_w (h : XW X e ba) : XB X e ba := h.pt
theorem xb_not (h : XB X a ba) : XB X (.UnaryOp .Not a pos) (dNot ba) := xb_of (pt_not h) (sim_not simLB)
end
/-- as values -/
def dAndV (da db : DE) : DE := fun Γ M k => dT da Γ M fun b M1 => (b = true → db Γ M1 k) ∧ (b = false → k (.dat (.bool false)) M1)
def dOrV (da db : DE) : DE := fun Γ M k => dT da Γ M fun b M1 => (b = true → k (.dat (.bool true)) M1) ∧ (b = false → db Γ M1 k)
def dNotV (da : DE) : DE := fun Γ M k => dT da Γ M fun b M1 => k (.dat (.bool (!b))) M1
theorem sim_andV {ta tb : TE} (ha : SimE ta da) (hb : SimE tb db) : SimE (tAndV ta tb) (dAndV da db) := by
  intro Γ M k σ H Hc Q hd F O q
  refine ha Γ M _ σ H Hc _ hd F O fun v s M1 H1 Hc1 e1 O1 r1 h1 => ?_
  split at h1
  · rename_i b
    refine ⟨b, dp_bl_inv r1, ?_⟩
    cases b with
    | true => rw [if_pos rfl]; exact hb Γ M1 k σ H1 Hc1 Q (h1.1 rfl) (F.ex e1) O1 (q.ex e1)
    | false => rw [if_neg Bool.false_ne_true]; exact q _ (.dat (.bool false)) _ _ _ e1 O1 (Dq.bl _) (h1.2 rfl)
  · exact h1.elim
theorem sim_orV {ta tb : TE} (ha : SimE ta da) (hb : SimE tb db) : SimE (tOrV ta tb) (dOrV da db) := by
  intro Γ M k σ H Hc Q hd F O q
  refine ha Γ M _ σ H Hc _ hd F O fun v s M1 H1 Hc1 e1 O1 r1 h1 => ?_
  split at h1
  · rename_i b
    refine ⟨b, dp_bl_inv r1, ?_⟩
    cases b with
    | true => rw [if_pos rfl]; exact q _ (.dat (.bool true)) _ _ _ e1 O1 (Dq.bl _) (h1.1 rfl)
    | false => rw [if_neg Bool.false_ne_true]; exact hb Γ M1 k σ H1 Hc1 Q (h1.2 rfl) (F.ex e1) O1 (q.ex e1)
  · exact h1.elim
theorem sim_notV {ta : TE} (ha : SimE ta da) : SimE (tNotV ta) (dNotV da) := by
  intro Γ M k σ H Hc Q hd F O q
  refine ha Γ M _ σ H Hc _ hd F O fun v s M1 H1 Hc1 e1 O1 r1 h1 => ?_
  split at h1
  · rename_i b
    exact ⟨b, dp_bl_inv r1, q _ (.dat (.bool (!b))) _ _ _ e1 O1 (Dq.bl _) h1⟩
  · exact h1.elim
theorem xe_one {op} (h : XE X a da) : XE X (.BoolOp op [a] pos) da := pe_one h
theorem xe_and {rest : List Expr} (ha : XE X a da) (hb : XE X (.BoolOp .And (b :: rest) pos) db) : XE X (.BoolOp .And (a :: b :: rest) pos) (dAndV da db) := xe_of (pe_and ha hb) (sim_andV simLE simLE)
theorem xe_or {rest : List Expr} (ha : XE X a da) (hb : XE X (.BoolOp .Or (b :: rest) pos) db) : XE X (.BoolOp .Or (a :: b :: rest) pos) (dOrV da db) := xe_of (pe_or ha hb) (sim_orV simLE simLE)
theorem xe_not (ha : XE X a da) : XE X (.UnaryOp .Not a pos) (dNotV da) := xe_of (pe_not ha) (sim_notV simLE)
def dIf (t : DB) (da db : DE) : DE := fun Γ M k => t Γ M fun b M1 => (b = true → da Γ M1 k) ∧ (b = false → db Γ M1 k)
theorem xe_if {ba : DB} (hc : XB X c ba) (ha : XE X a da) (hb : XE X b db) : XE X (.IfExp c a b pos) (dIf ba da db) := xe_of (pe_ifExp hc ha hb) (by
  intro Γ M k σ H Hc Q hd F O q
  refine simLB Γ M _ σ H Hc _ hd F O fun v M1 H1 Hc1 e1 O1 h1 => ?_
  cases v with
  | true => rw [if_pos rfl]; exact simLE Γ M1 k σ H1 Hc1 Q (h1.1 rfl) (F.ex e1) O1 (q.ex e1)
  | false => rw [if_neg Bool.false_ne_true]; exact simLE Γ M1 k σ H1 Hc1 Q (h1.2 rfl) (F.ex e1) O1 (q.ex e1))
/-- a < b < c -/
def dChain (f g : D2) (da db dc : DE) : DE := fun Γ M k => da Γ M fun s M1 => db Γ M1 fun t M2 => f s t M2 fun r M3 => match r with
  | .dat (.bool b) => (b = true → dc Γ M3 fun u M4 => g t u M4 k) ∧ (b = false → k (.dat (.bool false)) M3)
  | _ => False
theorem sim_chain {r r' : R2} {f g : D2} (hf : Sim2 r f) (hg : Sim2 r' g) : SimE (tChain r r' (LE da) (LE db) (LE dc)) (dChain f g da db dc) := by
  intro Γ M k σ H Hc Q hd F O q
  refine simLE Γ M _ σ H Hc _ hd F O fun x s M1 H1 Hc1 e1 O1 r1 h1 => ?_
  refine simLE Γ M1 _ σ H1 Hc1 _ h1 (F.ex e1) O1 fun y t M2 H2 Hc2 e2 O2 r2 h2 => ?_
  refine hf s t M2 _ x y H2 Hc2 _ h2 (rp_ex e2 r1) r2 O2 fun z u M3 H3 Hc3 e3 O3 r3 h3 => ?_
  split at h3
  · rename_i b
    refine ⟨b, dp_bl_inv r3, ?_⟩
    cases b with
    | true =>
      rw [if_pos rfl]
      refine simLE Γ M3 _ σ H3 Hc3 _ (h3.1 rfl) (F.ex (e1.trans (e2.trans e3))) O3 fun z' u' M4 H4 Hc4 e4 O4 r4 h4 => ?_
      exact hg t u' M4 k y z' H4 Hc4 Q h4 (rp_ex (e3.trans e4) r2) r4 O4 (q.ex (e1.trans (e2.trans (e3.trans e4))))
    | false =>
      rw [if_neg Bool.false_ne_true]
      exact q _ (.dat (.bool false)) _ _ _ (e1.trans (e2.trans e3)) O3 (Dq.bl _) (h3.2 rfl)
  · exact h3.elim
theorem xe_chainI {g g' : Int → Int → Bool} (h : PE X e (tChain (rI0 fun i j => .bl (g i j)) (rI0 fun i j => .bl (g' i j)) (LE da) (LE db) (LE dc))) : XE X e (dChain (fI0 fun i j => .bool (g i j)) (fI0 fun i j => .bool (g' i j)) da db dc) :=
  xe_of h (sim_chain (sim_I0 fun _ _ _ => .bl _) (sim_I0 fun _ _ _ => .bl _))
theorem xb_chainI {g g' : Int → Int → Bool} (h : PT X e (tTest (tChain (rI0 fun i j => .bl (g i j)) (rI0 fun i j => .bl (g' i j)) (LE da) (LE db) (LE dc)))) : XB X e (dT (dChain (fI0 fun i j => .bool (g i j)) (fI0 fun i j => .bool (g' i j)) da db dc)) :=
  xb_of h (sim_tt (sim_chain (sim_I0 fun _ _ _ => .bl _) (sim_I0 fun _ _ _ => .bl _)))
end
end DL
namespace DL
open PySem PySem.Spec PyProof.Rows L2
open Evl (Ex)
section
variable {X : Cx} {e a b c : Expr} {de da db dc : DE} {pos : Pos} {es : List Expr} {das : DA}
/-! ### subscripts -/
def fIx : D2 := fun s t M k => match s, t with
  | .dat (.tuple ds), .dat (.int i) => ∃ d, atI ds i = some d ∧ k (.dat d) M
  | .dat (.list ds), .dat (.int i) => ∃ d, atI ds i = some d ∧ k (.dat d) M
  | .dat (.str z), .dat (.int i) => z.length ≤ 16777216 ∧ ∃ c, atI z.cps.toList i = some c ∧ k (.dat (.str ⟨#[c]⟩)) M
  | .own a, .dat (.int i) => ∃ xs v, M a = some (.lst xs) ∧ atI xs i = some v ∧ k v M
  | _, _ => False
theorem sim_ix {K : PySem.W.Frag} : Sim2 (rIx K) fIx := by
  intro s t M k x y H Hc Q h rx ry O q
  unfold fIx at h
  split at h
  · obtain ⟨d, e1, h⟩ := h
    obtain ⟨p, vs, rfl, h1, h2⟩ := dp_tup_inv rx
    obtain ⟨v, e2, h3⟩ := atI_dq h2 e1
    exact .inr (.inl ⟨p, vs, _, v, rfl, dp_int_inv ry, SqT.of (O.ex _ _ h1), e2, q.dat O h3 h⟩)
  · obtain ⟨d, e1, h⟩ := h
    obtain ⟨p, vs, rfl, h1, h2⟩ := dp_lst_inv rx
    obtain ⟨v, e2, h3⟩ := atI_dq h2 e1
    exact .inl ⟨p, vs, _, v, rfl, dp_int_inv ry, SqL.of (O.ex _ _ h1), e2, q.dat O h3 h⟩
  · obtain ⟨hz, c, e1, h⟩ := h
    exact .inr (.inr ⟨_, _, c, dp_str_inv rx, dp_int_inv ry, by rw [sizeLine_eq]; exact hz, e1, q.dat O (.str _) h⟩)
  · obtain ⟨xs, v, e1, e2, h⟩ := h
    cases rx
    obtain ⟨_, vs, h1, h2⟩ := O.ob _ _ e1
    obtain ⟨w, e3, h3⟩ := atI_rp h2 e2
    exact .inl ⟨_, vs, _, w, rfl, dp_int_inv ry, SqL.of h1, e3, q w v M H Hc (Evl.Ex.refl H) O h3 h⟩
  · exact h.elim
theorem xe_ix (ha : XE X a da) (hb : XE X b db) (hs : PlainIx b := by exact fun _ _ => rfl) : XE X (.Subscript a b pos) (dOp fIx da db) := xe_of (pe_ix ix_seq ha hb hs) (sim_op sim_ix simLE simLE)
/-! ### slices -/
abbrev DO := Fm → Mem → (Option Int → Mem → Prop) → Prop
def SimO (t : TO) (d : DO) : Prop := ∀ Γ M (k : Option Int → Mem → Prop) σ H Hc (Q : Option Int → Hp → Prop), d Γ M k → Fr H σ Γ → Own H Hc M → (∀ o M' H' Hc', Ex H H' → Own H' Hc' M' → k o M' → Q o Hc') → t σ Hc Q
def LO (d : DO) : TO := fun σ Hc Q => ∃ Γ M H k, d Γ M k ∧ Fr H σ Γ ∧ Own H Hc M ∧ ∀ o M' H' Hc', Ex H H' → Own H' Hc' M' → k o M' → Q o Hc'
abbrev XO (X : Cx) (e : Option Expr) (d : DO) : Prop := PO X e (LO d)
def dNo : DO := fun _ M k => k none M
def dPt (de : DE) : DO := fun Γ M k => de Γ M fun s M1 => match s with
  | .dat (.int i) => k (some i) M1
  | _ => False
theorem xo_none : XO X none dNo := ⟨fun pins st σ Hc Q I ⟨Γ, M, H, k, hd, F, O, q⟩ => po_none.run pins st σ Hc Q I (q none M H Hc (Evl.Ex.refl H) O hd)⟩
theorem xo_some (h : XE X e de) : XO X (some e) (dPt de) := ⟨fun pins st σ Hc Q I ⟨Γ, M, H, k, hd, F, O, q⟩ => (po_some h).run pins st σ Hc Q I (by
  refine simLE Γ M _ σ H Hc _ hd F O fun v s M1 H1 Hc1 e1 O1 r1 h1 => ?_
  split at h1
  · exact ⟨_, dp_int_inv r1, q _ _ _ _ e1 O1 h1⟩
  · exact h1.elim)⟩
abbrev D3 := Sl → Option Int → Option Int → Mem → DK → Prop
def Sim3 (r : V → Option Int → Option Int → Hp → VK → Prop) (f : D3) : Prop := ∀ s lo hi M k x H Hc Q, f s lo hi M k → Rp H s x → Own H Hc M → On H k Q → r x lo hi Hc Q
def dSl (f : D3) (de : DE) (dl dh : DO) : DE := fun Γ M k => de Γ M fun s M1 => dl Γ M1 fun lo M2 => dh Γ M2 fun hi M3 => f s lo hi M3 k
def fSl : D3 := fun s lo hi M k => match s with
  | .dat (.tuple ds) => k (.dat (.tuple (cut ds lo hi))) M
  | .dat (.str z) => z.length ≤ 16777216 ∧ k (.dat (.str (cutS z lo hi))) M
  | s => ∃ xs, IsL M s xs ∧ xs.length ≤ 16777216 ∧ ∀ p, M p = none → k (.own p) (put M p (.lst (cut xs lo hi)))
def fSlD : D3 := fun s lo hi M k => match s with
  | .dat (.tuple ds) => k (.dat (.tuple (cut ds lo hi))) M
  | .dat (.str z) => z.length ≤ 16777216 ∧ k (.dat (.str (cutS z lo hi))) M
  | s => ∃ xs, IsL M s (xs.map .dat) ∧ k (.dat (.list (cut xs lo hi))) M
theorem cut_whole {α : Type} {xs : List α} {lo hi : Option Int} (h : HT.sIx xs.length 0 lo = 0 ∧ HT.sIx xs.length xs.length hi = xs.length) : cut xs lo hi = xs := by
  unfold cut
  rw [h.1, h.2, List.drop_zero, Nat.sub_zero, List.take_length]
theorem cut_len {α : Type} (xs : List α) (lo hi : Option Int) : (cut xs lo hi).length ≤ xs.length := by
  unfold cut
  rw [List.length_take, List.length_drop]
  omega
theorem sl_all : SlR X (fun x lo hi H Q => rSlA X.K x lo hi H Q ∨ rSlS x lo hi H Q ∨ rSlL X.K x lo hi H Q) := SlR.or sl_tupA (SlR.or sl_str sl_list)
theorem sl_tupD {K : PySem.W.Frag} {H Hc : Hp} {M : Mem} {k : DK} {Q : VK} {ds : List Dt} {lo hi : Option Int} {x : V} (rx : Rp H (.dat (.tuple ds)) x) (O : Own H Hc M) (q : On H k Q) (h : k (.dat (.tuple (cut ds lo hi))) M) : rSlA K x lo hi Hc Q := by
  obtain ⟨p, vs, rfl, h1, h2⟩ := dp_tup_inv rx
  have hl := dps_len h2
  refine ⟨p, vs, rfl, SqT.of (O.ex _ _ h1), fun w => ?_, fun _ p hp => q.tup O (dqs_cut lo hi h2) hp h⟩
  rw [hl] at w
  rw [cut_whole w] at h
  exact q.dat O rx h
theorem sim_sl {K : PySem.W.Frag} : Sim3 (fun x lo hi H Q => rSlA K x lo hi H Q ∨ rSlS x lo hi H Q ∨ rSlL K x lo hi H Q) fSl := by
  intro s lo hi M k x H Hc Q h rx O q
  unfold fSl at h
  split at h
  · exact .inl (sl_tupD rx O q h)
  · exact .inr (.inl ⟨_, dp_str_inv rx, by rw [sizeLine_eq]; exact h.1, q.dat O (.str _) h.2⟩)
  · obtain ⟨xs, l, hz, h⟩ := h
    obtain ⟨a, vs, rfl, h1, h2⟩ := l.at_ O rx
    exact .inr (.inr ⟨a, vs, rfl, SqL.of h1, fun p hp => q.own O (rps_cut lo hi h2) (by rw [sizeLine_eq]; exact Nat.le_trans (cut_len xs lo hi) hz) hp (h p (O.freeM hp))⟩)
theorem sim_slD {K : PySem.W.Frag} : Sim3 (fun x lo hi H Q => rSlA K x lo hi H Q ∨ rSlS x lo hi H Q ∨ rSlL K x lo hi H Q) fSlD := by
  intro s lo hi M k x H Hc Q h rx O q
  unfold fSlD at h
  split at h
  · exact .inl (sl_tupD rx O q h)
  · exact .inr (.inl ⟨_, dp_str_inv rx, by rw [sizeLine_eq]; exact h.1, q.dat O (.str _) h.2⟩)
  · obtain ⟨xs, l, h⟩ := h
    obtain ⟨a, vs, rfl, h1, h2⟩ := l.at_ O rx
    exact .inr (.inr ⟨a, vs, rfl, SqL.of h1, fun p hp => q.lst O (dqs_cut lo hi (rps_dat h2)) hp h⟩)
theorem xe_slF {f : D3} {lo hi : Option Expr} {dl dh : DO} {p2 : Pos} (hf : Sim3 (fun x lo hi H Q => rSlA X.K x lo hi H Q ∨ rSlS x lo hi H Q ∨ rSlL X.K x lo hi H Q) f) (he : XE X e de) (hl : XO X lo dl) (hu : XO X hi dh) : XE X (.Subscript e (.Slice lo hi none p2) pos) (dSl f de dl dh) :=
  xe_of (pe_slice sl_all he hl hu) (by
    intro Γ M k σ H Hc Q hd F O q
    refine simLE Γ M _ σ H Hc _ hd F O fun v s M1 H1 Hc1 e1 O1 r1 h1 => ?_
    refine ⟨Γ, M1, H1, _, h1, F.ex e1, O1, fun lo M2 H2 Hc2 e2 O2 h2 => ?_⟩
    refine ⟨Γ, M2, H2, _, h2, F.ex (e1.trans e2), O2, fun hi M3 H3 Hc3 e3 O3 h3 => ?_⟩
    exact hf s lo hi M3 k v H3 Hc3 Q h3 (rp_ex (e2.trans e3) r1) O3 (q.ex (e1.trans (e2.trans e3))))
theorem xe_sl {lo hi : Option Expr} {dl dh : DO} {p2 : Pos} (he : XE X e de) (hl : XO X lo dl) (hu : XO X hi dh) : XE X (.Subscript e (.Slice lo hi none p2) pos) (dSl fSl de dl dh) := xe_slF sim_sl he hl hu
theorem xe_slD {lo hi : Option Expr} {dl dh : DO} {p2 : Pos} (he : XE X e de) (hl : XO X lo dl) (hu : XO X hi dh) : XE X (.Subscript e (.Slice lo hi none p2) pos) (dSl fSlD de dl dh) := xe_slF sim_slD he hl hu
/-! ### arguments, displays -/
def dNil : DA := fun _ M k => k [] M
def dCons (de : DE) (das : DA) : DA := fun Γ M k => de Γ M fun s M1 => das Γ M1 fun ss M2 => k (s :: ss) M2
theorem xa_nil : XA X [] dNil := xa_of pa_nil fun Γ M k σ H Hc Q h F O q => q [] [] M H Hc (Evl.Ex.refl H) O .nil h
theorem xa_cons (he : XE X e de) (hr : XA X es das) (hs : starEach (e :: es) X.env = (false, eval e X.env) :: starEach es X.env := by rfl) : XA X (e :: es) (dCons de das) := xa_of (pa_cons he hr hs) (by
  intro Γ M k σ H Hc Q hd F O q
  refine simLE Γ M _ σ H Hc _ hd F O fun v s M1 H1 Hc1 e1 O1 r1 h1 => ?_
  refine simLA Γ M1 _ σ H1 Hc1 _ h1 (F.ex e1) O1 fun vs ss M2 H2 Hc2 e2 O2 r2 h2 => ?_
  exact q _ (s :: ss) _ _ _ (e1.trans e2) O2 (.cons (rp_ex e2 r1) r2) h2)
def dTup (das : DA) : DE := fun Γ M k => das Γ M fun ss M1 => Nat.ble ss.length 100000 = true ∧ ∃ ds, datsOf ss = some ds ∧ k (.dat (.tuple ds)) M1
def dLst (das : DA) : DE := fun Γ M k => das Γ M fun ss M1 => Nat.ble ss.length 100000 = true ∧ ∀ p, M1 p = none → k (.own p) (put M1 p (.lst ss))
def dLstD (das : DA) : DE := fun Γ M k => das Γ M fun ss M1 => Nat.ble ss.length 100000 = true ∧ ∃ ds, datsOf ss = some ds ∧ k (.dat (.list ds)) M1
theorem ble_size {n : Nat} (h : Nat.ble n 100000 = true) : n ≤ sizeLine := by
  have := Nat.le_of_ble_eq_true h
  rw [sizeLine_eq]; omega
theorem xe_tup {x1} (h : XA X es das) : XE X (.Tuple es x1 pos) (dTup das) := xe_of (pe_tup h) (by
  intro Γ M k σ H Hc Q hd F O q
  refine simLA Γ M _ σ H Hc _ hd F O fun vs ss M1 H1 Hc1 e1 O1 r1 h1 => ?_
  obtain ⟨hz, ds, e2, h2⟩ := h1
  have := datsOf_eq e2
  subst this
  exact ⟨by rw [rps_len r1]; exact ble_size hz, fun p hp => (q.ex e1).tup O1 (rps_dat r1) hp h2⟩)
theorem xe_lst (h : XA X es das) : XE X (.List es pos) (dLst das) := xe_of (pe_lst h) (by
  intro Γ M k σ H Hc Q hd F O q
  refine simLA Γ M _ σ H Hc _ hd F O fun vs ss M1 H1 Hc1 e1 O1 r1 h1 => ?_
  exact ⟨by rw [rps_len r1]; exact ble_size h1.1, fun p hp => (q.ex e1).own O1 r1 (ble_size h1.1) hp (h1.2 p (O1.freeM hp))⟩)
theorem xe_lstD (h : XA X es das) : XE X (.List es pos) (dLstD das) := xe_of (pe_lst h) (by
  intro Γ M k σ H Hc Q hd F O q
  refine simLA Γ M _ σ H Hc _ hd F O fun vs ss M1 H1 Hc1 e1 O1 r1 h1 => ?_
  obtain ⟨hz, ds, e2, h2⟩ := h1
  have := datsOf_eq e2
  subst this
  exact ⟨by rw [rps_len r1]; exact ble_size hz, fun p hp => (q.ex e1).lst O1 (rps_dat r1) hp h2⟩)
/-! ### calls of built-ins -/
abbrev DC := List Sl → Mem → DK → Prop
def SimC (r : List V → Hp → VK → Prop) (f : DC) : Prop := ∀ ss M k xs H Hc Q, f ss M k → Rps H ss xs → Own H Hc M → On H k Q → r xs Hc Q
def dCB (f : DC) (das : DA) : DE := fun Γ M k => das Γ M fun ss M1 => f ss M1 k
theorem sim_cb {r : List V → Hp → VK → Prop} {f : DC} {t : TA} (h : SimC r f) (ha : SimA t das) : SimE (tCB r t) (dCB f das) := by
  intro Γ M k σ H Hc Q hd F O q
  exact ha Γ M _ σ H Hc _ hd F O fun vs ss M1 H1 Hc1 e1 O1 r1 h1 => h ss M1 k vs H1 Hc1 Q h1 r1 O1 (q.ex e1)
theorem xe_callB {r : List V → Hp → VK → Prop} {f : DC} {ex : Expr} (hf : SimC r f) (h : PE X ex (tCB r (LA das))) : XE X ex (dCB f das) := xe_of h (sim_cb hf simLA)
def fLen : DC := fun ss M k => match ss with
  | [.dat (.tuple ds)] => k (.dat (.int ds.length)) M
  | [.dat (.list ds)] => k (.dat (.int ds.length)) M
  | [.own a] => ∃ xs, M a = some (.lst xs) ∧ k (.dat (.int xs.length)) M
  | [.dat (.str z)] => z.length ≤ 16777216 ∧ k (.dat (.int z.length)) M
  | _ => False
theorem CallR.or {f : Value} {r r' : List V → Hp → VK → Prop} (h : CallR X f r) (h' : CallR X f r') : CallR X f (fun x H Q => r x H Q ∨ r' x H Q) := by
  intro pins s σ H x u Q I rx q
  rcases q with q | q
  · exact h pins s σ H x u Q I rx q
  · exact h' pins s σ H x u Q I rx q
abbrev rLenA (K : PySem.W.Frag) : List V → Hp → VK → Prop := fun xs H Q => (∃ p ys, xs = [.ref p] ∧ (SqL K H p ys ∨ SqT K H p ys) ∧ Q (.int ys.length) H) ∨ ∃ z, xs = [.str z] ∧ z.length ≤ sizeLine ∧ Q (.int z.length) H
theorem call_lenA : CallR X (.builtin "len") (rLenA X.K) := CallR.or call_len_seq call_len_str
theorem rps1 {H : Hp} {s : Sl} {xs : List V} (h : Rps H [s] xs) : ∃ x, xs = [x] ∧ Rp H s x := by
  cases h with
  | cons r t => cases t; exact ⟨_, rfl, r⟩
theorem rps2 {H : Hp} {s t : Sl} {xs : List V} (h : Rps H [s, t] xs) : ∃ x y, xs = [x, y] ∧ Rp H s x ∧ Rp H t y := by
  cases h with
  | cons r q => obtain ⟨y, rfl, h2⟩ := rps1 q; exact ⟨_, _, rfl, r, h2⟩
theorem sim_len {K : PySem.W.Frag} : SimC (rLenA K) fLen := by
  intro ss M k xs H Hc Q h r O q
  unfold fLen at h
  split at h
  · obtain ⟨x, rfl, rx⟩ := rps1 r
    obtain ⟨p, vs, rfl, h1, h2⟩ := dp_tup_inv rx
    rw [← dps_len h2] at h
    exact .inl ⟨p, vs, rfl, .inr (SqT.of (O.ex _ _ h1)), q.dat O (.int _) h⟩
  · obtain ⟨x, rfl, rx⟩ := rps1 r
    obtain ⟨p, vs, rfl, h1, h2⟩ := dp_lst_inv rx
    rw [← dps_len h2] at h
    exact .inl ⟨p, vs, rfl, .inl (SqL.of (O.ex _ _ h1)), q.dat O (.int _) h⟩
  · obtain ⟨x, rfl, rx⟩ := rps1 r
    obtain ⟨ys, e1, h⟩ := h
    cases rx
    obtain ⟨_, vs, h1, h2⟩ := O.ob _ _ e1
    rw [← rps_len h2] at h
    exact .inl ⟨_, vs, rfl, .inl (SqL.of h1), q.dat O (.int _) h⟩
  · obtain ⟨x, rfl, rx⟩ := rps1 r
    exact .inr ⟨_, by rw [dp_str_inv rx], by rw [sizeLine_eq]; exact h.1, q.dat O (.int _) h.2⟩
  · exact h.elim
/-- isinstance -/
def tyD : Dt → String
  | .none => "NoneType" | .bool _ => "bool" | .int _ => "int" | .str _ => "str" | .list _ => "list" | .tuple _ => "tuple" | .dict _ => "dict"
def isiD (T : String) (d : Dt) : Bool := tyD d == T || (tyD d == "bool" && T == "int")
def fIsi : DC := fun ss M k => match ss with
  | [.dat d, .raw (.ty T)] => (T = "int" ∨ T = "bool" ∨ T = "tuple" ∨ T = "list" ∨ T = "str") ∧ k (.dat (.bool (isiD T d))) M
  | _ => False
theorem kit_tab : ∀ a ∈ ["NoneType", "bool", "int", "str", "list", "tuple"], ∀ T ∈ ["int", "bool", "tuple", "list", "str"], kitB a T = some (a == T || (a == "bool" && T == "int")) := by decide +kernel
theorem kit_all {K : PySem.W.Frag} (d : Dt) (hd : ∀ kvs, d ≠ .dict kvs) {T : String} (hT : T = "int" ∨ T = "bool" ∨ T = "tuple" ∨ T = "list" ∨ T = "str") : PySem.W.kitOne K (.type (tyD d)) (.type T) = some (isiD T d) := by
  refine kit_ty (kit_tab (tyD d) ?_ T ?_)
  · cases d with
    | dict kvs => exact absurd rfl (hd kvs)
    | _ => simp [tyD]
  · rcases hT with rfl | rfl | rfl | rfl | rfl <;> simp
theorem ty_of_dq {K : PySem.W.Frag} {H : Hp} {x : V} {d : Dt} (r : Dq H x d) : TyX K H x (.type (tyD d)) := by
  cases r with
  | non => exact .base .non
  | bl b => exact .base (.bl b)
  | int i => exact .base (.int i)
  | str x => exact .base (.str x)
  | lst h _ => exact .base (.lst h)
  | tup h _ => exact .base (.tup h)
theorem dq_no_dict {H : Hp} {x : V} {d : Dt} (r : Dq H x d) : ∀ kvs, d ≠ .dict kvs := by
  rintro kvs rfl
  cases r
theorem sim_isi {K : PySem.W.Frag} : SimC (rIsi K) fIsi := by
  intro ss M k xs H Hc Q h r O q
  unfold fIsi at h
  split at h
  · obtain ⟨x, y, rfl, rx, ry⟩ := rps2 r
    have ry' : y = V.ty _ := ry
    subst ry'
    have rc := dp_ex O.ex rx
    exact ⟨x, _, _, _, _, rfl, .ty _, ty_of_dq rc, kit_all _ (dq_no_dict rc) h.1, q.dat O (.bl _) h.2⟩
  · exact h.elim
/-- list(xs): a new one, ours -/
def fList : DC := fun ss M k => match ss with
  | [.dat (.tuple ds)] => ds.length ≤ 16777216 ∧ ∀ p, M p = none → k (.own p) (put M p (.lst (ds.map .dat)))
  | [.dat (.list ds)] => ds.length ≤ 16777216 ∧ ∀ p, M p = none → k (.own p) (put M p (.lst (ds.map .dat)))
  | [.own a] => ∃ xs, M a = some (.lst xs) ∧ xs.length ≤ 16777216 ∧ ∀ p, M p = none → k (.own p) (put M p (.lst xs))
  | _ => False
abbrev rListA (K : PySem.W.Frag) : List V → Hp → VK → Prop := fun xs H Q => ∃ p ys, xs = [.ref p] ∧ (SqL K H p ys ∨ SqT K H p ys) ∧ ∀ l, H l = none → Q (.ref l) (upd H l (.lst ys))
theorem sim_list {K : PySem.W.Frag} : SimC (rListA K) fList := by
  intro ss M k xs H Hc Q h r O q
  unfold fList at h
  split at h
  · obtain ⟨x, rfl, rx⟩ := rps1 r
    obtain ⟨p, vs, rfl, h1, h2⟩ := dp_tup_inv rx
    exact ⟨p, vs, rfl, .inr (SqT.of (O.ex _ _ h1)), fun l hl => q.own O (dat_rps h2) (by rw [sizeLine_eq, List.length_map]; exact h.1) hl (h.2 l (O.freeM hl))⟩
  · obtain ⟨x, rfl, rx⟩ := rps1 r
    obtain ⟨p, vs, rfl, h1, h2⟩ := dp_lst_inv rx
    exact ⟨p, vs, rfl, .inl (SqL.of (O.ex _ _ h1)), fun l hl => q.own O (dat_rps h2) (by rw [sizeLine_eq, List.length_map]; exact h.1) hl (h.2 l (O.freeM hl))⟩
  · obtain ⟨x, rfl, rx⟩ := rps1 r
    obtain ⟨ys, e1, hz, h⟩ := h
    cases rx
    obtain ⟨_, vs, h1, h2⟩ := O.ob _ _ e1
    exact ⟨_, vs, rfl, .inl (SqL.of h1), fun l hl => q.own O h2 (by rw [sizeLine_eq]; exact hz) hl (h l (O.freeM hl))⟩
  · exact h.elim
/-- repr -/
def fRepr : DC := fun ss M k => match ss with
  | [.dat d] => d.showable = true ∧ d.shown.length ≤ 16777216 ∧ d.depth ≤ 40 ∧ k (.dat (.str d.shown)) M
  | _ => False
def rRepr (K : PySem.W.Frag) : List V → Hp → VK → Prop := fun xs H Q => ∃ x d, xs = [x] ∧ Dq H x d ∧ d.showable = true ∧ d.shown.length ≤ 16777216 ∧ d.depth ≤ 40 ∧ Q (.str d.shown) H
theorem sim_repr {K : PySem.W.Frag} : SimC (rRepr K) fRepr := by
  intro ss M k xs H Hc Q h r O q
  unfold fRepr at h
  split at h
  · obtain ⟨x, rfl, rx⟩ := rps1 r
    exact ⟨x, _, rfl, dp_ex O.ex rx, h.1, h.2.1, h.2.2.1, q.dat O (.str _) h.2.2.2⟩
  · exact h.elim
/-- all([..]) -/
def boolsOf : List Dt → Option (List Bool)
  | [] => some []
  | .bool b :: ds => (boolsOf ds).map (b :: ·)
  | _ => none
end
end DL
namespace DL
open PySem PySem.Spec PyProof.Rows L2
open Evl (Ex)
/-! ### defs, where no repr is under way around -/
/-- room, and no repr under way -/
structure Rm (k : Nat) (A : Around) : Prop where
  rm : Room k A
  gu : A.guards = some []
theorem Rm.mono {j k : Nat} {A : Around} (r : Rm k A) (h : j ≤ k) : Rm j A := ⟨r.rm.mono h, r.gu⟩
/-- a promise without heaps: arguments, what is ours, the way on; the way out by an error -/
abbrev Pr := List Sl → Mem → DK → Prop
structure Holds (P : Program) (w : World) (K : PySem.W.Frag) (mg : Str → Option Value) (base : Heap) (k : Nat) (f : Addr) (fd : FuncData) (ps : List Str) (pr : Pr) : Prop where
  len : ∀ ss M q, pr ss M q → ss.length = ps.length
  go : ∀ (A : Around) (outer : List Env) (s : Shared) (Hc : Hp) (args : Args) (us : List Value) (vs : List V) (ss : List Sl) (M : Mem) (H : Hp) (q : DK) (Q : VK), Rm k A → Env0 P w K mg base A outer s Hc →
    BindsTo s fd args (ps.zip us) → Vals vs us → Rps H ss vs → Own H Hc M → pr ss M q → On H q Q →
    codeAny (model P w) A (.call (.ref f) args) (CR CX0 outer P w Hc s Q fun _ _ _ => False) s
theorem Holds.mono {P : Program} {w : World} {K : PySem.W.Frag} {mg : Str → Option Value} {base : Heap} {j k : Nat} {f : Addr} {fd : FuncData} {ps : List Str} {pr : Pr} (F : Holds P w K mg base j f fd ps pr) (h : j ≤ k) : Holds P w K mg base k f fd ps pr :=
  ⟨F.len, fun A outer s Hc args us vs ss M H q Q r => F.go A outer s Hc args us vs ss M H q Q (r.mono h)⟩
theorem Holds.imp {P : Program} {w : World} {K : PySem.W.Frag} {mg : Str → Option Value} {base : Heap} {k : Nat} {f : Addr} {fd : FuncData} {ps : List Str} {pr pr' : Pr} (F : Holds P w K mg base k f fd ps pr) (h : ∀ ss M q, pr' ss M q → pr ss M q) : Holds P w K mg base k f fd ps pr' :=
  ⟨fun ss M q z => F.len ss M q (h _ _ _ z), fun A outer s Hc args us vs ss M H q Q a1 a2 a3 a4 a5 a6 a7 => F.go A outer s Hc args us vs ss M H q Q a1 a2 a3 a4 a5 a6 (h _ _ _ a7)⟩
section
variable {X : Cx} {e : Expr} {es : List Expr} {de : DE} {das : DA} {pos p : Pos} {x : Str} {k : Nat} {f : Addr} {fd : FuncData} {ps : List Str} {pr : Pr}
def dCall (pr : Pr) (das : DA) : DE := fun Γ M k => das Γ M fun ss M1 => pr ss M1 k
/-- the callee goes its way -/
theorem call_go {pins : List (Addr × Obj)} {σ : L2.St} {Hc H : Hp} {M : Mem} {s : Shared} {Q : VK} {q : DK} {us : List Value} {vs : List V} {ss : List Sl} (F : Holds X.prog X.w X.K X.mg X.base k f fd ps pr) (hr : Rm k X.A) (hb : Binds X.K fd ps [])
    (I : Inv X pins σ Hc s) (r : Vals vs us) (rs : Rps H ss vs) (O : Own H Hc M) (h : pr ss M q) (on : On H q Q) : wpAny (model X.prog X.w) X.A (call (.ref f) us) (EP X pins σ Q) X.xe s := by
  have e1 : us.length = ps.length := by rw [← r.length, rps_len rs]; exact F.len _ _ _ h
  have e2 : BindsTo s fd ⟨us, []⟩ (ps.zip us) := by
    have z := hb s us I.kIn (by rw [List.append_nil]; exact e1)
    rw [List.append_nil] at z
    exact z
  refine wpAny_call (codeAny_mono (F.go X.A X.stack s Hc ⟨us, []⟩ us vs ss M H q Q hr I.env0 e2 r rs O h on) fun res s' hq => ?_)
  match res, hq with
  | .ok (.ret u), hq => exact I.after hq
theorem xe_call (F : Holds X.prog X.w X.K X.mg X.base k f fd ps pr) (hr : Rm k X.A) (hm : X.mg x = some (.ref f)) (hk : PySem.W.keepIn X.K (.ref f) = true) (hb : Binds X.K fd ps []) (ha : XA X (e :: es) das) (hg : Gl X x := by rfl)
    (hdb : (x == ("__debug__" : Str)) = false := by decide) (he : starEach (e :: es) X.env = (false, eval e X.env) :: starEach es X.env := by rfl) (hpl : (backTo pos (starEach es X.env)).any (·.1) = false := by rfl) : XE X (.Call (.Name x p) (e :: es) [] pos) (dCall pr das) := by
  refine ⟨fun pins s σ Hc Q I ⟨Γ, M, H, q, hd, F', O, on⟩ => ?_⟩
  have ha' : PA X (e :: es) (LA das) := ha
  have hR : LA das σ Hc fun vs H1 => ∃ ss M1 H2, Rps H2 ss vs ∧ Own H2 H1 M1 ∧ pr ss M1 q ∧ On H2 q Q :=
    ⟨Γ, M, H, _, hd, F', O, fun vs ss M' H' Hc' e1 O1 r1 h1 => ⟨ss, M', H', r1, O1, h1, on.ex e1⟩⟩
  refine wpAny_Call_Name_kw (ld_glob I hg hm ?_ hdb)
  refine PySem.W.callWith_K (h₀ := X.base) I.ok.mod.kin hk (thn (ha'.run pos pins s σ Hc _ I hR) fun us s1 z => ?_) he hpl
  obtain ⟨vs, H1, I1, r, ss, M1, H2, z1, z2, z3, z4⟩ := z
  exact ⟨I1.kIn, call_go F hr hb I1 r z1 z2 z3 z4⟩
theorem xe_call0 (F : Holds X.prog X.w X.K X.mg X.base k f fd ps pr) (hr : Rm k X.A) (hm : X.mg x = some (.ref f)) (hk : PySem.W.keepIn X.K (.ref f) = true) (hb : Binds X.K fd ps []) (hg : Gl X x := by rfl)
    (hdb : (x == ("__debug__" : Str)) = false := by decide) : XE X (.Call (.Name x p) [] [] pos) (dCall pr dNil) := by
  refine ⟨fun pins s σ Hc Q I ⟨Γ, M, H, q, hd, F', O, on⟩ => ?_⟩
  refine wpAny_Call_Name_kw (ld_glob I hg hm ?_ hdb)
  refine PySem.W.callWith_K0 I.kIn hk ?_
  exact call_go F hr hb (us := []) (vs := []) (ss := []) I .nil .nil O hd on
end
def startF (N : List Str) (ss : List Sl) : Fm := ss.map some ++ List.replicate (N.length - ss.length) none
theorem fr_start {H : Hp} {ss : List Sl} {vs : List V} (N : List Str) (r : Rps H ss vs) : Fr H (L2.start N vs) (startF N ss) := by
  have hl := rps_len r
  have key : ∀ (i : Nat) (s : Sl), (startF N ss)[i]? = some (some s) → ∃ v, (L2.start N vs)[i]? = some (some v) ∧ Rp H s v := fun i s h => by
    unfold startF at h
    by_cases hi : i < ss.length
    · rw [List.getElem?_append_left (by simpa using hi), List.getElem?_map] at h
      cases e : ss[i]? with
      | none => rw [e] at h; cases h
      | some s' =>
        rw [e] at h
        cases h
        obtain ⟨v, h1, h2⟩ := rps_get' r e
        refine ⟨v, ?_, h2⟩
        unfold L2.start
        rw [List.getElem?_append_left (by simpa [hl] using hi), List.getElem?_map, h1] <;> rfl
    · rw [List.getElem?_append_right (by simpa using hi), List.getElem?_replicate] at h
      split at h <;> cases h
  refine ⟨by unfold L2.start startF; simp [hl], fun i s _ h => key i s h, fun i H0 h => ?_⟩
  obtain ⟨v, _, r⟩ := key i _ h
  exact r.elim
section
variable {P : Program} {w : World} {K : PySem.W.Frag} {mg : Str → Option Value} {base : Heap}
/-- where a body stands -/
abbrev Bd (P : Program) (w : World) (K : PySem.W.Frag) (mg : Str → Option Value) (base : Heap) (N : List Str) (qual : Str) (st : Stmt) (f : Addr) (cdv : Value) (A : Around) (outer : List Env) (s : Shared) (H : Hp) : Cx :=
  (cxOf CX0 P w K mg base N qual (defScope st) f cdv A outer s H fun _ _ _ => False).nox
/-- a def by its body: a term of rules, its reading -/
theorem holds_of {nm qual : Str} {st : Stmt} {f : Addr} {fd : FuncData} {N ps : List Str} {k : Nat} {pr : Pr} {ds : DS} (F : Fun K nm qual st f fd) (S : FnScope N ps (defScope st)) (len : ∀ ss M q, pr ss M q → ss.length = ps.length)
    (body : ∀ (cdv : Value) (A : Around) (outer : List Env) (s : Shared) (H : Hp), Rm k (Bd P w K mg base N qual st f cdv A outer s H).A → XSs (Bd P w K mg base N qual st f cdv A outer s H) (defBody st) ds)
    (read : ∀ ss M q, pr ss M q → ds { nx := fun _ M' => q (.dat .none) M', rt := q } (startF N ss) M) : Holds P w K mg base (k + 1) f fd ps pr := by
  obtain ⟨oc, od, kV, doc, pm, an, cdv, ct, osl, rfl, lk, hcd⟩ := F.ex
  refine ⟨len, fun A outer s Hc args us vs ss M H q Q hr e0 hb r rs O hp on => ?_⟩
  have gu2 : (A.deeper (envOfC qual (defScope st) s.heap.objs.size f cdv)).guards = some [] := hr.gu
  -- the library's rule at this very caller: its room, and the guards that it does not speak of
  have KX : K.In s.heap := e0.mod.kin.keeps fun b o e => (e0.bs b o e).1
  have lim : s.heap.NoLimit := e0.mod.nolimit.keeps fun b o z => (e0.bs b o z).1
  have hl : vs.length = ps.length := by rw [rps_len rs]; exact len _ _ _ hp
  have kinds : ∀ y ∈ ps.zip us, (defScope st).names.lookup y.1 = some .local ∨ ((defScope st).names.lookup y.1 = some .cell ∧ ((cellsFrom (s.heap.objs.size + 1) (defScope st).names []).lookup y.1).isSome = true) := by
    rintro ⟨n, v⟩ hy
    rcases S.par n (List.of_mem_zip hy).1 with z | z
    · exact .inl z
    · exact .inr ⟨z, PySem.W.cellsFrom_some _ _ _ (.inl z)⟩
  refine codeAny_call_function hr.rm.depth (KX _ _ lk) rfl S.co S.gen rfl (PySem.W.codeRec_of KX hcd) (hb _ _ _ _ (wpAny_newFunctionEnv_cells S.kind kinds fun env he s1 z => ?_))
  subst he
  refine ⟨lim.keeps z.toInCall.keep, codeAny_func ?_⟩
  have B := body cdv A outer s Hc ⟨hr.rm.deeper _, gu2⟩
  have I : Inv (cxOf CX0 P w K mg base N qual (defScope st) f cdv A outer s Hc fun _ _ _ => False) [] (L2.start N vs) Hc s1 := inv_start S hr.rm.hd e0 hl r z
  have B' : PSs (cxOf CX0 P w K mg base N qual (defScope st) f cdv A outer s Hc fun _ _ _ => False) (defBody st) (LS ds) := B.nox
  have here : LS ds { nx := fun _ H' => Q .non H', rt := Q } (L2.start N vs) Hc := ⟨_, M, H, _, read ss M q hp, fr_start N rs, O,
    ⟨fun σ' Γ' M' H' Hc' e1 _ O1 h1 => on .non (.dat .none) M' H' Hc' e1 O1 .non h1, on, fun _ _ _ _ _ _ _ _ h1 => h1.elim, fun _ _ _ _ _ _ _ _ h1 => h1.elim⟩⟩
  refine wpAny_mono (B'.run [] s1 (L2.start N vs) Hc _ I here) (fun fl s' hs => ?_) fun _ _ z => z
  match fl, hs with
  | .ret u, ⟨v, _, H', J, rv, h1⟩ => exact ⟨v, H', J.os, J.bare, J.base, J.hok, rv, h1⟩
  | .next, ⟨_, H', J, h1⟩ => exact ⟨.non, H', J.os, J.bare, J.base, J.hok, rfl, h1⟩
  | .brk, ⟨_, _, _, h1⟩ => exact h1.elim
  | .cont, ⟨_, _, _, h1⟩ => exact h1.elim
end
/-! ### repr -/
section
variable {X : Cx}
theorem call_repr (hg : X.A.guards = some []) (hu : X.A.units + 64 < cLine) : CallR X (.builtin "repr") (rRepr X.K) := by
  intro pins s σ H xs us Q I r h
  obtain ⟨x, d, rfl, hd, h1, h2, h3, q⟩ := h
  obtain ⟨u, rfl, ru⟩ := vals1 r
  have h2' : d.shown.length ≤ sizeLine := by rw [sizeLine_eq]; exact h2
  obtain ⟨as, rd⟩ := Dp.reads I d x u (dq_dp hd) ru
  have big : ∀ a, u = .ref a → (∀ kvs, d ≠ .dict kvs) → wpAny (model X.prog X.w) X.A (call (.builtin "repr") [u]) (EP X pins σ Q) X.xe s := fun a e nd => by
    subst e
    refine repr_of_reads' rd h1 (fun z => ?_) hg (by omega) (fun _ _ z => z) (fun h' u tk kp => ⟨.str _, H, I.kept (t' := tk) kp, ⟨_, rfl⟩, q⟩) h2'
    exact absurd z (by rw [nodict hd]; decide)
  cases hd with
  | non => cases ru; exact PySem.P.repr_of_none ⟨.str _, H, I.tok _, ⟨_, rfl⟩, q⟩
  | bl b => cases ru; exact PySem.P.repr_of_bool ⟨.str _, H, I.tok _, ⟨_, rfl⟩, q⟩
  | int i =>
    obtain ⟨t, rfl⟩ := ru
    exact PySem.P.repr_of_int (by simpa [PyData.showable] using h1) ⟨.str _, H, I.tok _, ⟨_, rfl⟩, q⟩
  | str z =>
    obtain ⟨t, rfl⟩ := ru
    exact PySem.P.repr_of_str ⟨.str _, H, I.tok _, ⟨_, rfl⟩, q⟩ h2'
  | lst _ _ => exact big _ ru fun _ z => by cases z
  | tup _ _ => exact big _ ru fun _ z => by cases z
where
  nodict {H : Hp} {x : V} {d : Dt} (h : Dq H x d) : d.hasDict = false := nd1 d x h
  nd1 {H : Hp} : ∀ (d : Dt) (x : V), Dq H x d → d.hasDict = false
    | .none, _, _ => rfl
    | .bool _, _, _ => rfl
    | .int _, _, _ => rfl
    | .str _, _, _ => rfl
    | .list ds, _, h => by cases h with | lst _ ha => unfold PyData.hasDict; exact nd2 ds _ ha
    | .tuple ds, _, h => by cases h with | tup _ ha => unfold PyData.hasDict; exact nd2 ds _ ha
    | .dict _, _, h => by cases h
  nd2 {H : Hp} : ∀ (ds : List Dt) (xs : List V), DqAll H xs ds → PyData.hasDictAll ds = false
    | [], _, _ => rfl
    | d :: ds, _, h => by cases h with | cons h1 h2 => unfold PyData.hasDictAll; rw [nd1 d _ h1, nd2 ds _ h2] <;> rfl
end
end DL
namespace DL
open PySem PySem.Spec PyProof.Rows L2
open Evl (Ex)
section
variable {X : Cx} {e a b c : Expr} {es : List Expr} {de da db : DE} {das : DA} {pos p : Pos} {st : Stmt} {rest body : List Stmt} {d1 d2 : DS} {x : Str}
/-! ### statements -/
def dNext : DS := fun D Γ M => D.nx Γ M
def dSeq (t u : DS) : DS := fun D Γ M => t { D with nx := u D } Γ M
theorem OnD.seq {H : Hp} {D : DEnds} {E : Ends} {u : TS} {v : DS} (o : OnD H D E) (h : SimS u v) : OnD H { D with nx := v D } { E with nx := u E } :=
  ⟨fun σ' Γ' M' H' Hc' e1 F1 O1 h1 => h Γ' M' D σ' H' Hc' E h1 F1 O1 (o.ex e1), o.rt, o.bk, o.ct⟩
theorem xss_nil : XSs X [] dNext := xss_of pss_nil fun Γ M D σ H Hc E h F O q => q.nx σ Γ M H Hc (Evl.Ex.refl H) F O h
theorem xss_cons (h1 : XS X st d1) (h2 : XSs X rest d2) : XSs X (st :: rest) (dSeq d1 d2) := xss_of (pss_cons h1 h2) fun Γ M D σ H Hc E h F O q => simLS Γ M _ σ H Hc _ h F O (q.seq simLS)
theorem xss_one (h1 : XS X st d1) : XSs X [st] d1 := pss_one h1
/-- a statement, then the rest from a word between them -/
def dCut (t u : DS) : DS := fun D Γ M => ∃ Mid : Fm → Mem → Prop, t { D with nx := Mid } Γ M ∧ ∀ Γ' M', Mid Γ' M' → u D Γ' M'
theorem xss_cut (h1 : XS X st d1) (h2 : XSs X rest d2) : XSs X (st :: rest) (dCut d1 d2) := xss_of (pss_cons h1 h2) fun Γ M D σ H Hc E h F O q => by
  obtain ⟨Mid, h, hm⟩ := h
  exact simLS Γ M _ σ H Hc _ h F O ⟨fun σ' Γ' M' H' Hc' e1 F1 O1 g => simLS Γ' M' D σ' H' Hc' E (hm Γ' M' g) F1 O1 (q.ex e1), q.rt, q.bk, q.ct⟩
def dDrop (de : DE) : DS := fun D Γ M => de Γ M fun _ M1 => D.nx Γ M1
theorem xs_expr (he : XE X e de) (hs : swapsWith e none pos.line X.env = pure false := by rfl) : XS X (.Expr e pos) (dDrop de) := xs_of (ps_expr he hs) fun Γ M D σ H Hc E h F O q =>
  simLE Γ M _ σ H Hc _ h F O fun v s M1 H1 Hc1 e1 O1 r1 h1 => q.nx σ Γ M1 H1 Hc1 e1 (F.ex e1) O1 h1
def dRet (de : DE) : DS := fun D Γ M => de Γ M D.rt
theorem xs_ret (he : XE X e de) : XS X (.Return (some e) pos) (dRet de) := xs_of (ps_ret he) fun Γ M D σ H Hc E h F O q => simLE Γ M _ σ H Hc _ h F O q.rt
def dRetN : DS := fun D _ M => D.rt (.dat .none) M
theorem xs_retN : XS X (.Return none pos) dRetN := xs_of ps_retN fun Γ M D σ H Hc E h F O q => q.rt .non (.dat .none) M H Hc (Evl.Ex.refl H) O .non h
def dPass : DS := fun D Γ M => D.nx Γ M
theorem xs_pass : XS X (.Pass pos) dPass := xs_of ps_pass fun Γ M D σ H Hc E h F O q => q.nx σ Γ M H Hc (Evl.Ex.refl H) F O h
def dBrk : DS := fun D Γ M => D.bk Γ M
theorem xs_brk : XS X (.Break pos) dBrk := xs_of ps_break fun Γ M D σ H Hc E h F O q => q.bk σ Γ M H Hc (Evl.Ex.refl H) F O h
def dCt : DS := fun D Γ M => D.ct Γ M
theorem xs_ct : XS X (.Continue pos) dCt := xs_of ps_continue fun Γ M D σ H Hc E h F O q => q.ct σ Γ M H Hc (Evl.Ex.refl H) F O h
def dIfS (t : DB) (u v : DS) : DS := fun D Γ M => t Γ M fun b M1 => (b = true → u D Γ M1) ∧ (b = false → v D Γ M1)
theorem xs_if {ba : DB} {sa sb : List Stmt} (hc : XB X c ba) (ha : XSs X sa d1) (hb : XSs X sb d2) : XS X (.If c sa sb pos) (dIfS ba d1 d2) := xs_of (ps_if hc ha hb) fun Γ M D σ H Hc E h F O q =>
  simLB Γ M _ σ H Hc _ h F O fun v M1 H1 Hc1 e1 O1 h1 => by
    cases v with
    | true => rw [if_pos rfl]; exact simLS Γ M1 D σ H1 Hc1 E (h1.1 rfl) (F.ex e1) O1 (q.ex e1)
    | false => rw [if_neg Bool.false_ne_true]; exact simLS Γ M1 D σ H1 Hc1 E (h1.2 rfl) (F.ex e1) O1 (q.ex e1)
/-! ### targets -/
abbrev DG := Sl → Fm → Mem → (Fm → Mem → Prop) → Prop
def LG (g : DG) : TG := fun v σ Hc Q => ∃ s Γ M H k, g s Γ M k ∧ Rp H s v ∧ Fr H σ Γ ∧ Own H Hc M ∧ OnF H k Q
abbrev XG (X : Cx) (tg : Expr) (g : DG) : Prop := PG X tg (LG g)
def gN (i : Nat) : DG := fun s Γ M k => k (Γ.set i (some s)) M
theorem pg_of {tg : Expr} {t t' : TG} (h : PG X tg t) (s : ∀ v σ Hc Q, t' v σ Hc Q → t v σ Hc Q) : PG X tg t' := by
  obtain ⟨h⟩ := h
  exact ⟨by first | exact fun a b c d e f g i j k => h a b c d e f g i j (s _ _ _ _ k) | exact fun a b c d e f g i j => h a b c d e f g i (s _ _ _ _ j) | exact fun a b c d e f g i => h a b c d e f g (s _ _ _ _ i) | exact fun a b c d e f g i j k l => h a b c d e f g i j k (s _ _ _ _ l)⟩
theorem xg_name {i : Nat} (h : PG X e (gName i)) : XG X e (gN i) := pg_of h fun v σ Hc Q ⟨s, Γ, M, H, k, h1, r, F, O, q⟩ => q _ _ M H Hc (Evl.Ex.refl H) (F.set r) O h1
abbrev DGs := List Dt → Fm → Mem → (Fm → Mem → Prop) → Prop
def LGs (g : DGs) : TGs := fun vs σ Hc Q => ∃ ds Γ M H k, g ds Γ M k ∧ DqAll H vs ds ∧ Fr H σ Γ ∧ Own H Hc M ∧ OnF H k Q
def gT (n : Nat) (g : DGs) : DG := fun s Γ M k => match s with
  | .dat (.tuple ds) => ds.length = n ∧ g ds Γ M k
  | _ => False
def gsN : DGs := fun ds Γ M k => match ds with
  | [] => k Γ M
  | _ => False
def gsC (g : DG) (gs : DGs) : DGs := fun ds Γ M k => match ds with
  | [] => False
  | d :: ds => g (.dat d) Γ M fun Γ1 M1 => gs ds Γ1 M1 k
theorem pgs_of {tg : List Expr} {t t' : TGs} (h : PGs X tg t) (s : ∀ v σ Hc Q, t' v σ Hc Q → t v σ Hc Q) : PGs X tg t' := by
  obtain ⟨h⟩ := h
  exact ⟨by first | exact fun a b c d e f g i j k => h a b c d e f g i j (s _ _ _ _ k) | exact fun a b c d e f g i j => h a b c d e f g i (s _ _ _ _ j) | exact fun a b c d e f g i => h a b c d e f g (s _ _ _ _ i) | exact fun a b c d e f g i j k l => h a b c d e f g i j k (s _ _ _ _ l)⟩
abbrev XGs (X : Cx) (tg : List Expr) (g : DGs) : Prop := PGs X tg (LGs g)
theorem xgs_nil : XGs X [] gsN := pgs_of pgs_nil fun v σ Hc Q ⟨ds, Γ, M, H, k, h1, r, F, O, q⟩ => by
  cases r with
  | nil => exact ⟨rfl, q _ _ M H Hc (Evl.Ex.refl H) F O h1⟩
  | cons _ _ => exact h1.elim
theorem xgs_cons {t : Expr} {ts : List Expr} {g : DG} {gs : DGs} (h : PGs X (t :: ts) (gCons (LG g) (LGs gs))) : XGs X (t :: ts) (gsC g gs) := pgs_of h fun v σ Hc Q ⟨ds, Γ, M, H, k, h1, r, F, O, q⟩ => by
  cases r with
  | nil => exact h1.elim
  | @cons v vs d ds r1 r2 =>
    refine ⟨v, vs, rfl, .dat d, Γ, M, H, _, h1, r1, F, O, fun σ' Γ' M' H' Hc' e1 F1 O1 h2 => ?_⟩
    exact ⟨ds, Γ', M', H', k, h2, dps_ex e1 r2, F1, O1, q.ex e1⟩
theorem xg_tup {n : Nat} {t : Expr} {gs : DGs} (h : PG X t (gTup X.K n (LGs gs))) : XG X t (gT n gs) := pg_of h fun v σ Hc Q ⟨s, Γ, M, H, k, h1, r, F, O, q⟩ => by
  unfold gT at h1
  split at h1
  · obtain ⟨a, vs, rfl, h2, h3⟩ := dp_tup_inv r
    exact ⟨a, vs, rfl, SqT.of (O.ex _ _ h2), by rw [dps_len h3]; exact h1.1, _, Γ, M, H, k, h1.2, h3, F, O, q⟩
  · exact h1.elim
def dAsg (de : DE) (g : DG) : DS := fun D Γ M => de Γ M fun s M1 => g s Γ M1 D.nx
theorem sim_asg {te : TE} {g : DG} (h : SimE te de) : SimS (tAsg te (LG g)) (dAsg de g) := fun Γ M D σ H Hc E hd F O q =>
  h Γ M _ σ H Hc _ hd F O fun v s M1 H1 Hc1 e1 O1 r1 h1 => ⟨s, Γ, M1, H1, _, h1, r1, F.ex e1, O1, q.nx.ex e1⟩
theorem xs_asg {st : Stmt} {g : DG} (h : PS X st (tAsg (LE de) (LG g))) : XS X st (dAsg de g) := xs_of h (sim_asg simLE)
/-- y = .. -/
theorem xs_asgN {st : Stmt} {te : TE} {i : Nat} (h : PS X st (tAsg te (gName i))) (s : SimE te de) : XS X st (dAsg de (gN i)) := xs_of h fun Γ M D σ H Hc E hd F O q => s Γ M _ σ H Hc _ hd F O fun v s M1 H1 Hc1 e1 O1 r1 h1 => q.nx _ _ M1 H1 Hc1 e1 ((F.ex e1).set r1) O1 h1
/-- o[i] = e: a list of ours -/
def dSetL (de do_ di : DE) : DS := fun D Γ M => de Γ M fun s M1 => do_ Γ M1 fun o M2 => di Γ M2 fun i M3 => ∃ a k xs j, o = .own a ∧ i = .dat (.int k) ∧ M3 a = some (.lst xs) ∧ ixN xs.length k = some j ∧ D.nx Γ (put M3 a (.lst (xs.set j s)))
theorem xs_setL {o i : Expr} {do_ di : DE} {p2 : Pos} (h : PS X (.Assign [.Subscript o i p2] e pos) (tAsg (LE de) (gSub (LE do_) (LE di) rSetL))) : XS X (.Assign [.Subscript o i p2] e pos) (dSetL de do_ di) := xs_of h fun Γ M D σ H Hc E hd F O q => by
  refine simLE Γ M _ σ H Hc _ hd F O fun v s M1 H1 Hc1 e1 O1 r1 h1 => ?_
  refine simLE Γ M1 _ σ H1 Hc1 _ h1 (F.ex e1) O1 fun vo so M2 H2 Hc2 e2 O2 r2 h2 => ?_
  refine simLE Γ M2 _ σ H2 Hc2 _ h2 (F.ex (e1.trans e2)) O2 fun vi si M3 H3 Hc3 e3 O3 r3 h3 => ?_
  obtain ⟨a, k, xs, j, rfl, rfl, hm, hj, hn⟩ := h3
  cases r2
  obtain ⟨hz, vs, g1, g2⟩ := O3.ob _ _ hm
  refine ⟨a, vs, k, j, rfl, dp_int_inv r3, g1, by rw [rps_len g2]; exact hj, ?_⟩
  exact q.nx σ Γ _ H3 _ (e1.trans (e2.trans e3)) (F.ex (e1.trans (e2.trans e3))) (O3.turn (u := .lst _) hm ⟨by rw [List.length_set]; exact hz, _, rfl, rps_set (rp_ex (e2.trans e3) r1) j g2⟩) hn
/-! ### methods of lists of ours -/
def dBM (f : Sl → List Sl → Mem → DK → Prop) (do_ : DE) (das : DA) : DE := fun Γ M k => do_ Γ M fun o M1 => das Γ M1 fun ss M2 => f o ss M2 k
def SimM (K : PySem.W.Frag) (T : String) (r : V → List V → Hp → VK → Prop) (f : Sl → List Sl → Mem → DK → Prop) : Prop := (∀ s ss M k x xs H Hc Q, f s ss M k → Rp H s x → Rps H ss xs → Own H Hc M → On H k Q → r x xs Hc Q)
/-- what f takes is of the type's own -/
def OfTy (T : String) (s : Sl) : Prop := match s with
  | .dat (.list _) => T = "list"
  | .dat (.str _) => T = "str"
  | .own _ => T = "list"
  | _ => False
def dBM' (T : String) (f : Sl → List Sl → Mem → DK → Prop) (do_ : DE) (das : DA) : DE := fun Γ M k => do_ Γ M fun o M1 => (∃ xs, IsL M1 o xs) ∧ das Γ M1 fun ss M2 => f o ss M2 k
theorem xe_bmL {r : V → List V → Hp → VK → Prop} {f : Sl → List Sl → Mem → DK → Prop} {do_ : DE} {ex : Expr} (hf : SimM X.K "list" r f) (h : PE X ex (tBM X.K "list" r (LE do_) (LA das))) : XE X ex (dBM' "list" f do_ das) := xe_of h fun Γ M k σ H Hc Q hd F O q => by
  refine simLE Γ M _ σ H Hc _ hd F O fun v s M1 H1 Hc1 e1 O1 r1 h1 => ?_
  obtain ⟨⟨xs, l⟩, h1⟩ := h1
  obtain ⟨a, vs, rfl, g1, _⟩ := l.at_ O1 r1
  refine ⟨.inl ⟨rfl, vs, SqL.of g1⟩, ?_⟩
  refine simLA Γ M1 _ σ H1 Hc1 _ h1 (F.ex e1) O1 fun ws ss M2 H2 Hc2 e2 O2 r2 h2 => ?_
  exact hf s ss M2 k _ ws H2 Hc2 Q h2 (rp_ex e2 r1) r2 O2 (q.ex (e1.trans e2))
def fApp : Sl → List Sl → Mem → DK → Prop := fun o ss M k => match o, ss with
  | .own a, [s] => ∃ xs, M a = some (.lst xs) ∧ xs.length < 16777216 ∧ k (.dat .none) (put M a (.lst (xs ++ [s])))
  | _, _ => False
theorem sim_app {K : PySem.W.Frag} : SimM K "list" rAppend fApp := by
  intro s ss M k x xs H Hc Q h rx rs O q
  unfold fApp at h
  split at h
  · obtain ⟨ys, hm, hz, h⟩ := h
    obtain ⟨y, rfl, ry⟩ := rps1 rs
    cases rx
    obtain ⟨z, vs, g1, g2⟩ := O.ob _ _ hm
    refine ⟨_, vs, y, rfl, rfl, g1, by rw [rps_len g2, sizeLine_eq]; exact hz, ?_⟩
    exact q _ (.dat .none) _ H _ (Evl.Ex.refl H) (O.turn (u := .lst _) hm ⟨by rw [List.length_append, sizeLine_eq]; exact hz, _, rfl, rps_app g2 (.cons ry .nil)⟩) Dq.non h
  · exact h.elim
/-! ### loops -/
/-- for g in (a list): the word Inv of the turn, what the frame and ours hold -/
def dForL (de : DE) (g : DG) (tb : DS) : DS := fun D Γ M => de Γ M fun s M1 => ∃ xs, IsL M1 s xs ∧ ∃ Inv : Nat → Fm → Mem → Prop, Inv 0 Γ M1 ∧ (∀ i Γ' M', i ≤ xs.length → Inv i Γ' M' → IsL M' s xs) ∧
  (∀ i x Γ' M', xs[i]? = some x → Inv i Γ' M' → g x Γ' M' fun Γ2 M2 => tb { D with nx := Inv (i + 1), ct := Inv (i + 1), bk := D.nx } Γ2 M2) ∧ ∀ Γ' M', Inv xs.length Γ' M' → D.nx Γ' M'
theorem OnD.loop {H : Hp} {D : DEnds} {E : Ends} {I : Fm → Mem → Prop} {P : L2.St → Hp → Prop} (o : OnD H D E) (h : OnF H I P) : OnD H { D with nx := I, ct := I, bk := D.nx } { E with nx := P, ct := P, bk := E.nx } := ⟨h, o.rt, o.nx, h⟩
theorem sim_forL {K : PySem.W.Frag} {te : TE} {g : DG} {tb : TS} (h : SimE te de) (hb : SimS tb d1) : SimS (tFor (iList K te) (LG g) tb) (dForL de g d1) := fun Γ M D σ H Hc E hd F O q => by
  refine h Γ M _ σ H Hc _ hd F O fun v s M1 H1 Hc1 e1 O1 r1 h1 => ?_
  obtain ⟨xs, l, W, w0, wl, ws, wd⟩ := h1
  obtain ⟨a, vs, rfl, g1, g2⟩ := l.at_ O1 r1
  refine ⟨a, rfl, ⟨vs, SqL.of g1⟩, fun i m σ' Hc' => m = xs.length - i ∧ i ≤ xs.length ∧ ∃ Γ' M' H', Ex H1 H' ∧ Fr H' σ' Γ' ∧ Own H' Hc' M' ∧ W i Γ' M', ⟨_, rfl, Nat.zero_le _, Γ, M1, H1, Evl.Ex.refl _, F.ex e1, O1, w0⟩, ?_⟩
  rintro i m σ' Hc' ⟨rfl, hi, Γ', M', H', e2, F2, O2, w⟩
  obtain ⟨a', vs', e3, g3, g4⟩ := (wl i Γ' M' hi w).at_ O2 (rp_ex e2 r1)
  cases e3
  have hl := rps_len g4
  rcases Nat.lt_or_ge i xs.length with hlt | hge
  · obtain ⟨x0, hx0⟩ : ∃ x0, vs'[i]? = some x0 := ⟨vs'[i]'(by omega), List.getElem?_eq_getElem (by omega)⟩
    obtain ⟨sx, hs, rx⟩ := rps_get g4 hx0
    refine .inr ⟨⟨vs', x0, SqL.of g3, hx0⟩, fun σ2 Hc2 => ∃ Γ2 M2 H2, Ex H1 H2 ∧ Fr H2 σ2 Γ2 ∧ Own H2 Hc2 M2 ∧ W (i + 1) Γ2 M2, fun σ2 Hc2 z => ⟨xs.length - (i + 1), by omega, rfl, by omega, z⟩, fun x Hy y => ?_⟩
    obtain ⟨rfl, y⟩ := y
    have ex : x = x0 := Option.some.inj ((y vs' (SqL.of g3)).symm.trans hx0)
    subst ex
    refine ⟨sx, Γ', M', H', _, ws i sx Γ' M' hs w, rx, F2, O2, fun σ2 Γ2 M2 H2 Hc2 e3 F3 O3 h3 => ?_⟩
    refine hb Γ2 M2 _ σ2 H2 Hc2 _ h3 F3 O3 ((q.ex (e1.trans (e2.trans e3))).loop fun σ4 Γ4 M4 H4 Hc4 e4 F4 O4 h4 => ?_)
    exact ⟨Γ4, M4, H4, e2.trans (e3.trans e4), F4, O4, h4⟩
  · have ei : i = xs.length := Nat.le_antisymm hi hge
    subst ei
    exact .inl ⟨⟨vs', SqL.of g3, by omega⟩, q.nx σ' Γ' M' H' Hc' (e1.trans e2) F2 O2 (wd Γ' M' w)⟩
theorem xs_forL {tg : Expr} {g : DG} (h : PS X (.For tg e body [] pos) (tFor (iList X.K (LE de)) (LG g) (LS d1))) : XS X (.For tg e body [] pos) (dForL de g d1) := xs_of h (sim_forL simLE simLS)
end
end DL
namespace DL
open PySem PySem.Spec PyProof.Rows L2
open Evl (Ex)
section
variable {X : Cx} {e a b c : Expr} {es : List Expr} {de da db : DE} {das : DA} {pos p : Pos} {st : Stmt} {rest body : List Stmt} {d1 d2 : DS} {x : Str}
/-! ### for x in range(n), range(a, b) -/
def rg1 (ss : List Sl) : Option (Int × Int) := match ss with
  | [.dat (.int j)] => some (0, j)
  | _ => none
def rg2 (ss : List Sl) : Option (Int × Int) := match ss with
  | [.dat (.int i), .dat (.int j)] => some (i, j)
  | _ => none
def dForR (rgEnds : List Sl → Option (Int × Int)) (da : DA) (g : DG) (tb : DS) : DS := fun D Γ M => da Γ M fun ss M1 => ∃ lo hi, rgEnds ss = some (lo, hi) ∧ (-(2 ^ 62) ≤ lo ∧ lo < 2 ^ 62 ∧ -(2 ^ 62) ≤ hi ∧ hi < 2 ^ 62) ∧ ∃ Inv : Nat → Fm → Mem → Prop, Inv 0 Γ M1 ∧
  (∀ (i : Nat) Γ' M', i < (hi - lo).toNat → Inv i Γ' M' → g (.dat (.int (lo + i))) Γ' M' fun Γ2 M2 => tb { D with nx := Inv (i + 1), ct := Inv (i + 1), bk := D.nx } Γ2 M2) ∧ ∀ Γ' M', Inv (hi - lo).toNat Γ' M' → D.nx Γ' M'
theorem loop_rng {lo : Int} {n : Nat} {g : DG} {tb : TS} (hb : SimS tb d1) {D : DEnds} {E : Ends} {σ : L2.St} {H1 Hc1 : Hp} {Γ : Fm} {M1 : Mem} (F : Fr H1 σ Γ) (O : Own H1 Hc1 M1) (q : OnD H1 D E) (W : Nat → Fm → Mem → Prop) (w0 : W 0 Γ M1)
    (ws : ∀ (i : Nat) Γ' M', i < n → W i Γ' M' → g (.dat (.int (lo + i))) Γ' M' fun Γ2 M2 => d1 { D with nx := W (i + 1), ct := W (i + 1), bk := D.nx } Γ2 M2) (wd : ∀ Γ' M', W n Γ' M' → D.nx Γ' M') :
    ∃ W : Nat → Nat → L2.St → Hp → Prop, (∃ m, W 0 m σ Hc1) ∧ ∀ i m σ H, W i m σ H → ((Itr lo n).stop i H ∧ E.nx σ H) ∨
      ((Itr lo n).go i H ∧ ∃ N : L2.St → Hp → Prop, (∀ σ' H', N σ' H' → ∃ m', m' < m ∧ W (i + 1) m' σ' H') ∧ ∀ x H', (Itr lo n).yld i H x H' → LG g x σ H' fun σ2 H2 => tb { E with nx := N, ct := N, bk := E.nx } σ2 H2) := by
  refine for_range (fun i σ' Hc' => ∃ Γ' M' H', Ex H1 H' ∧ Fr H' σ' Γ' ∧ Own H' Hc' M' ∧ W i Γ' M') ⟨Γ, M1, H1, Evl.Ex.refl _, F, O, w0⟩ ?_ ?_
  · rintro i σ' Hc' hi ⟨Γ', M', H', e2, F2, O2, w⟩
    refine ⟨.dat (.int (lo + i)), Γ', M', H', _, ws i Γ' M' hi w, Dq.int _, F2, O2, fun σ2 Γ2 M2 H2 Hc2 e3 F3 O3 h3 => ?_⟩
    refine hb Γ2 M2 _ σ2 H2 Hc2 _ h3 F3 O3 ((q.ex (e2.trans e3)).loop fun σ4 Γ4 M4 H4 Hc4 e4 F4 O4 h4 => ?_)
    exact ⟨Γ4, M4, H4, e2.trans (e3.trans e4), F4, O4, h4⟩
  · rintro σ' Hc' ⟨Γ', M', H', e2, F2, O2, w⟩
    exact q.nx σ' Γ' M' H' Hc' e2 F2 O2 (wd Γ' M' w)
theorem xs_forR1 {tg a : Expr} {g : DG} {p1 p2 : Pos} (h : PS X (.For tg (.Call (.Name "range" p1) [a] [] p2) body [] pos) (tFor (iRng1 (LA das)) (LG g) (LS d1))) : XS X (.For tg (.Call (.Name "range" p1) [a] [] p2) body [] pos) (dForR rg1 das g d1) := xs_of h fun Γ M D σ H Hc E hd F O q => by
  refine simLA Γ M _ σ H Hc _ hd F O fun vs ss M1 H1 Hc1 e1 O1 r1 h1 => ?_
  obtain ⟨lo, hi, er, hz, W, w0, ws, wd⟩ := h1
  unfold rg1 at er
  split at er
  · cases er
    obtain ⟨v, rfl, rv⟩ := rps1 r1
    refine ⟨hi, by rw [dp_int_inv rv], hz.2.2.1, hz.2.2.2, ?_⟩
    rw [Int.sub_zero] at ws wd
    exact loop_rng simLS (F.ex e1) O1 (q.ex e1) W w0 ws wd
  · cases er
theorem xs_forR2 {tg a b : Expr} {g : DG} {p1 p2 : Pos} (h : PS X (.For tg (.Call (.Name "range" p1) [a, b] [] p2) body [] pos) (tFor (iRng2 (LA das)) (LG g) (LS d1))) : XS X (.For tg (.Call (.Name "range" p1) [a, b] [] p2) body [] pos) (dForR rg2 das g d1) := xs_of h fun Γ M D σ H Hc E hd F O q => by
  refine simLA Γ M _ σ H Hc _ hd F O fun vs ss M1 H1 Hc1 e1 O1 r1 h1 => ?_
  obtain ⟨lo, hi, er, hz, W, w0, ws, wd⟩ := h1
  unfold rg2 at er
  split at er
  · cases er
    obtain ⟨v, u, rfl, rv, ru⟩ := rps2 r1
    exact ⟨lo, hi, by rw [dp_int_inv rv, dp_int_inv ru], hz, loop_rng simLS (F.ex e1) O1 (q.ex e1) W w0 ws wd⟩
  · cases er
/-! ### comprehensions -/
def wipeF (Γ : Fm) : List Nat → Fm
  | [] => Γ
  | v :: vs => (wipeF Γ vs).set v none
theorem Fr.forget {H : Hp} {σ : L2.St} {Γ : Fm} (F : Fr H σ Γ) (i : Nat) : Fr H (σ.set i none) (Γ.set i none) := by
  have key : ∀ (j : Nat) (s : Sl), (Γ.set i none)[j]? = some (some s) → i ≠ j ∧ Γ[j]? = some (some s) := fun j s h => by
    by_cases hj : i = j
    · subst hj
      by_cases hl : i < Γ.length
      · rw [List.getElem?_set_self hl] at h; cases h
      · rw [List.getElem?_eq_none (by rw [List.length_set]; omega)] at h; cases h
    · rw [List.getElem?_set_ne hj] at h
      exact ⟨hj, h⟩
  refine ⟨by rw [List.length_set, List.length_set]; exact F.len, fun j s hl h => ?_, fun j H0 h => F.gh j H0 (key j _ h).2⟩
  obtain ⟨hj, h⟩ := key j s h
  rw [List.length_set] at hl
  rw [List.getElem?_set_ne hj]
  exact F.sl j s hl h
theorem Fr.wipe {H : Hp} {σ : L2.St} {Γ : Fm} (F : Fr H σ Γ) : ∀ vs, Fr H (wipe σ vs) (wipeF Γ vs)
  | [] => F
  | v :: vs => (F.wipe vs).forget v
theorem wipe_none {σ : L2.St} : ∀ {vs : List Nat} {i : Nat}, i ∈ vs → i < σ.length → (wipe σ vs)[i]? = some none
  | v :: vs, i, h, hl => by
    unfold L2.wipe
    by_cases e : v = i
    · subst e
      rw [List.getElem?_set_self (by rw [wipe_length]; exact hl)]
    · rw [List.getElem?_set_ne e]
      rcases List.mem_cons.mp h with z | z
      · exact absurd z.symm e
      · exact wipe_none z hl
theorem wipe_ext {σ τ : L2.St} (vs : List Nat) (hl : σ.length = τ.length) (h : ∀ i, i ∉ vs → σ[i]? = τ[i]?) : wipe σ vs = wipe τ vs := by
  refine List.ext_getElem? fun i => ?_
  by_cases hi : i ∈ vs
  · by_cases hz : i < σ.length
    · rw [wipe_none hi hz, wipe_none hi (hl ▸ hz)]
    · rw [List.getElem?_eq_none (by rw [wipe_length]; omega), List.getElem?_eq_none (by rw [wipe_length]; omega)]
  · rw [wipe_out hi, wipe_out hi, h i hi]
theorem wipe_back {σ : L2.St} {vs : List Nat} {j : Nat} (hj : j ∈ vs) (o : Option V) : wipe ((wipe σ vs).set j o) vs = wipe σ vs := by
  refine wipe_ext vs (by rw [List.length_set, wipe_length]) fun i hi => ?_
  rw [List.getElem?_set_ne (show j ≠ i from fun z => hi (by rw [← z]; exact hj)), wipe_out hi]
/-- one turn: the item's name at j; the list that grows stands at p -/
def lcTurn (p : Addr) (Γ : Fm) (vs : List Nat) (j : Nat) (t : DB) (el : DE) (Nx : Mem → Prop) (x : Sl) (M : Mem) : Prop := t ((wipeF Γ vs).set j (some x)) M fun b M3 =>
  (b = true → el ((wipeF Γ vs).set j (some x)) M3 fun y M4 => ∃ acc, M4 p = some (.lst acc) ∧ acc.length < 16777216 ∧ Nx (put M4 p (.lst (acc ++ [y])))) ∧ (b = false → Nx M3)
def dLcL (de : DE) (j : Nat) (t : DB) (el : DE) (vs : List Nat) : DE := fun Γ M k => de Γ M fun s M1 => ∃ xs, IsL M1 s xs ∧ ∀ p, M1 p = none → ∃ Inv : Nat → Mem → Prop, Inv 0 (put M1 p (.lst [])) ∧ (∀ i M', i ≤ xs.length → Inv i M' → IsL M' s xs) ∧
  (∀ i x M', xs[i]? = some x → Inv i M' → lcTurn p Γ vs j t el (Inv (i + 1)) x M') ∧ ∀ M', Inv xs.length M' → k (.own p) M'
def dLcR (rg : List Sl → Option (Int × Int)) (da : DA) (j : Nat) (t : DB) (el : DE) (vs : List Nat) : DE := fun Γ M k => da Γ M fun ss M1 => ∃ lo hi, rg ss = some (lo, hi) ∧ (-(2 ^ 62) ≤ lo ∧ lo < 2 ^ 62 ∧ -(2 ^ 62) ≤ hi ∧ hi < 2 ^ 62) ∧
  ∀ p, M1 p = none → ∃ Inv : Nat → Mem → Prop, Inv 0 (put M1 p (.lst [])) ∧ (∀ (i : Nat) M', i < (hi - lo).toNat → Inv i M' → lcTurn p Γ vs j t el (Inv (i + 1)) (.dat (.int (lo + i))) M') ∧ ∀ M', Inv (hi - lo).toNat M' → k (.own p) M'
theorem lc_turn {p : Addr} {Γ : Fm} {vs : List Nat} {j : Nat} {t : DB} {el : DE} {tt : TT} {te : TE} (ht : SimB tt t) (hel : SimE te el) (hj : j ∈ vs) {Nx : Mem → Prop} {sx : Sl} {x : V} {M' : Mem} {σ : L2.St} {H1 H' Hc' : Hp} (e2 : Ex H1 H') (rx : Rp H' sx x) (F : Fr H' σ Γ) (O2 : Own H' Hc' M') (h : lcTurn p Γ vs j t el Nx sx M') :
    gName j x (wipe σ vs) Hc' fun σ2 H2 => wipe σ2 vs = wipe σ vs ∧ tt σ2 H2 fun b H3 => if b = true then te σ2 H3 fun y H4 => ∃ acc, H4 p = some (.lst acc) ∧ acc.length < sizeLine ∧ ∃ M5 H5, Ex H1 H5 ∧ Own H5 (upd H4 p (.lst (acc ++ [y]))) M5 ∧ Nx M5 else ∃ M5 H5, Ex H1 H5 ∧ Own H5 H3 M5 ∧ Nx M5 := by
  refine ⟨wipe_back hj _, ?_⟩
  have F2 : Fr H' ((wipe σ vs).set j (some x)) ((wipeF Γ vs).set j (some sx)) := (F.wipe vs).set rx
  refine ht _ M' _ _ H' Hc' _ h F2 O2 fun b M3 H3 Hc3 e3 O3 h3 => ?_
  cases b with
  | true =>
    rw [if_pos rfl]
    refine hel _ M3 _ _ H3 Hc3 _ (h3.1 rfl) (F2.ex e3) O3 fun y sy M4 H4 Hc4 e4 O4 r4 h4 => ?_
    obtain ⟨acc, hm, hz, hn⟩ := h4
    obtain ⟨z, ws, g1, g2⟩ := O4.ob _ _ hm
    refine ⟨ws, g1, by rw [rps_len g2, sizeLine_eq]; exact hz, _, H4, e2.trans (e3.trans e4), O4.turn (u := .lst _) hm ⟨by rw [List.length_append, sizeLine_eq]; exact hz, _, rfl, rps_app g2 (.cons r4 .nil)⟩, hn⟩
  | false =>
    rw [if_neg Bool.false_ne_true]
    exact ⟨M3, H3, e2.trans e3, O3, h3.2 rfl⟩
theorem sim_lcL {K : PySem.W.Frag} {te : TE} {j : Nat} {t : DB} {el : DE} {tt : TT} {tel : TE} {vs : List Nat} (h : SimE te de) (ht : SimB tt t) (hel : SimE tel el) (hj : j ∈ vs) : SimE (tLc (iList K te) (gName j) tt tel vs) (dLcL de j t el vs) := fun Γ M k σ H Hc Q hd F O q => by
  refine h Γ M _ σ H Hc _ hd F O fun v s M1 H1 Hc1 e1 O1 r1 h1 => ?_
  obtain ⟨xs, l, h1⟩ := h1
  obtain ⟨a, ws, rfl, g1, g2⟩ := l.at_ O1 r1
  refine ⟨a, rfl, ⟨ws, SqL.of g1⟩, fun p hp => ?_⟩
  obtain ⟨W, w0, wl, wt, wd⟩ := h1 p (O1.freeM hp)
  refine ⟨fun i m Hc' => m = xs.length - i ∧ i ≤ xs.length ∧ ∃ M' H', Ex H1 H' ∧ Own H' Hc' M' ∧ W i M', ⟨_, rfl, Nat.zero_le _, _, H1, Evl.Ex.refl _, O1.born (u := .lst []) hp ⟨Nat.zero_le _, [], rfl, .nil⟩, w0⟩, ?_⟩
  rintro i m Hc' ⟨rfl, hi, M', H', e2, O2, w⟩
  obtain ⟨a', vs', e3, g3, g4⟩ := (wl i M' hi w).at_ O2 (rp_ex e2 r1)
  cases e3
  have hl := rps_len g4
  rcases Nat.lt_or_ge i xs.length with hlt | hge
  · obtain ⟨x0, hx0⟩ : ∃ x0, vs'[i]? = some x0 := ⟨vs'[i]'(by omega), List.getElem?_eq_getElem (by omega)⟩
    obtain ⟨sx, hs, rx⟩ := rps_get g4 hx0
    refine .inr ⟨⟨vs', x0, SqL.of g3, hx0⟩, fun Hc2 => ∃ M2 H2, Ex H1 H2 ∧ Own H2 Hc2 M2 ∧ W (i + 1) M2, fun Hc2 z => ⟨xs.length - (i + 1), by omega, rfl, by omega, z⟩, fun x Hy y => ?_⟩
    obtain ⟨rfl, y⟩ := y
    have ex : x = x0 := Option.some.inj ((y vs' (SqL.of g3)).symm.trans hx0)
    subst ex
    exact lc_turn ht hel hj e2 rx (F.ex (e1.trans e2)) O2 (wt i sx M' hs w)
  · have ei : i = xs.length := Nat.le_antisymm hi hge
    subst ei
    exact .inl ⟨⟨vs', SqL.of g3, by omega⟩, q _ (.own p) M' H' Hc' (e1.trans e2) O2 rfl (wd M' w)⟩
theorem lc_rngD {lo : Int} {n : Nat} {j : Nat} {t : DB} {el : DE} {tt : TT} {tel : TE} {vs : List Nat} (ht : SimB tt t) (hel : SimE tel el) (hj : j ∈ vs) {p : Addr} {Γ : Fm} {M1 : Mem} {σ : L2.St} {H1 Hc1 : Hp} {Q : VK} {k : DK} (F : Fr H1 σ Γ) (O1 : Own H1 Hc1 M1) (q : On H1 k Q) (hp : Hc1 p = none)
    (W : Nat → Mem → Prop) (w0 : W 0 (put M1 p (.lst []))) (wt : ∀ (i : Nat) M', i < n → W i M' → lcTurn p Γ vs j t el (W (i + 1)) (.dat (.int (lo + i))) M') (wd : ∀ M', W n M' → k (.own p) M') :
    ∃ W : Nat → Nat → Hp → Prop, (∃ m, W 0 m (upd Hc1 p (.lst []))) ∧ ∀ i m H, W i m H → ((Itr lo n).stop i H ∧ Q (.ref p) H) ∨ ((Itr lo n).go i H ∧ ∃ Nx : Hp → Prop, (∀ H', Nx H' → ∃ m', m' < m ∧ W (i + 1) m' H') ∧ ∀ x H', (Itr lo n).yld i H x H' → gName j x (wipe σ vs) H' fun σ2 H2 => wipe σ2 vs = wipe σ vs ∧ tt σ2 H2 fun b H3 =>
      if b = true then tel σ2 H3 fun y H4 => ∃ acc, H4 p = some (.lst acc) ∧ acc.length < sizeLine ∧ Nx (upd H4 p (.lst (acc ++ [y]))) else Nx H3) := by
  refine lc_range (D := p) (fun i Hc' => ∃ M' H', Ex H1 H' ∧ Own H' Hc' M' ∧ W i M') ⟨_, H1, Evl.Ex.refl _, O1.born (u := .lst []) hp ⟨Nat.zero_le _, [], rfl, .nil⟩, w0⟩ ?_ ?_
  · rintro i Hc' hi ⟨M', H', e2, O2, w⟩
    exact lc_turn ht hel hj e2 (sx := .dat (.int (lo + i))) (Dq.int _) (F.ex e2) O2 (wt i M' hi w)
  · rintro Hc' ⟨M', H', e2, O2, w⟩
    exact q _ (.own p) M' H' Hc' e2 O2 rfl (wd M' w)
theorem sim_lcR1 {j : Nat} {t : DB} {el : DE} {tt : TT} {tel : TE} {vs : List Nat} {ta : TA} (h : SimA ta das) (ht : SimB tt t) (hel : SimE tel el) (hj : j ∈ vs) : SimE (tLc (iRng1 ta) (gName j) tt tel vs) (dLcR rg1 das j t el vs) := fun Γ M k σ H Hc Q hd F O q => by
  refine h Γ M _ σ H Hc _ hd F O fun ws ss M1 H1 Hc1 e1 O1 r1 h1 => ?_
  obtain ⟨lo, hi, er, hz, h1⟩ := h1
  unfold rg1 at er
  split at er
  · cases er
    obtain ⟨v, rfl, rv⟩ := rps1 r1
    refine ⟨hi, by rw [dp_int_inv rv], hz.2.2.1, hz.2.2.2, fun p hp => ?_⟩
    obtain ⟨W, w0, wt, wd⟩ := h1 p (O1.freeM hp)
    rw [Int.sub_zero] at wt wd
    exact lc_rngD ht hel hj (F.ex e1) O1 (q.ex e1) hp W w0 wt wd
  · cases er
theorem sim_lcR2 {j : Nat} {t : DB} {el : DE} {tt : TT} {tel : TE} {vs : List Nat} {ta : TA} (h : SimA ta das) (ht : SimB tt t) (hel : SimE tel el) (hj : j ∈ vs) : SimE (tLc (iRng2 ta) (gName j) tt tel vs) (dLcR rg2 das j t el vs) := fun Γ M k σ H Hc Q hd F O q => by
  refine h Γ M _ σ H Hc _ hd F O fun ws ss M1 H1 Hc1 e1 O1 r1 h1 => ?_
  obtain ⟨lo, hi, er, hz, h1⟩ := h1
  unfold rg2 at er
  split at er
  · cases er
    obtain ⟨v, u, rfl, rv, ru⟩ := rps2 r1
    refine ⟨lo, hi, by rw [dp_int_inv rv, dp_int_inv ru], hz, fun p hp => ?_⟩
    obtain ⟨W, w0, wt, wd⟩ := h1 p (O1.freeM hp)
    exact lc_rngD ht hel hj (F.ex e1) O1 (q.ex e1) hp W w0 wt wd
  · cases er
def dYes : DB := fun _ M k => k true M
theorem sim_yes : SimB tYes dYes := fun Γ M k σ H Hc Q h F O q => q true M H Hc (Evl.Ex.refl H) O h
abbrev XTs (X : Cx) (ifs : List Expr) (t : DB) : Prop := PTs X ifs (LB t)
theorem xts_nil : XTs X [] dYes := ⟨fun pins s σ Hc Q I ⟨Γ, M, H, k, hd, F, O, q⟩ => pts_nil.run pins s σ Hc Q I (sim_yes Γ M k σ H Hc Q hd F O q)⟩
theorem xts_one {c : Expr} {t : DB} (h : XB X c t) : XTs X [c] t := pts_one h
theorem xe_lcL {ex : Expr} {j : Nat} {t : DB} {el : DE} {vs : List Nat} (h : PE X ex (tLc (iList X.K (LE de)) (gName j) (LB t) (LE el) vs)) (hj : j ∈ vs) : XE X ex (dLcL de j t el vs) := xe_of h (sim_lcL simLE simLB simLE hj)
theorem xe_lcR1 {ex : Expr} {j : Nat} {t : DB} {el : DE} {vs : List Nat} (h : PE X ex (tLc (iRng1 (LA das)) (gName j) (LB t) (LE el) vs)) (hj : j ∈ vs) : XE X ex (dLcR rg1 das j t el vs) := xe_of h (sim_lcR1 simLA simLB simLE hj)
theorem xe_lcR2 {ex : Expr} {j : Nat} {t : DB} {el : DE} {vs : List Nat} (h : PE X ex (tLc (iRng2 (LA das)) (gName j) (LB t) (LE el) vs)) (hj : j ∈ vs) : XE X ex (dLcR rg2 das j t el vs) := xe_of h (sim_lcR2 simLA simLB simLE hj)
/-- what was ours is given away -/
def dFz (de : DE) : DE := fun Γ M k => de Γ M fun s M1 => match s with
  | .own a => ∃ ds, M1 a = some (.lst (ds.map .dat)) ∧ k (.dat (.list ds)) (del M1 a)
  | s => k s M1
theorem xe_fz (h : XE X e de) : XE X e (dFz de) := xe_of h fun Γ M k σ H Hc Q hd F O q => simLE Γ M _ σ H Hc _ hd F O fun v s M1 H1 Hc1 e1 O1 r1 h1 => by
  split at h1
  · obtain ⟨ds, hm, h1⟩ := h1
    obtain ⟨H2, e2, O2, r2⟩ := O1.freeze hm
    cases r1
    exact q _ (.dat (.list ds)) _ H2 Hc1 (e1.trans e2) O2 r2 h1
  · exact q _ _ _ _ _ e1 O1 r1 h1
/-- x = e, given away at once -/
def dFzS (i : Nat) (ds : DS) : DS := fun D Γ M => ds { D with nx := fun Γ1 M1 => ∃ a es, Γ1[i]? = some (some (.own a)) ∧ M1 a = some (.lst (es.map .dat)) ∧ D.nx (Γ1.set i (some (.dat (.list es)))) (del M1 a) } Γ M
/-- the lengths of the frames are the names' -/
theorem xs_len {ds : DS} (h : ∀ pins s σ Hc E, L2.Inv X pins σ Hc s → σ.length = X.N.length → LS ds E σ Hc → ∃ t : TS, PS X st t ∧ t { nx := fun σ' H' => σ'.length = X.N.length → E.nx σ' H', rt := E.rt, bk := fun σ' H' => σ'.length = X.N.length → E.bk σ' H', ct := fun σ' H' => σ'.length = X.N.length → E.ct σ' H' } σ Hc) : XS X st ds :=
  ⟨fun pins s σ Hc E I hd => by
    obtain ⟨t, ht, q⟩ := h pins s σ Hc E I I.len hd
    refine wpAny_mono (ht.run pins s σ Hc _ I q) (fun fl s' hs => ?_) fun _ _ z => z
    match fl, hs with
    | .next, ⟨σ', H', J, q⟩ => exact ⟨σ', H', J, q J.len⟩
    | .ret u, ⟨v, σ', H', J, r, q⟩ => exact ⟨v, σ', H', J, r, q⟩
    | .brk, ⟨σ', H', J, q⟩ => exact ⟨σ', H', J, q J.len⟩
    | .cont, ⟨σ', H', J, q⟩ => exact ⟨σ', H', J, q J.len⟩⟩
theorem xs_fz {i : Nat} {xn : Str} (h : XS X st d1) (hN : X.N[i]? = some xn := by rfl) : XS X st (dFzS i d1) := xs_len fun pins s σ Hc E I hl ⟨Γ, M, H, D, hd, F, O, q⟩ => ⟨_, h, Γ, M, H, _, hd, F, O, ⟨fun σ' Γ' M' H' Hc' e1 F1 O1 h1 hl' => by
  obtain ⟨a, es, g1, g2, g3⟩ := h1
  obtain ⟨v, v1, v2⟩ := F1.sl i _ (by rw [hl']; exact (List.getElem?_eq_some_iff.mp hN).1) g1
  cases v2
  obtain ⟨H2, e2, O2, r2⟩ := O1.freeze g2
  have F2 : Fr H2 (σ'.set i (some (.ref a))) (Γ'.set i (some (.dat (.list es)))) := (F1.ex e2).set r2
  have same : σ'.set i (some (.ref a)) = σ' := by
    refine List.ext_getElem? fun j => ?_
    by_cases hj : i = j
    · subst hj
      rw [v1, List.getElem?_set_self (List.getElem?_eq_some_iff.mp v1).1]
    · rw [List.getElem?_set_ne hj]
  rw [same] at F2
  exact q.nx σ' _ _ H2 Hc' (e1.trans e2) F2 O2 g3, q.rt, fun σ' Γ' M' H' Hc' e1 F1 O1 h1 _ => q.bk σ' Γ' M' H' Hc' e1 F1 O1 h1, fun σ' Γ' M' H' Hc' e1 F1 O1 h1 _ => q.ct σ' Γ' M' H' Hc' e1 F1 O1 h1⟩⟩
/-! ### all, is, sorted of whole numbers, [::-1] -/
def boolsD : List Sl → Option (List Bool)
  | [] => some []
  | .dat (.bool b) :: ds => (boolsD ds).map (b :: ·)
  | _ => none
theorem boolsD_rps {H : Hp} : ∀ {ss : List Sl} {bs : List Bool} {vs : List V}, boolsD ss = some bs → Rps H ss vs → vs = bs.map V.bl
  | [], bs, _, h, .nil => by cases h; rfl
  | .dat (.bool b) :: ss, bs, _, h, .cons r t => by
    unfold boolsD at h
    cases e : boolsD ss with
    | none => rw [e] at h; cases h
    | some cs =>
      rw [e] at h
      cases h
      rw [dp_bl_inv r, boolsD_rps e t]
      rfl
def fAll : DC := fun ss M k => match ss with
  | [.own a] => ∃ xs bs, M a = some (.lst xs) ∧ boolsD xs = some bs ∧ k (.dat (.bool (bs.all id))) (del M a)
  | [.dat (.list ds)] => ∃ bs, boolsD (ds.map .dat) = some bs ∧ k (.dat (.bool (bs.all id))) M
  | _ => False
def fAny : DC := fun ss M k => match ss with
  | [.own a] => ∃ xs bs, M a = some (.lst xs) ∧ boolsD xs = some bs ∧ k (.dat (.bool (bs.any id))) (del M a)
  | [.dat (.list ds)] => ∃ bs, boolsD (ds.map .dat) = some bs ∧ k (.dat (.bool (bs.any id))) M
  | _ => False
theorem sim_all {K : PySem.W.Frag} : SimC (rAll K) fAll := by
  intro ss M k xs H Hc Q h r O q
  unfold fAll at h
  split at h
  · obtain ⟨x, rfl, rx⟩ := rps1 r
    obtain ⟨ys, bs, hm, eb, h⟩ := h
    obtain ⟨a, vs, rfl, g1, g2⟩ := (IsL.own hm).at_ O rx
    exact ⟨a, bs, rfl, by rw [← boolsD_rps eb g2]; exact SqL.of g1, q.dat O.drop (.bl _) h⟩
  · obtain ⟨x, rfl, rx⟩ := rps1 r
    obtain ⟨bs, eb, h⟩ := h
    obtain ⟨a, vs, rfl, g1, g2⟩ := IsL.dat.at_ O rx
    exact ⟨a, bs, rfl, by rw [← boolsD_rps eb g2]; exact SqL.of g1, q.dat O (.bl _) h⟩
  · exact h.elim
theorem sim_any {K : PySem.W.Frag} : SimC (rAny K) fAny := by
  intro ss M k xs H Hc Q h r O q
  unfold fAny at h
  split at h
  · obtain ⟨x, rfl, rx⟩ := rps1 r
    obtain ⟨ys, bs, hm, eb, h⟩ := h
    obtain ⟨a, vs, rfl, g1, g2⟩ := (IsL.own hm).at_ O rx
    exact ⟨a, bs, rfl, by rw [← boolsD_rps eb g2]; exact SqL.of g1, q.dat O.drop (.bl _) h⟩
  · obtain ⟨x, rfl, rx⟩ := rps1 r
    obtain ⟨bs, eb, h⟩ := h
    obtain ⟨a, vs, rfl, g1, g2⟩ := IsL.dat.at_ O rx
    exact ⟨a, bs, rfl, by rw [← boolsD_rps eb g2]; exact SqL.of g1, q.dat O (.bl _) h⟩
  · exact h.elim
def isNoD : Dt → Bool
  | .none => true
  | _ => false
/-- x is y: of truths; of anything and None -/
def fIs (neg : Bool) : D2 := fun s t M k => match s, t with
  | .dat (.bool a), .dat (.bool b) => k (.dat (.bool (if neg = true then !decide (a = b) else decide (a = b)))) M
  | .dat d, .dat .none => k (.dat (.bool (if neg = true then !isNoD d else isNoD d))) M
  | .own _, .dat .none => k (.dat (.bool neg)) M
  | _, _ => False
theorem isNo_eq {H : Hp} {x : V} {d : Dt} (r : Dq H x d) : decide (x = V.non) = isNoD d := by
  cases r <;> simp [isNoD]
abbrev rIsA : R2 := fun x y H Q => (rIsB x y H Q) ∨ (y = .non ∧ Q (.bl (decide (x = .non))) H)
abbrev rNotA : R2 := fun x y H Q => (rNotB x y H Q) ∨ (y = .non ∧ Q (.bl (!decide (x = .non))) H)
theorem sim_is : Sim2 rIsA (fIs false) := by
  intro s t M k x y H Hc Q h rx ry O q
  unfold fIs at h
  split at h
  · exact .inl ⟨_, _, dp_bl_inv rx, dp_bl_inv ry, q.dat O (.bl _) h⟩
  · refine .inr ⟨dp_non_inv ry, ?_⟩
    rw [isNo_eq rx]
    exact q.dat O (.bl _) h
  · refine .inr ⟨dp_non_inv ry, ?_⟩
    cases rx
    rw [decide_eq_false (fun z => nomatch z)]
    exact q.dat O (.bl _) h
  · exact h.elim
theorem sim_isnot : Sim2 rNotA (fIs true) := by
  intro s t M k x y H Hc Q h rx ry O q
  unfold fIs at h
  split at h
  · exact .inl ⟨_, _, dp_bl_inv rx, dp_bl_inv ry, q.dat O (.bl _) h⟩
  · refine .inr ⟨dp_non_inv ry, ?_⟩
    rw [isNo_eq rx]
    exact q.dat O (.bl _) h
  · refine .inr ⟨dp_non_inv ry, ?_⟩
    cases rx
    rw [decide_eq_false (fun z => nomatch z)]
    exact q.dat O (.bl _) h
  · exact h.elim
theorem xe_is (ha : XE X a da) (hb : XE X b db) : XE X (.Compare a [.Is] [b] pos) (dOp (fIs false) da db) := xe_cmp (OpR.or op_isBl op_isN) (nomark _) sim_is ha hb
theorem xe_isnot (ha : XE X a da) (hb : XE X b db) : XE X (.Compare a [.IsNot] [b] pos) (dOp (fIs true) da db) := xe_cmp (OpR.or op_notBl op_notN) (nomark _) sim_isnot ha hb
/-- -n -/
def dNeg (de : DE) : DE := fun Γ M k => de Γ M fun s M1 => match s with
  | .dat (.int i) => k (.dat (.int (-i))) M1
  | _ => False
theorem xe_neg (ha : XE X a da) : XE X (.UnaryOp .USub a pos) (dNeg da) := xe_of (pe_un un_neg ha) fun Γ M k σ H Hc Q hd F O q => simLE Γ M _ σ H Hc _ hd F O fun v s M1 H1 Hc1 e1 O1 r1 h1 => by
  split at h1
  · exact ⟨_, dp_int_inv r1, (q.ex e1).dat O1 (.int _) h1⟩
  · exact h1.elim
/-- abs(n) -/
def fAbs : DC := fun ss M k => match ss with
  | [.dat (.int i)] => k (.dat (.int (if i < 0 then -i else i))) M
  | _ => False
theorem sim_abs : SimC (fun xs H Q => ∃ i, xs = [.int i] ∧ Q (.int (if i < 0 then -i else i)) H) fAbs := by
  intro ss M k xs H Hc Q h r O q
  unfold fAbs at h
  split at h
  · obtain ⟨x, rfl, rx⟩ := rps1 r
    exact ⟨_, by rw [dp_int_inv rx], q.dat O (.int _) h⟩
  · exact h.elim
/-- the script's cells -/
def fSlS (K : PySem.W.Frag) : D3 := fun s lo hi M k => match s with
  | .fix (.scr K' xs) => K' = K ∧ k (.dat (.list ((cut xs lo hi).map .int))) M
  | _ => False
theorem dqs_int {H : Hp} : ∀ ns : List Int, DqAll H (ns.map V.int) (ns.map PyData.int)
  | [] => .nil
  | n :: ns => .cons (.int n) (dqs_int ns)
theorem xe_slS {lo hi : Option Expr} {dl dh : DO} {p2 : Pos} {K : PySem.W.Frag} (hK : X.K = K) (he : XE X e de) (hl : XO X lo dl) (hu : XO X hi dh) : XE X (.Subscript e (.Slice lo hi none p2) pos) (dSl (fSlS K) de dl dh) := xe_slF (f := fSlS K) (by
  subst hK
  intro s lo hi M k x H Hc Q h rx O q
  unfold fSlS at h
  split at h
  · rename_i K' ns
    obtain ⟨rfl, h⟩ := h
    obtain ⟨a, rfl, hs⟩ := rx
    refine .inr (.inr ⟨a, _, rfl, Evl.ex_l O.ex hs, fun p hp => ?_⟩)
    have e : cutV (ns.map V.int) lo hi = (cut ns lo hi).map V.int := by
      unfold cutV cut
      rw [List.length_map, List.map_take, List.map_drop]
    rw [e]
    exact q.lst O (dqs_int _) hp h
  · exact h.elim) he hl hu
end
end DL
namespace DL
open PySem PySem.Spec PyProof.Rows L2
open Evl (Ex)
/-- what a law promises: of its script True, and nothing that is ours is left to tell -/
def prLaw (K : PySem.W.Frag) : Pr := fun ss _ q => ∃ ns, ss = [.scr K ns] ∧ ns.length ≤ 63 ∧ ∀ M', q (.dat (.bool true)) M'
section
variable {P : Program} {w : World} {K : PySem.W.Frag} {mg mb : Str → Option Value} {k : Nat} {fa a : Addr} {fd : FuncData} {x : Str} {s : Shared} {vs : List Value} {ns : List Int}
/-- the script, tracked as what stands still -/
def scrH (a : Addr) (vs : List Value) (ns : List Int) : Hp := fun b => if b = a then some (.frz { cls := .type "list", data := .seq vs.toArray } (.lst (ns.map V.int))) else none
theorem scrH_at {a : Addr} {vs : List Value} {ns : List Int} : scrH a vs ns a = some (.frz { cls := .type "list", data := .seq vs.toArray } (.lst (ns.map V.int))) := if_pos rfl
theorem scrH_ne {a b : Addr} {vs : List Value} {ns : List Int} (h : b ≠ a) : scrH a vs ns b = none := if_neg h
/-- the run of a law from an abstract heap in which the script alone may stand -/
theorem law_run {H : Hp} (KX : K.In s.heap) (hns : s.heap.Ns mainGlobals mg) (hb : s.heap.Ns builtinsNs mb) (hbb : ∀ x : Str, x ≠ "__name__" → mb x = bootBuiltins x) (lim : s.heap.NoLimit) (hg : s.gens = #[]) (ha : s.heap.get? a = some { cls := .type "list", data := .seq vs.toArray })
    (hr : Room k callerA) (F : ∀ base : Heap, K.In base → base.Ns mainGlobals mg → Holds P w K mg base k fa fd [x] (prLaw K)) (bind : ∀ (s : Shared) (u : Value), BindsTo s fd ⟨[u], []⟩ [(x, u)]) (hl : ns.length ≤ 63)
    (hS : SqL K H a (ns.map V.int)) (hok : HOk P w H s.heap) (only : ∀ b u, H b = some u → b = a ∧ (∃ o z, u = .frz o z) ∧ K.lookup a = none) :
    codeAny (model P w) callerA (.call (.ref fa) ⟨[.ref a], []⟩) (fun r s' => r = .ok (.ret (.bool true)) ∧ OldK s.heap s'.heap ∧ s'.os = s.os ∧ AllBare s'.gens) s := by
  have keep : ∀ {b : Addr} {o : Obj}, s.heap.get? b = some o → H b = none → (hidT s.heap H).get? b = some o := fun h n => hidT_get h n
  have notS : ∀ {b : Addr} {o : Obj} {es : Array DictEntry} {ep : Nat}, s.heap.get? b = some o → o.data = .dict es ep → H b = none := by
    intro b o es ep h1 h2
    cases z : H b with
    | none => rfl
    | some u =>
      obtain ⟨rfl, _, _⟩ := only b u z
      rw [ha] at h1
      cases h1
      cases h2
  have dicts : ∀ {b : Addr} {m : Str → Option Value}, s.heap.Ns b m → (hidT s.heap H).Ns b m := by
    rintro b m ⟨o, es, ep, h1, h2, r⟩
    exact ⟨o, es, ep, keep h1 (notS h1 h2), h2, r⟩
  have KB : K.In (hidT s.heap H) := fun b o h1 => keep (KX b o h1) (by
    cases z : H b with
    | none => rfl
    | some u =>
      obtain ⟨rfl, _, h2⟩ := only b u z
      rw [h2] at h1
      cases h1)
  have md : Mod K mg (hidT s.heap H) := by
    obtain ⟨mc, c1, c2⟩ := lim
    exact ⟨KB, dicts hns, ⟨mb, dicts hb, hbb⟩, ⟨mc, dicts c1, c2⟩⟩
  have at0 : Env0 P w K mg (hidT s.heap H) callerA [] s H := { frames := rfl, mod := md, bs := fun b o z => of_hidT z, bsz := Nat.le_of_eq (hidT_size _ _), funs := trivial, frf := (fun b z => (nomatch z)), hok := hok, bare := .of_eq hg }
  have G := F _ KB (dicts hns)
  refine codeAny_mono (G.go callerA [] s H ⟨[.ref a], []⟩ [.ref a] [.ref a] [.scr K ns] (fun _ => none) H (fun t _ => t = .dat (.bool true)) (fun v _ => v = .bl true) ⟨hr, rfl⟩ at0 (bind s (.ref a)) (.cons rfl .nil) (.cons ⟨a, rfl, hS⟩ .nil)
    ⟨Evl.Ex.refl H, (fun _ _ z => (nomatch z)), (fun _ _ z => (nomatch z))⟩ ⟨ns, rfl, hl, fun _ => rfl⟩ (fun v t M' H' Hc' _ _ r z => by subst z; exact dp_bl_inv r)) fun r s' h => ?_
  match r, h with
  | .ok (.ret u), ⟨v, H', os, bare, un, hok', rv, hv⟩ =>
    subst hv
    cases (show u = Value.bool true from rv)
    refine ⟨rfl, OldK.of_keep fun b o h1 => ?_, os, bare⟩
    cases z : H b with
    | none => exact un.keep b o h1 z (fun y => (nomatch y)) (fun y => (nomatch y))
    | some u =>
      obtain ⟨rfl, ⟨o', z', rfl⟩, _⟩ := only b u z
      have h2 := un.frzs b _ _ z
      have q1 := (hok b _ z).1
      have q2 := (hok' b _ h2).1
      rw [h1] at q1
      cases q1
      exact q2
/-- the goal that k_head leaves -/
theorem walk_law {l : PySem.W.OpenLaw} {q : Program} {loose : List Str} {XP : (Str → Option Value) → Heap → Prop} {YP : World → Heap → Prop} {d : DefRec} {K : Params → PySem.W.Frag}
    (hn : l.most = some 63) (hdf : d.params.defaults = []) (hr : Room k callerA) (hY : ∀ (w : World) (h : Heap), YP w h → (K w.params).In h)
    (F : ∀ (w : World) (mg : Str → Option Value) (fa : Addr) (h : Heap), (K w.params).In h → h.Ns mainGlobals mg → mg d.name = some (.ref fa) →
      ∃ fd : FuncData, (∀ (s : Shared) (u : Value), BindsTo s fd ⟨[u], []⟩ [(x, u)]) ∧ ∀ base : Heap, (K w.params).In base → base.Ns mainGlobals mg → Holds l.prog w (K w.params) mg base k fa fd [x] (prLaw (K w.params))) :
    PySem.W.WalkO q loose XP YP l.row.toRowW d [] (fun f vs => PySem.call f vs) := by
  refine Att.attach_call hn hdf fun w s₀ s₁ mg mb fa o pm cd doc a vs ns G Y ho hd hcd hmg hobj hints hlen hg => ?_
  have KX := hY w _ Y
  obtain ⟨fd, bind, hF⟩ := F w mg fa _ KX G.T.g hmg
  cases hk : (K w.params).lookup a with
  | some o' =>
    have e := KX a o' hk
    rw [hobj] at e
    cases e
    refine law_run (H := fun _ => none) KX G.T.g G.T.b G.T.builtins G.T.nolimit hg hobj hr hF bind hlen (.inr ⟨_, vs.toArray, _, hk, rfl, rfl, rfl, ?_, by simpa using vals_ints hints⟩) (fun b u z => (nomatch z)) (fun b u z => (nomatch z))
    rw [List.size_toArray, hints.length, sizeLine_eq]
    omega
  | none =>
    refine law_run (H := scrH a vs ns) KX G.T.g G.T.b G.T.builtins G.T.nolimit hg hobj hr hF bind hlen (.inl (.inr ⟨_, scrH_at⟩)) (fun b u z => ?_) fun b u z => ?_
    · by_cases hb : b = a
      · subst hb
        rw [scrH_at] at z
        cases z
        exact ⟨hobj, by rw [List.length_map, sizeLine_eq]; omega, vs, _, vals_ints hints, hobj⟩
      · rw [scrH_ne hb] at z
        cases z
    · by_cases hb : b = a
      · subst hb
        rw [scrH_at] at z
        cases z
        exact ⟨rfl, ⟨_, _, rfl⟩, hk⟩
      · rw [scrH_ne hb] at z
        cases z
end
end DL
namespace DL
open PySem PySem.Spec PyProof.Rows L2
open Evl (Ex)
theorem IsL.put {M : Mem} {s : Sl} {xs : List Sl} {p : Addr} {o : MO} (l : IsL M s xs) (h : M p = none) : IsL (put M p o) s xs := by
  rcases l with ⟨ds, rfl, rfl⟩ | ⟨a, rfl, e⟩
  · exact .dat
  · exact .own ((put_ne (ne_mem e h)).trans e)
/-- a comprehension whose element is a function of the item -/
theorem lc_map {s : Sl} {xs : List Sl} {M1 : Mem} {Γ : Fm} {vs : List Nat} {j : Nat} {el : DE} {K : Addr → Mem → Prop} (f : Sl → Sl) (l : IsL M1 s xs) (hz : xs.length < 16777216)
    (he : ∀ x ∈ xs, ∀ (M' : Mem) (k' : DK), k' (f x) M' → el ((wipeF Γ vs).set j (some x)) M' k') (hk : ∀ p, M1 p = none → K p (put M1 p (.lst (xs.map f)))) :
    ∃ xs, IsL M1 s xs ∧ ∀ p, M1 p = none → ∃ Inv : Nat → Mem → Prop, Inv 0 (put M1 p (.lst [])) ∧ (∀ i M', i ≤ xs.length → Inv i M' → IsL M' s xs) ∧
      (∀ i x M', xs[i]? = some x → Inv i M' → lcTurn p Γ vs j dYes el (Inv (i + 1)) x M') ∧ ∀ M', Inv xs.length M' → K p M' := by
  refine ⟨xs, l, fun p hp => ⟨fun i M' => M' = put M1 p (.lst ((xs.take i).map f)), rfl, fun i M' _ e => by rw [e]; exact l.put hp, fun i x M' hx e => ?_, fun M' e => by rw [e, List.take_length]; exact hk p hp⟩⟩
  subst e
  refine ⟨fun _ => he x (List.mem_of_getElem? hx) _ _ ?_, fun z => nomatch z⟩
  have hi : i < xs.length := (List.getElem?_eq_some_iff.mp hx).1
  refine ⟨_, put_at, by rw [List.length_map, List.length_take]; omega, ?_⟩
  show put (put M1 p (.lst ((xs.take i).map f))) p (.lst ((xs.take i).map f ++ [f x])) = put M1 p (.lst ((xs.take (i + 1)).map f))
  rw [put_put, List.take_add_one, hx]
  simp
theorem boolsD_map {α : Type} (g : α → Bool) : ∀ xs : List α, boolsD (xs.map fun x => Sl.dat (.bool (g x))) = some (xs.map g)
  | [] => rfl
  | x :: xs => by
    show (boolsD (xs.map fun x => Sl.dat (.bool (g x)))).map (g x :: ·) = _
    rw [boolsD_map g xs] <;> rfl
theorem not_t {b : Bool} (h : (!b) = true) : b = false := by cases b <;> simp_all
theorem not_f {b : Bool} (h : (!b) = false) : b = true := by cases b <;> simp_all
theorem isi_int (d : Dt) : isiD "int" d = match d with | .int _ => true | .bool _ => true | _ => false := by cases d <;> rfl
theorem isi_bool (d : Dt) : isiD "bool" d = match d with | .bool _ => true | _ => false := by cases d <;> rfl
theorem isi_tuple (d : Dt) : isiD "tuple" d = match d with | .tuple _ => true | _ => false := by cases d <;> rfl
/-! ### over a tuple -/
section
variable {X : Cx} {de : DE} {das : DA} {d1 : DS} {body : List Stmt} {pos : Pos} {e : Expr}
def dLcT (de : DE) (j : Nat) (t : DB) (el : DE) (vs : List Nat) : DE := fun Γ M k => de Γ M fun s M1 => ∃ ds, s = .dat (.tuple ds) ∧ ∀ p, M1 p = none → ∃ Inv : Nat → Mem → Prop, Inv 0 (put M1 p (.lst [])) ∧
  (∀ i x M', ds[i]? = some x → Inv i M' → lcTurn p Γ vs j t el (Inv (i + 1)) (.dat x) M') ∧ ∀ M', Inv ds.length M' → k (.own p) M'
theorem dps_get {H : Hp} : ∀ {ds : List Dt} {vs : List V} {i : Nat} {v : V}, DqAll H vs ds → vs[i]? = some v → ∃ d, ds[i]? = some d ∧ Dq H v d
  | [], _, _, _, .nil, h => by simp at h
  | d :: ds, _, 0, _, .cons r _, h => by simp at h; subst h; exact ⟨_, rfl, r⟩
  | d :: ds, _, i + 1, v, .cons _ t, h => by
    obtain ⟨u, h1, h2⟩ := dps_get (i := i) (v := v) t (by simpa using h)
    exact ⟨u, by simpa using h1, h2⟩
theorem sim_lcT {K : PySem.W.Frag} {te : TE} {j : Nat} {t : DB} {el : DE} {tt : TT} {tel : TE} {vs : List Nat} (h : SimE te de) (ht : SimB tt t) (hel : SimE tel el) (hj : j ∈ vs) : SimE (tLc (iTup K te) (gName j) tt tel vs) (dLcT de j t el vs) := fun Γ M k σ H Hc Q hd F O q => by
  refine h Γ M _ σ H Hc _ hd F O fun v s M1 H1 Hc1 e1 O1 r1 h1 => ?_
  obtain ⟨ds, rfl, h1⟩ := h1
  obtain ⟨a, ws, rfl, g1, g2⟩ := dp_tup_inv r1
  have hl := dps_len g2
  refine ⟨a, rfl, ⟨ws, SqT.of (O1.ex _ _ g1)⟩, fun p hp => ?_⟩
  obtain ⟨W, w0, wt, wd⟩ := h1 p (O1.freeM hp)
  refine lc_tup (xs := ws) (fun i Hc' => ∃ M' H', Ex H1 H' ∧ Own H' Hc' M' ∧ W i M') ⟨_, H1, Evl.Ex.refl _, O1.born (u := .lst []) hp ⟨Nat.zero_le _, [], rfl, .nil⟩, w0⟩ ?_ ?_ ?_
  · rintro i Hc' hi ⟨M', H', e2, O2, w⟩
    exact SqT.of (O2.ex _ _ (e2 _ _ g1))
  · rintro i x Hc' hx ⟨M', H', e2, O2, w⟩
    obtain ⟨d, hd', rd⟩ := dps_get g2 hx
    exact lc_turn ht hel hj e2 (sx := .dat d) (dp_ex e2 rd) (F.ex (e1.trans e2)) O2 (wt i d M' hd' w)
  · rintro Hc' ⟨M', H', e2, O2, w⟩
    rw [hl] at w
    exact q _ (.own p) M' H' Hc' (e1.trans e2) O2 rfl (wd M' w)
theorem xe_lcT {ex : Expr} {j : Nat} {t : DB} {el : DE} {vs : List Nat} (h : PE X ex (tLc (iTup X.K (LE de)) (gName j) (LB t) (LE el) vs)) (hj : j ∈ vs) : XE X ex (dLcT de j t el vs) := xe_of h (sim_lcT simLE simLB simLE hj)
/-- a comprehension over a tuple whose element is a function of the item -/
theorem lc_mapT {ds : List Dt} {M1 : Mem} {Γ : Fm} {vs : List Nat} {j : Nat} {el : DE} {K : Addr → Mem → Prop} (f : Dt → Sl) (hz : ds.length < 16777216)
    (he : ∀ x ∈ ds, ∀ (M' : Mem) (k' : DK), k' (f x) M' → el ((wipeF Γ vs).set j (some (.dat x))) M' k') (hk : ∀ p, M1 p = none → K p (put M1 p (.lst (ds.map f)))) :
    ∃ es, Sl.dat (.tuple ds) = .dat (.tuple es) ∧ ∀ p, M1 p = none → ∃ Inv : Nat → Mem → Prop, Inv 0 (put M1 p (.lst [])) ∧
      (∀ i x M', es[i]? = some x → Inv i M' → lcTurn p Γ vs j dYes el (Inv (i + 1)) (.dat x) M') ∧ ∀ M', Inv es.length M' → K p M' := by
  refine ⟨ds, rfl, fun p hp => ⟨fun i M' => M' = put M1 p (.lst ((ds.take i).map f)), rfl, fun i x M' hx e => ?_, fun M' e => by rw [e, List.take_length]; exact hk p hp⟩⟩
  subst e
  refine ⟨fun _ => he x (List.mem_of_getElem? hx) _ _ ?_, fun z => nomatch z⟩
  have hi : i < ds.length := (List.getElem?_eq_some_iff.mp hx).1
  refine ⟨_, put_at, by rw [List.length_map, List.length_take]; omega, ?_⟩
  show put (put M1 p (.lst ((ds.take i).map f))) p (.lst ((ds.take i).map f ++ [f x])) = put M1 p (.lst ((ds.take (i + 1)).map f))
  rw [put_put, List.take_add_one, hx]
  simp
/-- t[::-1], xs[::-1] -/
def dRev (de : DE) : DE := fun Γ M k => de Γ M fun s M1 => match s with
  | .dat (.tuple ds) => k (.dat (.tuple ds.reverse)) M1
  | .dat (.list ds) => k (.dat (.list ds.reverse)) M1
  | .own a => ∃ ds : List Dt, M1 a = some (.lst (ds.map .dat)) ∧ k (.dat (.list ds.reverse)) M1
  | _ => False
end
end DL
namespace DL
open PySem PySem.Spec PyProof.Rows L2 HT
open Evl (Ex)
section
variable {prog : Program} {w : World} {A : Around} {E : Value → Shared → Prop} {s : Shared}
theorem back_bounds (n : Nat) : Builtin.Slice.sliceAdjust none none (-1) (n : Int) = ((n : Int) - 1, -1) := by
  unfold Builtin.Slice.sliceAdjust
  simp
theorem back_places (n : Nat) : Builtin.Slice.slicePlaces ((n : Int) - 1) (-1) (-1) = n := by
  unfold Builtin.Slice.slicePlaces
  simp
  try omega
theorem back_applied {sl : Addr} {vl vu vs : Value} {n : Nat} {Q : Int × Int × Nat → Shared → Prop} (hs : s.heap.IsSliceOf sl vl vu vs) (pl : IsPart vl none) (pu : IsPart vu none) (ps : IsPart vs (some (-1))) (h : Q ((n : Int) - 1, -1, n) s) :
    wpAny (model prog w) A (Builtin.Slice.sliceApplied (.ref sl) (pure (n : Int))) Q E s := by
  obtain ⟨os, h1, h2, h3⟩ := id hs
  unfold Builtin.Slice.sliceApplied Builtin.Slice.sliceFields
  refine wpAny_bind (wpAny_bind (wpAny_field h1 h3 (x := vl) rfl (wpAny_bind (wpAny_field h1 h3 (x := vu) rfl (wpAny_bind (wpAny_field h1 h3 (x := vs) rfl (wpAny_pure ?_)))))))
  refine wpAny_bind (slicePart_ ps ?_)
  show wpAny _ _ (if ((-1 : Int) == 0) = true then _ else _) _ _ s
  rw [if_neg (by decide)]
  refine wpAny_bind (slicePart_ pl (wpAny_bind (slicePart_ pu (wpAny_bind (wpAny_pure ?_)))))
  show wpAny _ _ (match Builtin.Slice.sliceAdjust none none (-1) (n : Int) with | (a, b) => pure (a, (-1 : Int), Builtin.Slice.slicePlaces a b (-1))) _ _ s
  rw [back_bounds]
  show wpAny _ _ (pure ((n : Int) - 1, (-1 : Int), Builtin.Slice.slicePlaces ((n : Int) - 1) (-1) (-1))) _ _ s
  rw [back_places]
  exact wpAny_pure h
theorem back_pick (xs : List Value) : ((List.range xs.length).filterMap fun (m : Nat) => xs.toArray[((xs.length : Int) - 1 + (m : Int) * (-1)).toNat]?) = xs.reverse := by
  refine List.ext_getElem? fun i => ?_
  have key : (List.range xs.length).filterMap (fun (m : Nat) => xs.toArray[((xs.length : Int) - 1 + (m : Int) * (-1)).toNat]?) = (List.range xs.length).map fun m => xs.getD (xs.length - 1 - m) .none := by
    have e : ∀ m ∈ List.range xs.length, xs.toArray[((xs.length : Int) - 1 + (m : Int) * (-1)).toNat]? = some (xs.getD (xs.length - 1 - m) .none) := by
      intro m hm
      have hm' := List.mem_range.mp hm
      have e1 : ((xs.length : Int) - 1 + (m : Int) * (-1)).toNat = xs.length - 1 - m := by omega
      rw [e1]
      have hlt : xs.length - 1 - m < xs.length := by omega
      simp [List.getD_eq_getElem?_getD, List.getElem?_eq_getElem hlt]
    generalize hL : List.range xs.length = L at e ⊢
    clear hL
    induction L with
    | nil => rfl
    | cons m L ih =>
      rw [List.filterMap_cons, e m List.mem_cons_self, List.map_cons]
      simp only
      rw [ih fun k hk => e k (List.mem_cons_of_mem _ hk)]
  rw [key]
  by_cases hi : i < xs.length
  · rw [List.getElem?_map, List.getElem?_range hi, List.getElem?_reverse hi]
    have hlt : xs.length - 1 - i < xs.length := by omega
    simp [List.getD_eq_getElem?_getD, List.getElem?_eq_getElem hlt]
  · rw [List.getElem?_eq_none (by simp; omega), List.getElem?_eq_none (by simp; omega)]
theorem getItem_tuple_back {t sl : Addr} {its : List Value} {vl vu vs : Value} {Q : Value → Shared → Prop} (ht : IsTup s.heap t its.toArray) (hs : s.heap.IsSliceOf sl vl vu vs) (pl : IsPart vl none) (pu : IsPart vu none) (ps : IsPart vs (some (-1))) (hz : its.length ≤ sizeLine)
    (h : Q (.ref s.heap.objs.size) { s with heap := s.heap.push { cls := .type "tuple", data := .seq its.reverse.toArray } }) : wpAny (model prog w) A (getItem (.ref t) (.ref sl)) Q E s := by
  have room : sizeOk (.seq its.reverse.toArray) := by
    show its.reverse.toArray.size ≤ sizeLine
    rw [List.size_toArray, List.length_reverse]
    exact hz
  obtain ⟨os, h1, h2, h3⟩ := id hs
  have hT : s.TypeIs (.ref sl) "slice" := ⟨os, h1, h2⟩
  unfold getItem
  try with_reducible refine wpAny_holding ?_
  first | refine wpAny_bind (wpAny_pure ?_) | skip
  refine wpAny_bind (wpAny_sequenceKey ht.typeIs (by decide) ?_)
  refine wpAny_bind (wpAny_callSpecial?_slot (name := Str.ofString "__getitem__") ht.typeIs PyProof.Rows.slot_tuple_getitem (wpAny_call_entry PyProof.Rows.slot_tuple_getitem ht.typeIs entry_tuple_getitem ?_ (args_tuple_getitem _ _)))
  show wpAny _ _ (Builtin.Tuple.tupleItemsOf (.ref t) >>= _) _ _ s
  refine wpAny_bind (tupleItemsOf_ ht ?_)
  refine wpAny_bind (wpAny_typeOf hT ?_)
  rw [if_pos (by decide)]
  refine wpAny_bind (back_applied hs pl pu ps ?_)
  have no : ¬ ((((its.toArray.size : Int) - 1 == 0) && ((-1 : Int) == 1) && (its.toArray.size == its.toArray.size)) = true) := by simp
  show wpAny _ _ (if (((its.toArray.size : Int) - 1 == 0) && ((-1 : Int) == 1) && (its.toArray.size == its.toArray.size)) = true then _ else _) _ _ s
  rw [if_neg no]
  have e := back_pick its
  have e2 : ((List.range its.toArray.size).filterMap fun (m : Nat) => its.toArray[((its.toArray.size : Int) - 1 + (m : Int) * (-1)).toNat]?).toArray = its.reverse.toArray := by
    rw [List.size_toArray, e]
  rw [e2]
  first
    | exact wpAny_bind (m := Builtin.Tuple.tupleExact _) (wpAny_newObj_type (wpAny_pure ⟨_, rfl, wpAny_pure h⟩) room)
    | exact wpAny_bind (m := Builtin.Tuple.tupleExact _) (wpAny_newObj_type (wpAny_bind (wpAny_pure (wpAny_pure ⟨_, rfl, wpAny_pure h⟩))) room)
    | exact wpAny_bind (wpAny_bind (m := Builtin.Tuple.tupleExact _) (wpAny_newObj_type (wpAny_pure (wpAny_pure ⟨_, rfl, wpAny_pure h⟩)) room))
    | exact wpAny_bind (wpAny_bind (m := Builtin.Tuple.tupleExact _) (wpAny_newObj_type (wpAny_pure ⟨_, rfl, wpAny_pure h⟩) room))
end
section
variable {X : Cx} {e : Expr} {te : TE} {de : DE}
/-- x[::-1], x a list or a tuple -/
def tBack (K : PySem.W.Frag) (te : TE) : TE := fun σ H Q => te σ H fun x H1 => ∃ a xs, x = .ref a ∧ ((SqL K H1 a xs ∧ ∀ p, H1 p = none → Q (.ref p) (upd H1 p (.lst xs.reverse))) ∨ (SqT K H1 a xs ∧ ∀ p, H1 p = none → Q (.ref p) (upd H1 p (.tup xs.reverse))))
theorem pe_back {k : Nat} {p1 p2 p3 pos : Pos} (he : PE X e te) : PE X (.Subscript e (.Slice none none (some (.UnaryOp .USub (.Constant (.int 1) k p1) p2)) p3) pos) (tBack X.K te) := by
  have step : PO X (some (.UnaryOp .USub (.Constant (.int 1) k p1) p2)) (tPart (tUn (rU fun i => .int (-i)) (tC (.int 1)))) := po_some (pe_un un_neg pe_int)
  constructor
  intro pins s σ H Q I h
  refine Subscript_ (thn (he.run pins s σ H _ I h) fun v s1 ⟨x, H1, I1, r1, a, xs, hx, q⟩ => ?_)
  subst hx
  cases r1
  refine wpAny_Slice (thn (po_none.run pins s1 σ H1 (fun o G => o = none ∧ G = H1) I1 ⟨rfl, rfl⟩) fun u1 s2 z1 => ?_)
  obtain ⟨_, _, I2, w1, rfl, rfl⟩ := z1
  refine thn (po_none.run pins s2 σ _ (fun o G => o = none ∧ G = _) I2 ⟨rfl, rfl⟩) fun u2 s3 z2 => ?_
  obtain ⟨_, _, I3, w2, rfl, rfl⟩ := z2
  refine thn (step.run pins s3 σ _ (fun o G => o = some (-1) ∧ G = _) I3 ⟨1, rfl, -1, rfl, rfl, rfl⟩) fun u3 s4 z3 => ?_
  obtain ⟨_, G, I4, w3, rfl, rfl⟩ := z3
  have I5 : Inv X pins σ G { s4 with heap := s4.heap.push { cls := .type "slice", data := .fields #[u1, u2, u3] } } := I4.kept (t' := s4.toks) fun b ob z => Heap.get?_push_of_some _ z
  rcases q with ⟨hq, q⟩ | ⟨hq, q⟩
  · obtain ⟨its, r, ht, hz⟩ := I5.list hq
    have hlen := r.length
    refine tail_any (ops := [.ref a, .ref s4.heap.objs.size]) ht.isList.typeIs (PySem.slot_list_getitem.lookup) ?_ (by with_unfolding_all rfl)
    refine wpAny_getItem_list_slice ht.isList (Heap.IsSliceOf.new _ u1 u2 u3) w1 w2 w3 (by decide) ?_ (by rw [List.size_toArray]; omega)
    rw [PySem.W.krv_pick]
    refine ⟨.ref _, upd G _ (.lst xs.reverse), I5.laid (t' := s4.toks) (o := .lst xs.reverse) (fun b ob z => Heap.get?_push_of_some _ z) (Nat.le_refl _) ⟨by rw [List.length_reverse]; exact hz, _, 0, r.reverse, Heap.get?_push_size _ rfl⟩, rfl, q _ (I5.hok.fresh (Nat.le_refl _))⟩
  · obtain ⟨its, r, ht, hz⟩ := I5.tuple hq
    have hlen := r.length
    refine tail_any (ops := [.ref a, .ref s4.heap.objs.size]) ht.typeIs (PyProof.Rows.slot_tuple_getitem.lookup) ?_ (by with_unfolding_all rfl)
    refine getItem_tuple_back ht (Heap.IsSliceOf.new _ u1 u2 u3) w1 w2 w3 (by omega) ?_
    exact ⟨.ref _, upd G _ (.tup xs.reverse), I5.laid (t' := s4.toks) (o := .tup xs.reverse) (fun b ob z => Heap.get?_push_of_some _ z) (Nat.le_refl _) ⟨by rw [List.length_reverse]; exact hz, _, r.reverse, IsTup.new _ _⟩, rfl, q _ (I5.hok.fresh (Nat.le_refl _))⟩
theorem dqs_reverse {H : Hp} {ds : List Dt} {vs : List V} (h : DqAll H vs ds) : DqAll H vs.reverse ds.reverse := by
  exact dqs_rev h (.nil : DqAll H [] [])
theorem xe_rev {k : Nat} {p1 p2 p3 pos : Pos} (he : XE X e de) : XE X (.Subscript e (.Slice none none (some (.UnaryOp .USub (.Constant (.int 1) k p1) p2)) p3) pos) (dRev de) := xe_of (pe_back he) fun Γ M k σ H Hc Q hd F O q => simLE Γ M _ σ H Hc _ hd F O fun v s M1 H1 Hc1 e1 O1 r1 h1 => by
  split at h1
  · obtain ⟨a, vs, rfl, g1, g2⟩ := dp_tup_inv r1
    exact ⟨a, vs, rfl, .inr ⟨SqT.of (O1.ex _ _ g1), fun p hp => (q.ex e1).tup O1 (dqs_reverse g2) hp h1⟩⟩
  · obtain ⟨a, vs, rfl, g1, g2⟩ := dp_lst_inv r1
    exact ⟨a, vs, rfl, .inl ⟨SqL.of (O1.ex _ _ g1), fun p hp => (q.ex e1).lst O1 (dqs_reverse g2) hp h1⟩⟩
  · obtain ⟨ds, hm, h1⟩ := h1
    cases r1
    obtain ⟨_, vs, g1, g2⟩ := O1.ob _ _ hm
    exact ⟨_, vs, rfl, .inl ⟨SqL.of g1, fun p hp => (q.ex e1).lst O1 (dqs_reverse (rps_dat g2)) hp h1⟩⟩
  · exact h1.elim
end
/-! ### sorted of whole numbers -/
def fSortI : DC := fun ss M k => match ss with
  | [s] => ∃ ns : List Int, IsL M s (ns.map fun n => .dat (.int n)) ∧ ns.length ≤ 1000000 ∧ ∀ (ns' : List Int) p, ns'.Perm ns → ns'.Pairwise (· ≤ ·) → M p = none → k (.own p) (put M p (.lst (ns'.map fun n => .dat (.int n))))
  | _ => False
theorem rps_ints {H : Hp} : ∀ {ns : List Int} {vs : List V}, Rps H (ns.map fun n => Sl.dat (.int n)) vs → vs = ns.map V.int
  | [], _, .nil => rfl
  | n :: ns, _, .cons r t => by rw [dp_int_inv r, rps_ints t] <;> rfl
theorem ints_rps {H : Hp} : ∀ ns : List Int, Rps H (ns.map fun n => Sl.dat (.int n)) (ns.map V.int)
  | [] => .nil
  | n :: ns => .cons (Dq.int n) (ints_rps ns)
theorem sim_sortI {K : PySem.W.Frag} : SimC (rSortedI K) fSortI := by
  intro ss M k xs H Hc Q h r O q
  unfold fSortI at h
  split at h
  · obtain ⟨x, rfl, rx⟩ := rps1 r
    obtain ⟨ns, l, hz, h⟩ := h
    obtain ⟨a, vs, rfl, g1, g2⟩ := l.at_ O rx
    rw [rps_ints g2] at g1
    refine ⟨a, ns, rfl, SqL.of g1, fun ns' p h1 h2 hp => ?_⟩
    exact q.own O (ints_rps ns') (by rw [List.length_map, h1.length_eq, sizeLine_eq]; omega) hp (h ns' p h1 h2 (O.freeM hp))
  · exact h.elim
/-! ### how long a repr is -/
mutual
def sz : Dt → Nat
  | .none => 4
  | .bool _ => 5
  | .int _ => 2000
  | .str x => (reprText x).length
  | .list xs => szAll xs + 3
  | .tuple xs => szAll xs + 3
  | .dict _ => 0
def szAll : List Dt → Nat
  | [] => 0
  | x :: xs => sz x + 2 + szAll xs
end
def noDict : Dt → Bool
  | .dict _ => false
  | _ => true
mutual
theorem shown_sz : ∀ d : Dt, d.showable = true → d.hasDict = false → d.shown.length ≤ sz d
  | .none, _, _ => by decide +kernel
  | .bool b, _, _ => by cases b <;> decide +kernel
  | .int i, h, _ => by
    have e : i.natAbs.log2 < 1920 := by simpa [PyData.showable] using h
    have := int_text_len_1921 e
    show (Str.ofString (toString i)).length ≤ 2000
    omega
  | .str x, _, _ => Nat.le_refl _
  | .list xs, h, h2 => by
    have z := shown_szAll xs (by simpa [PyData.showable] using h) (by simpa [PyData.hasDict] using h2)
    have y := listText_len_le (PyData.shownAll xs)
    show (listText (PyData.shownAll xs)).length ≤ szAll xs + 3
    omega
  | .tuple xs, h, h2 => by
    have z := shown_szAll xs (by simpa [PyData.showable] using h) (by simpa [PyData.hasDict] using h2)
    have y := tupleText_len_le (PyData.shownAll xs)
    show (tupleText (PyData.shownAll xs)).length ≤ szAll xs + 3
    omega
  | .dict _, _, h => by simp [PyData.hasDict] at h
theorem shown_szAll : ∀ ds : List Dt, PyData.showableAll ds = true → PyData.hasDictAll ds = false → ((PyData.shownAll ds).map (·.length)).sum + 2 * (PyData.shownAll ds).length ≤ szAll ds
  | [], _, _ => Nat.le_refl _
  | d :: ds, h, h2 => by
    rw [PyData.showableAll, Bool.and_eq_true] at h
    rw [PyData.hasDictAll, Bool.or_eq_false_iff] at h2
    have a := shown_sz d h.1 h2.1
    have b := shown_szAll ds h.2 h2.2
    show ((d.shown :: PyData.shownAll ds).map (·.length)).sum + 2 * (d.shown :: PyData.shownAll ds).length ≤ sz d + 2 + szAll ds
    rw [List.map_cons, List.sum_cons, List.length_cons]
    omega
end
/-- small enough to be shown: k levels -/
structure Sm (k : Nat) (d : Dt) : Prop where
  sh : d.showable = true
  nd : d.hasDict = false
  sz : sz d ≤ 3000 * 40 ^ k
  dp : d.depth ≤ k
theorem Sm.mono {j k : Nat} {d : Dt} (h : Sm j d) (le : j ≤ k) : Sm k d := ⟨h.sh, h.nd, Nat.le_trans h.sz (Nat.mul_le_mul_left _ (Nat.pow_le_pow_right (by decide) le)), Nat.le_trans h.dp le⟩
theorem Sm.int {i : Int} (h : i.natAbs < 2 ^ 1000) : Sm 0 (.int i) := by
  refine ⟨?_, rfl, (show 2000 ≤ 3000 * 40 ^ 0 by decide), Nat.le_refl _⟩
  have e : i.natAbs.log2 < 1920 := Nat.lt_of_lt_of_le (PySem.Flt.log2_lt_of (by decide) h) (by decide)
  simpa [PyData.showable] using e
theorem Sm.bool {b : Bool} : Sm 0 (.bool b) := ⟨rfl, rfl, by show 5 ≤ 3000 * 40 ^ 0; decide, Nat.le_refl _⟩
theorem Sm.none : Sm 0 .none := ⟨rfl, rfl, by show 4 ≤ 3000 * 40 ^ 0; decide, Nat.le_refl _⟩
theorem Sm.str {x : Str} (h : (reprText x).length ≤ 3000) : Sm 0 (.str x) := ⟨rfl, rfl, h, Nat.le_refl _⟩
theorem sm_all {k : Nat} : ∀ {ds : List Dt}, (∀ d ∈ ds, Sm k d) → PyData.showableAll ds = true ∧ PyData.hasDictAll ds = false ∧ szAll ds ≤ ds.length * (3000 * 40 ^ k + 2) ∧ PyData.depthAll ds ≤ k
  | [], _ => ⟨rfl, rfl, Nat.zero_le _, Nat.zero_le _⟩
  | d :: ds, h => by
    obtain ⟨a, b, c, e⟩ := sm_all fun x hx => h x (List.mem_cons_of_mem _ hx)
    have g := h d List.mem_cons_self
    refine ⟨?_, ?_, ?_, ?_⟩
    · rw [PyData.showableAll, g.sh, a] <;> rfl
    · rw [PyData.hasDictAll, g.nd, b] <;> rfl
    · show sz d + 2 + szAll ds ≤ (ds.length + 1) * (3000 * 40 ^ k + 2)
      rw [Nat.succ_mul]
      have := g.sz
      omega
    · show max d.depth (PyData.depthAll ds) ≤ k
      have := g.dp
      omega
theorem sm_bound (k n : Nat) (h : n ≤ 38) : n * (3000 * 40 ^ k + 2) + 3 ≤ 3000 * 40 ^ (k + 1) := by
  have e : 1 ≤ 40 ^ k := Nat.pos_of_ne_zero (by simp)
  rw [Nat.pow_succ]
  have : n * (3000 * 40 ^ k + 2) ≤ 38 * (3000 * 40 ^ k + 2) := Nat.mul_le_mul_right _ h
  omega
theorem Sm.tup {k : Nat} {ds : List Dt} (h : ∀ d ∈ ds, Sm k d) (hl : ds.length ≤ 38) : Sm (k + 1) (.tuple ds) := by
  obtain ⟨a, b, c, e⟩ := sm_all h
  refine ⟨a, b, ?_, Nat.succ_le_succ e⟩
  show szAll ds + 3 ≤ _
  have := sm_bound k ds.length hl
  omega
theorem Sm.list {k : Nat} {ds : List Dt} (h : ∀ d ∈ ds, Sm k d) (hl : ds.length ≤ 38) : Sm (k + 1) (.list ds) := by
  obtain ⟨a, b, c, e⟩ := sm_all h
  refine ⟨a, b, ?_, Nat.succ_le_succ e⟩
  show szAll ds + 3 ≤ _
  have := sm_bound k ds.length hl
  omega
theorem Sm.fits {d : Dt} (h : Sm 2 d) : d.shown.length ≤ 16777216 := Nat.le_trans (shown_sz d h.sh h.nd) (Nat.le_trans h.sz (by decide))
theorem cut_mem {α : Type} {xs : List α} {lo hi : Option Int} {x : α} (h : x ∈ cut xs lo hi) : x ∈ xs := by
  unfold cut at h
  exact List.mem_of_mem_drop (List.mem_of_mem_take h)
/-- an item of a list at a drawn place -/
theorem pick {α : Type} {P : α → Prop} {xs : List α} {i : Int} (h : ∀ x ∈ xs, P x) (h0 : 0 ≤ i) (h1 : i < xs.length) : ∃ x, atI xs i = some x ∧ P x := by
  obtain ⟨j, rfl⟩ := Int.eq_ofNat_of_zero_le h0
  have hj : j < xs.length := by omega
  exact ⟨xs[j], atI_nat (List.getElem?_eq_getElem hj), h _ (List.getElem_mem hj)⟩
theorem pickI {P : Int → Prop} {xs : List Int} {i : Int} (h : ∀ x ∈ xs, P x) (h0 : 0 ≤ i) (h1 : i < xs.length) : ∃ x, atI (xs.map PyData.int) i = some (.int x) ∧ P x := by
  obtain ⟨j, rfl⟩ := Int.eq_ofNat_of_zero_le h0
  have hj : j < xs.length := by omega
  exact ⟨xs[j], atI_nat (by rw [List.getElem?_map, List.getElem?_eq_getElem hj] <;> rfl), h _ (List.getElem_mem hj)⟩
end DL
namespace DL
open PySem PySem.Spec PyProof.Rows L2
open Evl (Ex)
/-! ### dicts of ours, their keys whole numbers or texts -/
def keyD : Dt → Option Key
  | .int i => some (.inl i)
  | .str x => some (.inr x)
  | _ => none
theorem key_rp {H : Hp} {d : Dt} {key : Key} {v : V} (r : Dq H v d) (h : keyD d = some key) : v = kV key := by
  cases d <;> first | (cases h <;> first | exact dp_int_inv r | exact dp_str_inv r) | (cases h)
abbrev Kvs := List (Key × Sl)
def dval (kvs : Kvs) (k : Key) : Option Sl := (kvs.find? fun kv => decide (kv.1 = k)).map (·.2)
def dput (kvs : Kvs) (k : Key) (s : Sl) : Kvs := if (kvs.any fun kv => decide (kv.1 = k)) = true then kvs.map (fun kv => if kv.1 = k then (kv.1, s) else kv) else kvs ++ [(k, s)]
abbrev RpK (H : Hp) : Kvs → List (Key × V) → Prop := Paired (fun (p : Key × Sl) (q : Key × V) => p.1 = q.1 ∧ Rp H p.2 q.2)
theorem rpk_len {H : Hp} : ∀ {kvs : Kvs} {ws : List (Key × V)}, RpK H kvs ws → ws.length = kvs.length
  | [], _, .nil => rfl
  | _ :: _, _, .cons _ t => congrArg (· + 1) (rpk_len t)
theorem rpk_val {H : Hp} {k : Key} : ∀ {kvs : Kvs} {ws : List (Key × V)}, RpK H kvs ws → (dval kvs k = none ∧ valV ws k = none) ∨ ∃ s v, dval kvs k = some s ∧ valV ws k = some v ∧ Rp H s v
  | [], _, .nil => .inl ⟨rfl, rfl⟩
  | (a, s) :: kvs, _, .cons (b := (b, v)) r t => by
    obtain ⟨rfl, r2⟩ := r
    rename_i ws
    by_cases e : a = k
    · subst e
      refine .inr ⟨s, v, ?_, ?_, r2⟩
      · unfold dval
        rw [List.find?_cons, decide_eq_true rfl]
        rfl
      · unfold valV
        rw [List.find?_cons, decide_eq_true rfl]
        rfl
    · have e1 : dval ((a, s) :: kvs) k = dval kvs k := by
        unfold dval
        rw [List.find?_cons, decide_eq_false e]
      have e2 : valV ((a, v) :: ws) k = valV ws k := by
        unfold valV
        rw [List.find?_cons, decide_eq_false e]
      rw [e1, e2]
      exact rpk_val t
theorem rpk_map {H : Hp} {k : Key} {s : Sl} {v : V} (r : Rp H s v) : ∀ {kvs : Kvs} {ws : List (Key × V)}, RpK H kvs ws → RpK H (kvs.map (fun kv => if kv.1 = k then (kv.1, s) else kv)) (ws.map (fun kv => if kv.1 = k then (kv.1, v) else kv))
  | [], _, .nil => .nil
  | (a, x) :: kvs, _, .cons (b := (b, y)) q t => by
    obtain ⟨rfl, q2⟩ := q
    refine .cons ?_ (rpk_map r t)
    show ((if a = k then (a, s) else (a, x)) : Key × Sl).1 = ((if a = k then (a, v) else (a, y)) : Key × V).1 ∧ Rp H ((if a = k then (a, s) else (a, x)) : Key × Sl).2 ((if a = k then (a, v) else (a, y)) : Key × V).2
    by_cases e : a = k
    · rw [if_pos e, if_pos e]
      exact ⟨rfl, r⟩
    · rw [if_neg e, if_neg e]
      exact ⟨rfl, q2⟩
theorem rpk_any {H : Hp} {k : Key} : ∀ {kvs : Kvs} {ws : List (Key × V)}, RpK H kvs ws → (kvs.any fun kv => decide (kv.1 = k)) = (ws.any fun kv => decide (kv.1 = k))
  | [], _, .nil => rfl
  | (a, x) :: kvs, _, .cons (b := (b, y)) q t => by
    obtain ⟨rfl, q2⟩ := q
    rw [List.any_cons, List.any_cons, rpk_any t]
theorem rpk_app {H : Hp} : ∀ {kvs kvs2 : Kvs} {ws ws2 : List (Key × V)}, RpK H kvs ws → RpK H kvs2 ws2 → RpK H (kvs ++ kvs2) (ws ++ ws2)
  | [], _, _, _, .nil, h => h
  | _ :: _, _, _, _, .cons r t, h => .cons r (rpk_app t h)
theorem rpk_put {H : Hp} {k : Key} {s : Sl} {v : V} {kvs : Kvs} {ws : List (Key × V)} (h : RpK H kvs ws) (r : Rp H s v) : RpK H (dput kvs k s) (putK ws k v) := by
  unfold dput putK
  rw [rpk_any h]
  by_cases e : (ws.any fun kv => decide (kv.1 = k)) = true
  · rw [if_pos e, if_pos e]
    exact rpk_map r h
  · rw [if_neg e, if_neg e]
    exact rpk_app h (.cons ⟨rfl, r⟩ .nil)
section
variable {X : Cx} {e f o i : Expr} {de df do_ di : DE} {das : DA} {pos apos : Pos}
def dDct0 : DE := fun _ M k => ∀ p, M p = none → k (.own p) (put M p (.dct []))
theorem xe_dct0 : XE X (.Dict [] [] pos) dDct0 := xe_of pe_dnewK fun Γ M k σ H Hc Q hd F O q p hp => q (.ref p) (.own p) _ H _ (Ex.refl H) (O.born (u := .dct []) hp ⟨[], rfl, .nil⟩) rfl (hd p (O.freeM hp))
/-- d.get(key, other) -/
def dGet2 (do_ di de : DE) : DE := fun Γ M k => do_ Γ M fun o M1 => (∃ a kvs, o = .own a ∧ M1 a = some (.dct kvs)) ∧ di Γ M1 fun i M2 => de Γ M2 fun z M3 => ∃ a kvs d key, o = .own a ∧ M3 a = some (.dct kvs) ∧ i = .dat d ∧ keyD d = some key ∧ k ((dval kvs key).getD z) M3
theorem xe_get2 (h : PE X e (tDGet2 (LE do_) (LE di) (LE de))) : XE X e (dGet2 do_ di de) := xe_of h fun Γ M k σ H Hc Q hd F O q => by
  refine simLE Γ M _ σ H Hc _ hd F O fun vo so M1 H1 Hc1 e1 O1 r1 h1 => ?_
  obtain ⟨⟨a, kvs, rfl, hm⟩, h1⟩ := h1
  cases r1
  obtain ⟨ws, g1, _⟩ := O1.ob _ _ hm
  refine ⟨a, rfl, .inl ⟨ws, .inl g1⟩, ?_⟩
  refine simLE Γ M1 _ σ H1 Hc1 _ h1 (F.ex e1) O1 fun vi si M2 H2 Hc2 e2 O2 r2 h2 => ?_
  refine simLE Γ M2 _ σ H2 Hc2 _ h2 (F.ex (e1.trans e2)) O2 fun vz sz M3 H3 Hc3 e3 O3 r3 h3 => ?_
  obtain ⟨a', kvs', d, key, ea, hm3, rfl, hk, h3⟩ := h3
  cases ea
  obtain ⟨ws', g1', g2'⟩ := O3.ob _ _ hm3
  have r2' : Dq H2 vi d := r2
  have ek := key_rp r2' hk
  subst ek
  refine ⟨valV ws' key, DGet.k g1', ?_⟩
  rcases rpk_val (k := key) g2' with ⟨z1, z2⟩ | ⟨s, v, z1, z2, z3⟩
  · rw [z2]
    rw [z1] at h3
    exact q vz sz M3 H3 Hc3 (e1.trans (e2.trans e3)) O3 r3 h3
  · rw [z2]
    rw [z1] at h3
    exact q v s M3 H3 Hc3 (e1.trans (e2.trans e3)) O3 z3 h3
/-- d[key] -/
def fDIx : D2 := fun o i M k => ∃ a kvs d key s, o = .own a ∧ M a = some (.dct kvs) ∧ i = .dat d ∧ keyD d = some key ∧ dval kvs key = some s ∧ k s M
theorem xe_dix (h : PE X e (tDGet (LE do_) (LE di))) : XE X e (dOp fDIx do_ di) := xe_of h fun Γ M k σ H Hc Q hd F O q => by
  refine simLE Γ M _ σ H Hc _ hd F O fun vo so M1 H1 Hc1 e1 O1 r1 h1 => ?_
  refine simLE Γ M1 _ σ H1 Hc1 _ h1 (F.ex e1) O1 fun vi si M2 H2 Hc2 e2 O2 r2 h2 => ?_
  obtain ⟨a, kvs, d, key, s, rfl, hm, rfl, hk, hv, h2⟩ := h2
  cases r1
  obtain ⟨ws, g1, g2⟩ := O2.ob _ _ hm
  have r2' : Dq H2 vi d := r2
  have ek := key_rp r2' hk
  subst ek
  rcases rpk_val (k := key) g2 with ⟨z1, z2⟩ | ⟨s', v, z1, z2, z3⟩
  · rw [z1] at hv
    cases hv
  · rw [z1] at hv
    cases hv
    refine ⟨a, v, rfl, ?_, q v s M2 H2 Hc2 (e1.trans e2) O2 z3 h2⟩
    rw [← z2]
    exact DGet.k g1
/-- d[key] = e -/
def dSetD (de do_ di : DE) : DS := fun D Γ M => de Γ M fun s M1 => do_ Γ M1 fun o M2 => di Γ M2 fun i M3 => ∃ a kvs d key, o = .own a ∧ i = .dat d ∧ keyD d = some key ∧ M3 a = some (.dct kvs) ∧ kvs.length < 16777216 ∧ D.nx Γ (put M3 a (.dct (dput kvs key s)))
theorem xs_setD {st : Stmt} (h : PS X st (tAsg (LE de) (gSub (LE do_) (LE di) rSetD))) : XS X st (dSetD de do_ di) := xs_of h fun Γ M D σ H Hc E hd F O q => by
  refine simLE Γ M _ σ H Hc _ hd F O fun v s M1 H1 Hc1 e1 O1 r1 h1 => ?_
  refine simLE Γ M1 _ σ H1 Hc1 _ h1 (F.ex e1) O1 fun vo so M2 H2 Hc2 e2 O2 r2 h2 => ?_
  refine simLE Γ M2 _ σ H2 Hc2 _ h2 (F.ex (e1.trans e2)) O2 fun vi si M3 H3 Hc3 e3 O3 r3 h3 => ?_
  obtain ⟨a, kvs, d, key, rfl, rfl, hk, hm, hz, hn⟩ := h3
  cases r2
  obtain ⟨ws, g1, g2⟩ := O3.ob _ _ hm
  have r3' : Dq H3 vi d := r3
  have ek := key_rp r3' hk
  subst ek
  refine ⟨a, _, rfl, DPut.k g1 (by rw [rpk_len g2, sizeLine_eq]; exact hz), ?_⟩
  exact q.nx σ Γ _ H3 _ (e1.trans (e2.trans e3)) (F.ex (e1.trans (e2.trans e3))) (O3.turn (u := .dct _) hm ⟨_, rfl, rpk_put g2 (rp_ex (e2.trans e3) r1)⟩) hn
/-- d.setdefault(key, e) -/
def dSetd (do_ di de : DE) : DE := fun Γ M k => do_ Γ M fun o M1 => (∃ a kvs, o = .own a ∧ M1 a = some (.dct kvs)) ∧ di Γ M1 fun i M2 => de Γ M2 fun z M3 => ∃ a kvs d key, o = .own a ∧ M3 a = some (.dct kvs) ∧ i = .dat d ∧ keyD d = some key ∧ kvs.length < 16777216 ∧ (∀ s, dval kvs key = some s → k s M3) ∧ (dval kvs key = none → k z (put M3 a (.dct (dput kvs key z))))
theorem xe_setd (h : PE X e (tDSetd (LE do_) (LE di) (LE de))) : XE X e (dSetd do_ di de) := xe_of h fun Γ M k σ H Hc Q hd F O q => by
  refine simLE Γ M _ σ H Hc _ hd F O fun vo so M1 H1 Hc1 e1 O1 r1 h1 => ?_
  obtain ⟨⟨a, kvs, rfl, hm⟩, h1⟩ := h1
  cases r1
  obtain ⟨ws, g1, _⟩ := O1.ob _ _ hm
  refine ⟨a, rfl, .inl ⟨ws, .inl g1⟩, ?_⟩
  refine simLE Γ M1 _ σ H1 Hc1 _ h1 (F.ex e1) O1 fun vi si M2 H2 Hc2 e2 O2 r2 h2 => ?_
  refine simLE Γ M2 _ σ H2 Hc2 _ h2 (F.ex (e1.trans e2)) O2 fun vz sz M3 H3 Hc3 e3 O3 r3 h3 => ?_
  obtain ⟨a', kvs', d, key, ea, hm3, rfl, hk, hz, hs, hn⟩ := h3
  cases ea
  obtain ⟨ws', g1', g2'⟩ := O3.ob _ _ hm3
  have r2' : Dq H2 vi d := r2
  have ek := key_rp r2' hk
  subst ek
  refine ⟨ws', key, g1', rfl, by rw [rpk_len g2', sizeLine_eq]; exact hz, fun v hv => ?_, fun hv => ?_⟩
  · rcases rpk_val (k := key) g2' with ⟨z1, z2⟩ | ⟨s, v', z1, z2, z3⟩
    · rw [z2] at hv
      cases hv
    · rw [z2] at hv
      cases hv
      exact q v s M3 H3 Hc3 (e1.trans (e2.trans e3)) O3 z3 (hs s z1)
  · rcases rpk_val (k := key) g2' with ⟨z1, z2⟩ | ⟨s, v', z1, z2, z3⟩
    · exact q vz sz _ H3 _ (e1.trans (e2.trans e3)) (O3.turn (u := .dct _) hm3 ⟨_, rfl, rpk_put g2' r3⟩) r3 (hn z1)
    · rw [z2] at hv
      cases hv
def fLenD : DC := fun ss M k => match ss with
  | [.own a] => ∃ kvs, M a = some (.dct kvs) ∧ k (.dat (.int kvs.length)) M
  | _ => False
theorem sim_lenD : SimC (fun xs H Q => ∃ a kvs, xs = [V.ref a] ∧ H a = some (.dK kvs) ∧ Q (.int kvs.length) H) fLenD := by
  intro ss M k xs H Hc Q h r O q
  unfold fLenD at h
  split at h
  · obtain ⟨kvs, hm, h⟩ := h
    obtain ⟨x, rfl, rx⟩ := rps1 r
    cases rx
    obtain ⟨ws, g1, g2⟩ := O.ob _ _ hm
    refine ⟨_, ws, rfl, g1, ?_⟩
    rw [rpk_len g2]
    exact q _ (.dat (.int _)) M H Hc (Ex.refl H) O (Dq.int _) h
  · exact h.elim
/-- {key: e} -/
def dDct1 (di de : DE) : DE := fun Γ M k => ∀ p, M p = none → di Γ (put M p (.dct [])) fun i M1 => de Γ M1 fun s M2 => ∃ d key, i = .dat d ∧ keyD d = some key ∧ M2 p = some (.dct []) ∧ k (.own p) (put M2 p (.dct [(key, s)]))
theorem xe_dct1 (hi : XE X i di) (he : XE X e de) : XE X (.Dict [some i] [e] pos) (dDct1 di de) := xe_of (pe_disp (pps_cons hi he pps_nil) rfl rfl (by simp) (show 1 ≤ 15 by decide)) fun Γ M k σ H Hc Q hd F O q p hp => by
  have hm := O.freeM hp
  have O0 := O.born (u := .dct []) hp ⟨[], rfl, .nil⟩
  refine simLE Γ _ _ σ H _ _ (hd p hm) F O0 fun vi si M1 H1 Hc1 e1 O1 r1 h1 => ?_
  refine simLE Γ M1 _ σ H1 Hc1 _ h1 (F.ex e1) O1 fun v s M2 H2 Hc2 e2 O2 r2 h2 => ?_
  obtain ⟨d, key, rfl, hk, hp2, h2⟩ := h2
  obtain ⟨ws, g1, g2⟩ := O2.ob _ _ hp2
  cases g2
  have r1' : Dq H1 vi d := r1
  have ek := key_rp r1' hk
  subst ek
  refine ⟨g1, [(key, v)], rfl, by show 1 ≤ 15; decide, ?_⟩
  exact q (.ref p) (.own p) _ H2 _ (e1.trans e2) (O2.turn (u := .dct _) hp2 ⟨_, rfl, .cons ⟨rfl, r2⟩ .nil⟩) rfl h2
/-! ### list(range(n)), pop, in, times -/
def dListR (de : DE) : DE := fun Γ M k => de Γ M fun s M1 => ∃ n, s = .dat (.int n) ∧ 0 ≤ n ∧ n ≤ 16777216 ∧ ∀ p, M1 p = none → k (.own p) (put M1 p (.lst ((List.range n.toNat).map fun (i : Nat) => .dat (.int (i : Int)))))
theorem rg_rps {H : Hp} : ∀ (ns : List Nat), Rps H (ns.map fun (i : Nat) => Sl.dat (.int (i : Int))) (ns.map fun i => V.int (0 + (i : Nat)))
  | [] => .nil
  | n :: ns => .cons (by show Dq H (V.int (0 + (n : Int))) (.int (n : Int)); rw [Int.zero_add]; exact Dq.int _) (rg_rps ns)
theorem xe_listR (h : PE X e (tLstRg (tRg1 (LE de)))) : XE X e (dListR de) := xe_of h fun Γ M k σ H Hc Q hd F O q => by
  refine simLE Γ M _ σ H Hc _ hd F O fun v s M1 H1 Hc1 e1 O1 r1 h1 => ?_
  obtain ⟨n, rfl, h0, hz, h1⟩ := h1
  refine ⟨n, dp_int_inv r1, RgOk.of_le (Int.le_refl 0) hz (by decide) h0, fun p hp => ?_⟩
  have er : rgV 0 n = (List.range n.toNat).map fun i => V.int (0 + (i : Nat)) := by
    unfold rgV
    rw [Int.sub_zero]
  rw [er]
  exact (q.ex e1).own O1 (rg_rps _) (by rw [List.length_map, List.length_range, sizeLine_eq]; omega) hp (h1 p (O1.freeM hp))
def fPopAt : Sl → List Sl → Mem → DK → Prop := fun o ss M k => match o, ss with
  | .own a, [.dat (.int i)] => ∃ xs j y, M a = some (.lst xs) ∧ i = ((j : Nat) : Int) ∧ xs[j]? = some y ∧ j < 16777216 ∧ k y (put M a (.lst (xs.eraseIdx j)))
  | _, _ => False
theorem rps_getS {H : Hp} : ∀ {ss : List Sl} {vs : List V} {j : Nat} {y : Sl}, Rps H ss vs → ss[j]? = some y → ∃ v, vs[j]? = some v ∧ Rp H y v
  | _ :: _, _, 0, _, .cons r t, h => by cases h; exact ⟨_, rfl, r⟩
  | _ :: _, _, j + 1, _, .cons r t, h => rps_getS (j := j) t h
theorem rps_erase {H : Hp} : ∀ {ss : List Sl} {vs : List V} (j : Nat), Rps H ss vs → Rps H (ss.eraseIdx j) (vs.eraseIdx j)
  | [], _, _, .nil => .nil
  | _ :: _, _, 0, .cons r t => t
  | _ :: _, _, j + 1, .cons r t => .cons r (rps_erase j t)
theorem sim_popAt {K : PySem.W.Frag} : SimM K "list" rPopAt fPopAt := by
  intro s ss M k x xs H Hc Q h rx rs O q
  unfold fPopAt at h
  split at h
  · obtain ⟨ys, j, y, hm, rfl, hy, hj, h⟩ := h
    obtain ⟨u, rfl, ru⟩ := rps1 rs
    cases rx
    obtain ⟨z, vs, g1, g2⟩ := O.ob _ _ hm
    obtain ⟨v, gv, rv⟩ := rps_getS g2 hy
    have hlt : j < vs.length := (List.getElem?_eq_some_iff.mp gv).1
    refine ⟨_, vs, (j : Int), j, v, rfl, by rw [dp_int_inv ru], g1, by omega, by omega, ?_, gv, ?_⟩
    · unfold seqIndex?
      simp
      omega
    · exact q v y _ H _ (Ex.refl H) (O.turn (u := .lst _) hm ⟨Nat.le_trans (List.length_eraseIdx_le ..) z, _, rfl, rps_erase j g2⟩) rv h
  · exact h.elim
end
end DL
namespace DL
open PySem PySem.Spec PyProof.Rows L2
open Evl (Ex)
/-! ### sorted of data -/
/-- in order, alike ones in their old order -/
def sortD (ds : List Dt) : List Dt := ds.mergeSort (PySem.W.dataLe false fun d => d)
def rSortedD (K : PySem.W.Frag) : List V → Hp → VK → Prop := fun vs H Q => ∃ (a : Addr) (xs : List V) (ds : List Dt) (R : V → Dt → Prop), vs = [.ref a] ∧ SqL K H a xs ∧ Paired R xs ds ∧ (∀ x d, R x d → Dp K H x d) ∧ PySem.W.AllAlike ds ∧ PySem.W.Sortable ds ∧ (∀ d ∈ ds, d.depth ≤ 60) ∧ ∀ ys p, Paired R ys (sortD ds) → H p = none → Q (.ref p) (upd H p (.lst ys))
theorem each_two {R : V → Dt → Prop} : ∀ {xs : List V} {us : List Value} {ds : List Dt}, Vals xs us → Paired R xs ds → PySem.W.EachIs (fun v d => ∃ x, RelV x v ∧ R x d) us ds
  | [], _, _, .nil, .nil => .nil
  | _ :: _, _, _, .cons r t, .cons r2 t2 => .cons ⟨_, r, r2⟩ (each_two t t2)
theorem two_each {R : V → Dt → Prop} : ∀ {us : List Value} {ds : List Dt}, PySem.W.EachIs (fun v d => ∃ x, RelV x v ∧ R x d) us ds → ∃ xs, Vals xs us ∧ Paired R xs ds
  | _, _, .nil => ⟨[], .nil, .nil⟩
  | _, _, .cons ⟨x, h1, h2⟩ t => by
    obtain ⟨xs, h3, h4⟩ := two_each t
    exact ⟨x :: xs, .cons h1 h3, .cons h2 h4⟩
section
variable {X : Cx}
theorem cr_sortedD (hu : X.A.units + 64 < cLine) : CallR X (.builtin "sorted") (rSortedD X.K) := by
  intro pins s σ H vs us Q I r h
  obtain ⟨a, xs, ds, R, rfl, hs, hp, hd, hal, hk, hdep, q⟩ := h
  obtain ⟨its, rv, hl, hz⟩ := I.list hs
  obtain ⟨u, rfl, ru⟩ := vals1 r
  obtain rfl : u = Value.ref a := ru
  have e := each_two rv hp
  have er : PySem.W.EachIs (fun v d => ∃ as, Reads s.heap v ((fun d : Dt => d) d) as) its ds := e.mono fun v d ⟨x, h1, h2⟩ => Dp.reads I d x v (hd _ _ h2) h1
  have hid : ds.map (fun d : Dt => d) = ds := List.map_id' ds
  refine PySem.W.sorted_data (enc := fun d : Dt => d) hl.isList e er (by rw [hid]; exact hal) (by rw [hid]; exact hk) (by rw [← e.length, ← rv.length]; exact hz) (fun d hm => by have := hdep d hm; show _ + 2 + d.depth < _; omega) fun out ho eo => ?_
  obtain ⟨ys, h1, h2⟩ := two_each eo
  obtain ⟨n, hn⟩ := sortedAll_at s.heap its out.toArray
  have hd' : s.heap.objs.size ≤ s.heap.objs.size + 1 := Nat.le_succ _
  refine ⟨.ref _, upd H _ (.lst ys), I.laid (t' := s.toks) (fun b o z => sortedAll_old z) hd' ⟨?_, out, n, h1, hn⟩, rfl, q _ _ h2 (I.hok.fresh hd')⟩
  rw [h1.length, ho, ← e.length, ← rv.length]
  exact hz
end
def fSortD : DC := fun ss M k => match ss with
  | [s] => ∃ ds : List Dt, IsL M s (ds.map .dat) ∧ ds.length ≤ 16777216 ∧ PySem.W.AllAlike ds ∧ PySem.W.Sortable ds ∧ (∀ d ∈ ds, d.depth ≤ 60) ∧ ∀ p, M p = none → k (.own p) (put M p (.lst ((sortD ds).map .dat)))
  | _ => False
theorem dps_pair {H : Hp} : ∀ {ds : List Dt} {vs : List V}, DqAll H vs ds → Paired (Dq H) vs ds
  | [], _, .nil => .nil
  | _ :: _, _, .cons r t => .cons r (dps_pair t)
theorem pair_dps {H : Hp} : ∀ {ds : List Dt} {vs : List V}, Paired (Dq H) vs ds → DqAll H vs ds
  | [], _, .nil => .nil
  | _ :: _, _, .cons r t => .cons r (pair_dps t)
theorem sortD_len (ds : List Dt) : (sortD ds).length = ds.length := List.length_mergeSort ds
theorem sim_sortD {K : PySem.W.Frag} : SimC (rSortedD K) fSortD := by
  intro ss M k xs H Hc Q h r O q
  unfold fSortD at h
  split at h
  · obtain ⟨x, rfl, rx⟩ := rps1 r
    obtain ⟨ds, l, hz, hal, hk, hdep, h⟩ := h
    obtain ⟨a, vs, rfl, g1, g2⟩ := l.at_ O rx
    refine ⟨a, vs, ds, Dq H, rfl, SqL.of g1, dps_pair (rps_dat g2), fun x d hx => dq_dp (dp_ex O.ex hx), hal, hk, hdep, fun ys p hy hp => ?_⟩
    exact q.own O (dat_rps (pair_dps hy)) (by rw [List.length_map, sortD_len, sizeLine_eq]; exact hz) hp (h p (O.freeM hp))
  · exact h.elim
/-! ### in, of whole numbers; a list so many times -/
def fInI (neg : Bool) : D2 := fun s t M k => ∃ (i : Int) (ns : List Int), s = .dat (.int i) ∧ IsL M t (ns.map fun n => .dat (.int n)) ∧ k (.dat (.bool (if neg = true then !decide (i ∈ ns) else decide (i ∈ ns)))) M
theorem inV_ints (i : Int) : ∀ ns : List Int, inV (.int i) (ns.map V.int) = decide (i ∈ ns)
  | [] => rfl
  | n :: ns => by
    show ((n == i) || inV (.int i) (ns.map V.int)) = decide (i ∈ n :: ns)
    rw [inV_ints i ns]
    by_cases e : n = i
    · subst e
      simp
    · have e2 : ¬ i = n := fun z => e z.symm
      simp [e, e2]
theorem flat_ints : ∀ ns : List Int, (ns.map V.int).all flatV = true
  | [] => rfl
  | n :: ns => by
    show (flatV (.int n) && (ns.map V.int).all flatV) = true
    rw [flat_ints ns] <;> rfl
theorem sim_inI {K : PySem.W.Frag} (neg : Bool) : Sim2 (rIn K neg) (fInI neg) := by
  intro s t M k x y H Hc Q h rx ry O q
  obtain ⟨i, ns, rfl, l, h⟩ := h
  obtain ⟨a, vs, rfl, g1, g2⟩ := l.at_ O ry
  rw [rps_ints g2] at g1
  refine ⟨a, _, rfl, .inl (SqL.of g1), by rw [dp_int_inv rx] <;> rfl, flat_ints ns, ?_⟩
  rw [dp_int_inv rx, inV_ints]
  exact q _ (.dat (.bool _)) M H Hc (Ex.refl H) O (Dq.bl _) h
def fRep : D2 := fun s t M k => ∃ (xs : List Sl) (n : Int), IsL M s xs ∧ t = .dat (.int n) ∧ 0 ≤ n ∧ n < 16777216 ∧ xs.length * n.toNat ≤ 16777216 ∧ ∀ p, M p = none → k (.own p) (put M p (.lst (List.replicate n.toNat xs).flatten))
theorem rps_rep {H : Hp} {ss : List Sl} {vs : List V} (h : Rps H ss vs) : ∀ n : Nat, Rps H (List.replicate n ss).flatten (List.replicate n vs).flatten
  | 0 => .nil
  | n + 1 => rps_app h (rps_rep h n)
theorem flat_len {α : Type} (xs : List α) : ∀ n : Nat, (List.replicate n xs).flatten.length = xs.length * n
  | 0 => rfl
  | n + 1 => by
    rw [List.replicate_succ, List.flatten_cons, List.length_append, flat_len xs n, Nat.mul_succ, Nat.add_comm]
theorem sim_rep : Sim2 rRep fRep := by
  intro s t M k x y H Hc Q h rx ry O q
  obtain ⟨xs, n, l, rfl, h0, h1, hz, h⟩ := h
  obtain ⟨a, vs, rfl, g1, g2⟩ := l.at_ O rx
  refine ⟨a, n, vs, rfl, dp_int_inv ry, g1, by omega, by omega, by rw [rps_len g2, sizeLine_eq]; exact hz, fun p hp => ?_⟩
  exact q.own O (rps_rep g2 _) (by rw [flat_len, sizeLine_eq]; exact hz) hp (h p (O.freeM hp))
end DL
namespace DL
open PySem PySem.Spec PyProof.Rows L2
open Evl (Ex)
section
variable {X : Cx} {e : Expr} {da : DA} {d1 : DS} {pos : Pos} {body : List Stmt}
/-- for (i, x) in enumerate(a list of data) -/
def dForE (da : DA) (g : DG) (tb : DS) : DS := fun D Γ M => da Γ M fun ss M1 => ∃ (ds : List Dt) (s : Sl), ss = [s] ∧ IsL M1 s (ds.map .dat) ∧ ∃ Inv : Nat → Fm → Mem → Prop, Inv 0 Γ M1 ∧ (∀ i Γ' M', i ≤ ds.length → Inv i Γ' M' → IsL M' s (ds.map .dat)) ∧
  (∀ (i : Nat) d Γ' M', ds[i]? = some d → Inv i Γ' M' → g (.dat (.tuple [.int (i : Int), d])) Γ' M' fun Γ2 M2 => tb { D with nx := Inv (i + 1), ct := Inv (i + 1), bk := D.nx } Γ2 M2) ∧ ∀ Γ' M', Inv ds.length Γ' M' → D.nx Γ' M'
theorem sim_forE {K : PySem.W.Frag} {ta : TA} {g : DG} {tb : TS} (h : SimA ta da) (hb : SimS tb d1) : SimS (tFor (iEnum K ta) (LG g) tb) (dForE da g d1) := fun Γ M D σ H Hc E hd F O q => by
  refine h Γ M _ σ H Hc _ hd F O fun ws ss M1 H1 Hc1 e1 O1 r1 h1 => ?_
  obtain ⟨ds, s, rfl, l, W, w0, wl, ws', wd⟩ := h1
  obtain ⟨v, rfl, rv⟩ := rps1 r1
  obtain ⟨a, vs, rfl, g1, g2⟩ := l.at_ O1 rv
  refine ⟨a, vs, rfl, SqL.of g1, fun i m σ' Hc' => m = ds.length - i ∧ i ≤ ds.length ∧ ∃ Γ' M' H', Ex H1 H' ∧ Fr H' σ' Γ' ∧ Own H' Hc' M' ∧ W i Γ' M', ⟨_, rfl, Nat.zero_le _, Γ, M1, H1, Ex.refl _, F.ex e1, O1, w0⟩, ?_⟩
  rintro i m σ' Hc' ⟨rfl, hi, Γ', M', H', e2, F2, O2, w⟩
  obtain ⟨a', vs', e3, g3, g4⟩ := (wl i Γ' M' hi w).at_ O2 (rp_ex e2 rv)
  cases e3
  have hl := rps_len g4
  rw [List.length_map] at hl
  rcases Nat.lt_or_ge i ds.length with hlt | hge
  · obtain ⟨x0, hx0⟩ : ∃ x0, vs'[i]? = some x0 := ⟨vs'[i]'(by omega), List.getElem?_eq_getElem (by omega)⟩
    obtain ⟨d, hd, rx⟩ := dps_get (rps_dat g4) hx0
    refine .inr ⟨⟨vs', x0, SqL.of g3, hx0⟩, fun σ2 Hc2 => ∃ Γ2 M2 H2, Ex H1 H2 ∧ Fr H2 σ2 Γ2 ∧ Own H2 Hc2 M2 ∧ W (i + 1) Γ2 M2, fun σ2 Hc2 z => ⟨ds.length - (i + 1), by omega, rfl, by omega, z⟩, fun x Hy y => ?_⟩
    obtain ⟨T, x, rfl, hT, rfl, y⟩ := y
    have ex : x = x0 := Option.some.inj ((y vs' (SqL.of g3)).symm.trans hx0)
    subst ex
    obtain ⟨O3, e3⟩ := O2.grow (o := .tup [.int ((i : Nat) : Int), x]) hT
    refine ⟨.dat (.tuple [.int (i : Int), d]), Γ', M', _, _, ws' i d Γ' M' hd w, .tup upd_same (.cons (.int _) (.cons (dp_ex e3 rx) .nil)), F2.ex e3, O3, fun σ2 Γ2 M2 H2 Hc2 e4 F3 O4 h3 => ?_⟩
    refine hb Γ2 M2 _ σ2 H2 Hc2 _ h3 F3 O4 ((q.ex (e1.trans (e2.trans (e3.trans e4)))).loop fun σ4 Γ4 M4 H4 Hc4 e5 F4 O5 h4 => ?_)
    exact ⟨Γ4, M4, H4, e2.trans (e3.trans (e4.trans e5)), F4, O5, h4⟩
  · have ei : i = ds.length := Nat.le_antisymm hi hge
    subst ei
    exact .inl ⟨⟨vs', SqL.of g3, by omega⟩, q.nx σ' Γ' M' H' Hc' (e1.trans e2) F2 O2 (wd Γ' M' w)⟩
theorem xs_forE {tg : Expr} {g : DG} (h : PS X (.For tg e body [] pos) (tFor (iEnum X.K (LA da)) (LG g) (LS d1))) : XS X (.For tg e body [] pos) (dForE da g d1) := xs_of h (sim_forE simLA simLS)
end
end DL
namespace DL
open PySem PySem.Spec PyProof.Rows L2
open Evl (Ex)
/-! ### an own exception whose __init__ says super().__init__(a text) and keeps its argument as a field -/
/-- what the written part says of such a class, over ValueError -/
structure SupC (P : Program) (K : PySem.W.Frag) (mg : Str → Option Value) (C : Addr) (f : Str) : Prop where
  T : OexC K C
  no : PySem.W.findIn K (.ref C) f = some none
  ve : PySem.W.subIn K (.ref C) (.type "ValueError") = some true
  self : PySem.W.mroIn K C (.ref C) = some true
  sup : PySem.W.ks_superIn K C C "__init__" = some (some (.builtin "ValueError.__init__"))
  any : PySem.W.nsIn K cStatics "thirdparty.any" = some none
  gsup : mg "super" = none
  top : (P.main.scope.names.lookup ("super" : Str)).isSome = false
  fn : ∃ (fI cda cc : Addr) (nm qual : Str) (params : Arguments) (scope : Scope) (dV kV doc pm ct oc ccl cl : Value) (an od cdd cld : Option Addr) (osl ccs csl : Array (Option Value)) (vs : Array Value) (file m : Str) (tf : Tok) (j : Nat) (ar : Arg) (p0 p1 p2 p3 p4 p5 p6 p7 p8 p9 : Pos),
    PySem.W.findIn K (.ref C) "__init__" = some (some (.ref fI)) ∧ PySem.W.typeIn K (.ref fI) = some (.type "function") ∧
    K.lookup fI = some ⟨oc, od, .func (PySem.W.ksFn nm qual params [.Expr (.Call (.Attribute (.Call (.Name "super" p0) [] [] p1) "__init__" p2) [.Constant (.str m) j p3] [] p4) p5, .Assign [.Attribute (.Name "self" p6) f p7] (.Name f p8) p9] scope dV kV doc pm an (.ref cda) ct cc), osl⟩ ∧
    PySem.W.codeIn K (.ref cda) qual = true ∧ K.lookup cda = some ⟨ccl, cdd, .fields vs, ccs⟩ ∧ vs[2]? = some (.str file tf) ∧ ((P.main.file : Str) == file) = true ∧ K.lookup cc = some ⟨cl, cld, .cell (some (.ref C)), csl⟩ ∧
    (params.posonlyargs ++ params.args).head? = some ar ∧ ar.arg = "self" ∧ scope.names.lookup ("super" : Str) = some .globalImplicit ∧ scope.names.lookup ("__class__" : Str) = some .free ∧ scope.names.lookup ("self" : Str) = some .local ∧ scope.names.lookup f = some .local ∧
    (∀ x ∈ scope.names, x.2 ≠ .cell) ∧ scope.kind = .function ∧ scope.isCoroutine = false ∧ scope.isGenerator = false ∧
    (∀ (s : Shared) (u v : Value), BindsTo s (PySem.W.ksFn nm qual params [.Expr (.Call (.Attribute (.Call (.Name "super" p0) [] [] p1) "__init__" p2) [.Constant (.str m) j p3] [] p4) p5, .Assign [.Attribute (.Name "self" p6) f p7] (.Name f p8) p9] scope dV kV doc pm an (.ref cda) ct cc) ⟨[u, v], []⟩ [("self", u), (f, v)]) ∧
    f ≠ "self" ∧ (f == ("__debug__" : Str)) = false ∧
    (∀ env : Env, ∃ pl : Sem Bool, eval (.Call (.Attribute (.Call (.Name "super" p0) [] [] p1) "__init__" p2) [.Constant (.str m) j p3] [] p4) env = (do
      let ov ← attributeBase (.Call (.Name "super" p0) [] [] p1) "__init__" env (eval (.Call (.Name "super" p0) [] [] p1) env)
      standAt p2.atName
      let (f, first) ← holding [ov] (getMethod ov "__init__" pl)
      callWith p4 f first (backTo p4 (starEach [.Constant (.str m) j p3] env)) [])) ∧
    (∀ env : Env, swapsWith (.Call (.Attribute (.Call (.Name "super" p0) [] [] p1) "__init__" p2) [.Constant (.str m) j p3] [] p4) none p5.line env = pure false) ∧
    (∀ env : Env, swapsWith (.Name f p8) (some (.Attribute (.Name "self" p6) f p7)) p9.line env = pure false)
section
variable {X : Cx} {pins : List (Addr × Obj)} {σ : L2.St} {H : Hp} {s : Shared} {C : Addr} {f : Str}
/-- two new objects are tracked -/
theorem inv_two {h' : Heap} {a d : Addr} {o u : HO} {t' : Nat} (I : L2.Inv X pins σ H s) (k : ∀ b ob, s.heap.get? b = some ob → h'.get? b = some ob) (ha : s.heap.objs.size ≤ a) (hd : s.heap.objs.size ≤ d)
    (new : ObjOk X.prog X.w (upd (upd H d u) a o) h' a o) (new2 : ObjOk X.prog X.w (upd (upd H d u) a o) h' d u) : L2.Inv X pins σ (upd (upd H d u) a o) { s with heap := h', toks := t' } := by
  have na : H a = none := I.hok.fresh ha
  have nd : H d = none := I.hok.fresh hd
  have la : ∀ {b : Addr} {ob : Obj}, s.heap.get? b = some ob → b ≠ a := fun {b ob} e => Nat.ne_of_lt (Nat.lt_of_lt_of_le (Heap.lt_size e) ha)
  have ld : ∀ {b : Addr} {ob : Obj}, s.heap.get? b = some ob → b ≠ d := fun {b ob} e => Nat.ne_of_lt (Nat.lt_of_lt_of_le (Heap.lt_size e) hd)
  refine I.un ⟨fun b ob e _ _ _ => k b ob e, fun b ob e _ _ _ => ⟨ob.slots, k b ob e⟩, fun b ob e n _ => by rw [upd_ne (la e), upd_ne (ld e)]; exact n, fun b ob e _ => ⟨ob, k b ob e⟩, fun b xs e => ?_, fun b ob x e => ?_, fun b ps e => ⟨#[], ?_⟩⟩ fun b w e => ?_
  · rw [upd_ne (ne_of_none e na), upd_ne (ne_of_none e nd)]; exact e
  · rw [upd_ne (ne_of_none e na), upd_ne (ne_of_none e nd)]; exact e
  · rw [upd_ne (ne_of_none e na), upd_ne (ne_of_none e nd), e]; simp
  · by_cases hb : b = a
    · subst hb
      rw [upd_same] at e
      cases e
      exact new
    · rw [upd_ne hb] at e
      by_cases hbd : b = d
      · subst hbd
        rw [upd_same] at e
        cases e
        exact new2
      · rw [upd_ne hbd] at e
        exact (I.hok b w e).stay (fun c v _ q => k c v q) (fun c q => by rw [upd_ne (ne_of_none q na), upd_ne (ne_of_none q nd)]; exact q) fun c xs q => by rw [upd_ne (ne_of_none q na), upd_ne (ne_of_none q nd)]; exact q
/-- ValueError.__init__ bound to an exception, called: its args are laid anew -/
theorem mw_call {prog : Program} {w : World} {A : Around} {E : Value → Shared → Prop} {hp : Heap} {g : Array GenState} {dr : Drawn} {tk : Nat} {os : OsState} {nm q : Str} {C N e u t0 : Addr} {bs bm : List Value} {hdct : Bool} {sn : List Str} {sub : List Value} {ab : Bool} {col : Option Bool} {dd : Option Addr} {k0 k1 k2 k3 k5 : Option Value} {rest : List Value} {Q : Value → Shared → Prop}
    (hC : hp.get? C = some (excClassObj nm q C N bs bm hdct sn sub ab col dd k0 k1 k2 k3 k5 "ValueError.__new__")) (he : hp.get? e = some (PySem.HandSPX.excO C t0)) (hu : hp.get? u = some (PySem.W.kxs_mw "ValueError.__init__" e)) (hz : rest.length ≤ sizeLine)
    (hq : ∀ h' t1, (∀ b o, b ≠ e → hp.get? b = some o → h'.get? b = some o) → h'.get? e = some (PySem.HandSPX.excO C t1) → Q .none ⟨h', g, dr, tk, os⟩) :
    wpAny (model prog w) A (call (.ref u) rest) Q E ⟨hp, g, dr, tk, os⟩ := by
  refine wpAny_call (codeAny_of_tree ?_)
  show wpAny _ A.in1 (callAny (.ref u) ⟨rest, []⟩) _ _ _
  unfold callAny
  refine wpAny_bind (wpAny_load hu ?_)
  have c1 : (Value.type "method-wrapper" == Value.type "method" || Value.type "method-wrapper" == Value.type "builtin_function_or_method" || Value.type "method-wrapper" == Value.type "method-wrapper") = true := by decide
  simp only [PySem.W.kxs_mw, c1, if_true]
  refine PySem.W.KFB.if_so (by decide) (wpAny_bind (PySem.W.check_bound_init F.excBase_ValueError.toExcCallFacts hC he rfl (wpAny_bind (wpAny_pure (wpAny_pure ?_)))))
  refine ⟨plainId_quiet F.excBase_ValueError.init.plain _, codeAny_builtin F.excBase_ValueError.initEntry ?_⟩
  exact PySem.W.exc_init_tree (cls := .ref C) (t0 := t0) (dv := none) (c2 := .none) (c3 := .none) (b4 := .bool false) he hz fun h' k1 k2 _ => hq h' _ k1 k2
theorem ns_at {h h' : Heap} {a : Addr} {m : Str → Option Value} (hn : h.Ns a m) (k : ∀ o, h.get? a = some o → h'.get? a = some o) : h'.Ns a m := by
  obtain ⟨o, es, ep, ho, r⟩ := hn
  exact ⟨o, es, ep, k o ho, r⟩
/-- the class called with its field's value -/
theorem mk_sup (S : SupC X.prog X.K X.mg C f) (hr : Room 2 X.A) (I : L2.Inv X pins σ H s) {u : Value} {Q : Value → Shared → Prop} {E : Value → Shared → Prop}
    (h : ∀ h' tk a d, (∀ b o, s.heap.get? b = some o → h'.get? b = some o) → s.heap.objs.size ≤ a → s.heap.objs.size ≤ d → d ≠ a → Kx a C (some d) h' → (∃ oe vs, h'.get? a = some oe ∧ oe.data = .fields vs ∧ vs[1]? = some .none) →
      h'.Ns1 d (fun y => if y = f then some u else none) → Q (.ref a) { s with heap := h', toks := tk }) :
    wpAny (model X.prog X.w) X.A (call (.ref C) [u]) Q E s := by
  obtain ⟨cnm, cq, N, bs, bm, sn, sub, ab, col, dd, k0, k1, k2, k3, k5, hC, hbm⟩ := S.T.cls
  obtain ⟨fI, cda, cc, nm, qual, params, scope, dV, kV, doc, pm, ct, oc, ccl, cl, an, od, cdd, cld, osl, ccs, csl, vs, file, m, tf, j, ar, p0, p1, p2, p3, p4, p5, p6, p7, p8, p9, iC, tI, lf, hcd, lcda, hvs, hfile, lcc, hpar, har, ks1, ks2, ks3, ks4, hcell, hkind, hco, hgen, hb, hne, hdb, hev, hsw1, hsw2⟩ := S.fn
  obtain ⟨mb, hmb1, hmb2⟩ := I.mod.blt
  have bk := I.bk
  have lim : s.heap.NoLimit := I.mod.nolimit.keeps bk
  have gl : s.heap.Ns mainGlobals X.mg := I.mod.glob.keeps bk
  have bl : s.heap.Ns builtinsNs mb := hmb1.keeps bk
  have kin := I.kIn
  obtain ⟨hp, g, dr, tk, os⟩ := s
  have hsz : hp.objs.size ≤ hp.objs.size + 1 := Nat.le_succ _
  refine wpAny_call (PySem.HandSPX.call_own F.excBase_ValueError (fun Y => PySem.HandSPX.refsVE_contains Y bm hbm) (kin _ _ hC) (PySem.W.looks_findIn kin iC) (fun self => PySem.W.bind_fn kin self tI) (by show 1 ≤ sizeLine; rw [sizeLine_eq]; omega) ?_)
  have kk : ∀ b o, hp.get? b = some o → ((hp.push (PySem.W.kdv_tup [u])).push (PySem.HandSPX.excO C hp.objs.size)).get? b = some o := fun b o e => Heap.get?_push_of_some _ (Heap.get?_push_of_some _ e)
  have hget : ((hp.push (PySem.W.kdv_tup [u])).push (PySem.HandSPX.excO C hp.objs.size)).get? (hp.objs.size + 1) = some (PySem.HandSPX.excO C hp.objs.size) := by heap_get
  have K2 := kin.keeps kk
  refine ks_codeAny_call_defAt (binds := [("self", .ref (hp.objs.size + 1)), (f, u)]) (hr.make C [u] []).depth (K2 _ _ lf) rfl (lim.keeps kk) (PySem.W.codeRec_of K2 hcd) rfl (hb _ _ _) hcell (fun x hx => ?_) (fun h0 hns h0k => ?_) hco hgen hkind
  · rcases List.mem_cons.mp hx with e | hx
    · rw [e]; exact ks3
    · rw [List.mem_singleton.mp hx]; exact ks4
  have k0 : ∀ b o, hp.get? b = some o → h0.get? b = some o := fun b o e => h0k b o (kk b o e)
  have K0 := kin.keeps k0
  have he0 := h0k _ _ hget
  have hself : (fun x => ([("self", Value.ref (hp.objs.size + 1)), (f, u)] : List (Str × Value)).reverse.lookup x) "self" = some (.ref (hp.objs.size + 1)) := by
    show List.lookup ("self" : Str) [(f, u), ("self", Value.ref (hp.objs.size + 1))] = _
    have e1 : (("self" : Str) == f) = false := by simpa using fun e => hne e.symm
    simp [List.lookup, e1]
  have hfu : (fun x => ([("self", Value.ref (hp.objs.size + 1)), (f, u)] : List (Str × Value)).reverse.lookup x) f = some u := by
    show List.lookup f [(f, u), ("self", Value.ref (hp.objs.size + 1))] = _
    simp [List.lookup]
  have hL : ((hp.push (PySem.W.kdv_tup [u])).push (PySem.HandSPX.excO C hp.objs.size)).objs.size ≠ hp.objs.size + 1 := by
    rw [Heap.size_push, Heap.size_push]
    omega
  obtain ⟨pl, hevE⟩ := hev (callEnv (PySem.W.ksFn nm qual params [.Expr (.Call (.Attribute (.Call (.Name "super" p0) [] [] p1) "__init__" p2) [.Constant (.str m) j p3] [] p4) p5, .Assign [.Attribute (.Name "self" p6) f p7] (.Name f p8) p9] scope dV kV doc pm an (.ref cda) ct cc) ((hp.push (PySem.W.kdv_tup [u])).push (PySem.HandSPX.excO C hp.objs.size)).objs.size fI)
  have hint : interactive (callEnv (PySem.W.ksFn nm qual params [.Expr (.Call (.Attribute (.Call (.Name "super" p0) [] [] p1) "__init__" p2) [.Constant (.str m) j p3] [] p4) p5, .Assign [.Attribute (.Name "self" p6) f p7] (.Name f p8) p9] scope dV kV doc pm an (.ref cda) ct cc) ((hp.push (PySem.W.kdv_tup [u])).push (PySem.HandSPX.excO C hp.objs.size)).objs.size fI) = false := by
    unfold interactive
    show (scope.kind == .module && _) = false
    rw [hkind]
    rfl
  refine ks_wpAt_execs_cons (ks_wpAt_Expr_any (ks_wpAt_MethodCall (ks_wpAt_super_base ks1 ks2 (by decide) rfl (K0 _ _ lf) rfl hpar rfl (K0 _ _ lcda) rfl hvs hfile S.top ?_) hevE) hint (hsw1 _))
  refine PySem.W.ks_loadName_global hkind ks1 (Calls.loadGlobal_builtin (gl.keeps k0) S.gsup (bl.keeps k0) ((hmb2 "super" (by decide)).trans Boot.«super») ⟨rfl, ?_⟩)
  refine wpAny_loadName_free hkind ks2 rfl ⟨_, K0 _ _ lcc, rfl⟩ ?_
  rw [har]
  refine wpAny_loadName_local hkind ks3 hns hself ?_
  refine ks_wpAny_isType_cls (K0 _ _ hC) rfl ⟨rfl, ?_⟩
  refine ks_wpAny_call_super (K0 _ _ hC) rfl he0 rfl (fun c z => nomatch z) (PySem.W.looks_mroIn K0 S.self) (fun h1 so1 k1 => ?_)
  have K1 := K0.keeps k1
  have he1 := k1 _ _ he0
  have hns1 : h1.Ns ((hp.push (PySem.W.kdv_tup [u])).push (PySem.HandSPX.excO C hp.objs.size)).objs.size _ := ns_at hns fun o e => k1 _ _ e
  have hcl : PySem.W.clsIn X.K C = some { name := cnm, bases := bs, mro := .ref C :: bm, ns := N, qualname := cq, hasDict := true, slotNames := sn, subclasses := sub, abstract := ab, collection := col, hasDel := false } := by
    unfold PySem.W.clsIn
    rw [hC] <;> rfl
  have I1 : PySem.W.InstAt h1 (hp.objs.size + 1) (PySem.HandSPX.excO C hp.objs.size) C none := ⟨he1, rfl, rfl, trivial⟩
  have hm : PySem.W.alongIn X.K "__init__" (((Value.ref C :: bm).dropWhile (· != .ref C)).drop 1) = some (some (.builtin "ValueError.__init__")) := by
    have z := S.sup
    unfold PySem.W.ks_superIn at z
    rw [hcl] at z
    exact z
  refine PySem.W.kxs_getMethod PySem.W.kxs_ValueError so1 (PySem.W.looks_opaque K1 S.any) (l₀ := .ref C :: bm) ((PySem.W.looks_clsIn K1 hcl).andThen .now) rfl K1 hm (I1.type.andThen (PySem.W.looks_subIn K1 S.ve)) (PySem.W.ks_ne K1 I1 hcl) (by decide) ?_
  have u1 : ∀ b o, h1.get? b = some o → (h1.push (PySem.W.kxs_mw "ValueError.__init__" (hp.objs.size + 1))).get? b = some o := fun b o e => Heap.get?_push_of_some _ e
  have hu1 : (h1.push (PySem.W.kxs_mw "ValueError.__init__" (hp.objs.size + 1))).get? h1.objs.size = some (PySem.W.kxs_mw "ValueError.__init__" (hp.objs.size + 1)) := Heap.get?_push_at rfl rfl
  refine PySem.W.kxs_callWith (i := "ValueError.__init__") (x := hp.objs.size + 1) rfl (Calls.evalArgs_plain (Calls.spliced_cons (Calls.Constant_str (x := m) (k := j) (pos := p3) (Calls.spliced_nil ⟨hu1, ?_⟩))))
  refine mw_call (K1.keeps u1 _ _ hC) (u1 _ _ he1) hu1 (by show 1 ≤ sizeLine; rw [sizeLine_eq]; omega) fun h2 t1 k2 he2 => ?_
  have hns2 : h2.Ns ((hp.push (PySem.W.kdv_tup [u])).push (PySem.HandSPX.excO C hp.objs.size)).objs.size _ := ns_at hns1 fun o e => k2 _ _ hL (u1 _ _ e)
  have kp2 : ∀ b o, hp.get? b = some o → h2.get? b = some o := fun b o e => k2 b o (Nat.ne_of_lt (Nat.lt_succ_of_lt (Heap.lt_size e))) (u1 _ _ (k1 _ _ (k0 _ _ e)))
  have K2' := kin.keeps kp2
  show PySem.wpAt _ _ _ (execs _ _) _ _ _
  refine ks_wpAt_execs_cons (ks_wpAt_Assign_Attr ?_ (hsw2 _))
  refine PySem.wpAt_of_wpAny ?_
  refine wpAny_Name (wpAny_loadName_local (by exact hkind) (by exact ks4) hns2 hfu ?_) hdb
  refine wpAny_Name (wpAny_loadName_local (by exact hkind) (by exact ks3) hns2 hself ?_) (by decide)
  refine PySem.W.set_plain K2' (ox := PySem.HandSPX.excO C t1) (od := none) ⟨he2, rfl, rfl, trivial⟩ S.T.sa ?_
  refine PySem.HandSPX.exc_osa K2' he2 hcl (show PySem.HandSPX.refsVE (.ref C :: bm) = true from hbm) rfl S.no (fun h3 tk3 dx k3 dn dne hx hn => ?_)
  have sz2 : hp.objs.size ≤ h2.objs.size := Nat.le_of_lt (Nat.lt_of_succ_lt (Heap.lt_size he2))
  refine PySem.wpAt_of_wpAny (wpAny_execs_nil ⟨rfl, ?_⟩)
  exact h h3 tk3 (hp.objs.size + 1) dx (fun b o e => k3 b o (Nat.ne_of_lt (Nat.lt_succ_of_lt (Heap.lt_size e))) (kp2 b o e)) hsz (Nat.le_trans sz2 dn) dne ⟨_, _, hx, ⟨rfl, rfl⟩, rfl⟩ ⟨_, _, hx, rfl, rfl⟩ hn
end
end DL
namespace DL
open PySem PySem.Spec PyProof.Rows L2
open Evl (Ex)
/-! ### exceptions: wishes -/
/-- the class, its fields, what is ours -/
abbrev DX := Addr → List (Str × Dt) → Mem → Prop
/-- what is known where an exception leaves: H0 stood still at the entry, G0 the frame (where it is asked for) -/
def Wof (H0 : Hp) (G0 : Option Fm) (kx : DX) (cls : Value) (d : Option Addr) (σ : L2.St) (Hc : Hp) : Prop :=
  ∃ C fs M' H', cls = .ref C ∧ Ex H0 H' ∧ (∀ Γ0, G0 = some Γ0 → Fr H' σ Γ0) ∧ Own H' Hc M' ∧ FsAt H' d fs ∧ kx C fs M'
theorem Wof.ex {H0 H1 : Hp} {kx : DX} {cls : Value} {d : Option Addr} {σ : L2.St} {Hc : Hp} (e : Ex H0 H1) (h : Wof H1 none kx cls d σ Hc) : Wof H0 none kx cls d σ Hc := by
  obtain ⟨C, fs, M', H', h1, h2, _, r⟩ := h
  exact ⟨C, fs, M', H', h1, e.trans h2, fun _ z => (nomatch z), r⟩
/-- the frame is the one that is asked for -/
def At0 (G0 : Option Fm) (Γ : Fm) : Prop := match G0 with
  | none => True
  | some Γ0 => Γ0 = Γ
/-- a promise that may be broken by an exception -/
abbrev PrX := List Sl → Mem → DK → DX → Prop
structure HoldsX (P : Program) (w : World) (K : PySem.W.Frag) (mg : Str → Option Value) (base : Heap) (k : Nat) (f : Addr) (fd : FuncData) (ps : List Str) (pr : PrX) : Prop where
  len : ∀ ss M q kx, pr ss M q kx → ss.length = ps.length
  go : ∀ (A : Around) (outer : List Env) (s : Shared) (Hc : Hp) (args : Args) (us : List Value) (vs : List V) (ss : List Sl) (M : Mem) (H : Hp) (q : DK) (kx : DX) (Q : VK) (E : XK), Rm k A → Env0 P w K mg base A outer s Hc →
    BindsTo s fd args (ps.zip us) → Vals vs us → Rps H ss vs → Own H Hc M → pr ss M q kx → On H q Q → (∀ cls d σ Hc', Wof H none kx cls d σ Hc' → E cls d Hc') →
    codeAny (model P w) A (.call (.ref f) args) (CR (L2.CX P w) outer P w Hc s Q E) s
theorem HoldsX.mono {P : Program} {w : World} {K : PySem.W.Frag} {mg : Str → Option Value} {base : Heap} {j k : Nat} {f : Addr} {fd : FuncData} {ps : List Str} {pr : PrX} (F : HoldsX P w K mg base j f fd ps pr) (h : j ≤ k) : HoldsX P w K mg base k f fd ps pr :=
  ⟨F.len, fun A outer s Hc args us vs ss M H q kx Q E r => F.go A outer s Hc args us vs ss M H q kx Q E (r.mono h)⟩
section
variable {X : Cx} {e : Expr} {es : List Expr} {de : DE} {das : DA} {pos p : Pos} {x : Str} {k : Nat} {f : Addr} {fd : FuncData} {ps : List Str} {pr : PrX}
theorem callX_go {pins : List (Addr × Obj)} {σ : L2.St} {Hc H : Hp} {M : Mem} {s : Shared} {Q : VK} {q : DK} {kx : DX} {W : WX} {us : List Value} {vs : List V} {ss : List Sl} (tk : Takes X W) (F : HoldsX X.prog X.w X.K X.mg X.base k f fd ps pr) (hr : Rm k X.A) (hb : Binds X.K fd ps [])
    (I : L2.Inv X pins σ Hc s) (r : Vals vs us) (rs : Rps H ss vs) (O : Own H Hc M) (h : pr ss M q kx) (on : On H q Q) (hW : ∀ cls d σ' Hc', Wof H none kx cls d σ' Hc' → W cls d σ Hc') : wpAny (model X.prog X.w) X.A (call (.ref f) us) (EP X pins σ Q) X.xe s := by
  have e1 : us.length = ps.length := by rw [← r.length, rps_len rs]; exact F.len _ _ _ _ h
  have e2 : BindsTo s fd ⟨us, []⟩ (ps.zip us) := by
    have z := hb s us I.kIn (by rw [List.append_nil]; exact e1)
    rw [List.append_nil] at z
    exact z
  refine wpAny_call (codeAny_mono (F.go X.A X.stack s Hc ⟨us, []⟩ us vs ss M H q kx Q (WE W σ) hr I.env0 e2 r rs O h on hW) fun res s' hq => ?_)
  cases res with
  | error er => exact passAt tk σ pins Hc s er s' I hq
  | ok fl =>
    cases fl with
    | ret u => exact I.after hq
    | next => exact hq.elim
    | brk => exact hq.elim
    | cont => exact hq.elim
/-- f(..), where f raises nothing -/
def dCallN (pr : PrX) (das : DA) : DE := fun Γ M k => das Γ M fun ss M1 => pr ss M1 k fun _ _ _ => False
theorem run_args {pins : List (Addr × Obj)} {σ : L2.St} {Hc : Hp} {s : Shared} {das : DA} {Γ : Fm} {M : Mem} {H : Hp} {k0 : List Sl → Mem → Prop} (ha : XA X (e :: es) das) (I : L2.Inv X pins σ Hc s) (hd : das Γ M k0) (F' : Fr H σ Γ) (O : Own H Hc M) {R : List Value → Shared → Prop}
    (hR : ∀ us s1 vs ss H1 H2 M1, L2.Inv X pins σ H1 s1 → Vals vs us → Rps H2 ss vs → Own H2 H1 M1 → Ex H H2 → k0 ss M1 → R us s1) :
    wpAny (model X.prog X.w) X.A (spliced (backTo pos (starEach (e :: es) X.env))) R X.xe s := by
  have ha' : PA X (e :: es) (LA das) := ha
  have hR0 : LA das σ Hc fun vs H1 => ∃ ss M1 H2, Rps H2 ss vs ∧ Own H2 H1 M1 ∧ k0 ss M1 ∧ Ex H H2 :=
    ⟨Γ, M, H, k0, hd, F', O, fun vs ss M' H' Hc' e1 O1 r1 h1 => ⟨ss, M', H', r1, O1, h1, e1⟩⟩
  refine thn (ha'.run pos pins s σ Hc _ I hR0) fun us s1 z => ?_
  obtain ⟨vs, H1, I1, r, ss, M1, H2, z1, z2, z3, z4⟩ := z
  exact hR us s1 vs ss H1 H2 M1 I1 r z1 z2 z4 z3
theorem takes_false (X : Cx) : Takes X fun _ _ _ _ => False := fun u s' ⟨_, _, _, _, _, _, _, _, _, _, _, _, _, _, _, _, z⟩ => z.elim
theorem xe_callN (F : HoldsX X.prog X.w X.K X.mg X.base k f fd ps pr) (hr : Rm k X.A) (hm : X.mg x = some (.ref f)) (hk : PySem.W.keepIn X.K (.ref f) = true) (hb : Binds X.K fd ps []) (ha : XA X (e :: es) das) (hg : Gl X x := by rfl)
    (hdb : (x == ("__debug__" : Str)) = false := by decide) (he : starEach (e :: es) X.env = (false, eval e X.env) :: starEach es X.env := by rfl) (hpl : (backTo pos (starEach es X.env)).any (·.1) = false := by rfl) : XE X (.Call (.Name x p) (e :: es) [] pos) (dCallN pr das) := by
  refine ⟨fun pins s σ Hc Q I ⟨Γ, M, H, q, hd, F', O, on⟩ => ?_⟩
  refine wpAny_Call_Name_kw (ld_glob I hg hm ?_ hdb)
  refine PySem.W.callWith_K (h₀ := X.base) I.ok.mod.kin hk (run_args ha I hd F' O fun us s1 vs ss H1 H2 M1 I1 r z1 z2 z4 z3 => ?_) he hpl
  exact ⟨I1.kIn, callX_go (takes_false X) F hr hb I1 r z1 z2 z3 (on.ex z4) fun _ _ _ _ ⟨_, _, _, _, _, _, _, _, _, z⟩ => z⟩
/-- f(..), where f may raise: i the ghost's place -/
def dCallX (i : Nat) (H0 : Hp) (G0 : Option Fm) (kx : DX) (pr : PrX) (das : DA) : DE := fun Γ M k => (Γ[i]? = some (some (.base H0)) ∧ At0 G0 Γ) ∧ das Γ M fun ss M1 => pr ss M1 k kx
/-- exceptions are wished for -/
abbrev Wish (X : Cx) (W : WX) (H0 : Hp) (G0 : Option Fm) (kx : DX) : Prop := Takes X W ∧ ∀ cls d σ Hc', Wof H0 G0 kx cls d σ Hc' → W cls d σ Hc'
theorem wof_at {H0 H H2 : Hp} {G0 : Option Fm} {kx : DX} {Γ : Fm} {σ σ' : L2.St} {cls : Value} {d : Option Addr} {Hc : Hp} (F : Fr H σ Γ) {i : Nat} (hg : Γ[i]? = some (some (.base H0)) ∧ At0 G0 Γ) (e : Ex H H2) (h : Wof H2 none kx cls d σ' Hc) : Wof H0 G0 kx cls d σ Hc := by
  obtain ⟨C, fs, M', H', h1, h2, _, r⟩ := h
  refine ⟨C, fs, M', H', h1, ((F.gh i H0 hg.1).trans e).trans h2, fun Γ0 z => ?_, r⟩
  have a := hg.2
  rw [z] at a
  have a' : Γ0 = Γ := a
  rw [a']
  exact F.ex (e.trans h2)
theorem xe_callX {i : Nat} {H0 : Hp} {G0 : Option Fm} {kx : DX} {W : WX} (wi : Wish X W H0 G0 kx) (F : HoldsX X.prog X.w X.K X.mg X.base k f fd ps pr) (hr : Rm k X.A) (hm : X.mg x = some (.ref f)) (hk : PySem.W.keepIn X.K (.ref f) = true) (hb : Binds X.K fd ps []) (ha : XA X (e :: es) das) (hg : Gl X x := by rfl)
    (hdb : (x == ("__debug__" : Str)) = false := by decide) (he : starEach (e :: es) X.env = (false, eval e X.env) :: starEach es X.env := by rfl) (hpl : (backTo pos (starEach es X.env)).any (·.1) = false := by rfl) : XE X (.Call (.Name x p) (e :: es) [] pos) (dCallX i H0 G0 kx pr das) := by
  refine ⟨fun pins s σ Hc Q I ⟨Γ, M, H, q, ⟨hgh, hd⟩, F', O, on⟩ => ?_⟩
  refine wpAny_Call_Name_kw (ld_glob I hg hm ?_ hdb)
  refine PySem.W.callWith_K (h₀ := X.base) I.ok.mod.kin hk (run_args ha I hd F' O fun us s1 vs ss H1 H2 M1 I1 r z1 z2 z4 z3 => ?_) he hpl
  exact ⟨I1.kIn, callX_go wi.1 F hr hb I1 r z1 z2 z3 (on.ex z4) fun cls d σ' Hc' z => wi.2 cls d σ Hc' (wof_at F' hgh z4 z)⟩
end
/-- a def that may raise -/
def startX (N : List Str) (ss : List Sl) (H0 : Hp) : Fm := startF N ss ++ [some (.base H0)]
theorem fr_startX {H : Hp} {ss : List Sl} {vs : List V} {N : List Str} (r : Rps H ss vs) (hz : ss.length ≤ N.length) : Fr H (L2.start N vs) (startX N ss H) := by
  have F := fr_start N r
  have hl := rps_len r
  have e1 : (L2.start N vs).length = N.length := by unfold L2.start; simp [hl]; omega
  have e2 : (startF N ss).length = N.length := by unfold startF; simp; omega
  refine ⟨by unfold startX; rw [List.length_append, e1, e2]; exact Nat.le_succ _, fun i s hi h => ?_, fun i H0 h => ?_⟩
  · unfold startX at h
    rw [List.getElem?_append_left (by rw [e2]; rw [e1] at hi; exact hi)] at h
    exact F.sl i s hi h
  · unfold startX at h
    by_cases hi : i < (startF N ss).length
    · rw [List.getElem?_append_left hi] at h
      exact F.gh i H0 h
    · rw [List.getElem?_append_right (by omega)] at h
      by_cases h2 : i - (startF N ss).length = 0
      · rw [h2] at h
        cases h
        exact Evl.Ex.refl H
      · rw [List.getElem?_eq_none (by simp; omega)] at h
        cases h
section
variable {P : Program} {w : World} {K : PySem.W.Frag} {mg : Str → Option Value} {base : Heap}
abbrev BdX (P : Program) (w : World) (K : PySem.W.Frag) (mg : Str → Option Value) (base : Heap) (N : List Str) (qual : Str) (st : Stmt) (f : Addr) (cdv : Value) (A : Around) (outer : List Env) (s : Shared) (H : Hp) (E : XK) : Cx :=
  cxOf (L2.CX P w) P w K mg base N qual (defScope st) f cdv A outer s H E
theorem holdsX_of {nm qual : Str} {st : Stmt} {f : Addr} {fd : FuncData} {N ps : List Str} {k : Nat} {pr : PrX} {ds : Hp → DX → DS} (F : Fun K nm qual st f fd) (S : FnScope N ps (defScope st)) (hz : ps.length ≤ N.length) (len : ∀ ss M q kx, pr ss M q kx → ss.length = ps.length)
    (body : ∀ (cdv : Value) (A : Around) (outer : List Env) (s : Shared) (H : Hp) (E : XK) (H0 : Hp) (kx : DX), Rm k (BdX P w K mg base N qual st f cdv A outer s H E).A → Wish (BdX P w K mg base N qual st f cdv A outer s H E) (fun cls d _ Hc => E cls d Hc) H0 none kx →
      XSs (BdX P w K mg base N qual st f cdv A outer s H E) (defBody st) (ds H0 kx))
    (read : ∀ ss M q kx H0, pr ss M q kx → ds H0 kx { nx := fun _ M' => q (.dat .none) M', rt := q } (startX N ss H0) M) : HoldsX P w K mg base (k + 1) f fd ps pr := by
  obtain ⟨oc, od, kV, doc, pm, an, cdv, ct, osl, rfl, lk, hcd⟩ := F.ex
  refine ⟨len, fun A outer s Hc args us vs ss M H q kx Q E hr e0 hb r rs O hp on hE => ?_⟩
  have gu2 : (A.deeper (envOfC qual (defScope st) s.heap.objs.size f cdv)).guards = some [] := hr.gu
  have KX : K.In s.heap := e0.mod.kin.keeps fun b o e => (e0.bs b o e).1
  have lim : s.heap.NoLimit := e0.mod.nolimit.keeps fun b o z => (e0.bs b o z).1
  have hl : vs.length = ps.length := by rw [rps_len rs]; exact len _ _ _ _ hp
  have kinds : ∀ y ∈ ps.zip us, (defScope st).names.lookup y.1 = some .local ∨ ((defScope st).names.lookup y.1 = some .cell ∧ ((cellsFrom (s.heap.objs.size + 1) (defScope st).names []).lookup y.1).isSome = true) := by
    rintro ⟨n, v⟩ hy
    rcases S.par n (List.of_mem_zip hy).1 with z | z
    · exact .inl z
    · exact .inr ⟨z, PySem.W.cellsFrom_some _ _ _ (.inl z)⟩
  refine codeAny_call_function hr.rm.depth (KX _ _ lk) rfl S.co S.gen rfl (PySem.W.codeRec_of KX hcd) (hb _ _ _ _ (wpAny_newFunctionEnv_cells S.kind kinds fun env he s1 z => ?_))
  subst he
  refine ⟨lim.keeps z.toInCall.keep, codeAny_func ?_⟩
  have wi : Wish (BdX P w K mg base N qual st f cdv A outer s Hc E) (fun cls d _ Hc => E cls d Hc) H none kx := ⟨takes_of rfl rfl rfl rfl, hE⟩
  have B := body cdv A outer s Hc E H kx ⟨hr.rm.deeper _, gu2⟩ wi
  have I : L2.Inv (BdX P w K mg base N qual st f cdv A outer s Hc E) [] (L2.start N vs) Hc s1 := inv_start S hr.rm.hd e0 hl r z
  have here : LS (ds H kx) { nx := fun _ H' => Q .non H', rt := Q } (L2.start N vs) Hc := ⟨_, M, H, _, read ss M q kx H hp, fr_startX rs (by rw [len _ _ _ _ hp]; exact hz), O,
    ⟨fun σ' Γ' M' H' Hc' e1 _ O1 h1 => on .non (.dat .none) M' H' Hc' e1 O1 .non h1, on, fun _ _ _ _ _ _ _ _ h1 => h1.elim, fun _ _ _ _ _ _ _ _ h1 => h1.elim⟩⟩
  refine wpAny_mono (B.run [] s1 (L2.start N vs) Hc _ I here) (fun fl s' hs => ?_) fun e s' hs => hs
  match fl, hs with
  | .ret u, ⟨v, _, H', J, rv, h1⟩ => exact ⟨v, H', J.os, J.bare, J.base, J.hok, rv, h1⟩
  | .next, ⟨_, H', J, h1⟩ => exact ⟨.non, H', J.os, J.bare, J.base, J.hok, rfl, h1⟩
  | .brk, ⟨_, _, _, h1⟩ => exact h1.elim
  | .cont, ⟨_, _, _, h1⟩ => exact h1.elim
end
end DL
namespace DL
open PySem PySem.Spec PyProof.Rows L2
open Evl (Ex)
/-! ### exceptions made, raised, asked, caught -/
/-- what the written part says of an own error class -/
structure ErrC (K : PySem.W.Frag) (C : Addr) : Prop where
  cl : (PySem.W.clsIn K C).isSome = true
  hg : PySem.W.findIn K (.ref C) "__getattribute__" = some (some (.builtin "BaseException.__getattribute__"))
  hk : PySem.W.findIn K (.ref C) "__getattr__" = some none
  hs : PySem.W.subIn K (.ref C) (.type "BaseException") = some true
  ha : PySem.W.findIn K (.ref C) "__class__" = some (some (.builtin "object.__class__"))
  hn : PySem.W.specialIn K (.builtin "object.__class__") "__get__" = some (some (.builtin "getset_descriptor.__get__"))
  ht : PySem.W.takesIn K (.builtin "object.__class__") = some true
  hm : PySem.W.mroIn K C (.type "object") = some true
  hd : PySem.W.hasDictIn K C = true
  ty : PySem.W.typeIn K (.ref C) = some (.type "type")
  kC : PySem.W.keepIn K (.ref C) = true
def errB (K : PySem.W.Frag) (C : Addr) : Bool :=
  (PySem.W.clsIn K C).isSome && (decide (PySem.W.findIn K (.ref C) "__getattribute__" = some (some (.builtin "BaseException.__getattribute__"))) && (decide (PySem.W.findIn K (.ref C) "__getattr__" = some none) && (decide (PySem.W.subIn K (.ref C) (.type "BaseException") = some true) &&
  (decide (PySem.W.findIn K (.ref C) "__class__" = some (some (.builtin "object.__class__"))) && (decide (PySem.W.specialIn K (.builtin "object.__class__") "__get__" = some (some (.builtin "getset_descriptor.__get__"))) && (decide (PySem.W.takesIn K (.builtin "object.__class__") = some true) &&
  (decide (PySem.W.mroIn K C (.type "object") = some true) && (PySem.W.hasDictIn K C && (decide (PySem.W.typeIn K (.ref C) = some (.type "type")) && PySem.W.keepIn K (.ref C))))))))))
theorem errB_ok {K : PySem.W.Frag} {C : Addr} (h : errB K C = true) : ErrC K C := by
  unfold errB at h
  simp only [Bool.and_eq_true, decide_eq_true_eq] at h
  obtain ⟨a1, a2, a3, a4, a5, a6, a7, a8, a9, a10, a11⟩ := h
  exact ⟨a1, a2, a3, a4, a5, a6, a7, a8, a9, a10, a11⟩
theorem ErrC.raises {X : Cx} {C : Addr} (h : ErrC X.K C) : Raises X (.ref C) := raises_own h.hs h.ty
section
variable {X : Cx} {e : Expr} {es : List Expr} {te : TE} {de : DE} {das : DA} {pos p : Pos} {x : Str} {C : Addr} {f : Str}
/-- C(e), as a value -/
theorem pe_mkF (S : SupC X.prog X.K X.mg C f) (hr : Room 2 X.A) (hg : Gl X x) (hm : X.mg x = some (.ref C)) (he : PE X e te) (hs : starEach [e] X.env = (false, eval e X.env) :: starEach [] X.env := by rfl) (hdb : (x == ("__debug__" : Str)) = false := by decide) :
    PE X (.Call (.Name x p) [e] [] pos) (fun σ H Q => te σ H fun v H1 => ∀ a d, H1 a = none → H1 d = none → d ≠ a → Q (.ref a) (upd (upd H1 d (.xd [(f, v)])) a (exk a C (some d)))) := by
  refine ⟨fun pins s σ H Q I h => ?_⟩
  refine wpAny_Call_Name_kw (ld_glob I hg hm ?_ hdb)
  refine PySem.W.callWith_K (h₀ := X.base) I.ok.mod.kin S.T.kC ?_ hs (by rfl)
  rw [hs]
  show wpAny _ _ (spliced ((false, eval e X.env) :: backTo pos (starEach [] X.env))) _ _ s
  refine Calls.spliced_cons (thn (he.run pins s σ H _ I h) fun u s1 ⟨v, H1, I1, r1, q1⟩ => ?_)
  refine Calls.spliced_nil ⟨I1.kIn, ?_⟩
  refine mk_sup S hr I1 fun h' tk a d k ha hd hne hk _ hn => ?_
  have na := I1.hok.fresh ha
  have nd := I1.hok.fresh hd
  have rr : ∀ g, RelO (([(f, v)] : List (Str × V)).lookup g) (if g = f then some u else none) := fun g => L2.relO_put (fs := []) (mA := fun _ => none) r1 (fun _ => True.intro) g
  have ext : ObjOk X.prog X.w (upd (upd H1 d (.xd [(f, v)])) a (exk a C (some d))) h' a (exk a C (some d)) := by
    obtain ⟨oe, vs, e1, e2, e3⟩ := hk
    exact ⟨⟨oe, vs, e1, e2, e3⟩, ⟨oe, e1⟩, fun h1 h2 ⟨o, w, q1, q2, q3⟩ kk => ⟨o, w, kk o q1, q2, q3⟩⟩
  have xdk : ObjOk X.prog X.w (upd (upd H1 d (.xd [(f, v)])) a (exk a C (some d))) h' d (.xd [(f, v)]) := ⟨_, hn, rr⟩
  exact ⟨.ref a, _, inv_two (t' := tk) I1 k ha hd ext xdk, rfl, q1 a d na nd hne⟩
/-- raise C(e): the exception that is made -/
theorem pmk_sup (S : SupC X.prog X.K X.mg C f) (hr : Room 2 X.A) (hg : Gl X x) (hm : X.mg x = some (.ref C)) (he : PE X e te) (hs : starEach [e] X.env = (false, eval e X.env) :: starEach [] X.env := by rfl) (hdb : (x == ("__debug__" : Str)) = false := by decide) :
    PMk X (.Call (.Name x p) [e] [] pos) (fun σ H Q => te σ H fun v H1 => ∀ d, H1 d = none → Q (.ref C) (some d) (upd H1 d (.xd [(f, v)]))) := by
  intro pins s σ H Q I h
  refine wpAny_Call_Name_kw (ld_glob I hg hm ?_ hdb)
  refine PySem.W.callWith_K (h₀ := X.base) I.ok.mod.kin S.T.kC ?_ hs (by rfl)
  rw [hs]
  show wpAny _ _ (spliced ((false, eval e X.env) :: backTo pos (starEach [] X.env))) _ _ s
  refine Calls.spliced_cons (thn (he.run pins s σ H _ I h) fun u s1 ⟨v, H1, I1, r1, q1⟩ => ?_)
  refine Calls.spliced_nil ⟨I1.kIn, ?_⟩
  refine mk_sup S hr I1 fun h' tk a d k ha hd hne hk ho hn => ?_
  obtain ⟨oe, vs, e1, e2, e3⟩ := hk
  obtain ⟨oe2, vs2, g1, g2, g3⟩ := ho
  rw [e1] at g1
  cases g1
  obtain ⟨G, g1', g2'⟩ := restrict h' fun b => decide (b ≠ a)
  have gk : ∀ b, b ≠ a → G.get? b = h'.get? b := fun b hb => g1' b (decide_eq_true hb)
  have ge : G.get? a = none := g2' a (by simp)
  have na := I1.hok.fresh ha
  have nd := I1.hok.fresh hd
  have k2 : ∀ b o, s1.heap.get? b = some o → G.get? b = some o := fun b o q => by
    rw [gk b (Nat.ne_of_lt (Nat.lt_of_lt_of_le (Heap.lt_size q) ha))]
    exact k b o q
  have rr : ∀ g, RelO (([(f, v)] : List (Str × V)).lookup g) (if g = f then some u else none) := fun g => L2.relO_put (fs := []) (mA := fun _ => none) r1 (fun _ => True.intro) g
  have J : L2.Inv X pins σ (upd H1 d (.xd [(f, v)])) { s1 with heap := G, toks := tk } := I1.laid k2 hd ⟨_, hn.at fun o q => (gk d hne).trans q, rr⟩
  refine ⟨a, oe, vs2, _, upd H1 d (.xd [(f, v)]), .ref C, some d, rfl, J, fun b o q => ?_, ge, e1, e2, g2, g3, by rw [upd_ne (Ne.symm hne)]; exact na, rfl, I1.bare, raises_own S.T.exC S.T.tyC, q1 d nd⟩
  by_cases hb : b = a
  · rw [hb, ge] at q
    cases q
  · rw [← gk b hb]
    exact q
/-! ### readings -/
def dMkF (C : Addr) (f : Str) (de : DE) : DE := fun Γ M k => de Γ M fun s M1 => match s with
  | .dat d => k (.exc C [(f, d)]) M1
  | _ => False
def dMkT (C : Addr) (de : DE) : DE := fun Γ M k => de Γ M fun _ M1 => k (.exc C []) M1
theorem xe_mkF (S : SupC X.prog X.K X.mg C f) (hr : Rm 2 X.A) (hm : X.mg x = some (.ref C)) (he : XE X e de) (hg : Gl X x := by rfl) (hs : starEach [e] X.env = (false, eval e X.env) :: starEach [] X.env := by rfl) (hdb : (x == ("__debug__" : Str)) = false := by decide) :
    XE X (.Call (.Name x p) [e] [] pos) (dMkF C f de) := xe_of (pe_mkF S hr.rm hg hm he hs hdb) fun Γ M k σ H Hc Q hd F O q => simLE Γ M _ σ H Hc _ hd F O fun v s M1 H1 Hc1 e1 O1 r1 h1 => by
  split at h1
  · intro a d na nd hne
    obtain ⟨O2, e2⟩ := O1.grow (o := .xd [(f, v)]) nd
    obtain ⟨O3, e3⟩ := O2.grow (p := a) (o := exk a C (some d)) (by rw [upd_ne (Ne.symm hne)]; exact na)
    refine q _ (.exc C [(f, _)]) _ _ _ (e1.trans (e2.trans e3)) O3 ⟨a, some d, Kx a C (some d), rfl, upd_same, fun _ z => z, ?_⟩ h1
    exact ⟨[(f, v)], by rw [upd_ne hne, upd_same], .cons ⟨rfl, dp_ex (e2.trans e3) r1⟩ .nil⟩
  · exact h1.elim
theorem xe_mkT {bmB : List Value} {B newId initId : String} (F : ExcBaseFacts B newId initId bmB) (q : PySem.W.excIn X.K C bmB newId = true) (kC : PySem.W.keepIn X.K (.ref C) = true) (hm : X.mg x = some (.ref C)) (he : XE X e de) (hg : Gl X x := by rfl)
    (hs : starEach [e] X.env = (false, eval e X.env) :: starEach [] X.env := by rfl) (hdb : (x == ("__debug__" : Str)) = false := by decide) :
    XE X (.Call (.Name x p) [e] [] pos) (dMkT C de) := xe_of (pe_exc1 F q hm kC hg he hs hdb) fun Γ M k σ H Hc Q hd F' O q => simLE Γ M _ σ H Hc _ hd F' O fun v s M1 H1 Hc1 e1 O1 r1 h1 => by
  intro a na
  obtain ⟨O2, e2⟩ := O1.grow (o := ExO (.ref C) a) na
  exact q _ (.exc C []) _ _ _ (e1.trans e2) O2 ⟨a, none, _, rfl, upd_same, fun h ⟨oe, vs, z1, z2, z3, _⟩ => ⟨oe, vs, z1, z2, z3⟩, rfl⟩ h1
/-- less is ours -/
theorem Own.less {H Hc : Hp} {M M' : Mem} (O : Own H Hc M) (h : ∀ a o, M' a = some o → M a = some o) : Own H Hc M' := ⟨O.ex, fun a o e => O.no a o (h a o e), fun a o e => O.ob a o (h a o e)⟩
/-- raise C('m') -/
def dRaiT (i : Nat) (H0 : Hp) (G0 : Option Fm) (kx : DX) (C : Addr) : DS := fun _ Γ M => (Γ[i]? = some (some (.base H0)) ∧ At0 G0 Γ) ∧ ∃ M', (∀ a o, M' a = some o → M a = some o) ∧ kx C [] M'
def dRaiF (i : Nat) (H0 : Hp) (G0 : Option Fm) (kx : DX) (C : Addr) (f : Str) (de : DE) : DS := fun _ Γ M => (Γ[i]? = some (some (.base H0)) ∧ At0 G0 Γ) ∧ de Γ M fun s M1 => ∃ d, s = .dat d ∧ ∃ M', (∀ a o, M' a = some o → M1 a = some o) ∧ kx C [(f, d)] M'
theorem wof_here {H0 H H2 : Hp} {G0 : Option Fm} {kx : DX} {Γ : Fm} {σ : L2.St} {d : Option Addr} {Hc : Hp} {fs : List (Str × Dt)} {M' : Mem} (F : Fr H σ Γ) {i : Nat} (hg : Γ[i]? = some (some (.base H0)) ∧ At0 G0 Γ) (e : Ex H H2) (O : Own H2 Hc M') (hf : FsAt H2 d fs) (h : kx C fs M') : Wof H0 G0 kx (.ref C) d σ Hc :=
  wof_at (σ' := σ) F hg e ⟨C, fs, M', H2, rfl, Evl.Ex.refl _, (fun _ z => nomatch z), O, hf, h⟩
theorem xs_raiT {bmB : List Value} {B newId initId : String} {i : Nat} {H0 : Hp} {G0 : Option Fm} {kx : DX} {W : WX} {m : Str} {j : Nat} {p2 pos2 : Pos} (wi : Wish X W H0 G0 kx) (F : ExcBaseFacts B newId initId bmB) (q : PySem.W.excIn X.K C bmB newId = true) (E : ErrC X.K C) (hm : X.mg x = some (.ref C))
    (hc : X.calm = true := by rfl) (hg : Gl X x := by rfl) (hdb : (x == ("__debug__" : Str)) = false := by decide) : XS X (.Raise (some (.Call (.Name x p) [.Constant (.str m) j p2] [] pos)) none pos2) (dRaiT i H0 G0 kx C) :=
  xs_of (ps_raise hc wi.1 (pmk_own F q hm E.kC E.raises hg hdb)) fun Γ M D σ H Hc Q hd F' O _ => by
  obtain ⟨hgh, M', hM, hk⟩ := hd
  exact wi.2 _ _ _ _ (wof_here F' hgh (Evl.Ex.refl _) (O.less hM) rfl hk)
theorem xs_raiF {i : Nat} {H0 : Hp} {G0 : Option Fm} {kx : DX} {W : WX} {pos2 : Pos} (wi : Wish X W H0 G0 kx) (S : SupC X.prog X.K X.mg C f) (hr : Rm 2 X.A) (hm : X.mg x = some (.ref C)) (he : XE X e de)
    (hc : X.calm = true := by rfl) (hg : Gl X x := by rfl) (hs : starEach [e] X.env = (false, eval e X.env) :: starEach [] X.env := by rfl) (hdb : (x == ("__debug__" : Str)) = false := by decide) : XS X (.Raise (some (.Call (.Name x p) [e] [] pos)) none pos2) (dRaiF i H0 G0 kx C f de) :=
  xs_of (ps_raise hc wi.1 (pmk_sup S hr.rm hg hm he hs hdb)) fun Γ M D σ H Hc Q hd F' O _ => by
  obtain ⟨hgh, hd⟩ := hd
  refine simLE Γ M _ σ H Hc _ hd F' O fun v s M1 H1 Hc1 e1 O1 r1 h1 => ?_
  obtain ⟨d, rfl, M', hM, hk⟩ := h1
  intro a na
  obtain ⟨O2, e2⟩ := O1.grow (o := .xd [(f, v)]) na
  exact wi.2 _ _ _ _ (wof_here F' hgh (e1.trans e2) (O2.less hM) ⟨[(f, v)], upd_same, .cons ⟨rfl, dp_ex e2 (show Dq H1 v d from r1)⟩ .nil⟩ hk)
end
end DL
namespace DL
open PySem PySem.Spec PyProof.Rows L2
open Evl (Ex)
/-! ### isinstance of an exception, its field; try: .. except x as n: t = n -/
def rIsX (K : PySem.W.Frag) : List V → Hp → VK → Prop := fun xs H Q => ∃ (a C : Addr) (d : Option Addr) (φ : Heap → Prop) (c : V) (cv : Value) (b : Bool), xs = [.ref a, c] ∧ H a = some (.ext φ) ∧ (∀ h, φ h → Kx a C d h) ∧ (∀ dd, d = some dd → ∃ ws, H dd = some (.xd ws)) ∧ ErrC K C ∧
  (∀ u, RelV c u → u = cv) ∧ PySem.W.kitOne K (.ref C) cv = some b ∧ Q (.bl b) H
section
variable {X : Cx} {pins : List (Addr × Obj)} {σ : L2.St} {H : Hp} {s : Shared}
/-- the exception stands there -/
theorem exc_inst {a C : Addr} {d : Option Addr} {φ : Heap → Prop} (I : L2.Inv X pins σ H s) (ha : H a = some (.ext φ)) (hφ : ∀ h, φ h → Kx a C d h) (hd : ∀ dd, d = some dd → ∃ ws, H dd = some (.xd ws)) :
    ∃ ox od, PySem.W.InstAt s.heap a ox C od ∧ ∀ dd ws, d = some dd → H dd = some (.xd ws) → ∃ mA, s.heap.Ns1 dd mA ∧ (∀ f, RelO (ws.lookup f) (mA f)) ∧ ∃ o, od = some o ∧ ∀ f, PySem.W.lookIn f o = some (mA f) := by
  obtain ⟨oe, vs, h1, h2, h3⟩ := hφ _ (I.hok a _ ha).1
  cases d with
  | none => exact ⟨oe, none, ⟨h1, h2.1, by unfold PySem.W.notCls; rw [h3] <;> rfl, by rw [h2.2]; exact True.intro⟩, fun dd ws z => (nomatch z)⟩
  | some dd =>
    obtain ⟨ws, e⟩ := hd dd rfl
    have hx : ObjOk X.prog X.w H s.heap dd (.xd ws) := I.hok dd _ e
    obtain ⟨mA, hns, hr⟩ := hx
    obtain ⟨od, ho, hl⟩ := lookIn_ns hns
    refine ⟨oe, some od, ⟨h1, h2.1, by unfold PySem.W.notCls; rw [h3] <;> rfl, by rw [h2.2]; exact ho⟩, fun d2 w2 z q => ?_⟩
    cases z
    rw [e] at q
    cases q
    exact ⟨mA, hns, hr, od, rfl, hl⟩
theorem call_isX : CallR X (.builtin "isinstance") (rIsX X.K) := by
  intro pins s σ H xs us Q I r h
  obtain ⟨a, C, d, φ, c, cv, b, rfl, ha, hφ, hd, E, hcv, e, q⟩ := h
  cases r with
  | cons rx rr =>
    cases rr with
    | cons rt rr =>
      cases rr
      cases rx
      have ec := hcv _ rt
      subst ec
      obtain ⟨ox, od, J, _⟩ := exc_inst I ha hφ hd
      exact PySem.W.kia_one (PySem.W.kitx_exc E.cl E.hg E.hk E.hs E.ha E.hn E.ht E.hm) I.kIn J e (fun z => nomatch z) fun tk => ⟨.bl b, H, I.kept (t' := tk) fun _ _ z => z, rfl, q⟩
def fIsiX (K : PySem.W.Frag) : DC := fun ss M k => match ss with
  | [.fix (.exc C fs), .raw (.ref D)] => ErrC K C ∧ ∃ b, PySem.W.kitOne K (.ref C) (.ref D) = some b ∧ k (.dat (.bool b)) M
  | [.fix (.exc C fs), .raw (.ty T)] => ErrC K C ∧ ∃ b, PySem.W.kitOne K (.ref C) (.type T) = some b ∧ k (.dat (.bool b)) M
  | [.dat d, .raw (.ref D)] => ∃ b, PySem.W.kitOne K (.type (tyD d)) (.ref D) = some b ∧ k (.dat (.bool b)) M
  | [.dat d, .raw (.ty T)] => ∃ b, PySem.W.kitOne K (.type (tyD d)) (.type T) = some b ∧ k (.dat (.bool b)) M
  | _ => False
theorem fs_dict {H : Hp} {d : Option Addr} {fs : List (Str × Dt)} (h : FsAt H d fs) : ∀ dd, d = some dd → ∃ ws, H dd = some (.xd ws) := by
  rintro dd rfl
  obtain ⟨ws, h1, _⟩ := h
  exact ⟨ws, h1⟩
theorem sim_isiX {K : PySem.W.Frag} : SimC (fun xs H Q => rIsX K xs H Q ∨ rIsi K xs H Q) (fIsiX K) := by
  intro ss M k xs H Hc Q h r O q
  unfold fIsiX at h
  split at h
  · obtain ⟨x, y, rfl, rx, ry⟩ := rps2 r
    obtain ⟨a, d, φ, rfl, h1, h2, h3⟩ := rx
    cases ry
    obtain ⟨E, b, e, h⟩ := h
    have fd := fs_dict h3
    exact .inl ⟨a, _, d, φ, _, _, b, rfl, O.ex _ _ h1, h2, fun dd z => by obtain ⟨ws, e⟩ := fd dd z; exact ⟨ws, O.ex _ _ e⟩, E, fun u z => z, e, q.dat O (.bl _) h⟩
  · obtain ⟨x, y, rfl, rx, ry⟩ := rps2 r
    obtain ⟨a, d, φ, rfl, h1, h2, h3⟩ := rx
    cases ry
    obtain ⟨E, b, e, h⟩ := h
    have fd := fs_dict h3
    exact .inl ⟨a, _, d, φ, _, _, b, rfl, O.ex _ _ h1, h2, fun dd z => by obtain ⟨ws, e⟩ := fd dd z; exact ⟨ws, O.ex _ _ e⟩, E, fun u z => z, e, q.dat O (.bl _) h⟩
  · obtain ⟨x, y, rfl, rx, ry⟩ := rps2 r
    cases ry
    obtain ⟨b, e, h⟩ := h
    exact .inr ⟨x, _, _, _, b, rfl, .own _, ty_of_dq (dp_ex O.ex rx), e, q.dat O (.bl _) h⟩
  · obtain ⟨x, y, rfl, rx, ry⟩ := rps2 r
    cases ry
    obtain ⟨b, e, h⟩ := h
    exact .inr ⟨x, _, _, _, b, rfl, .ty _, ty_of_dq (dp_ex O.ex rx), e, q.dat O (.bl _) h⟩
  · exact h.elim
theorem call_isiX : CallR X (.builtin "isinstance") (fun xs H Q => rIsX X.K xs H Q ∨ rIsi X.K xs H Q) := CallR.or call_isX call_isi
/-! ### e.f -/
def tAttX (K : PySem.W.Frag) (n : Str) (te : TE) : TE := fun σ H Q => te σ H fun x H1 => ∃ (a C dd : Addr) (φ : Heap → Prop) (ws : List (Str × V)) (v : V), x = .ref a ∧ H1 a = some (.ext φ) ∧ (∀ h, φ h → Kx a C (some dd) h) ∧ H1 dd = some (.xd ws) ∧ ws.lookup n = some v ∧ ErrC K C ∧ PySem.W.findIn K (.ref C) n = some none ∧ Q v H1
theorem pe_attX {e : Expr} {te : TE} {pos : Pos} {n : Str} (he : PE X e te) (hb : attributeBase e n X.env (eval e X.env) = eval e X.env := by rfl) : PE X (.Attribute e n pos) (tAttX X.K n te) := by
  refine ⟨fun pins s σ H Q I h => ?_⟩
  refine attr_of hb (thn (he.run pins s σ H _ I h) fun u s1 hh => ?_)
  obtain ⟨x, H1, I1, rx, a, C, dd, φ, ws, v, rfl, ha, hφ, hd, l, E, hno, q⟩ := hh
  obtain rfl : u = Value.ref a := rx
  obtain ⟨ox, od, J, z⟩ := exc_inst I1 ha hφ (fun d2 e => by cases e; exact ⟨ws, hd⟩)
  obtain ⟨mA, hns, hr, o, rfl, hl⟩ := z dd ws rfl hd
  obtain ⟨u, hu, ru⟩ := RelO.some_of (v := v) (o := mA n) (by rw [← l]; exact hr n)
  exact PySem.HandSPX.exc_get I1.kIn J E.hg E.hk E.hs (PySem.W.findObj_own E.hd hno rfl (by rw [hl, hu])) (handed_of ru) ⟨v, H1, I1.tok _, ru, q⟩
def dAttX (K : PySem.W.Frag) (n : Str) (de : DE) : DE := fun Γ M k => de Γ M fun s M1 => match s with
  | .fix (.exc C fs) => ∃ d, fs.lookup n = some d ∧ ErrC K C ∧ PySem.W.findIn K (.ref C) n = some none ∧ k (.dat d) M1
  | _ => False
theorem fs_look {H : Hp} {n : Str} {d : Dt} : ∀ {fs : List (Str × Dt)} {ws : List (Str × V)}, Paired (fun (p : Str × Dt) (q : Str × V) => p.1 = q.1 ∧ Dq H q.2 p.2) fs ws → fs.lookup n = some d → ∃ v, ws.lookup n = some v ∧ Dq H v d
  | [], _, .nil, h => nomatch h
  | (f, x) :: fs, (g, y) :: ws, .cons r t, h => by
    obtain ⟨e, r⟩ := r
    dsimp only at e
    subst e
    by_cases hf : (n == f) = true
    · rw [List.lookup_cons, hf] at h ⊢
      cases h
      exact ⟨y, rfl, r⟩
    · have hf' : (n == f) = false := by simpa using hf
      rw [List.lookup_cons, hf'] at h ⊢
      exact fs_look t h
theorem xe_attX {e : Expr} {de : DE} {pos : Pos} {n : Str} (he : XE X e de) (hb : attributeBase e n X.env (eval e X.env) = eval e X.env := by rfl) : XE X (.Attribute e n pos) (dAttX X.K n de) := xe_of (pe_attX he hb) fun Γ M k σ H Hc Q hd F O q => simLE Γ M _ σ H Hc _ hd F O fun v s M1 H1 Hc1 e1 O1 r1 h1 => by
  split at h1
  · obtain ⟨a, dd, φ, rfl, g1, g2, g3⟩ := r1
    obtain ⟨d, l, E, hno, h1⟩ := h1
    cases dd with
    | none =>
      have z : _ = [] := g3
      rw [z] at l
      cases l
    | some dd =>
      obtain ⟨ws, w1, w2⟩ := g3
      obtain ⟨v, l2, r2⟩ := fs_look w2 l
      exact ⟨a, _, dd, φ, ws, v, rfl, O1.ex _ _ g1, g2, O1.ex _ _ w1, l2, E, hno, (q.ex e1).dat O1 r2 h1⟩
  · exact h1.elim
/-! ### a caught exception is kept -/
/-- what was caught is tracked from now on -/
theorem inv_track {a C : Addr} {d : Option Addr} (I : L2.Inv X pins σ H s) (hk : Kx a C d s.heap) (na : H a = none) (n0 : X.s_0.heap.get? a = none) (nL : a ≠ X.env.locals) (nP : ∀ p ∈ X.pn ++ pins, p.1 ≠ a) : L2.Inv X pins σ (upd H a (exk a C d)) s := by
  obtain ⟨oe, vs, k1, k2, k3⟩ := hk
  have old : ∀ b o, X.s_0.heap.get? b = some o → b ≠ a := fun b o e z => by rw [z, n0] at e; cases e
  have tr : ∀ {b : Addr} {o : HO}, H b = some o → b ≠ a := fun {b o} e z => by rw [z, na] at e; cases e
  refine ⟨I.ok, I.os, I.bare, ⟨I.base.keep, I.base.slot, fun b o e n hx => ?_, I.base.there, fun b xs e => ?_, fun b o u e => ?_, fun b ps e => ?_⟩, I.loc, I.cell, ?_, fun x c e => ?_, fun p hp => ?_, fun b w e => ?_, I.len⟩
  · rw [upd_ne (old b o e)]; exact I.base.free b o e n hx
  · have z := I.base.tups b xs e
    rw [upd_ne (tr z)]; exact z
  · have z := I.base.frzs b o u e
    rw [upd_ne (tr z)]; exact z
  · obtain ⟨m, z⟩ := I.base.tbls b ps e
    exact ⟨m, by rw [upd_ne (tr z)]; exact z⟩
  · rw [upd_ne (Ne.symm nL)]; exact I.free
  · rw [upd_ne ?_]
    · exact I.freeC x c e
    · rintro rfl
      obtain ⟨v, o, ho, hc⟩ := I.cell x c e
      rw [k1] at ho
      cases ho
      rw [k3] at hc
      cases hc
  · obtain ⟨z1, z2, z3⟩ := I.pin p hp
    exact ⟨z1, by rw [upd_ne (nP p hp)]; exact z2, z3⟩
  · by_cases hb : b = a
    · subst hb
      rw [upd_same] at e
      cases e
      exact ⟨⟨oe, vs, k1, k2, k3⟩, ⟨oe, k1⟩, fun h1 h2 ⟨o, w, q1, q2, q3⟩ kk => ⟨o, w, kk o q1, q2, q3⟩⟩
    · rw [upd_ne hb] at e
      exact (I.hok b w e).stay (fun c v _ q => q) (fun c q => by rw [upd_ne (tr q)]; exact q) fun c xs q => by rw [upd_ne (tr q)]; exact q
/-- what 'except x as n: t = n' wishes: i is n's slot, j is t's -/
def wKeep (K : PySem.W.Frag) (c : Value) (i j : Nat) (D : Ends) : WX := fun cls d σ H => ∃ C, cls = .ref C ∧ PySem.W.exmOne K (.ref C) c = some true ∧ ∀ a, H a = none → D.nx (((σ.set i (some (.ref a))).set j (some (.ref a))).set i none) (upd H a (exk a C d))
theorem ps_try_keep {x n t : Str} {c : Value} {i j : Nat} {body : List Stmt} {np pos pos' q1 q2 q3 : Pos} {tb : WX → TS} (hx : X.ex = []) (hs : X.stack = X.env :: X.outer) (hf : X.env.frame = some X.env.locals) (hN : X.N.Nodup) (hi : X.N[i]? = some n) (hln : X.env.kindOf n = some .local)
    (hj : X.N[j]? = some t) (hlt : X.env.kindOf t = some .local) (hc : Names X x c) (hdn : (n == ("__debug__" : Str)) = false) (hcn : (n == ("__classdict__" : Str)) = false) (hsw : swapsWith (.Name n q2) (some (.Name t q1)) q3.line X.env = pure false)
    (hb : ∀ (W : WX) (pn : List (Addr × Obj)) (xe : Value → Shared → Prop), Takes (X.tr pn xe) W → PassesOwn (model X.prog X.w) X.A X.env xe → PSs (X.tr pn xe) body (tb W)) :
    PS X (.Try body [.ExceptHandler (some (.Name x np)) (some n) [.Assign [.Name t q1] (.Name n q2) q3] pos'] [] [] pos) (fun D σ H => tb (wKeep X.K c i j D) D σ H) := by
  refine ⟨fun pins s σ H D I h => ?_⟩
  have ok := I.ok
  have hfr : X.A.frames = some (X.env :: X.outer) := by rw [ok.frames, hs]
  have tail : ∀ {fl : Flow} {s1 : Shared}, SP (X.tr (X.pn ++ pins) fun e s₁ => wpAny (model X.prog X.w) X.A (noteFrame e X.env) (fun _ s₂ => wpAny (model X.prog X.w) X.A (setFlight e none) (fun _ s₃ =>
      wpAny (model X.prog X.w) X.A (handleBy e X.env [.ExceptHandler (some (.Name x np)) (some n) [.Assign [.Name t q1] (.Name n q2) q3] pos']) (SP X pins D) X.xe s₃) X.xe s₂) X.xe s₁) [] D fl s1 → SP X pins D fl s1 := fun {fl s1} hsp => by
    match fl, hsp with
    | .next, ⟨σ', H', J, q⟩ => exact ⟨σ', H', J.ofTry ok, q⟩
    | .brk, ⟨σ', H', J, q⟩ => exact ⟨σ', H', J.ofTry ok, q⟩
    | .cont, ⟨σ', H', J, q⟩ => exact ⟨σ', H', J.ofTry ok, q⟩
    | .ret u, ⟨v, σ', H', J, r, q⟩ => exact ⟨v, σ', H', J.ofTry ok, r, q⟩
  refine wpAny_Try_except (wpAny_mono ((hb (wKeep X.K c i j D) (X.pn ++ pins) _ (fun u s' xx => ?_) PassesOwn.looking).run [] s σ H D (I.toTry _) h) (fun fl s1 hsp => ?_) fun e s1 he => he)
  · obtain ⟨a, B, sI, pins', σ', H', cls, d, rfl, J', nb, up, sky, na, os, ag, C, rfl, hex, hgo⟩ := xx
    have J : L2.Inv X pins σ' H' sI := J'.ofTry ok
    have sky' : Sky B (X.env :: X.outer) a (Zc (.ref C) d) X.env.locals s'.heap := hs ▸ sky
    have nB : B.get? a = none := by
      rcases sky' with ⟨_, z, _⟩ | ⟨_, z, _⟩ | ⟨_, z, _⟩ <;> exact z
    show wpAny (model X.prog X.w) X.A (noteFrame (.ref a) X.env) _ _ _
    refine Sky.land Zc.steady hfr hf sky' fun h3 fl3 up3 => ?_
    have J3 : L2.Inv X pins σ' H' { s' with heap := h3 } := J.landed nb fl3.1 (up.trans up3) os ag
    obtain ⟨oe3, vs3, he3, hz3, hd3⟩ := fl3.there
    have nfr : a ∉ frs (X.env :: X.outer) := fun hm => by
      obtain ⟨_, o', e', hnf⟩ := fl3.2.2.1.mem hm
      rw [he3] at e'
      cases e'
      exact hnf _ hd3
    have nI : ∀ o, sI.heap.get? a ≠ some o := fun o e => by
      have z := nb a o e (by rw [hs]; exact nfr)
      rw [nB] at z
      cases z
    have nL : a ≠ X.env.locals := fun z => nfr (List.mem_filterMap.mpr ⟨X.env, List.mem_cons_self, by rw [hf, z]⟩)
    have nF : a ∉ X.fs := fun hm => by
      obtain ⟨e, he, q⟩ := List.mem_filterMap.mp hm
      exact nfr (List.mem_filterMap.mpr ⟨e, List.mem_cons_of_mem _ he, q⟩)
    have n0 : X.s_0.heap.get? a = none := by
      cases z : X.s_0.heap.get? a with
      | none => rfl
      | some o =>
        obtain ⟨o', z'⟩ := J.base.there a o z (by rw [hx]; exact fun z => nomatch z)
        exact absurd z' (nI o')
    have nP : ∀ p ∈ X.pn ++ pins, p.1 ≠ a := fun p hp z => nI p.2 (by rw [← z]; exact (J.pin p hp).1)
    have S3 := J3.suite he3 hd3 na nL nF
    refine wpAny_handleBy_cons (codeAny_handlers_test ?_) (by intro q; cases q)
    have LT : PySem.W.Looks (model X.prog X.w) h3 (typeOf (.ref a)) (.ref C) := fun A Q E s k q => wpAny_typeOf_ref (k _ _ he3) (by rw [hz3.1]; exact q)
    have LM := PySem.W.exm_one (M := model X.prog X.w) (J3.kIn) LT hex
    have test : ∀ {Q : Value → Shared → Prop} {E : Value → Shared → Prop}, Q c { s' with heap := h3 } → wpAny (model X.prog X.w) (X.A.mark (some (.ref a))) (eval (.Name x np) X.env) Q E { s' with heap := h3 } := fun {Q E} q => by
      obtain ⟨hg, hdbg, hm | ⟨hm, hv, hnn⟩⟩ := hc
      · exact ld_glob (X := X.suite a ((a, oe3) :: (X.pn ++ pins))) S3 hg hm q hdbg
      · exact ld_blt (X := X.suite a ((a, oe3) :: (X.pn ++ pins))) S3 hg hm hv q hnn hdbg
    refine test (LM.here ?_)
    refine codeAny_handlers_suite_as ?_
    refine PySem.HandSPX.lands_againZ fl3 fun h4 fl4 up4 => ?_
    have J4 : L2.Inv X pins σ' H' { s' with heap := h4 } := J.landed nb fl4.1 ((up.trans up3).trans up4) os ag
    obtain ⟨oe4, vs4, he4, hz4, hd4⟩ := fl4.there
    have S4 := J4.suite he4 hd4 na nL nF
    have hloc : Loc X.env.scope n := .inl hln
    refine store_ok (X := X.suite a ((a, oe4) :: (X.pn ++ pins))) (v := .ref a) S4 hN hi hloc rfl (fun s5 S5 => ?_) (.inr hln)
    have asg : PSs (X.suite a ((a, oe4) :: (X.pn ++ pins))) [.Assign [.Name t q1] (.Name n q2) q3] (fun D σ H => ∃ v, σ[i]? = some (some v) ∧ D.nx (σ.set j (some v)) H) :=
      pss_one (ps_set (X := X.suite a ((a, oe4) :: (X.pn ++ pins))) (i := j) hN hj (.inl hlt) (pv (X := X.suite a ((a, oe4) :: (X.pn ++ pins))) i hi (.inl hln) hdn hcn) (hs := hsw) (hf := .inr hlt))
    refine wpAny_mono (asg.run [] s5 _ H' { nx := fun σ6 H6 => H6 = H' ∧ σ6 = (σ'.set i (some (.ref a))).set j (some (.ref a)), rt := fun _ _ => False } S5 ⟨.ref a, List.getElem?_set_self (by rw [J.len]; exact (List.getElem?_eq_some_iff.mp hi).1), rfl, rfl⟩) (fun fl s6 hsp => ?_) fun _ _ z => False.elim z
    match fl, hsp with
    | .next, ⟨σ6, H6, S6, e6, e7⟩ =>
      subst e6 e7
      refine gone_ok (X := X.suite a ((a, oe4) :: (X.pn ++ pins))) S6 hN hi hln fun s7 S7 => ?_
      obtain ⟨g7, _⟩ := S7.pin (a, oe4) (List.mem_append_left _ List.mem_cons_self)
      have J7 := S7.unsuite ok
      exact ⟨_, _, inv_track J7 ⟨oe4, vs4, g7, hz4, hd4⟩ na n0 nL nP, hgo a na⟩
    | .brk, ⟨σ6, H6, S6, z⟩ => exact z.elim
    | .cont, ⟨σ6, H6, S6, z⟩ => exact z.elim
    | .ret u, ⟨v6, σ6, H6, S6, r6, z⟩ => exact z.elim
  · cases fl with
    | next => exact wpAny_execs_nil (tail hsp)
    | brk => exact tail hsp
    | cont => exact tail hsp
    | ret u => exact tail hsp
end
end DL
namespace DL
open PySem PySem.Spec PyProof.Rows L2
open Evl (Ex)
/-! ### try: .. except x as n: t = n, by readings -/
theorem Fr.take {H : Hp} {σ : L2.St} {Γ : Fm} (F : Fr H σ Γ) {n : Nat} (h : σ.length ≤ n) : Fr H σ (Γ.take n) := by
  have key : ∀ (i : Nat) (s : Sl), (Γ.take n)[i]? = some (some s) → Γ[i]? = some (some s) := fun i s e => by
    rw [List.getElem?_take] at e
    split at e
    · exact e
    · cases e
  refine ⟨by rw [List.length_take]; have := F.len; omega, fun i s hi e => F.sl i s hi (key i s e), fun i H0 e => F.gh i H0 (key i _ e)⟩
theorem Fr.ghost {H : Hp} {σ : L2.St} {Γ : Fm} (F : Fr H σ Γ) : Fr H σ (Γ ++ [some (.base H)]) := by
  refine ⟨by rw [List.length_append]; exact Nat.le_trans F.len (Nat.le_add_right _ _), fun i s hi e => F.sl i s hi ?_, fun i H0 e => ?_⟩
  · rw [List.getElem?_append_left (Nat.lt_of_lt_of_le hi F.len)] at e
    exact e
  · by_cases h : i < Γ.length
    · rw [List.getElem?_append_left h] at e
      exact F.gh i H0 e
    · rw [List.getElem?_append_right (by omega)] at e
      by_cases h2 : i - Γ.length = 0
      · rw [h2] at e
        cases e
        exact Evl.Ex.refl H
      · rw [List.getElem?_eq_none (by simp; omega)] at e
        cases e
/-- the wish of the body's exceptions -/
def kxT (K : PySem.W.Frag) (c : Value) (i j : Nat) (Γ : Fm) (D : DEnds) : DX := fun C fs M' => PySem.W.exmOne K (.ref C) c = some true ∧ D.nx (((Γ.set i (some (.exc C fs))).set j (some (.exc C fs))).set i none) M'
def dTry (K : PySem.W.Frag) (c : Value) (i j : Nat) (db : Hp → Option Fm → DX → DS) : DS := fun D Γ M => ∀ H0, db H0 (some (Γ ++ [some (.base H0)])) (kxT K c i j Γ D)
  { nx := fun Γ' M' => D.nx (Γ'.take Γ.length) M', rt := D.rt, bk := fun Γ' M' => D.bk (Γ'.take Γ.length) M', ct := fun Γ' M' => D.ct (Γ'.take Γ.length) M' } (Γ ++ [some (.base H0)]) M
section
variable {X : Cx}
theorem xs_try {x n t : Str} {c : Value} {i j : Nat} {body : List Stmt} {np pos pos' q1 q2 q3 : Pos} {db : Hp → Option Fm → DX → DS} (hx : X.ex = []) (hs : X.stack = X.env :: X.outer) (hf : X.env.frame = some X.env.locals) (hN : X.N.Nodup) (hi : X.N[i]? = some n) (hln : X.env.kindOf n = some .local)
    (hj : X.N[j]? = some t) (hlt : X.env.kindOf t = some .local) (hc : Names X x c) (hdn : (n == ("__debug__" : Str)) = false) (hcn : (n == ("__classdict__" : Str)) = false) (hsw : swapsWith (.Name n q2) (some (.Name t q1)) q3.line X.env = pure false)
    (hb : ∀ (W : WX) (pn : List (Addr × Obj)) (xe : Value → Shared → Prop) (H0 : Hp) (G0 : Option Fm) (kx : DX), Wish (X.tr pn xe) W H0 G0 kx → PassesOwn (model X.prog X.w) X.A X.env xe → XSs (X.tr pn xe) body (db H0 G0 kx)) :
    XS X (.Try body [.ExceptHandler (some (.Name x np)) (some n) [.Assign [.Name t q1] (.Name n q2) q3] pos'] [] [] pos) (dTry X.K c i j db) := by
  refine xs_len fun pins s σ Hc E I hl ⟨Γ, M, H, D, hd, F, O, q⟩ => ?_
  refine ⟨_, ps_try_keep (tb := fun W E σ Hc => ∃ H0 G0 kx, (∀ cls d σ' Hc', Wof H0 G0 kx cls d σ' Hc' → W cls d σ' Hc') ∧ LS (db H0 G0 kx) E σ Hc) hx hs hf hN hi hln hj hlt hc hdn hcn hsw (fun W pn xe tk pass => ⟨fun pins s σ Hc E I ⟨H0, G0, kx, hw, h⟩ => (hb W pn xe H0 G0 kx ⟨tk, hw⟩ pass).run pins s σ Hc E I h⟩), ?_⟩
  have lenG : ∀ {σ' : L2.St}, σ'.length = X.N.length → σ'.length ≤ Γ.length := fun {σ'} e => by
    rw [e, ← hl]
    exact F.len
  refine ⟨H, some (Γ ++ [some (.base H)]), kxT X.K c i j Γ D, fun cls d σ' Hc' w => ?_, Γ ++ [some (.base H)], M, H, { nx := fun Γ' M' => D.nx (Γ'.take Γ.length) M', rt := D.rt, bk := fun Γ' M' => D.bk (Γ'.take Γ.length) M', ct := fun Γ' M' => D.ct (Γ'.take Γ.length) M' }, hd H, F.ghost, O, ⟨fun σ' Γ' M' H' Hc' e1 F1 O1 h1 hl' => ?_, q.rt, fun σ' Γ' M' H' Hc' e1 F1 O1 h1 hl' => ?_, fun σ' Γ' M' H' Hc' e1 F1 O1 h1 hl' => ?_⟩⟩
  · obtain ⟨C, fs, M', H', rfl, e1, hfr, O1, hfs, hex, hn⟩ := w
    have F1 := hfr _ rfl
    refine ⟨C, rfl, hex, fun a na hl' => ?_⟩
    rw [List.length_set, List.length_set, List.length_set] at hl'
    obtain ⟨O2, e2⟩ := O1.grow (o := exk a C d) na
    have na' : H' a = none := Evl.fresh_back O1.ex na
    have F2 : Fr H' σ' Γ := by
      have z := F1.take (n := Γ.length) (lenG hl')
      rw [List.take_left] at z
      exact z
    have r : Rp (upd H' a (exk a C d)) (.exc C fs) (.ref a) := ⟨a, d, Kx a C d, rfl, upd_same, fun _ z => z, fs_ex e2 hfs⟩
    have F3 := (((F2.ex e2).set (i := i) r).set (i := j) r).forget i
    exact q.nx _ _ M' _ _ (e1.trans e2) F3 O2 hn
  · exact q.nx _ _ M' H' Hc' e1 (F1.take (lenG hl')) O1 h1
  · exact q.bk _ _ M' H' Hc' e1 (F1.take (lenG hl')) O1 h1
  · exact q.ct _ _ M' H' Hc' e1 (F1.take (lenG hl')) O1 h1
end
end DL
namespace DL
open PySem PySem.Spec PyProof.Rows L2
open Evl (Ex)
/-! ### count and index of flat data -/
def flatD : Dt → Bool
  | .none | .bool _ | .int _ | .str _ => true
  | _ => false
def vOf : Dt → V
  | .bool b => .bl b
  | .int i => .int i
  | .str x => .str x
  | _ => .non
theorem dq_vOf {H : Hp} {v : V} {d : Dt} (r : Dq H v d) (h : flatD d = true) : v = vOf d := by cases r <;> first | rfl | cases h
theorem flat_vOf {d : Dt} : flatV (vOf d) = true := by cases d <;> rfl
theorem dqs_vOf {H : Hp} : ∀ {ds : List Dt} {vs : List V}, DqAll H vs ds → ds.all flatD = true → vs = ds.map vOf
  | [], _, .nil, _ => rfl
  | d :: ds, _, .cons r t, h => by
    rw [List.all_cons, Bool.and_eq_true] at h
    rw [dq_vOf r h.1, dqs_vOf t h.2]
    rfl
theorem all_flat (ds : List Dt) : (ds.map vOf).all flatV = true := by
  rw [List.all_map, List.all_eq_true]
  exact fun _ _ => flat_vOf
section
variable {X : Cx}
def rCountF (K : PySem.W.Frag) : V → List V → Hp → VK → Prop := fun x xs H Q => ∃ (a : Addr) (ys : List V) (y : V), x = .ref a ∧ xs = [y] ∧ SqL K H a ys ∧ flatV y = true ∧ ys.all flatV = true ∧ Q (.int (ys.countP fun z => eqV z y : Nat)) H
theorem count_flat {y : V} : ∀ {ys : List V} {us : List Value}, Vals ys us → ys.all flatV = true → us.countP (eqU y) = ys.countP fun z => eqV z y
  | [], _, .nil, _ => rfl
  | z :: ys, _, .cons r t, h => by
    rw [List.all_cons, Bool.and_eq_true] at h
    rw [List.countP_cons, List.countP_cons, count_flat t h.2, eqU_of r h.1]
theorem mt_countF : MtR X "list.count" (rCountF X.K) := by
  intro pins s σ H x xs v us Q I rx rxs h
  obtain ⟨a, ys, y, rfl, rfl, hs, fy, fys, q⟩ := h
  cases rx
  cases rxs with
  | cons ry rt =>
    rename_i uy ut
    cases rt
    obtain ⟨its, rv, ⟨⟨cls, dd, data, sl⟩, n, ho, hc, hdn, hd⟩, hlen⟩ := I.list hs
    simp only at hc hd
    subst hc hd
    refine call_meets PySem.F.slot_list_count ⟨_, ho, rfl⟩ PySem.F.entry_list_count (PySem.F.args_list_count_2 _ _) (SeqAt.list_countAt a its.toArray n dd sl uy (eqU y)) ⟨ho, fun u' hu' => mem_eqAt ry fy rv fys u' (by simpa using hu'), ?_⟩
    refine ⟨.int (ys.countP fun z => eqV z y : Nat), H, I.tok _, ⟨s.toks, ?_⟩, q⟩
    show Value.int ((its.toArray.toList.countP (eqU y) : Nat) : Int) s.toks = _
    rw [show its.toArray.toList = its from rfl, count_flat rv fys]
def fCountF : Sl → List Sl → Mem → DK → Prop := fun o ss M k => match ss with
  | [.dat d] => ∃ ds : List Dt, IsL M o (ds.map .dat) ∧ ds.all flatD = true ∧ flatD d = true ∧ k (.dat (.int (ds.countP fun e => eqV (vOf e) (vOf d) : Nat))) M
  | _ => False
theorem sim_countF {K : PySem.W.Frag} : SimM K "list" (rCountF K) fCountF := by
  intro s ss M k x xs H Hc Q h rx rs O q
  unfold fCountF at h
  split at h
  · obtain ⟨ds, l, h1, h2, h⟩ := h
    obtain ⟨y, rfl, ry⟩ := rps1 rs
    obtain ⟨a, vs, rfl, g1, g2⟩ := l.at_ O rx
    have e1 := dqs_vOf (rps_dat g2) h1
    subst e1
    refine ⟨a, _, y, rfl, rfl, SqL.of g1, by rw [dq_vOf ry h2]; exact flat_vOf, all_flat ds, ?_⟩
    rw [dq_vOf ry h2, List.countP_map]
    exact q.dat O (.int _) h
  · exact h.elim
def fIndexF : Sl → List Sl → Mem → DK → Prop := fun o ss M k => match ss with
  | [.dat d] => ∃ (ds : List Dt) (j : Nat) (e : Dt), IsL M o (ds.map .dat) ∧ ds.all flatD = true ∧ flatD d = true ∧ ds[j]? = some e ∧ eqV (vOf e) (vOf d) = true ∧ (∀ (m : Nat) (e' : Dt), m < j → ds[m]? = some e' → eqV (vOf e') (vOf d) = false) ∧ k (.dat (.int j)) M
  | _ => False
theorem sim_indexF {K : PySem.W.Frag} : SimM K "list" (rIndex K) fIndexF := by
  intro s ss M k x xs H Hc Q h rx rs O q
  unfold fIndexF at h
  split at h
  · obtain ⟨ds, j, e, l, h1, h2, h3, h4, h5, h⟩ := h
    obtain ⟨y, rfl, ry⟩ := rps1 rs
    obtain ⟨a, vs, rfl, g1, g2⟩ := l.at_ O rx
    have e1 := dqs_vOf (rps_dat g2) h1
    subst e1
    refine ⟨a, _, y, j, vOf e, rfl, rfl, SqL.of g1, by rw [dq_vOf ry h2]; exact flat_vOf, all_flat ds, by rw [List.getElem?_map, h3] <;> rfl, by rw [dq_vOf ry h2]; exact h4, fun m z' hm hz => ?_, q.dat O (.int _) h⟩
    rw [List.getElem?_map] at hz
    cases e2 : ds[m]? with
    | none => rw [e2] at hz; cases hz
    | some e' =>
      rw [e2] at hz
      cases hz
      rw [dq_vOf ry h2]
      exact h5 m e' hm e2
  · exact h.elim
end
theorem xe_attK {X : Cx} {K : PySem.W.Frag} (hK : X.K = K) {e : Expr} {de : DE} {pos : Pos} {n : Str} (he : XE X e de) (hb : attributeBase e n X.env (eval e X.env) = eval e X.env := by rfl) : XE X (.Attribute e n pos) (dAttX K n de) := by
  subst hK
  exact xe_attX he hb
/-- what was there is as it was -/
def MoreM (M M' : Mem) : Prop := ∀ a, M a ≠ none → M' a = M a
theorem MoreM.refl (M : Mem) : MoreM M M := fun _ _ => rfl
theorem MoreM.trans {M M1 M2 : Mem} (h : MoreM M M1) (h' : MoreM M1 M2) : MoreM M M2 := fun a ha => (h' a (by rw [h a ha]; exact ha)).trans (h a ha)
theorem MoreM.born {M M' : Mem} (h : MoreM M M') {p : Addr} {o : MO} (hp : M' p = none) : MoreM M (put M' p o) := fun a ha => by
  have e := h a ha
  have ne : a ≠ p := fun z => ha (by rw [← e, z]; exact hp)
  rw [put_ne ne]; exact e
theorem MoreM.at {M M' : Mem} (h : MoreM M M') {p : Addr} {o : MO} (hp : M p = some o) : M' p = some o := (h p (by rw [hp]; exact nofun)).trans hp
theorem MoreM.to {M M' : Mem} (h : MoreM M M') {p : Addr} {o : MO} (hp : M p = none) : MoreM M (put M' p o) := fun a ha => by
  have ne : a ≠ p := fun z => ha (by rw [z]; exact hp)
  rw [put_ne ne]
  exact h a ha
theorem MoreM.no {M M' : Mem} (h : MoreM M M') {p : Addr} (hp : M' p = none) : M p = none := by
  cases e : M p with
  | none => rfl
  | some o => rw [h.at e] at hp; cases hp
theorem IsL.more {M M' : Mem} {s : Sl} {xs : List Sl} (l : IsL M s xs) (h : MoreM M M') : IsL M' s xs := by
  rcases l with ⟨ds, rfl, rfl⟩ | ⟨a, rfl, e⟩
  · exact .dat
  · exact .own (h.at e)
/-- a comprehension whose element is a function of the item; new things of ours may come -/
theorem lc_mapM {s : Sl} {xs : List Sl} {M1 : Mem} {Γ : Fm} {vs : List Nat} {j : Nat} {el : DE} {K : Addr → Mem → Prop} (f : Sl → Sl) (l : IsL M1 s xs) (hz : xs.length < 16777216)
    (he : ∀ (i : Nat) x, xs[i]? = some x → ∀ (M' : Mem) (k' : DK), MoreM M1 M' → (∀ M'', MoreM M' M'' → k' (f x) M'') → el ((wipeF Γ vs).set j (some x)) M' k') (hk : ∀ p M', M1 p = none → M' p = some (.lst (xs.map f)) → MoreM M1 M' → K p M') :
    ∃ xs, IsL M1 s xs ∧ ∀ p, M1 p = none → ∃ Inv : Nat → Mem → Prop, Inv 0 (put M1 p (.lst [])) ∧ (∀ i M', i ≤ xs.length → Inv i M' → IsL M' s xs) ∧
      (∀ i x M', xs[i]? = some x → Inv i M' → lcTurn p Γ vs j dYes el (Inv (i + 1)) x M') ∧ ∀ M', Inv xs.length M' → K p M' := by
  refine ⟨xs, l, fun p hp => ⟨fun i M' => M' p = some (.lst ((xs.take i).map f)) ∧ MoreM M1 M', ⟨put_at, (MoreM.refl M1).born hp⟩, fun i M' _ e => l.more e.2, fun i x M' hx e => ?_, fun M' e => hk p M' hp (by rw [e.1, List.take_length]) e.2⟩⟩
  obtain ⟨e1, e2⟩ := e
  refine ⟨fun _ => he i x hx _ _ e2 fun M'' hm => ?_, fun z => nomatch z⟩
  have hi : i < xs.length := (List.getElem?_eq_some_iff.mp hx).1
  refine ⟨_, hm.at e1, by rw [List.length_map, List.length_take]; omega, ?_, (e2.trans hm).to hp⟩
  rw [put_at, List.take_add_one, hx]
  simp
theorem paired_at {α β : Type} {R : α → β → Prop} : ∀ {xs : List α} {ys : List β}, Paired R xs ys → ∀ {i : Nat} {x : α} {y : β}, xs[i]? = some x → ys[i]? = some y → R x y
  | _, _, .nil, _, _, _, h, _ => by simp at h
  | _, _, .cons r _, 0, _, _, h1, h2 => by simp at h1 h2; subst h1 h2; exact r
  | _, _, .cons _ t, i + 1, _, _, h1, h2 => paired_at t (by simpa using h1) (by simpa using h2)
/-- .. told item by item -/
theorem lc_listM {s : Sl} {xs : List Sl} {M1 : Mem} {Γ : Fm} {vs : List Nat} {j : Nat} {el : DE} {K : Addr → Mem → Prop} (ys : List Sl) (R : Sl → Sl → Prop) (pr : Paired R xs ys) (l : IsL M1 s xs) (hz : xs.length < 16777216)
    (he : ∀ x y, R x y → ∀ (M' : Mem) (k' : DK), MoreM M1 M' → (∀ M'', MoreM M' M'' → k' y M'') → el ((wipeF Γ vs).set j (some x)) M' k') (hk : ∀ p M', M1 p = none → M' p = some (.lst ys) → MoreM M1 M' → K p M') :
    ∃ xs, IsL M1 s xs ∧ ∀ p, M1 p = none → ∃ Inv : Nat → Mem → Prop, Inv 0 (put M1 p (.lst [])) ∧ (∀ i M', i ≤ xs.length → Inv i M' → IsL M' s xs) ∧
      (∀ i x M', xs[i]? = some x → Inv i M' → lcTurn p Γ vs j dYes el (Inv (i + 1)) x M') ∧ ∀ M', Inv xs.length M' → K p M' := by
  have hl : xs.length = ys.length := Paired.length pr
  refine ⟨xs, l, fun p hp => ⟨fun i M' => M' p = some (.lst (ys.take i)) ∧ MoreM M1 M', ⟨put_at, (MoreM.refl M1).born hp⟩, fun i M' _ e => l.more e.2, fun i x M' hx e => ?_, fun M' e => hk p M' hp (by rw [e.1, hl, List.take_length]) e.2⟩⟩
  obtain ⟨e1, e2⟩ := e
  have hi : i < xs.length := (List.getElem?_eq_some_iff.mp hx).1
  have hy : ys[i]? = some (ys[i]'(by omega)) := List.getElem?_eq_getElem (by omega)
  refine ⟨fun _ => he x _ (paired_at pr hx hy) _ _ e2 fun M'' hm => ?_, fun z => nomatch z⟩
  refine ⟨_, hm.at e1, by rw [List.length_take]; omega, ?_, (e2.trans hm).to hp⟩
  rw [put_at, List.take_add_one, hy]
  simp
/-! ### the error classes, apart from one another -/
structure Kinds (K : PySem.W.Frag) (B : Addr) (cs : List Addr) : Prop where
  er : ∀ c ∈ cs, ErrC K c
  ee : ∀ (i j : Nat) (c d : Addr), cs[i]? = some c → cs[j]? = some d → PySem.W.kitOne K (.ref c) (.ref d) = some (decide (i = j))
  ve : ∀ c ∈ cs, PySem.W.kitOne K (.ref c) (.type "ValueError") = some true
  we : ∀ c ∈ cs, PySem.W.kitOne K (.ref c) (.ref B) = some true
  no : ∀ c ∈ cs, PySem.W.kitOne K (.type "NoneType") (.ref c) = some false
  ew : ∀ c ∈ cs, PySem.W.exmOne K (.ref c) (.ref B) = some true
  eb : ErrC K B
  be : ∀ c ∈ cs, PySem.W.kitOne K (.ref B) (.ref c) = some false
  bv : PySem.W.kitOne K (.ref B) (.type "ValueError") = some true
def kindsB (K : PySem.W.Frag) (B : Addr) (cs : List Addr) : Bool :=
  errB K B && (decide (PySem.W.kitOne K (.ref B) (.type "ValueError") = some true) && (cs.all (fun c => errB K c && (decide (PySem.W.kitOne K (.ref c) (.type "ValueError") = some true) && (decide (PySem.W.kitOne K (.ref c) (.ref B) = some true) && (decide (PySem.W.kitOne K (.type "NoneType") (.ref c) = some false) &&
    (decide (PySem.W.exmOne K (.ref c) (.ref B) = some true) && decide (PySem.W.kitOne K (.ref B) (.ref c) = some false)))))) && (cs.zipIdx.all fun p => cs.zipIdx.all fun q => decide (PySem.W.kitOne K (.ref p.1) (.ref q.1) = some (decide (p.2 = q.2))))))
theorem kindsB_ok {K : PySem.W.Frag} {B : Addr} {cs : List Addr} (h : kindsB K B cs = true) : Kinds K B cs := by
  unfold kindsB at h
  simp only [Bool.and_eq_true, decide_eq_true_eq, List.all_eq_true] at h
  obtain ⟨h1, h2, h3, h4⟩ := h
  refine ⟨fun c hc => errB_ok (h3 c hc).1, fun i j c d hi hj => ?_, fun c hc => (h3 c hc).2.1, fun c hc => (h3 c hc).2.2.1, fun c hc => (h3 c hc).2.2.2.1, fun c hc => (h3 c hc).2.2.2.2.1, errB_ok h1, fun c hc => (h3 c hc).2.2.2.2.2, h2⟩
  exact h4 (c, i) (List.mk_mem_zipIdx_iff_getElem?.mpr hi) (d, j) (List.mk_mem_zipIdx_iff_getElem?.mpr hj)
end DL
namespace DL
open PySem PySem.Spec PyProof.Rows L2
/-! ### an error class with a field: its facts, gathered -/
def SupW (P : Program) (K : PySem.W.Frag) (C : Addr) (f : Str) : Prop := ∀ mg : Str → Option Value, mg "super" = none → SupC P K mg C f
def supB (K : PySem.W.Frag) (C : Addr) (f : Str) : Bool :=
  decide (PySem.W.findIn K (.ref C) "__setattr__" = some (some (.builtin "object.__setattr__"))) && (decide (PySem.W.subIn K (.ref C) (.type "BaseException") = some true) && (decide (PySem.W.typeIn K (.ref C) = some (.type "type")) && (PySem.W.keepIn K (.ref C) &&
  (decide (PySem.W.findIn K (.ref C) f = some none) && (decide (PySem.W.subIn K (.ref C) (.type "ValueError") = some true) && (decide (PySem.W.mroIn K C (.ref C) = some true) && (decide (PySem.W.ks_superIn K C C "__init__" = some (some (.builtin "ValueError.__init__"))) && decide (PySem.W.nsIn K cStatics "thirdparty.any" = some none))))))))
theorem supW_mk {P : Program} {K : PySem.W.Frag} {C N fI cda cc : Addr} {f cnm cq : Str} {bs bm : List Value} {sn : List Str} {sub : List Value} {ab : Bool} {col : Option Bool} {dd : Option Addr} {k0 k1 k2 k3 k5 : Option Value}
    {nm qual : Str} {params : Arguments} {scope : Scope} {dV kV doc pm ct oc ccl cl : Value} {an od cdd cld : Option Addr} {osl ccs csl : Array (Option Value)} {vs : Array Value} {file m : Str} {tf : Tok} {j : Nat} {ar : Arg} {p0 p1 p2 p3 p4 p5 p6 p7 p8 p9 : Pos}
    (lC : K.lookup C = some (excClassObj cnm cq C N bs bm true sn sub ab col dd k0 k1 k2 k3 k5 "ValueError.__new__")) (hbm : PySem.HandSPX.refsVE bm = true) (b : supB K C f = true) (top : (P.main.scope.names.lookup ("super" : Str)).isSome = false)
    (iC : PySem.W.findIn K (.ref C) "__init__" = some (some (.ref fI))) (tI : PySem.W.typeIn K (.ref fI) = some (.type "function"))
    (lf : K.lookup fI = some ⟨oc, od, .func (PySem.W.ksFn nm qual params [.Expr (.Call (.Attribute (.Call (.Name "super" p0) [] [] p1) "__init__" p2) [.Constant (.str m) j p3] [] p4) p5, .Assign [.Attribute (.Name "self" p6) f p7] (.Name f p8) p9] scope dV kV doc pm an (.ref cda) ct cc), osl⟩)
    (hcd : PySem.W.codeIn K (.ref cda) qual = true) (lcda : K.lookup cda = some ⟨ccl, cdd, .fields vs, ccs⟩) (hvs : vs[2]? = some (.str file tf)) (hfile : ((P.main.file : Str) == file) = true) (lcc : K.lookup cc = some ⟨cl, cld, .cell (some (.ref C)), csl⟩)
    (hpar : (params.posonlyargs ++ params.args).head? = some ar) (har : ar.arg = "self") (hs : scope.names.lookup ("super" : Str) = some .globalImplicit ∧ scope.names.lookup ("__class__" : Str) = some .free ∧ scope.names.lookup ("self" : Str) = some .local ∧ scope.names.lookup f = some .local)
    (hcell : ∀ x ∈ scope.names, x.2 ≠ .cell) (hk : scope.kind = .function ∧ scope.isCoroutine = false ∧ scope.isGenerator = false)
    (hb : ∀ (s : Shared) (u v : Value), BindsTo s (PySem.W.ksFn nm qual params [.Expr (.Call (.Attribute (.Call (.Name "super" p0) [] [] p1) "__init__" p2) [.Constant (.str m) j p3] [] p4) p5, .Assign [.Attribute (.Name "self" p6) f p7] (.Name f p8) p9] scope dV kV doc pm an (.ref cda) ct cc) ⟨[u, v], []⟩ [("self", u), (f, v)])
    (hne : f ≠ "self") (hdb : (f == ("__debug__" : Str)) = false)
    (hev : ∀ env : Env, ∃ pl : Sem Bool, eval (.Call (.Attribute (.Call (.Name "super" p0) [] [] p1) "__init__" p2) [.Constant (.str m) j p3] [] p4) env = (do
      let ov ← attributeBase (.Call (.Name "super" p0) [] [] p1) "__init__" env (eval (.Call (.Name "super" p0) [] [] p1) env)
      standAt p2.atName
      let (f, first) ← holding [ov] (getMethod ov "__init__" pl)
      callWith p4 f first (backTo p4 (starEach [.Constant (.str m) j p3] env)) []))
    (hsw1 : ∀ env : Env, swapsWith (.Call (.Attribute (.Call (.Name "super" p0) [] [] p1) "__init__" p2) [.Constant (.str m) j p3] [] p4) none p5.line env = pure false)
    (hsw2 : ∀ env : Env, swapsWith (.Name f p8) (some (.Attribute (.Name "self" p6) f p7)) p9.line env = pure false) : SupW P K C f := by
  unfold supB at b
  simp only [Bool.and_eq_true, decide_eq_true_eq] at b
  obtain ⟨b1, b2, b3, b4, b5, b6, b7, b8, b9⟩ := b
  exact fun mg gs => ⟨⟨⟨_, _, _, _, _, _, _, _, _, _, _, _, _, _, _, lC, hbm⟩, b1, b2, b3, b4⟩, b5, b6, b7, b8, b9, gs, top,
    ⟨fI, cda, cc, nm, qual, params, scope, dV, kV, doc, pm, ct, oc, ccl, cl, an, od, cdd, cld, osl, ccs, csl, vs, file, m, tf, j, ar, p0, p1, p2, p3, p4, p5, p6, p7, p8, p9, iC, tI, lf, hcd, lcda, hvs, hfile, lcc, hpar, har, hs.1, hs.2.1, hs.2.2.1, hs.2.2.2, hcell, hk.1, hk.2.1, hk.2.2, hb, hne, hdb, hev, hsw1, hsw2⟩⟩
end DL
namespace LW
open PySem PySem.Spec PyProof.Rows DL
open L2 hiding del del_ne del_same
def top (i : Nat) : Stmt := PySem.Challenge.pw_latewood_k05_refusals_apart.main.body.getD i (.Pass ⟨0, 0, 0, 0⟩)
abbrev s_llmixed : Stmt := top 20
abbrev N_llmixed : List Str := ["cell", "at", "one", "two", "three"]
theorem sc_llmixed : FnScope N_llmixed ["cell", "at"] (defScope s_llmixed) := ⟨rfl, rfl, rfl, by decide +kernel, rfl, by decide +kernel, by decide +kernel⟩
abbrev s_llopen : Stmt := top 21
abbrev N_llopen : List Str := ["script"]
theorem sc_llopen : FnScope N_llopen ["script"] (defScope s_llopen) := ⟨rfl, rfl, rfl, by decide +kernel, rfl, by decide +kernel, by decide +kernel⟩
abbrev s_lldraw : Stmt := top 22
abbrev N_lldraw : List Str := ["feed", "many", "drawn", "at", "cell"]
theorem sc_lldraw : FnScope N_lldraw ["feed", "many"] (defScope s_lldraw) := ⟨rfl, rfl, rfl, by decide +kernel, rfl, by decide +kernel, by decide +kernel⟩
abbrev s_llkind : Stmt := top 23
abbrev N_llkind : List Str := ["caught", "kinds", "words"]
theorem sc_llkind : FnScope N_llkind ["caught"] (defScope s_llkind) := ⟨rfl, rfl, rfl, by decide +kernel, rfl, by decide +kernel, by decide +kernel⟩
abbrev s_law : Stmt := top 24
abbrev N_law : List Str := ["script", "feed", "text", "turn", "number", "rest", "pairs", "made", "words", "one"]
theorem sc_law : FnScope N_law ["script"] (defScope s_law) := ⟨rfl, rfl, rfl, by decide +kernel, rfl, by decide +kernel, by decide +kernel⟩
structure Tx (P : Program) (K : PySem.W.Frag) (mg : Str → Option Value) where
  f_llmixed : Addr
  fd_llmixed : FuncData
  F_llmixed : Fun K "_law_lmixed" "_law_lmixed" s_llmixed f_llmixed fd_llmixed
  g_llmixed : mg "_law_lmixed" = some (.ref f_llmixed)
  b_llmixed : Binds K fd_llmixed ["cell", "at"] []
  f_llopen : Addr
  fd_llopen : FuncData
  F_llopen : Fun K "_law_lopen" "_law_lopen" s_llopen f_llopen fd_llopen
  g_llopen : mg "_law_lopen" = some (.ref f_llopen)
  b_llopen : Binds K fd_llopen ["script"] []
  f_lldraw : Addr
  fd_lldraw : FuncData
  F_lldraw : Fun K "_law_ldraw" "_law_ldraw" s_lldraw f_lldraw fd_lldraw
  g_lldraw : mg "_law_ldraw" = some (.ref f_lldraw)
  b_lldraw : Binds K fd_lldraw ["feed", "many"] []
  f_llkind : Addr
  fd_llkind : FuncData
  F_llkind : Fun K "_law_lkind" "_law_lkind" s_llkind f_llkind fd_llkind
  g_llkind : mg "_law_lkind" = some (.ref f_llkind)
  b_llkind : Binds K fd_llkind ["caught"] []
  f_law : Addr
  fd_law : FuncData
  F_law : Fun K "law" "law" s_law f_law fd_law
  g_law : mg "law" = some (.ref f_law)
  b_law : Binds K fd_law ["script"] []
  C_WoodError : Addr
  gC_WoodError : mg "WoodError" = some (.ref C_WoodError)
  E_WoodError : ErrC K C_WoodError
  q_WoodError : PySem.W.excIn K C_WoodError PySem.HandSPX.veTail "ValueError.__new__" = true
  C_NoPiece : Addr
  gC_NoPiece : mg "NoPiece" = some (.ref C_NoPiece)
  E_NoPiece : ErrC K C_NoPiece
  q_NoPiece : PySem.W.excIn K C_NoPiece PySem.HandSPX.veTail "ValueError.__new__" = true
  C_TooMany : Addr
  gC_TooMany : mg "TooMany" = some (.ref C_TooMany)
  E_TooMany : ErrC K C_TooMany
  q_TooMany : PySem.W.excIn K C_TooMany PySem.HandSPX.veTail "ValueError.__new__" = true
  C_NoRun : Addr
  gC_NoRun : mg "NoRun" = some (.ref C_NoRun)
  E_NoRun : ErrC K C_NoRun
  q_NoRun : PySem.W.excIn K C_NoRun PySem.HandSPX.veTail "ValueError.__new__" = true
  C_NoWood : Addr
  gC_NoWood : mg "NoWood" = some (.ref C_NoWood)
  E_NoWood : ErrC K C_NoWood
  q_NoWood : PySem.W.excIn K C_NoWood PySem.HandSPX.veTail "ValueError.__new__" = true
  C_NoHouse : Addr
  gC_NoHouse : mg "NoHouse" = some (.ref C_NoHouse)
  E_NoHouse : ErrC K C_NoHouse
  q_NoHouse : PySem.W.excIn K C_NoHouse PySem.HandSPX.veTail "ValueError.__new__" = true
  C_NoShifts : Addr
  gC_NoShifts : mg "NoShifts" = some (.ref C_NoShifts)
  E_NoShifts : ErrC K C_NoShifts
  q_NoShifts : PySem.W.excIn K C_NoShifts PySem.HandSPX.veTail "ValueError.__new__" = true
  C_NotRight : Addr
  gC_NotRight : mg "NotRight" = some (.ref C_NotRight)
  E_NotRight : ErrC K C_NotRight
  q_NotRight : PySem.W.excIn K C_NotRight PySem.HandSPX.veTail "ValueError.__new__" = true
  C_NoMore : Addr
  gC_NoMore : mg "NoMore" = some (.ref C_NoMore)
  E_NoMore : ErrC K C_NoMore
  q_NoMore : PySem.W.excIn K C_NoMore PySem.HandSPX.veTail "ValueError.__new__" = true
  C_NotOne : Addr
  gC_NotOne : mg "NotOne" = some (.ref C_NotOne)
  E_NotOne : ErrC K C_NotOne
  q_NotOne : PySem.W.excIn K C_NotOne PySem.HandSPX.veTail "ValueError.__new__" = true
  C_NoGap : Addr
  gC_NoGap : mg "NoGap" = some (.ref C_NoGap)
  E_NoGap : ErrC K C_NoGap
  q_NoGap : PySem.W.excIn K C_NoGap PySem.HandSPX.veTail "ValueError.__new__" = true
  C_NoDealing : Addr
  gC_NoDealing : mg "NoDealing" = some (.ref C_NoDealing)
  E_NoDealing : ErrC K C_NoDealing
  q_NoDealing : PySem.W.excIn K C_NoDealing PySem.HandSPX.veTail "ValueError.__new__" = true
  C_NoPlace : Addr
  gC_NoPlace : mg "NoPlace" = some (.ref C_NoPlace)
  E_NoPlace : ErrC K C_NoPlace
  q_NoPlace : PySem.W.excIn K C_NoPlace PySem.HandSPX.veTail "ValueError.__new__" = true
  C_NotWhole : Addr
  gC_NotWhole : mg "NotWhole" = some (.ref C_NotWhole)
  E_NotWhole : ErrC K C_NotWhole
  q_NotWhole : PySem.W.excIn K C_NotWhole PySem.HandSPX.veTail "ValueError.__new__" = true
  C_NoBack : Addr
  gC_NoBack : mg "NoBack" = some (.ref C_NoBack)
  E_NoBack : ErrC K C_NoBack
  q_NoBack : PySem.W.excIn K C_NoBack PySem.HandSPX.veTail "ValueError.__new__" = true
  C_NoRow : Addr
  gC_NoRow : mg "NoRow" = some (.ref C_NoRow)
  E_NoRow : ErrC K C_NoRow
  q_NoRow : PySem.W.excIn K C_NoRow PySem.HandSPX.veTail "ValueError.__new__" = true
  C_Clash : Addr
  gC_Clash : mg "Clash" = some (.ref C_Clash)
  E_Clash : ErrC K C_Clash
  S_Clash : SupC P K mg C_Clash "pair"
  C_NoText : Addr
  gC_NoText : mg "NoText" = some (.ref C_NoText)
  E_NoText : ErrC K C_NoText
  S_NoText : SupC P K mg C_NoText "at"
  kinds : Kinds K C_WoodError [C_NoPiece, C_TooMany, C_NoRun, C_NoWood, C_NoHouse, C_NoShifts, C_NotRight, C_NoMore, C_NotOne, C_NoGap, C_NoDealing, C_NoPlace, C_NotWhole, C_NoBack, C_NoRow, C_Clash, C_NoText]
  m_ValueError : mg "ValueError" = none
  m_all : mg "all" = none
  m_isinstance : mg "isinstance" = none
  m_len : mg "len" = none
  m_list : mg "list" = none
  m_range : mg "range" = none
  m_repr : mg "repr" = none
  m_super : mg "super" = none
end LW
namespace LW
open PySem PySem.Spec PyProof.Rows DL
open L2 hiding del del_ne del_same
/-- feed: its cells, how often it was filled, what is left -/
def Feed (M : Mem) (f : Addr) (n : Int) : Prop := ∃ (cs : List Int) (at_ left : Int), M f = some (.lst [.dat (.list (cs.map .int)), .dat (.int at_), .dat (.int left)]) ∧ cs.length ≤ 60 ∧ 0 ≤ at_ ∧ at_ ≤ n
theorem cut60 {ns : List Int} (h : ns.length ≤ 63) : (cut ns none (some 60)).length ≤ 60 := by
  unfold cut
  rw [List.length_take]
  have : HT.sIx ns.length ns.length (some 60) ≤ 60 := by
    unfold HT.sIx
    simp
    omega
  omega
def pr_llmixed : Pr := fun ss M q => ∃ c a : Int, ss = [.dat (.int c), .dat (.int a)] ∧ 0 ≤ a ∧ a ≤ 2 ^ 40 ∧ ∀ r : Int, q (.dat (.int r)) M
def pr_llopen (K : PySem.W.Frag) : Pr := fun ss M q => ∃ ns, ss = [.scr K ns] ∧ ns.length ≤ 63 ∧ ∀ f M', M f = none → Feed M' f 0 → (∀ a, a ≠ f → M' a = M a) → q (.own f) M'
def pr_lldraw : Pr := fun ss M q => ∃ (f : Addr) (many n : Int), ss = [.own f, .dat (.int many)] ∧ 0 < many ∧ many < 2 ^ 200 ∧ Feed M f n ∧ n ≤ 2 ^ 39 ∧ ∀ (r : Int) M', 0 ≤ r → r < many → Feed M' f (n + 1) → (∀ a, a ≠ f → M' a = M a) → q (.dat (.int r)) M'
theorem feed_put {M : Mem} {f : Addr} {cs : List Int} {at_ left n : Int} (h1 : cs.length ≤ 60) (h2 : 0 ≤ at_) (h3 : at_ ≤ n) : Feed (put M f (.lst [.dat (.list (cs.map .int)), .dat (.int at_), .dat (.int left)])) f n := ⟨cs, at_, left, put_at, h1, h2, h3⟩
theorem eqv_nil {cs : List Int} : PyData.eqv (.list (cs.map .int)) (.list []) = cs.isEmpty := by
  cases cs with
  | nil => rfl
  | cons c cs => rfl
theorem canLay_ints : ∀ cs : List Int, PyData.canLayAll0 (cs.map .int) = true
  | [] => rfl
  | c :: cs => by
    show (PyData.canLay0 (.int c) && PyData.canLayAll0 (cs.map .int)) = true
    rw [canLay_ints cs] <;> rfl
theorem depth_ints : ∀ cs : List Int, PyData.depthAll (cs.map .int) ≤ 1
  | [] => by decide
  | c :: cs => by
    show max (PyData.depth (.int c)) (PyData.depthAll (cs.map .int)) ≤ 1
    have := depth_ints cs
    have e : PyData.depth (.int c) = 0 := rfl
    omega
theorem shaped_ints (cs : List Int) : SeqAt.shaped (.list (cs.map .int)) = true := by
  unfold SeqAt.shaped
  rw [Bool.and_eq_true]
  refine ⟨canLay_ints cs, decide_eq_true ?_⟩
  have := depth_ints cs
  show PyData.depthAll (cs.map .int) + 1 ≤ 64
  omega
theorem Feed.up {M : Mem} {f : Addr} {n m : Int} (h : Feed M f n) (le : n ≤ m) : Feed M f m := by
  obtain ⟨cs, a, l, h1, h2, h3, h4⟩ := h
  exact ⟨cs, a, l, h1, h2, h3, by omega⟩
theorem Feed.put {M : Mem} {f p : Addr} {n : Int} {o : MO} (h : Feed M f n) (ne : f ≠ p) : Feed (put M p o) f n := by
  obtain ⟨cs, a, l, h1, h2⟩ := h
  exact ⟨cs, a, l, (put_ne ne).trans h1, h2⟩
theorem Feed.del {M : Mem} {f p : Addr} {n : Int} (h : Feed M f n) (ne : f ≠ p) : Feed (del M p) f n := by
  obtain ⟨cs, a, l, h1, h2⟩ := h
  exact ⟨cs, a, l, (del_ne ne).trans h1, h2⟩
theorem Feed.ne {M : Mem} {f p : Addr} {n : Int} (h : Feed M f n) (hp : M p = none) : f ≠ p := by
  obtain ⟨cs, a, l, h1, h2⟩ := h
  exact ne_mem h1 hp
section
variable {P : Program} {w : World} {K : PySem.W.Frag} {mg : Str → Option Value} {base : Heap}
theorem ok_llmixed (T : Tx P K mg) : Holds P w K mg base 1 T.f_llmixed T.fd_llmixed ["cell", "at"] pr_llmixed := by
  refine holds_of T.F_llmixed sc_llmixed (fun ss M q h => ?len) (fun cdv A outer s H hr => (xss_cons (xs_asgN (ps_set (i := 2) sc_llmixed.nd rfl (by first | exact .inl rfl | exact .inr rfl) (xe_mod (xe_addD (xe_addD (xe_mul (xe_mod (xv 0) xe_int) xe_int) (xe_mul (xv 1) xe_int)) xe_int) xe_int)) simLE)
      (xss_cons (xs_asgN (ps_set (i := 3) sc_llmixed.nd rfl (by first | exact .inl rfl | exact .inr rfl) (xe_mod (xe_addD (xe_addD (xe_mul (xv 2) (xv 2)) (xe_mul (xe_mul (xv 1) (xv 1)) xe_int)) xe_int) xe_int)) simLE)
      (xss_cons (xs_asgN (ps_set (i := 4) sc_llmixed.nd rfl (by first | exact .inl rfl | exact .inr rfl) (xe_mod (xe_addD (xe_addD (xe_mul (xv 3) (xv 3)) (xv 2)) (xv 1)) xe_int)) simLE)
      (xss_one (xs_ret (xe_addD (xe_mul (xe_addD (xe_mul (xv 4) xe_int) (xv 3)) xe_int) (xv 2)))))))) (fun ss M q h => ?read)
  case len =>
    obtain ⟨c, a, rfl, _⟩ := h
    rfl
  case read =>
    obtain ⟨c, a, rfl, h0, h1, k⟩ := h
    refine ⟨_, rfl, (show (0 : Int) < 2147483647 by decide), ?_⟩
    have e0 := Int.emod_nonneg c (show (2147483647 : Int) ≠ 0 by decide)
    have e1 := Int.emod_lt_of_pos c (show (0 : Int) < 2147483647 by decide)
    refine ⟨.inl ⟨by omega, by omega⟩, ?_⟩
    refine ⟨_, rfl, ⟨.inl ⟨by omega, by omega⟩, ?_⟩⟩
    refine ⟨(show (0 : Int) < 2147483629 by decide), ?_⟩
    generalize hone : (c % 2147483647 * 48271 + a * 7919 + 11) % 2147483629 = one
    have f0 : 0 ≤ one := by rw [← hone]; exact Int.emod_nonneg _ (by decide)
    have f1 : one < 2147483629 := by rw [← hone]; exact Int.emod_lt_of_pos _ (by decide)
    refine ⟨_, rfl, _, rfl, ⟨.inl ⟨by omega, by omega⟩, ?_⟩⟩
    refine ⟨_, rfl, _, rfl, ⟨.inl ⟨by omega, by omega⟩, ?_⟩⟩
    refine ⟨.inr ⟨by decide, by decide⟩, ?_⟩
    refine ⟨(show (0 : Int) < 2147483587 by decide), ?_⟩
    generalize htwo : (one * one + a * a * 31 + 5) % 2147483587 = two
    have g0 : 0 ≤ two := by rw [← htwo]; exact Int.emod_nonneg _ (by decide)
    have g1 : two < 2147483587 := by rw [← htwo]; exact Int.emod_lt_of_pos _ (by decide)
    refine ⟨_, rfl, _, rfl, ⟨.inl ⟨by omega, by omega⟩, ?_⟩⟩
    refine ⟨_, rfl, ?_⟩
    refine ⟨_, rfl, ?_⟩
    refine ⟨(show (0 : Int) < 2147483563 by decide), ?_⟩
    generalize hthree : (two * two + one + a) % 2147483563 = three
    have j0 : 0 ≤ three := by rw [← hthree]; exact Int.emod_nonneg _ (by decide)
    have j1 : three < 2147483563 := by rw [← hthree]; exact Int.emod_lt_of_pos _ (by decide)
    refine ⟨_, rfl, ⟨.inl ⟨by omega, by omega⟩, ?_⟩⟩
    refine ⟨_, rfl, ?_⟩
    refine ⟨.inl ⟨by omega, by omega⟩, ?_⟩
    refine ⟨_, rfl, ?_⟩
    exact k _
theorem ok_llopen (T : Tx P K mg) : Holds P w K mg base 1 T.f_llopen T.fd_llopen ["script"] (pr_llopen K) := by
  refine holds_of T.F_llopen sc_llopen (fun ss M q h => ?len) (fun cdv A outer s H hr => (xss_one (xs_ret (xe_lst (xa_cons (xe_fz (xe_callB sim_list (pe_callTy call_list_of rfl T.m_list (by decide +kernel) (xa_cons (xe_slS (K := K) rfl (xv 0) xo_none (xo_some xe_int)) xa_nil)))) (xa_cons xe_int (xa_cons xe_int xa_nil))))))) (fun ss M q h => ?read)
  case len =>
    obtain ⟨c, rfl, _⟩ := h
    rfl
  case read =>
    obtain ⟨ns, rfl, hn, k⟩ := h
    refine ⟨_, rfl, rfl, ?_⟩
    have hz := cut60 hn
    refine ⟨by rw [List.length_map]; omega, fun p hp => ?_⟩
    refine ⟨_, put_at, ?_⟩
    rw [del_put hp]
    refine ⟨rfl, fun f hf => ?_⟩
    exact k f _ hf ⟨_, 0, 0, put_at, hz, by decide, by decide⟩ fun a ha => put_ne ha
theorem ok_lldraw (T : Tx P K mg) : Holds P w K mg base 2 T.f_lldraw T.fd_lldraw ["feed", "many"] pr_lldraw := by
  refine holds_of T.F_lldraw sc_lldraw (fun ss M q h => ?len) (fun cdv A outer s H hr => (xss_cut (xs_if (xb_cmp (sim_I0 fun _ _ _ => .bl _) (pt_cmpR op_lt (xe_ix (xv 0) xe_int) (xv 1) (nomark _))) (xss_cons (xs_asgN (ps_set (i := 3) sc_lldraw.nd rfl (by first | exact .inl rfl | exact .inr rfl) (xe_ix (xv 0) xe_int)) simLE)
      (xss_cons (xs_asgN (ps_set (i := 4) sc_lldraw.nd rfl (by first | exact .inl rfl | exact .inr rfl) (xe_mul (xv 3) xe_int)) simLE)
      (xss_cut (xs_if (xb_cmp sim_ne (pt_cmpR (op_neAll hr.rm.units) (xe_ix (xv 0) xe_int) (xe_lstD xa_nil) (nomark _))) (xss_one (xs_asgN (ps_set (i := 4) sc_lldraw.nd rfl (by first | exact .inl rfl | exact .inr rfl) (xe_ix (xe_ix (xv 0) xe_int) (xe_mod (xv 3) (xe_callB sim_len (pe_callB call_lenA rfl T.m_len (by decide +kernel) (xa_cons (xe_ix (xv 0) xe_int) xa_nil)))))) simLE)) xss_nil)
      (xss_cons (xs_setL (ps_asg (xe_addD (xv 3) xe_int) (pg_sub (xv 0) xe_int set_list)))
      (xss_cons (xs_setL (ps_asg (xv 4) (pg_sub (xv 0) xe_int set_list)))
      (xss_one (xs_if (xb_w (xw_or (xb_cmp (sim_I0 fun _ _ _ => .bl _) (pt_cmpR op_lt (xv 4) (xe_pow xe_int xe_int) (nomark _))) (xw_or1 (xb_cmp (sim_I0 fun _ _ _ => .bl _) (pt_cmpR op_ge (xv 3) (xe_callB sim_len (pe_callB call_lenA rfl T.m_len (by decide +kernel) (xa_cons (xe_ix (xv 0) xe_int) xa_nil))) (nomark _)))))) (xss_one (xs_setL (ps_asg (xe_call (ok_llmixed T) (hr.mono (by decide)) T.g_llmixed T.F_llmixed.kp T.b_llmixed (xa_cons (xv 4) (xa_cons (xv 3) xa_nil))) (pg_sub (xv 0) xe_int set_list)))) xss_nil))))))) xss_nil)
      (xss_cons (xs_asgN (ps_set (i := 2) sc_lldraw.nd rfl (by first | exact .inl rfl | exact .inr rfl) (xe_mod (xe_ix (xv 0) xe_int) (xv 1))) simLE)
      (xss_cons (xs_setL (ps_asg (xe_fdiv (xe_ix (xv 0) xe_int) (xv 1)) (pg_sub (xv 0) xe_int set_list)))
      (xss_one (xs_ret (xv 2))))))) (fun ss M q h => ?read)
  case len =>
    obtain ⟨f, many, n, rfl, _⟩ := h
    rfl
  case read =>
    obtain ⟨f, many, n, rfl, hm0, hm1, ⟨cs, at_, left, hM, hc, ha0, ha1⟩, hn, k⟩ := h
    refine ⟨fun Γ' M' => ∃ (at2 left2 : Int) (x y z : Option Sl), Γ' = [some (.own f), some (.dat (.int many)), x, y, z] ∧ M' f = some (.lst [.dat (.list (cs.map .int)), .dat (.int at2), .dat (.int left2)]) ∧ 0 ≤ at2 ∧ at2 ≤ n + 1 ∧ ∀ a, a ≠ f → M' a = M a, ?_, ?_⟩
    · refine ⟨_, rfl, _, _, hM, rfl, _, rfl, fun hlt => ?_, fun hlt => ?_⟩
      · refine ⟨_, rfl, _, _, hM, rfl, ?_⟩
        refine ⟨_, rfl, .inr ⟨by decide, by decide⟩, ?_⟩
        refine ⟨fun Γ' M' => ∃ c : Int, Γ' = [some (.own f), some (.dat (.int many)), none, some (.dat (.int at_)), some (.dat (.int c))] ∧ M' = M, ?_, ?_⟩
        · refine ⟨_, rfl, _, _, hM, rfl, rfl, _, rfl, _, _, .inl rfl, .inl rfl, shaped_ints cs, rfl, ?_⟩
          refine ⟨fun hne => ?_, fun _ => ⟨_, rfl, rfl⟩⟩
          refine ⟨_, rfl, _, _, hM, rfl, _, rfl, _, rfl, _, _, hM, rfl, ?_⟩
          have hpos : 0 < cs.length := by
            cases cs with
            | nil => cases hne
            | cons _ _ => exact Nat.succ_pos _
          have hL : (cs.map PyData.int).length = cs.length := List.length_map ..
          have e0 := Int.emod_nonneg at_ (show ((cs.map PyData.int).length : Int) ≠ 0 by omega)
          have e1 := Int.emod_lt_of_pos at_ (show (0 : Int) < ((cs.map PyData.int).length : Int) by omega)
          refine ⟨(show (0 : Int) < ((cs.map PyData.int).length : Int) by omega), ?_⟩
          obtain ⟨j, ej⟩ : ∃ j : Nat, at_ % ((cs.map PyData.int).length : Int) = (j : Int) := ⟨(at_ % ((cs.map PyData.int).length : Int)).toNat, by omega⟩
          have hj : j < cs.length := by omega
          refine ⟨.int cs[j], (congrArg (atI _) ej).trans (atI_nat (by rw [List.getElem?_map, List.getElem?_eq_getElem hj] <;> rfl)), ?_⟩
          exact ⟨_, rfl, rfl⟩
        · rintro Γ' M' ⟨c, rfl, eM⟩
          have eM' := eM.symm
          subst eM'
          refine ⟨_, rfl, _, rfl, f, 1, _, 1, rfl, rfl, hM, rfl, ?_⟩
          refine ⟨_, rfl, _, rfl, f, 2, _, 2, rfl, rfl, put_at, rfl, ?_⟩
          rw [put_put]
          have wrap : ∀ (left2 : Int) (M' : Mem), M' f = some (.lst [.dat (.list (cs.map .int)), .dat (.int (at_ + 1)), .dat (.int left2)]) → (∀ a, a ≠ f → M' a = M a) → ∀ x y z : Option Sl, ∃ (at2 left2 : Int) (x' y' z' : Option Sl), ([some (.own f), some (.dat (.int many)), x, y, z] : Fm) = [some (.own f), some (.dat (.int many)), x', y', z'] ∧ M' f = some (.lst [.dat (.list (cs.map .int)), .dat (.int at2), .dat (.int left2)]) ∧ 0 ≤ at2 ∧ at2 ≤ n + 1 ∧ ∀ a, a ≠ f → M' a = M a :=
            fun left2 M' h1 h2 x y z => ⟨at_ + 1, left2, x, y, z, rfl, h1, by omega, by omega, h2⟩
          have mixed : ∀ r : Int, ∃ (at2 left2 : Int) (x y z : Option Sl), ([some (.own f), some (.dat (.int many)), none, some (.dat (.int at_)), some (.dat (.int c))] : Fm) = [some (.own f), some (.dat (.int many)), x, y, z] ∧ (put (put M f (.lst [.dat (.list (cs.map .int)), .dat (.int (at_ + 1)), .dat (.int c)])) f (.lst [.dat (.list (cs.map .int)), .dat (.int (at_ + 1)), .dat (.int r)])) f = some (.lst [.dat (.list (cs.map .int)), .dat (.int at2), .dat (.int left2)]) ∧ 0 ≤ at2 ∧ at2 ≤ n + 1 ∧ ∀ a, a ≠ f → (put (put M f (.lst [.dat (.list (cs.map .int)), .dat (.int (at_ + 1)), .dat (.int c)])) f (.lst [.dat (.list (cs.map .int)), .dat (.int (at_ + 1)), .dat (.int r)])) a = M a :=
            fun r => ⟨at_ + 1, r, _, _, _, rfl, put_at, by omega, by omega, fun a ha => by rw [put_ne ha, put_ne ha]⟩
          refine ⟨_, rfl, ⟨by decide, by decide, by decide⟩, ?_⟩
          refine ⟨fun hlt => ?_, fun hge => ?_⟩
          · refine ⟨fun _ => ?_, fun z => nomatch z⟩
            refine ⟨_, rfl, _, rfl, c, at_, rfl, ha0, by omega, fun r => ?_⟩
            exact ⟨_, rfl, f, 2, _, 2, rfl, rfl, put_at, rfl, mixed r⟩
          · refine ⟨_, rfl, _, rfl, _, _, put_at, rfl, ?_⟩
            refine ⟨fun hge2 => ?_, fun hlt2 => ?_⟩
            · refine ⟨_, rfl, _, rfl, c, at_, rfl, ha0, by omega, fun r => ?_⟩
              exact ⟨_, rfl, f, 2, _, 2, rfl, rfl, put_at, rfl, mixed r⟩
            · exact wrap c _ put_at (fun a ha => put_ne ha) _ _ _
      · exact ⟨at_, left, _, _, _, rfl, hM, ha0, by omega, fun _ _ => rfl⟩
    · rintro Γ' M' ⟨at2, left2, x, y, z, rfl, hM2, h20, h21, hoth⟩
      refine ⟨_, rfl, _, _, hM2, rfl, _, rfl, hm0, ?_⟩
      have e0 := Int.emod_nonneg left2 (show many ≠ 0 by omega)
      have e1 := Int.emod_lt_of_pos left2 hm0
      refine ⟨_, rfl, _, _, hM2, rfl, _, rfl, wide_div (b := 200) hm0 (by omega) (by decide) (by decide), ?_⟩
      refine ⟨_, rfl, f, 2, _, 2, rfl, rfl, hM2, rfl, ?_⟩
      refine ⟨_, rfl, ?_⟩
      exact k _ _ e0 e1 ⟨cs, at2, _, put_at, hc, h20, h21⟩ fun a ha => by rw [put_ne ha]; exact hoth a ha
end
end LW
namespace LW
open PySem PySem.Spec PyProof.Rows DL
open L2 hiding del del_ne del_same
def kindWords : List Str := ["piece", "many", "run", "wood", "house", "shifts", "right", "more", "one", "gap", "dealing", "place", "whole", "back", "row", "clash", "text"]
/-- what isinstance says of s and the classes cs-/
def Ask (K : PySem.W.Frag) (cs : List Addr) (s : Sl) (f : Nat → Bool) : Prop := ∀ (j : Nat) (c : Addr), cs[j]? = some c → ∀ (M : Mem) (k : DK), k (.dat (.bool (f j))) M → fIsiX K [s, .raw (.ref c)] M k
theorem ask_exc {K : PySem.W.Frag} {B : Addr} {cs : List Addr} (Z : Kinds K B cs) {i : Nat} {c : Addr} (hc : cs[i]? = some c) (fs : List (Str × Dt)) : Ask K cs (.exc c fs) fun j => decide (i = j) := fun j d hd M k h =>
  ⟨Z.er c (List.mem_of_getElem? hc), _, Z.ee i j c d hc hd, h⟩
theorem ask_non {K : PySem.W.Frag} {B : Addr} {cs : List Addr} (Z : Kinds K B cs) : Ask K cs (.dat .none) fun _ => false := fun j d hd M k h => ⟨_, Z.no d (List.mem_of_getElem? hd), h⟩
def kindsL (f : Nat → Bool) (n : Nat) : List Dt := (List.range n).map fun j => .bool (f j)
def pr_llkind (K : PySem.W.Frag) (cs : List Addr) : Pr := fun ss M q => ∃ (s : Sl) (f : Nat → Bool) (wd : Str), ss = [s] ∧ Ask K cs s f ∧
  ((∃ i, i < 17 ∧ f = (fun j => decide (i = j)) ∧ (∀ (M : Mem) (k : DK), k (.dat (.bool true)) M → fIsiX K [s, .raw (.ty "ValueError")] M k) ∧ kindWords[i]? = some wd) ∨ (f = (fun _ => false) ∧ wd = "odd")) ∧
  ∀ M', MoreM M M' → q (.dat (.str wd)) M'
theorem isi_go {K : PySem.W.Frag} {i : Nat} {v : V} {Γ : Fm} {M : Mem} {k : DK} {s : Sl} (h1 : Γ[i]? = some (some s)) (h2 : fIsiX K [s, .raw v] M k) : dCB (fIsiX K) (dCons (dV i) (dCons (dR v) dNil)) Γ M k := ⟨s, h1, h2⟩
def bT : V := .bl true
theorem cnt_kinds : ∀ i : Fin 17, (kindsL (fun j => decide (i.1 = j)) 17).countP (fun e => eqV (vOf e) bT) = 1 := by decide +kernel
theorem ix_kinds : ∀ i : Fin 17, ∀ m : Fin 17, (m.1 < i.1 → eqV (vOf (.bool (decide (i.1 = m.1)))) bT = false) := by decide +kernel
theorem kindsL_at (f : Nat → Bool) {n j : Nat} (h : j < n) : (kindsL f n)[j]? = some (.bool (f j)) := by
  unfold kindsL
  rw [List.getElem?_map, List.getElem?_range h] <;> rfl
theorem kindsL_flat (f : Nat → Bool) (n : Nat) : (kindsL f n).all flatD = true := by
  unfold kindsL
  rw [List.all_map, List.all_eq_true]
  exact fun _ _ => rfl
theorem kindsL_more (f : Nat → Bool) (n : Nat) : (kindsL f n).map Sl.dat ++ [.dat (.bool (f n)), .dat (.bool (f (n + 1)))] = (kindsL f (n + 2)).map Sl.dat := by
  unfold kindsL
  rw [List.range_succ, List.range_succ]
  simp
section
variable {P : Program} {w : World} {K : PySem.W.Frag} {mg : Str → Option Value} {base : Heap}
theorem ok_llkind (T : Tx P K mg) : Holds P w K mg base 1 T.f_llkind T.fd_llkind ["caught"] (pr_llkind K [T.C_NoPiece, T.C_TooMany, T.C_NoRun, T.C_NoWood, T.C_NoHouse, T.C_NoShifts, T.C_NotRight, T.C_NoMore, T.C_NotOne, T.C_NoGap, T.C_NoDealing, T.C_NoPlace, T.C_NotWhole, T.C_NoBack, T.C_NoRow, T.C_Clash, T.C_NoText]) := by
  refine holds_of T.F_llkind sc_llkind (fun ss M q h => ?len) (fun cdv A outer s H hr => (xss_cut (xs_asgN (ps_set (i := 1) sc_llkind.nd rfl (by first | exact .inl rfl | exact .inr rfl) (xe_lst (xa_cons (xe_callB (sim_isiX (K := K)) (pe_callB call_isiX rfl T.m_isinstance (by decide +kernel) (xa_cons (xv 0) (xa_cons (xe_raw (pe_glob (v := .ref T.C_NoPiece) rfl T.gC_NoPiece rfl)) xa_nil)))) (xa_cons (xe_callB (sim_isiX (K := K)) (pe_callB call_isiX rfl T.m_isinstance (by decide +kernel) (xa_cons (xv 0) (xa_cons (xe_raw (pe_glob (v := .ref T.C_TooMany) rfl T.gC_TooMany rfl)) xa_nil)))) (xa_cons (xe_callB (sim_isiX (K := K)) (pe_callB call_isiX rfl T.m_isinstance (by decide +kernel) (xa_cons (xv 0) (xa_cons (xe_raw (pe_glob (v := .ref T.C_NoRun) rfl T.gC_NoRun rfl)) xa_nil)))) xa_nil))))) simLE)
      (xss_cut (xs_asgN (ps_set (i := 1) sc_llkind.nd rfl (by first | exact .inl rfl | exact .inr rfl) (xe_add (xv 1) (xe_lst (xa_cons (xe_callB (sim_isiX (K := K)) (pe_callB call_isiX rfl T.m_isinstance (by decide +kernel) (xa_cons (xv 0) (xa_cons (xe_raw (pe_glob (v := .ref T.C_NoWood) rfl T.gC_NoWood rfl)) xa_nil)))) (xa_cons (xe_callB (sim_isiX (K := K)) (pe_callB call_isiX rfl T.m_isinstance (by decide +kernel) (xa_cons (xv 0) (xa_cons (xe_raw (pe_glob (v := .ref T.C_NoHouse) rfl T.gC_NoHouse rfl)) xa_nil)))) xa_nil))))) simLE)
      (xss_cut (xs_asgN (ps_set (i := 1) sc_llkind.nd rfl (by first | exact .inl rfl | exact .inr rfl) (xe_add (xv 1) (xe_lst (xa_cons (xe_callB (sim_isiX (K := K)) (pe_callB call_isiX rfl T.m_isinstance (by decide +kernel) (xa_cons (xv 0) (xa_cons (xe_raw (pe_glob (v := .ref T.C_NoShifts) rfl T.gC_NoShifts rfl)) xa_nil)))) (xa_cons (xe_callB (sim_isiX (K := K)) (pe_callB call_isiX rfl T.m_isinstance (by decide +kernel) (xa_cons (xv 0) (xa_cons (xe_raw (pe_glob (v := .ref T.C_NotRight) rfl T.gC_NotRight rfl)) xa_nil)))) xa_nil))))) simLE)
      (xss_cut (xs_asgN (ps_set (i := 1) sc_llkind.nd rfl (by first | exact .inl rfl | exact .inr rfl) (xe_add (xv 1) (xe_lst (xa_cons (xe_callB (sim_isiX (K := K)) (pe_callB call_isiX rfl T.m_isinstance (by decide +kernel) (xa_cons (xv 0) (xa_cons (xe_raw (pe_glob (v := .ref T.C_NoMore) rfl T.gC_NoMore rfl)) xa_nil)))) (xa_cons (xe_callB (sim_isiX (K := K)) (pe_callB call_isiX rfl T.m_isinstance (by decide +kernel) (xa_cons (xv 0) (xa_cons (xe_raw (pe_glob (v := .ref T.C_NotOne) rfl T.gC_NotOne rfl)) xa_nil)))) xa_nil))))) simLE)
      (xss_cut (xs_asgN (ps_set (i := 1) sc_llkind.nd rfl (by first | exact .inl rfl | exact .inr rfl) (xe_add (xv 1) (xe_lst (xa_cons (xe_callB (sim_isiX (K := K)) (pe_callB call_isiX rfl T.m_isinstance (by decide +kernel) (xa_cons (xv 0) (xa_cons (xe_raw (pe_glob (v := .ref T.C_NoGap) rfl T.gC_NoGap rfl)) xa_nil)))) (xa_cons (xe_callB (sim_isiX (K := K)) (pe_callB call_isiX rfl T.m_isinstance (by decide +kernel) (xa_cons (xv 0) (xa_cons (xe_raw (pe_glob (v := .ref T.C_NoDealing) rfl T.gC_NoDealing rfl)) xa_nil)))) xa_nil))))) simLE)
      (xss_cut (xs_asgN (ps_set (i := 1) sc_llkind.nd rfl (by first | exact .inl rfl | exact .inr rfl) (xe_add (xv 1) (xe_lst (xa_cons (xe_callB (sim_isiX (K := K)) (pe_callB call_isiX rfl T.m_isinstance (by decide +kernel) (xa_cons (xv 0) (xa_cons (xe_raw (pe_glob (v := .ref T.C_NoPlace) rfl T.gC_NoPlace rfl)) xa_nil)))) (xa_cons (xe_callB (sim_isiX (K := K)) (pe_callB call_isiX rfl T.m_isinstance (by decide +kernel) (xa_cons (xv 0) (xa_cons (xe_raw (pe_glob (v := .ref T.C_NotWhole) rfl T.gC_NotWhole rfl)) xa_nil)))) xa_nil))))) simLE)
      (xss_cut (xs_asgN (ps_set (i := 1) sc_llkind.nd rfl (by first | exact .inl rfl | exact .inr rfl) (xe_add (xv 1) (xe_lst (xa_cons (xe_callB (sim_isiX (K := K)) (pe_callB call_isiX rfl T.m_isinstance (by decide +kernel) (xa_cons (xv 0) (xa_cons (xe_raw (pe_glob (v := .ref T.C_NoBack) rfl T.gC_NoBack rfl)) xa_nil)))) (xa_cons (xe_callB (sim_isiX (K := K)) (pe_callB call_isiX rfl T.m_isinstance (by decide +kernel) (xa_cons (xv 0) (xa_cons (xe_raw (pe_glob (v := .ref T.C_NoRow) rfl T.gC_NoRow rfl)) xa_nil)))) xa_nil))))) simLE)
      (xss_cut (xs_asgN (ps_set (i := 1) sc_llkind.nd rfl (by first | exact .inl rfl | exact .inr rfl) (xe_add (xv 1) (xe_lst (xa_cons (xe_callB (sim_isiX (K := K)) (pe_callB call_isiX rfl T.m_isinstance (by decide +kernel) (xa_cons (xv 0) (xa_cons (xe_raw (pe_glob (v := .ref T.C_Clash) rfl T.gC_Clash rfl)) xa_nil)))) (xa_cons (xe_callB (sim_isiX (K := K)) (pe_callB call_isiX rfl T.m_isinstance (by decide +kernel) (xa_cons (xv 0) (xa_cons (xe_raw (pe_glob (v := .ref T.C_NoText) rfl T.gC_NoText rfl)) xa_nil)))) xa_nil))))) simLE)
      (xss_cons (xs_if (xb_w (xw_or (xb_cmp sim_ne (pt_cmpR (op_neAll hr.rm.units) (xe_bmL sim_countF (pe_bm PySem.F.plainAttrs_list PySem.F.slot_list_count PySem.F.type_list_count mt_countF (xv 1) (xa_cons xe_bl xa_nil))) xe_int (nomark _))) (xw_or1 (xb_not (xb_val (xe_callB (sim_isiX (K := K)) (pe_callB call_isiX rfl T.m_isinstance (by decide +kernel) (xa_cons (xv 0) (xa_cons (xe_raw (pe_bltn (v := .ty "ValueError") rfl T.m_ValueError (by decide +kernel) rfl)) xa_nil))))))))) (xss_one (xs_ret xe_str)) xss_nil)
      (xss_cons (xs_asgN (ps_set (i := 2) sc_llkind.nd rfl (by first | exact .inl rfl | exact .inr rfl) (xe_lstD (xa_cons xe_str (xa_cons xe_str (xa_cons xe_str (xa_cons xe_str (xa_cons xe_str (xa_cons xe_str (xa_cons xe_str (xa_cons xe_str (xa_cons xe_str xa_nil))))))))))) simLE)
      (xss_cons (xs_asgN (ps_set (i := 2) sc_llkind.nd rfl (by first | exact .inl rfl | exact .inr rfl) (xe_addD (xv 2) (xe_lstD (xa_cons xe_str (xa_cons xe_str (xa_cons xe_str (xa_cons xe_str (xa_cons xe_str (xa_cons xe_str (xa_cons xe_str (xa_cons xe_str xa_nil))))))))))) simLE)
      (xss_one (xs_ret (xe_ix (xv 2) (xe_bmL sim_indexF (pe_bm PySem.F.plainAttrs_list PySem.F.slot_list_index PySem.F.type_list_index mt_index (xv 1) (xa_cons xe_bl xa_nil)))))))))))))))))) (fun ss M q h => ?read)
  case len =>
    obtain ⟨s, f, wd, rfl, _⟩ := h
    rfl
  case read =>
    obtain ⟨s, f, wd, rfl, isi, hcase, k⟩ := h
    refine ⟨fun Γ' M' => ∃ p, Γ' = [some s, some (.own p), none] ∧ M' p = some (.lst ((kindsL f 3).map .dat)) ∧ MoreM M M', isi_go rfl (isi 0 _ rfl _ _ (isi_go rfl (isi 1 _ rfl _ _ (isi_go rfl (isi 2 _ rfl _ _ ⟨rfl, fun p hp => ⟨p, rfl, put_at, (MoreM.refl M).born hp⟩⟩))))), ?_⟩
    rintro Γ' M3 ⟨p, rfl, hm, K3⟩
    refine ⟨fun Γ' M' => ∃ p, Γ' = [some s, some (.own p), none] ∧ M' p = some (.lst ((kindsL f 5).map .dat)) ∧ MoreM M M', ⟨_, rfl, isi_go rfl (isi 3 _ rfl _ _ (isi_go rfl (isi 4 _ rfl _ _ ⟨rfl, fun p2 hp2 => ⟨_, _, IsL.own ((put_ne (ne_mem hm hp2)).trans hm), IsL.own put_at, by rw [List.length_map]; exact (show 3 + 2 ≤ 16777216 by decide), fun p3 hp3 => ⟨p3, rfl, put_at.trans (congrArg (fun z => some (MO.lst z)) (kindsL_more f 3)), (K3.born hp2).born hp3⟩⟩⟩)))⟩, ?_⟩
    rintro Γ' M5 ⟨p, rfl, hm, K5⟩
    refine ⟨fun Γ' M' => ∃ p, Γ' = [some s, some (.own p), none] ∧ M' p = some (.lst ((kindsL f 7).map .dat)) ∧ MoreM M M', ⟨_, rfl, isi_go rfl (isi 5 _ rfl _ _ (isi_go rfl (isi 6 _ rfl _ _ ⟨rfl, fun p2 hp2 => ⟨_, _, IsL.own ((put_ne (ne_mem hm hp2)).trans hm), IsL.own put_at, by rw [List.length_map]; exact (show 5 + 2 ≤ 16777216 by decide), fun p3 hp3 => ⟨p3, rfl, put_at.trans (congrArg (fun z => some (MO.lst z)) (kindsL_more f 5)), (K5.born hp2).born hp3⟩⟩⟩)))⟩, ?_⟩
    rintro Γ' M7 ⟨p, rfl, hm, K7⟩
    refine ⟨fun Γ' M' => ∃ p, Γ' = [some s, some (.own p), none] ∧ M' p = some (.lst ((kindsL f 9).map .dat)) ∧ MoreM M M', ⟨_, rfl, isi_go rfl (isi 7 _ rfl _ _ (isi_go rfl (isi 8 _ rfl _ _ ⟨rfl, fun p2 hp2 => ⟨_, _, IsL.own ((put_ne (ne_mem hm hp2)).trans hm), IsL.own put_at, by rw [List.length_map]; exact (show 7 + 2 ≤ 16777216 by decide), fun p3 hp3 => ⟨p3, rfl, put_at.trans (congrArg (fun z => some (MO.lst z)) (kindsL_more f 7)), (K7.born hp2).born hp3⟩⟩⟩)))⟩, ?_⟩
    rintro Γ' M9 ⟨p, rfl, hm, K9⟩
    refine ⟨fun Γ' M' => ∃ p, Γ' = [some s, some (.own p), none] ∧ M' p = some (.lst ((kindsL f 11).map .dat)) ∧ MoreM M M', ⟨_, rfl, isi_go rfl (isi 9 _ rfl _ _ (isi_go rfl (isi 10 _ rfl _ _ ⟨rfl, fun p2 hp2 => ⟨_, _, IsL.own ((put_ne (ne_mem hm hp2)).trans hm), IsL.own put_at, by rw [List.length_map]; exact (show 9 + 2 ≤ 16777216 by decide), fun p3 hp3 => ⟨p3, rfl, put_at.trans (congrArg (fun z => some (MO.lst z)) (kindsL_more f 9)), (K9.born hp2).born hp3⟩⟩⟩)))⟩, ?_⟩
    rintro Γ' M11 ⟨p, rfl, hm, K11⟩
    refine ⟨fun Γ' M' => ∃ p, Γ' = [some s, some (.own p), none] ∧ M' p = some (.lst ((kindsL f 13).map .dat)) ∧ MoreM M M', ⟨_, rfl, isi_go rfl (isi 11 _ rfl _ _ (isi_go rfl (isi 12 _ rfl _ _ ⟨rfl, fun p2 hp2 => ⟨_, _, IsL.own ((put_ne (ne_mem hm hp2)).trans hm), IsL.own put_at, by rw [List.length_map]; exact (show 11 + 2 ≤ 16777216 by decide), fun p3 hp3 => ⟨p3, rfl, put_at.trans (congrArg (fun z => some (MO.lst z)) (kindsL_more f 11)), (K11.born hp2).born hp3⟩⟩⟩)))⟩, ?_⟩
    rintro Γ' M13 ⟨p, rfl, hm, K13⟩
    refine ⟨fun Γ' M' => ∃ p, Γ' = [some s, some (.own p), none] ∧ M' p = some (.lst ((kindsL f 15).map .dat)) ∧ MoreM M M', ⟨_, rfl, isi_go rfl (isi 13 _ rfl _ _ (isi_go rfl (isi 14 _ rfl _ _ ⟨rfl, fun p2 hp2 => ⟨_, _, IsL.own ((put_ne (ne_mem hm hp2)).trans hm), IsL.own put_at, by rw [List.length_map]; exact (show 13 + 2 ≤ 16777216 by decide), fun p3 hp3 => ⟨p3, rfl, put_at.trans (congrArg (fun z => some (MO.lst z)) (kindsL_more f 13)), (K13.born hp2).born hp3⟩⟩⟩)))⟩, ?_⟩
    rintro Γ' M15 ⟨p, rfl, hm, K15⟩
    refine ⟨fun Γ' M' => ∃ p, Γ' = [some s, some (.own p), none] ∧ M' p = some (.lst ((kindsL f 17).map .dat)) ∧ MoreM M M', ⟨_, rfl, isi_go rfl (isi 15 _ rfl _ _ (isi_go rfl (isi 16 _ rfl _ _ ⟨rfl, fun p2 hp2 => ⟨_, _, IsL.own ((put_ne (ne_mem hm hp2)).trans hm), IsL.own put_at, by rw [List.length_map]; exact (show 15 + 2 ≤ 16777216 by decide), fun p3 hp3 => ⟨p3, rfl, put_at.trans (congrArg (fun z => some (MO.lst z)) (kindsL_more f 15)), (K15.born hp2).born hp3⟩⟩⟩)))⟩, ?_⟩
    rintro Γ' M17 ⟨p, rfl, hm, K17⟩
    rcases hcase with ⟨i, hi, rfl, ve, hw⟩ | ⟨rfl, rfl⟩
    · refine ⟨_, rfl, ⟨_, IsL.own hm⟩, ⟨_, IsL.own hm, kindsL_flat _ _, rfl, ?_⟩⟩
      have e1 : (kindsL (fun j => decide (i = j)) 17).countP (fun e => eqV (vOf e) bT) = 1 := cnt_kinds ⟨i, hi⟩
      refine And.intro (fun hne => absurd hne ?_) (fun _ => ?_)
      · show ¬ ((!decide (((kindsL (fun j => decide (i = j)) 17).countP (fun e => eqV (vOf e) bT) : Nat) = (1 : Int))) = true)
        rw [e1]; decide
      refine isi_go rfl (ve _ _ ?_)
      refine And.intro (fun z => nomatch z) (fun _ => ?_)
      refine ⟨rfl, _, rfl, ?_⟩
      refine ⟨_, rfl, rfl, _, rfl, ⟨_, _, IsL.dat, IsL.dat, by decide, ?_⟩⟩
      refine ⟨_, rfl, _, rfl, ⟨_, IsL.own hm⟩, ⟨_, i, .bool true, IsL.own hm, kindsL_flat _ _, rfl, ?_, rfl, fun m e' hm1 he' => ?_, ?_⟩⟩
      · rw [kindsL_at _ hi, decide_eq_true rfl]
      · rw [kindsL_at _ (by omega)] at he'
        cases he'
        exact ix_kinds ⟨i, hi⟩ ⟨m, by omega⟩ hm1
      · refine ⟨.str wd, ?_, k _ K17⟩
        show atI (kindWords.map PyData.str) ((i : Nat) : Int) = _
        exact atI_nat (by rw [List.getElem?_map, hw] <;> rfl)
    · refine ⟨_, rfl, ⟨_, IsL.own hm⟩, ⟨_, IsL.own hm, kindsL_flat _ _, rfl, ?_⟩⟩
      refine And.intro (fun _ => And.intro (fun _ => k _ K17) (fun z => nomatch z)) (fun hne => absurd hne ?_)
      show ¬ ((!decide (((kindsL (fun _ => false) 17).countP (fun e => eqV (vOf e) bT) : Nat) = (1 : Int))) = false)
      decide +kernel
end
end LW
namespace LW
open PySem PySem.Spec PyProof.Rows DL
open L2 hiding del del_ne del_same
def P8 (r m a h c n : Int) : Dt := .tuple [.int r, .int m, .int a, .int h, .int c, .int n, .int n, .bool false]
def prA (n : Int) : Dt := .tuple [P8 3 1 (-1) 0 5 n, P8 3 1 (-1) 1 6 n]
def prB (n : Int) : Dt := .tuple [P8 0 4 (-1) 2 9 n, P8 5 4 (-1) 2 9 n]
section
variable {P : Program} {w : World} {K : PySem.W.Frag} {mg : Str → Option Value} {base : Heap}
theorem ok_law (T : Tx P K mg) : Holds P w K mg base 3 T.f_law T.fd_law ["script"] (prLaw K) := by
  refine holds_of T.F_law sc_law (fun ss M q h => ?len) (fun cdv A outer s H hr => (xss_cons (xs_asgN (ps_set (i := 1) sc_law.nd rfl (by first | exact .inl rfl | exact .inr rfl) (xe_call (ok_llopen T) (hr.mono (by decide)) T.g_llopen T.F_llopen.kp T.b_llopen (xa_cons (xv 0) xa_nil))) simLE)
      (xss_cons (xs_asgN (ps_set (i := 2) sc_law.nd rfl (by first | exact .inl rfl | exact .inr rfl) xe_str) simLE)
      (xss_cons (xs_forR1 (ps_for PassesOwn.never rfl (pi_range1 rfl T.m_range (xa_cons (xe_call (ok_lldraw T) (hr.mono (by decide)) T.g_lldraw T.F_lldraw.kp T.b_lldraw (xa_cons (xv 1) (xa_cons xe_int xa_nil))) xa_nil)) (xg_name (pg_name (i := 3) sc_law.nd rfl (by first | exact .inl rfl | exact .inr rfl))) (xss_one (xs_asgN (ps_set (i := 2) sc_law.nd rfl (by first | exact .inl rfl | exact .inr rfl) (xe_addD (xv 2) (xe_ix (xe_lstD (xa_cons xe_str (xa_cons xe_str (xa_cons xe_str (xa_cons xe_str xa_nil))))) (xe_call (ok_lldraw T) (hr.mono (by decide)) T.g_lldraw T.F_lldraw.kp T.b_lldraw (xa_cons (xv 1) (xa_cons xe_int xa_nil)))))) simLE))))
      (xss_cons (xs_asgN (ps_set (i := 4) sc_law.nd rfl (by first | exact .inl rfl | exact .inr rfl) (xe_sub (xe_call (ok_lldraw T) (hr.mono (by decide)) T.g_lldraw T.F_lldraw.kp T.b_lldraw (xa_cons (xv 1) (xa_cons (xe_pow xe_int xe_int) xa_nil))) (xe_mul xe_int (xe_pow xe_int xe_int)))) simLE)
      (xss_cut (xs_asgN (ps_set (i := 4) sc_law.nd rfl (by first | exact .inl rfl | exact .inr rfl) (xe_mul (xv 4) (xe_ix (xe_lstD (xa_cons xe_int (xa_cons (xe_pow xe_int xe_int) xa_nil))) (xe_call (ok_lldraw T) (hr.mono (by decide)) T.g_lldraw T.F_lldraw.kp T.b_lldraw (xa_cons (xv 1) (xa_cons xe_int xa_nil)))))) simLE)
      (xss_cons (xs_asgN (ps_set (i := 5) sc_law.nd rfl (by first | exact .inl rfl | exact .inr rfl) (xe_tup (xa_cons (xv 4) (xa_cons (xv 4) (xa_cons xe_bl xa_nil))))) simLE)
      (xss_cons (xs_asgN (ps_set (i := 6) sc_law.nd rfl (by first | exact .inl rfl | exact .inr rfl) (xe_lst (xa_cons (xe_tup (xa_cons (xe_addD (xe_tup (xa_cons xe_int (xa_cons xe_int (xa_cons (xe_neg xe_int) (xa_cons xe_int (xa_cons xe_int xa_nil)))))) (xv 5)) (xa_cons (xe_addD (xe_tup (xa_cons xe_int (xa_cons xe_int (xa_cons (xe_neg xe_int) (xa_cons xe_int (xa_cons xe_int xa_nil)))))) (xv 5)) xa_nil))) xa_nil))) simLE)
      (xss_cons (xs_expr (xe_bmL sim_app (pe_bm PySem.F.plainAttrs_list PySem.F.slot_list_append PySem.F.type_list_append mt_append (xv 6) (xa_cons (xe_tup (xa_cons (xe_addD (xe_tup (xa_cons xe_int (xa_cons xe_int (xa_cons (xe_neg xe_int) (xa_cons xe_int (xa_cons xe_int xa_nil)))))) (xv 5)) (xa_cons (xe_addD (xe_tup (xa_cons xe_int (xa_cons xe_int (xa_cons (xe_neg xe_int) (xa_cons xe_int (xa_cons xe_int xa_nil)))))) (xv 5)) xa_nil))) xa_nil))))
      (xss_cut (xs_asgN (ps_set (i := 7) sc_law.nd rfl (by first | exact .inl rfl | exact .inr rfl) (xe_lst (xa_cons (xe_mkT F.excBase_ValueError T.q_NoPiece T.E_NoPiece.kC T.gC_NoPiece (xv 2)) (xa_cons (xe_mkT F.excBase_ValueError T.q_TooMany T.E_TooMany.kC T.gC_TooMany (xv 2)) (xa_cons (xe_mkT F.excBase_ValueError T.q_NoRun T.E_NoRun.kC T.gC_NoRun (xv 2)) (xa_cons (xe_mkT F.excBase_ValueError T.q_NoWood T.E_NoWood.kC T.gC_NoWood (xv 2)) xa_nil)))))) simLE)
      (xss_cut (xs_asgN (ps_set (i := 7) sc_law.nd rfl (by first | exact .inl rfl | exact .inr rfl) (xe_add (xv 7) (xe_lst (xa_cons (xe_mkT F.excBase_ValueError T.q_NoHouse T.E_NoHouse.kC T.gC_NoHouse (xv 2)) (xa_cons (xe_mkT F.excBase_ValueError T.q_NoShifts T.E_NoShifts.kC T.gC_NoShifts (xv 2)) (xa_cons (xe_mkT F.excBase_ValueError T.q_NotRight T.E_NotRight.kC T.gC_NotRight (xv 2)) xa_nil)))))) simLE)
      (xss_cut (xs_asgN (ps_set (i := 7) sc_law.nd rfl (by first | exact .inl rfl | exact .inr rfl) (xe_add (xv 7) (xe_lst (xa_cons (xe_mkT F.excBase_ValueError T.q_NoMore T.E_NoMore.kC T.gC_NoMore (xv 2)) (xa_cons (xe_mkT F.excBase_ValueError T.q_NotOne T.E_NotOne.kC T.gC_NotOne (xv 2)) (xa_cons (xe_mkT F.excBase_ValueError T.q_NoGap T.E_NoGap.kC T.gC_NoGap (xv 2)) xa_nil)))))) simLE)
      (xss_cut (xs_asgN (ps_set (i := 7) sc_law.nd rfl (by first | exact .inl rfl | exact .inr rfl) (xe_add (xv 7) (xe_lst (xa_cons (xe_mkT F.excBase_ValueError T.q_NoDealing T.E_NoDealing.kC T.gC_NoDealing (xv 2)) (xa_cons (xe_mkT F.excBase_ValueError T.q_NoPlace T.E_NoPlace.kC T.gC_NoPlace (xv 2)) (xa_cons (xe_mkT F.excBase_ValueError T.q_NotWhole T.E_NotWhole.kC T.gC_NotWhole (xv 2)) xa_nil)))))) simLE)
      (xss_cut (xs_asgN (ps_set (i := 7) sc_law.nd rfl (by first | exact .inl rfl | exact .inr rfl) (xe_add (xv 7) (xe_lst (xa_cons (xe_mkT F.excBase_ValueError T.q_NoBack T.E_NoBack.kC T.gC_NoBack (xv 2)) (xa_cons (xe_mkT F.excBase_ValueError T.q_NoRow T.E_NoRow.kC T.gC_NoRow (xv 2)) xa_nil))))) simLE)
      (xss_cut (xs_asgN (ps_set (i := 7) sc_law.nd rfl (by first | exact .inl rfl | exact .inr rfl) (xe_add (xv 7) (xe_lst (xa_cons (xe_mkF T.S_Clash (hr.mono (by decide)) T.gC_Clash (xe_ix (xv 6) xe_int)) (xa_cons (xe_mkF T.S_NoText (hr.mono (by decide)) T.gC_NoText (xv 4)) (xa_cons (xe_mkF T.S_Clash (hr.mono (by decide)) T.gC_Clash (xe_ix (xv 6) xe_int)) (xa_cons (xe_mkF T.S_NoText (hr.mono (by decide)) T.gC_NoText (xe_addD (xv 4) xe_int)) xa_nil))))))) simLE)
      (xss_cons (xs_asgN (ps_set (i := 8) sc_law.nd rfl (by first | exact .inl rfl | exact .inr rfl) (xe_lstD (xa_cons xe_str (xa_cons xe_str (xa_cons xe_str (xa_cons xe_str (xa_cons xe_str (xa_cons xe_str (xa_cons xe_str (xa_cons xe_str (xa_cons xe_str xa_nil))))))))))) simLE)
      (xss_cons (xs_asgN (ps_set (i := 8) sc_law.nd rfl (by first | exact .inl rfl | exact .inr rfl) (xe_addD (xv 8) (xe_lstD (xa_cons xe_str (xa_cons xe_str (xa_cons xe_str (xa_cons xe_str (xa_cons xe_str (xa_cons xe_str (xa_cons xe_str (xa_cons xe_str xa_nil))))))))))) simLE)
      (xss_cut (xs_asgN (ps_set (i := 8) sc_law.nd rfl (by first | exact .inl rfl | exact .inr rfl) (xe_addD (xv 8) (xe_lstD (xa_cons xe_str (xa_cons xe_str xa_nil))))) simLE)
      (xss_cons (xs_if (xb_cmp sim_ne (pt_cmpR (op_neAll hr.rm.units) (xe_fz (xe_lcL (pe_lc (own := [("one", 9)]) (g := gName 9) (tt := LB _) rfl sc_law.nd (pi_list (xv 7)) (blkOk_by (own := [("one", 9)]) (N := N_law) (sc := defScope s_law) (by decide +kernel)) (fun _ _ _ _ _ => pg_name (i := 9) sc_law.nd rfl (.inl rfl)) (fun _ _ _ _ _ => xts_nil) (fun _ _ _ _ _ => (xe_call (ok_llkind T) (hr.mono (by decide)) T.g_llkind T.F_llkind.kp T.b_llkind (xa_cons (xv 9) xa_nil)))) (by decide))) (xv 8) (nomark _))) (xss_one (xs_ret xe_bl)) xss_nil)
      (xss_cons (xs_if (xb_not (xb_val (xe_callB sim_all (pe_callB (cr_all rfl) rfl T.m_all (by decide +kernel) (xa_cons (xe_lcL (pe_lc (own := [("one", 9)]) (g := gName 9) (tt := LB _) rfl sc_law.nd (pi_list (xv 7)) (blkOk_by (own := [("one", 9)]) (N := N_law) (sc := defScope s_law) (by decide +kernel)) (fun _ _ _ _ _ => pg_name (i := 9) sc_law.nd rfl (.inl rfl)) (fun _ _ _ _ _ => xts_nil) (fun _ _ _ _ _ => (xe_callB (sim_isiX (K := K)) (pe_callB call_isiX rfl T.m_isinstance (by decide +kernel) (xa_cons (xv 9) (xa_cons (xe_raw (pe_glob (v := .ref T.C_WoodError) rfl T.gC_WoodError rfl)) xa_nil)))))) (by decide)) xa_nil))))) (xss_one (xs_ret xe_bl)) xss_nil)
      (xss_cons (xs_if (xb_w (xw_or (xb_val (xe_callB (sim_isiX (K := K)) (pe_callB call_isiX rfl T.m_isinstance (by decide +kernel) (xa_cons (xe_mkT F.excBase_ValueError T.q_WoodError T.E_WoodError.kC T.gC_WoodError (xv 2)) (xa_cons (xe_raw (pe_glob (v := .ref T.C_NoRun) rfl T.gC_NoRun rfl)) xa_nil))))) (xw_or1 (xb_not (xb_val (xe_callB (sim_isiX (K := K)) (pe_callB call_isiX rfl T.m_isinstance (by decide +kernel) (xa_cons (xe_mkT F.excBase_ValueError T.q_WoodError T.E_WoodError.kC T.gC_WoodError (xv 2)) (xa_cons (xe_raw (pe_bltn (v := .ty "ValueError") rfl T.m_ValueError (by decide +kernel) rfl)) xa_nil))))))))) (xss_one (xs_ret xe_bl)) xss_nil)
      (xss_cons (xs_if (xb_cmp sim_ne (pt_cmpR (op_neAll hr.rm.units) (xe_lstD (xa_cons (xe_attK (K := K) rfl (xe_ix (xv 7) xe_int)) (xa_cons (xe_attK (K := K) rfl (xe_ix (xv 7) xe_int)) xa_nil))) (xv 6) (nomark _))) (xss_one (xs_ret xe_bl)) xss_nil)
      (xss_one (xs_ret (xe_eq hr.rm.units (xe_callB sim_repr (pe_callB (call_repr hr.gu hr.rm.units) rfl T.m_repr (by decide +kernel) (xa_cons (xe_lstD (xa_cons (xe_attK (K := K) rfl (xe_ix (xv 7) xe_int)) (xa_cons (xe_attK (K := K) rfl (xe_ix (xv 7) xe_int)) xa_nil))) xa_nil))) (xe_callB sim_repr (pe_callB (call_repr hr.gu hr.rm.units) rfl T.m_repr (by decide +kernel) (xa_cons (xe_lstD (xa_cons (xv 4) (xa_cons (xe_addD (xv 4) xe_int) xa_nil))) xa_nil)))))))))))))))))))))))))))) (fun ss M q h => ?read)
  case len =>
    obtain ⟨ns, rfl, _⟩ := h
    rfl
  case read =>
    obtain ⟨ns, rfl, hn, k⟩ := h
    refine ⟨_, rfl, ns, rfl, hn, fun f M1 hf F1 o1 => ?_⟩
    refine ⟨_, rfl, f, 9, 0, rfl, by decide, by decide, F1, by decide, fun r1 M2 p1 q1 F2 o2 => ?_⟩
    refine ⟨0, r1, rfl, ⟨by decide, by decide, by omega, by omega⟩, fun i Γ' M' => ∃ (t : Str) (x3 : Option Sl), Γ' = [some (.scr K ns), some (.own f), some (.dat (.str t)), x3, none, none, none, none, none, none] ∧ t.length ≤ i ∧ Feed M' f (1 + i), ⟨"", _, rfl, by decide, F2.up (by omega)⟩, ?_, ?_⟩
    · rintro i Γ' M' hi ⟨t, x3, rfl, ht, FF⟩
      have hi9 : (i : Int) < 9 := by omega
      refine ⟨_, rfl, rfl, _, rfl, _, rfl, f, 4, _, rfl, by decide, by decide, FF, by omega, fun r2 M3 p2 q2 F3 o3 => ?_⟩
      obtain ⟨z, hz, hl⟩ : ∃ z : Str, atI [PyData.str "a", .str " ", .str "7", .str "z"] r2 = some (.str z) ∧ z.length = 1 := by
        rcases (show r2 = 0 ∨ r2 = 1 ∨ r2 = 2 ∨ r2 = 3 by omega) with rfl | rfl | rfl | rfl
        · exact ⟨_, rfl, by decide⟩
        · exact ⟨_, rfl, by decide⟩
        · exact ⟨_, rfl, by decide⟩
        · exact ⟨_, rfl, by decide⟩
      refine ⟨_, hz, by omega, ?_⟩
      exact ⟨t ++ z, _, rfl, by rw [Str.length_append]; omega, F3.up (by omega)⟩
    rintro Γ' M2 ⟨t, x3, rfl, ht, F3⟩
    have htl : t.length ≤ 9 := by omega
    refine ⟨_, rfl, ⟨by decide, by decide, by decide⟩, f, _, _, rfl, by decide, by decide, F3, by omega, fun r2 M3 p2 q2 F4 o3 => ?_⟩
    refine ⟨⟨by decide, by decide, by decide⟩, .inl ⟨by decide, by decide⟩, ?_⟩
    have q2' : r2 < 1000000 := q2
    refine ⟨fun Γ' M' => ∃ num : Int, Γ' = [some (.scr K ns), some (.own f), some (.dat (.str t)), x3, some (.dat (.int num)), none, none, none, none, none] ∧ (-(10 ^ 30) ≤ num ∧ num ≤ 10 ^ 30), ⟨_, rfl, ⟨by decide, by decide, by decide⟩, rfl, _, rfl, _, rfl, f, 2, _, rfl, by decide, by decide, F4, by omega, fun r3 M4 p3 q3 F5 o4 => ?_⟩, ?_⟩
    · obtain ⟨w3, hw3, hb3⟩ : ∃ w3 : Int, atI [PyData.int 1, .int (10 ^ (24 : Int).toNat)] r3 = some (.int w3) ∧ (w3 = 1 ∨ w3 = 10 ^ 24) := by
        rcases (show r3 = 0 ∨ r3 = 1 by omega) with rfl | rfl
        · exact ⟨_, rfl, .inl rfl⟩
        · exact ⟨_, rfl, .inr rfl⟩
      have hbb : -(10 ^ 30) ≤ (r2 - 500000) * w3 ∧ (r2 - 500000) * w3 ≤ 10 ^ 30 := by
        rcases hb3 with e | e
        · rw [e]; omega
        · rw [e]; omega
      have hs : -(2 ^ 64) < r2 - 500000 ∧ r2 - 500000 < 2 ^ 64 := by omega
      exact ⟨_, hw3, .inl hs, ⟨_, rfl, hbb⟩⟩
    rintro Γ' M4 ⟨num, rfl, hb⟩
    refine ⟨_, rfl, _, rfl, rfl, _, rfl, ?_⟩
    refine ⟨rfl, _, rfl, _, rfl, (show 5 + 3 ≤ 16777216 by decide), rfl, _, rfl, _, rfl, (show 5 + 3 ≤ 16777216 by decide), rfl, _, rfl, rfl, fun pp hpp => ?_⟩
    refine ⟨_, rfl, ⟨_, IsL.own put_at⟩, rfl, _, rfl, _, rfl, (show 5 + 3 ≤ 16777216 by decide), rfl, _, rfl, _, rfl, (show 5 + 3 ≤ 16777216 by decide), rfl, _, rfl, ⟨_, put_at, (show 1 < 16777216 by decide), ?_⟩⟩
    rw [put_put]
    refine ⟨fun Γ' M' => ∃ pm, Γ' = [some (.scr K ns), some (.own f), some (.dat (.str t)), x3, some (.dat (.int num)), some (.dat (.tuple [.int num, .int num, .bool false])), some (.own pp), some (.own pm), none, none] ∧ M' pm = some (.lst ([.exc T.C_NoPiece [], .exc T.C_TooMany [], .exc T.C_NoRun [], .exc T.C_NoWood []])) ∧ M' pp = some (.lst [.dat (prA num), .dat (prB num)]), ⟨_, rfl, _, rfl, _, rfl, _, rfl, rfl, fun pm hpm => ⟨pm, rfl, put_at, (put_ne (ne_mem put_at hpm)).trans put_at⟩⟩, ?_⟩
    rintro Γ' M5 ⟨pm, rfl, hpm, hpp⟩
    refine ⟨fun Γ' M' => ∃ pm, Γ' = [some (.scr K ns), some (.own f), some (.dat (.str t)), x3, some (.dat (.int num)), some (.dat (.tuple [.int num, .int num, .bool false])), some (.own pp), some (.own pm), none, none] ∧ M' pm = some (.lst ([.exc T.C_NoPiece [], .exc T.C_TooMany [], .exc T.C_NoRun [], .exc T.C_NoWood [], .exc T.C_NoHouse [], .exc T.C_NoShifts [], .exc T.C_NotRight []])) ∧ M' pp = some (.lst [.dat (prA num), .dat (prB num)]), ⟨_, rfl, _, rfl, _, rfl, _, rfl,  rfl, fun p2 hp2 => ⟨_, _, IsL.own ((put_ne (ne_mem hpm hp2)).trans hpm), IsL.own put_at, (show 4 + 3 ≤ 16777216 by decide), fun p3 hp3 => ⟨p3, rfl, put_at, (put_ne (ne_mem ((put_ne (ne_mem hpp hp2)).trans hpp) hp3)).trans ((put_ne (ne_mem hpp hp2)).trans hpp)⟩⟩⟩, ?_⟩
    rintro Γ' M5 ⟨pm, rfl, hpm, hpp⟩
    refine ⟨fun Γ' M' => ∃ pm, Γ' = [some (.scr K ns), some (.own f), some (.dat (.str t)), x3, some (.dat (.int num)), some (.dat (.tuple [.int num, .int num, .bool false])), some (.own pp), some (.own pm), none, none] ∧ M' pm = some (.lst ([.exc T.C_NoPiece [], .exc T.C_TooMany [], .exc T.C_NoRun [], .exc T.C_NoWood [], .exc T.C_NoHouse [], .exc T.C_NoShifts [], .exc T.C_NotRight [], .exc T.C_NoMore [], .exc T.C_NotOne [], .exc T.C_NoGap []])) ∧ M' pp = some (.lst [.dat (prA num), .dat (prB num)]), ⟨_, rfl, _, rfl, _, rfl, _, rfl,  rfl, fun p2 hp2 => ⟨_, _, IsL.own ((put_ne (ne_mem hpm hp2)).trans hpm), IsL.own put_at, (show 7 + 3 ≤ 16777216 by decide), fun p3 hp3 => ⟨p3, rfl, put_at, (put_ne (ne_mem ((put_ne (ne_mem hpp hp2)).trans hpp) hp3)).trans ((put_ne (ne_mem hpp hp2)).trans hpp)⟩⟩⟩, ?_⟩
    rintro Γ' M5 ⟨pm, rfl, hpm, hpp⟩
    refine ⟨fun Γ' M' => ∃ pm, Γ' = [some (.scr K ns), some (.own f), some (.dat (.str t)), x3, some (.dat (.int num)), some (.dat (.tuple [.int num, .int num, .bool false])), some (.own pp), some (.own pm), none, none] ∧ M' pm = some (.lst ([.exc T.C_NoPiece [], .exc T.C_TooMany [], .exc T.C_NoRun [], .exc T.C_NoWood [], .exc T.C_NoHouse [], .exc T.C_NoShifts [], .exc T.C_NotRight [], .exc T.C_NoMore [], .exc T.C_NotOne [], .exc T.C_NoGap [], .exc T.C_NoDealing [], .exc T.C_NoPlace [], .exc T.C_NotWhole []])) ∧ M' pp = some (.lst [.dat (prA num), .dat (prB num)]), ⟨_, rfl, _, rfl, _, rfl, _, rfl,  rfl, fun p2 hp2 => ⟨_, _, IsL.own ((put_ne (ne_mem hpm hp2)).trans hpm), IsL.own put_at, (show 10 + 3 ≤ 16777216 by decide), fun p3 hp3 => ⟨p3, rfl, put_at, (put_ne (ne_mem ((put_ne (ne_mem hpp hp2)).trans hpp) hp3)).trans ((put_ne (ne_mem hpp hp2)).trans hpp)⟩⟩⟩, ?_⟩
    rintro Γ' M5 ⟨pm, rfl, hpm, hpp⟩
    refine ⟨fun Γ' M' => ∃ pm, Γ' = [some (.scr K ns), some (.own f), some (.dat (.str t)), x3, some (.dat (.int num)), some (.dat (.tuple [.int num, .int num, .bool false])), some (.own pp), some (.own pm), none, none] ∧ M' pm = some (.lst ([.exc T.C_NoPiece [], .exc T.C_TooMany [], .exc T.C_NoRun [], .exc T.C_NoWood [], .exc T.C_NoHouse [], .exc T.C_NoShifts [], .exc T.C_NotRight [], .exc T.C_NoMore [], .exc T.C_NotOne [], .exc T.C_NoGap [], .exc T.C_NoDealing [], .exc T.C_NoPlace [], .exc T.C_NotWhole [], .exc T.C_NoBack [], .exc T.C_NoRow []])) ∧ M' pp = some (.lst [.dat (prA num), .dat (prB num)]), ⟨_, rfl, _, rfl, _, rfl,  rfl, fun p2 hp2 => ⟨_, _, IsL.own ((put_ne (ne_mem hpm hp2)).trans hpm), IsL.own put_at, (show 13 + 2 ≤ 16777216 by decide), fun p3 hp3 => ⟨p3, rfl, put_at, (put_ne (ne_mem ((put_ne (ne_mem hpp hp2)).trans hpp) hp3)).trans ((put_ne (ne_mem hpp hp2)).trans hpp)⟩⟩⟩, ?_⟩
    rintro Γ' M5 ⟨pm, rfl, hpm, hpp⟩
    refine ⟨fun Γ' M' => ∃ pm, Γ' = [some (.scr K ns), some (.own f), some (.dat (.str t)), x3, some (.dat (.int num)), some (.dat (.tuple [.int num, .int num, .bool false])), some (.own pp), some (.own pm), none, none] ∧ M' pm = some (.lst ([.exc T.C_NoPiece [], .exc T.C_TooMany [], .exc T.C_NoRun [], .exc T.C_NoWood [], .exc T.C_NoHouse [], .exc T.C_NoShifts [], .exc T.C_NotRight [], .exc T.C_NoMore [], .exc T.C_NotOne [], .exc T.C_NoGap [], .exc T.C_NoDealing [], .exc T.C_NoPlace [], .exc T.C_NotWhole [], .exc T.C_NoBack [], .exc T.C_NoRow []] ++ [.exc T.C_Clash [("pair", prA num)], .exc T.C_NoText [("at", .int num)], .exc T.C_Clash [("pair", prB num)], .exc T.C_NoText [("at", .int (num + 1))]])) ∧ M' pp = some (.lst [.dat (prA num), .dat (prB num)]), ⟨_, rfl, ?_⟩, ?_⟩
    · refine ⟨_, rfl, _, _, hpp, rfl, _, rfl, _, rfl, _, _, hpp, rfl, _, rfl, rfl, fun p2 hp2 => ⟨_, _, IsL.own ((put_ne (ne_mem hpm hp2)).trans hpm), IsL.own put_at, (show 15 + 4 ≤ 16777216 by decide), fun p3 hp3 => ⟨p3, rfl, put_at, (put_ne (ne_mem ((put_ne (ne_mem hpp hp2)).trans hpp) hp3)).trans ((put_ne (ne_mem hpp hp2)).trans hpp)⟩⟩⟩
    rintro Γ' M5 ⟨pm, rfl, hpm, hpp⟩
    refine ⟨rfl, _, rfl, ?_⟩
    refine ⟨_, rfl, rfl, _, rfl, _, _, IsL.dat, IsL.dat, by decide, ?_⟩
    refine ⟨fun Γ' M' => Γ' = [some (.scr K ns), some (.own f), some (.dat (.str t)), x3, some (.dat (.int num)), some (.dat (.tuple [.int num, .int num, .bool false])), some (.own pp), some (.own pm), some (.dat (.list ((kindWords ++ (["clash", "text"] : List Str)).map PyData.str))), none] ∧ M' = M5, ⟨_, rfl, rfl, _, rfl, _, _, IsL.dat, IsL.dat, by decide, rfl, rfl⟩, ?_⟩
    rintro Γ' M' ⟨rfl, rfl⟩
    refine ⟨_, rfl, lc_listM ((kindWords ++ (["clash", "text"] : List Str)).map fun x => Sl.dat (.str x)) (fun x y => ∃ (i : Nat) (c : Addr) (fs : List (Str × Dt)) (wd : Str), i < 17 ∧ [T.C_NoPiece, T.C_TooMany, T.C_NoRun, T.C_NoWood, T.C_NoHouse, T.C_NoShifts, T.C_NotRight, T.C_NoMore, T.C_NotOne, T.C_NoGap, T.C_NoDealing, T.C_NoPlace, T.C_NotWhole, T.C_NoBack, T.C_NoRow, T.C_Clash, T.C_NoText][i]? = some c ∧ x = .exc c fs ∧ y = .dat (.str wd) ∧ kindWords[i]? = some wd) ?_ (IsL.own hpm) (show 19 < 16777216 by decide) ?_ ?_⟩
    · exact (.cons ⟨0, _, _, _, by decide, rfl, rfl, rfl, rfl⟩ (.cons ⟨1, _, _, _, by decide, rfl, rfl, rfl, rfl⟩ (.cons ⟨2, _, _, _, by decide, rfl, rfl, rfl, rfl⟩ (.cons ⟨3, _, _, _, by decide, rfl, rfl, rfl, rfl⟩ (.cons ⟨4, _, _, _, by decide, rfl, rfl, rfl, rfl⟩ (.cons ⟨5, _, _, _, by decide, rfl, rfl, rfl, rfl⟩ (.cons ⟨6, _, _, _, by decide, rfl, rfl, rfl, rfl⟩ (.cons ⟨7, _, _, _, by decide, rfl, rfl, rfl, rfl⟩ (.cons ⟨8, _, _, _, by decide, rfl, rfl, rfl, rfl⟩ (.cons ⟨9, _, _, _, by decide, rfl, rfl, rfl, rfl⟩ (.cons ⟨10, _, _, _, by decide, rfl, rfl, rfl, rfl⟩ (.cons ⟨11, _, _, _, by decide, rfl, rfl, rfl, rfl⟩ (.cons ⟨12, _, _, _, by decide, rfl, rfl, rfl, rfl⟩ (.cons ⟨13, _, _, _, by decide, rfl, rfl, rfl, rfl⟩ (.cons ⟨14, _, _, _, by decide, rfl, rfl, rfl, rfl⟩ (.cons ⟨15, _, _, _, by decide, rfl, rfl, rfl, rfl⟩ (.cons ⟨16, _, _, _, by decide, rfl, rfl, rfl, rfl⟩ (.cons ⟨15, _, _, _, by decide, rfl, rfl, rfl, rfl⟩ (.cons ⟨16, _, _, _, by decide, rfl, rfl, rfl, rfl⟩ .nil)))))))))))))))))))
    · rintro x y ⟨i, c, fs, wd, hi, hc, rfl, rfl, hw⟩ M6 k' hm hk'
      exact ⟨_, rfl, _, _, wd, rfl, ask_exc T.kinds hc fs, .inl ⟨i, hi, rfl, fun M k h => ⟨T.kinds.er c (List.mem_of_getElem? hc), _, T.kinds.ve c (List.mem_of_getElem? hc), h⟩, hw⟩, fun M'' hmm => hk' M'' hmm⟩
    rintro p6 M6 hp6 h6 hm6
    refine ⟨(kindWords ++ (["clash", "text"] : List Str)).map PyData.str, by rw [h6, List.map_map]; rfl, ?_⟩
    refine ⟨_, rfl, _, _, .inl rfl, .inl rfl, by decide +kernel, by decide +kernel, ?_⟩
    have eq1 : PyData.eqv (.list ((kindWords ++ (["clash", "text"] : List Str)).map PyData.str)) (.list ((kindWords ++ (["clash", "text"] : List Str)).map PyData.str)) = true := PySem.SeqAt.eqv_refl_plain _ (by decide +kernel)
    refine And.intro (fun hne => ?_) (fun _ => ?_)
    · exact absurd (show (!PyData.eqv (.list ((kindWords ++ (["clash", "text"] : List Str)).map PyData.str)) (.list ((kindWords ++ (["clash", "text"] : List Str)).map PyData.str))) = true from hne) (by rw [eq1]; decide)
    have neM : ∀ {a : Addr} {o : MO}, M' a = some o → del M6 p6 a = some o := fun {a o} h => (del_ne (ne_mem h hp6)).trans (hm6.at h)
    generalize del M6 p6 = M7 at neM ⊢
    have hpm7 := neM hpm
    have hpp7 := neM hpp
    refine ⟨_, rfl, lc_map (fun _ => .dat (.bool true)) (IsL.own hpm7) (show 19 < 16777216 by decide) ?_ ?_⟩
    · have hall : Paired (fun x (_ : Nat) => ∃ c fs, c ∈ [T.C_NoPiece, T.C_TooMany, T.C_NoRun, T.C_NoWood, T.C_NoHouse, T.C_NoShifts, T.C_NotRight, T.C_NoMore, T.C_NotOne, T.C_NoGap, T.C_NoDealing, T.C_NoPlace, T.C_NotWhole, T.C_NoBack, T.C_NoRow, T.C_Clash, T.C_NoText] ∧ x = Sl.exc c fs) ([.exc T.C_NoPiece [], .exc T.C_TooMany [], .exc T.C_NoRun [], .exc T.C_NoWood [], .exc T.C_NoHouse [], .exc T.C_NoShifts [], .exc T.C_NotRight [], .exc T.C_NoMore [], .exc T.C_NotOne [], .exc T.C_NoGap [], .exc T.C_NoDealing [], .exc T.C_NoPlace [], .exc T.C_NotWhole [], .exc T.C_NoBack [], .exc T.C_NoRow []] ++ [.exc T.C_Clash [("pair", prA num)], .exc T.C_NoText [("at", .int num)], .exc T.C_Clash [("pair", prB num)], .exc T.C_NoText [("at", .int (num + 1))]]) (List.range 19) := (.cons ⟨_, _, List.mem_of_getElem? (i := 0) rfl, rfl⟩ (.cons ⟨_, _, List.mem_of_getElem? (i := 1) rfl, rfl⟩ (.cons ⟨_, _, List.mem_of_getElem? (i := 2) rfl, rfl⟩ (.cons ⟨_, _, List.mem_of_getElem? (i := 3) rfl, rfl⟩ (.cons ⟨_, _, List.mem_of_getElem? (i := 4) rfl, rfl⟩ (.cons ⟨_, _, List.mem_of_getElem? (i := 5) rfl, rfl⟩ (.cons ⟨_, _, List.mem_of_getElem? (i := 6) rfl, rfl⟩ (.cons ⟨_, _, List.mem_of_getElem? (i := 7) rfl, rfl⟩ (.cons ⟨_, _, List.mem_of_getElem? (i := 8) rfl, rfl⟩ (.cons ⟨_, _, List.mem_of_getElem? (i := 9) rfl, rfl⟩ (.cons ⟨_, _, List.mem_of_getElem? (i := 10) rfl, rfl⟩ (.cons ⟨_, _, List.mem_of_getElem? (i := 11) rfl, rfl⟩ (.cons ⟨_, _, List.mem_of_getElem? (i := 12) rfl, rfl⟩ (.cons ⟨_, _, List.mem_of_getElem? (i := 13) rfl, rfl⟩ (.cons ⟨_, _, List.mem_of_getElem? (i := 14) rfl, rfl⟩ (.cons ⟨_, _, List.mem_of_getElem? (i := 15) rfl, rfl⟩ (.cons ⟨_, _, List.mem_of_getElem? (i := 16) rfl, rfl⟩ (.cons ⟨_, _, List.mem_of_getElem? (i := 15) rfl, rfl⟩ (.cons ⟨_, _, List.mem_of_getElem? (i := 16) rfl, rfl⟩ .nil)))))))))))))))))))
      intro x hx M8 k' hk'
      obtain ⟨i, hi, e⟩ := List.getElem_of_mem hx
      have hi2 : i < 19 := hi
      obtain ⟨c, fs, hc, rfl⟩ := paired_at hall (List.getElem?_eq_some_iff.mpr ⟨hi, e⟩) (List.getElem?_range hi2)
      exact ⟨_, rfl, T.kinds.er c hc, _, T.kinds.we c hc, hk'⟩
    intro p8 hp8
    refine ⟨_, _, put_at, boolsD_map (fun _ => true) _, ?_⟩
    rw [del_put hp8]
    refine And.intro (fun hne => ?_) (fun _ => ?_)
    · exact absurd hne (by simp)
    refine ⟨_, rfl, T.E_WoodError, _, T.kinds.be _ (by simp), ?_⟩
    refine And.intro (fun z => nomatch z) (fun _ => ?_)
    refine ⟨_, rfl, T.E_WoodError, _, T.kinds.bv, ?_⟩
    refine And.intro (fun z => nomatch z) (fun _ => ?_)
    refine ⟨_, rfl, _, _, hpm7, rfl, _, rfl, T.E_Clash, T.S_Clash.no, ?_⟩
    refine ⟨_, rfl, _, _, hpm7, rfl, _, rfl, T.E_Clash, T.S_Clash.no, ?_⟩
    refine ⟨rfl, _, rfl, ?_⟩
    refine ⟨_, rfl, _, _, .inl rfl, .inr ⟨pp, [prA num, prB num], rfl, hpp7, rfl⟩, rfl, rfl, ?_⟩
    have eq2 : PyData.eqv (.list [prA num, prB num]) (.list [prA num, prB num]) = true := PySem.SeqAt.eqv_refl_plain _ rfl
    refine And.intro (fun hne => ?_) (fun _ => ?_)
    · exact absurd (show (!PyData.eqv (.list [prA num, prB num]) (.list [prA num, prB num])) = true from hne) (by rw [eq2]; decide)
    refine ⟨_, rfl, _, _, hpm7, rfl, _, rfl, T.E_NoText, T.S_NoText.no, ?_⟩
    refine ⟨_, rfl, _, _, hpm7, rfl, _, rfl, T.E_NoText, T.S_NoText.no, ?_⟩
    have sm : Sm 1 (.list [.int num, .int (num + 1)]) := Sm.list (k := 0) (fun d hd => by
      simp only [List.mem_cons, List.not_mem_nil, or_false] at hd
      rcases hd with rfl | rfl
      · exact Sm.int (by omega)
      · exact Sm.int (by omega)) (show 2 ≤ 38 by decide)
    have fit := (sm.mono (show 1 ≤ 2 by decide)).fits
    refine ⟨rfl, _, rfl, sm.sh, fit, Nat.le_trans sm.dp (by decide), ?_⟩
    refine ⟨_, rfl, _, rfl, rfl, _, rfl, sm.sh, fit, Nat.le_trans sm.dp (by decide), ?_⟩
    show q (.dat (.bool (decide _))) _
    rw [decide_eq_true rfl]
    exact k _
end
end LW
namespace LW
open PySem PySem.Spec PyProof.Rows DL
open L2 hiding del del_ne del_same
theorem all_mk {l : PySem.W.OpenLaw} {w : World} {K : PySem.W.Frag} {h : Heap} {mg : Str → Option Value} {fa : Addr} (X : K.In h) (G : h.Ns mainGlobals mg) (hfa : mg "law" = some (.ref fa))
    {f_llmixed : Addr} {od_llmixed an_llmixed : Option Addr} {sl_llmixed : Array (Option Value)} {oc_llmixed kV_llmixed dc_llmixed pm_llmixed cd_llmixed ct_llmixed : Value} {f_llopen : Addr} {od_llopen an_llopen : Option Addr} {sl_llopen : Array (Option Value)} {oc_llopen kV_llopen dc_llopen pm_llopen cd_llopen ct_llopen : Value} {f_lldraw : Addr} {od_lldraw an_lldraw : Option Addr} {sl_lldraw : Array (Option Value)} {oc_lldraw kV_lldraw dc_lldraw pm_lldraw cd_lldraw ct_lldraw : Value} {f_llkind : Addr} {od_llkind an_llkind : Option Addr} {sl_llkind : Array (Option Value)} {oc_llkind kV_llkind dc_llkind pm_llkind cd_llkind ct_llkind : Value} {f_law : Addr} {od_law an_law : Option Addr} {sl_law : Array (Option Value)} {oc_law kV_law dc_law pm_law cd_law ct_law : Value} {C_WoodError : Addr} {C_NoPiece : Addr} {C_TooMany : Addr} {C_NoRun : Addr} {C_NoWood : Addr} {C_NoHouse : Addr} {C_NoShifts : Addr} {C_NotRight : Addr} {C_NoMore : Addr} {C_NotOne : Addr} {C_NoGap : Addr} {C_NoDealing : Addr} {C_NoPlace : Addr} {C_NotWhole : Addr} {C_NoBack : Addr} {C_NoRow : Addr} {C_Clash : Addr} {C_NoText : Addr}
    (a_llmixed : PySem.W.nsIn K mainGlobals "_law_lmixed" = some (some (.ref f_llmixed)))
    (l_llmixed : K.lookup f_llmixed = some ⟨oc_llmixed, od_llmixed, .func (PySem.W.fnOf "_law_lmixed" "_law_lmixed" (defArgs s_llmixed) (defBody s_llmixed) (defScope s_llmixed) .none kV_llmixed dc_llmixed pm_llmixed an_llmixed cd_llmixed ct_llmixed), sl_llmixed⟩)
    (e_llmixed : PySem.W.codeIn K cd_llmixed "_law_lmixed" = true)
    (k_llmixed : PySem.W.keepIn K (.ref f_llmixed) = true)
    (a_llopen : PySem.W.nsIn K mainGlobals "_law_lopen" = some (some (.ref f_llopen)))
    (l_llopen : K.lookup f_llopen = some ⟨oc_llopen, od_llopen, .func (PySem.W.fnOf "_law_lopen" "_law_lopen" (defArgs s_llopen) (defBody s_llopen) (defScope s_llopen) .none kV_llopen dc_llopen pm_llopen an_llopen cd_llopen ct_llopen), sl_llopen⟩)
    (e_llopen : PySem.W.codeIn K cd_llopen "_law_lopen" = true)
    (k_llopen : PySem.W.keepIn K (.ref f_llopen) = true)
    (a_lldraw : PySem.W.nsIn K mainGlobals "_law_ldraw" = some (some (.ref f_lldraw)))
    (l_lldraw : K.lookup f_lldraw = some ⟨oc_lldraw, od_lldraw, .func (PySem.W.fnOf "_law_ldraw" "_law_ldraw" (defArgs s_lldraw) (defBody s_lldraw) (defScope s_lldraw) .none kV_lldraw dc_lldraw pm_lldraw an_lldraw cd_lldraw ct_lldraw), sl_lldraw⟩)
    (e_lldraw : PySem.W.codeIn K cd_lldraw "_law_ldraw" = true)
    (k_lldraw : PySem.W.keepIn K (.ref f_lldraw) = true)
    (a_llkind : PySem.W.nsIn K mainGlobals "_law_lkind" = some (some (.ref f_llkind)))
    (l_llkind : K.lookup f_llkind = some ⟨oc_llkind, od_llkind, .func (PySem.W.fnOf "_law_lkind" "_law_lkind" (defArgs s_llkind) (defBody s_llkind) (defScope s_llkind) .none kV_llkind dc_llkind pm_llkind an_llkind cd_llkind ct_llkind), sl_llkind⟩)
    (e_llkind : PySem.W.codeIn K cd_llkind "_law_lkind" = true)
    (k_llkind : PySem.W.keepIn K (.ref f_llkind) = true)
    (a_law : PySem.W.nsIn K mainGlobals "law" = some (some (.ref f_law)))
    (l_law : K.lookup f_law = some ⟨oc_law, od_law, .func (PySem.W.fnOf "law" "law" (defArgs s_law) (defBody s_law) (defScope s_law) .none kV_law dc_law pm_law an_law cd_law ct_law), sl_law⟩)
    (e_law : PySem.W.codeIn K cd_law "law" = true)
    (k_law : PySem.W.keepIn K (.ref f_law) = true)
    (aC_WoodError : PySem.W.nsIn K mainGlobals "WoodError" = some (some (.ref C_WoodError)))
    (eC_WoodError : errB K C_WoodError = true)
    (qC_WoodError : PySem.W.excIn K C_WoodError PySem.HandSPX.veTail "ValueError.__new__" = true)
    (aC_NoPiece : PySem.W.nsIn K mainGlobals "NoPiece" = some (some (.ref C_NoPiece)))
    (eC_NoPiece : errB K C_NoPiece = true)
    (qC_NoPiece : PySem.W.excIn K C_NoPiece PySem.HandSPX.veTail "ValueError.__new__" = true)
    (aC_TooMany : PySem.W.nsIn K mainGlobals "TooMany" = some (some (.ref C_TooMany)))
    (eC_TooMany : errB K C_TooMany = true)
    (qC_TooMany : PySem.W.excIn K C_TooMany PySem.HandSPX.veTail "ValueError.__new__" = true)
    (aC_NoRun : PySem.W.nsIn K mainGlobals "NoRun" = some (some (.ref C_NoRun)))
    (eC_NoRun : errB K C_NoRun = true)
    (qC_NoRun : PySem.W.excIn K C_NoRun PySem.HandSPX.veTail "ValueError.__new__" = true)
    (aC_NoWood : PySem.W.nsIn K mainGlobals "NoWood" = some (some (.ref C_NoWood)))
    (eC_NoWood : errB K C_NoWood = true)
    (qC_NoWood : PySem.W.excIn K C_NoWood PySem.HandSPX.veTail "ValueError.__new__" = true)
    (aC_NoHouse : PySem.W.nsIn K mainGlobals "NoHouse" = some (some (.ref C_NoHouse)))
    (eC_NoHouse : errB K C_NoHouse = true)
    (qC_NoHouse : PySem.W.excIn K C_NoHouse PySem.HandSPX.veTail "ValueError.__new__" = true)
    (aC_NoShifts : PySem.W.nsIn K mainGlobals "NoShifts" = some (some (.ref C_NoShifts)))
    (eC_NoShifts : errB K C_NoShifts = true)
    (qC_NoShifts : PySem.W.excIn K C_NoShifts PySem.HandSPX.veTail "ValueError.__new__" = true)
    (aC_NotRight : PySem.W.nsIn K mainGlobals "NotRight" = some (some (.ref C_NotRight)))
    (eC_NotRight : errB K C_NotRight = true)
    (qC_NotRight : PySem.W.excIn K C_NotRight PySem.HandSPX.veTail "ValueError.__new__" = true)
    (aC_NoMore : PySem.W.nsIn K mainGlobals "NoMore" = some (some (.ref C_NoMore)))
    (eC_NoMore : errB K C_NoMore = true)
    (qC_NoMore : PySem.W.excIn K C_NoMore PySem.HandSPX.veTail "ValueError.__new__" = true)
    (aC_NotOne : PySem.W.nsIn K mainGlobals "NotOne" = some (some (.ref C_NotOne)))
    (eC_NotOne : errB K C_NotOne = true)
    (qC_NotOne : PySem.W.excIn K C_NotOne PySem.HandSPX.veTail "ValueError.__new__" = true)
    (aC_NoGap : PySem.W.nsIn K mainGlobals "NoGap" = some (some (.ref C_NoGap)))
    (eC_NoGap : errB K C_NoGap = true)
    (qC_NoGap : PySem.W.excIn K C_NoGap PySem.HandSPX.veTail "ValueError.__new__" = true)
    (aC_NoDealing : PySem.W.nsIn K mainGlobals "NoDealing" = some (some (.ref C_NoDealing)))
    (eC_NoDealing : errB K C_NoDealing = true)
    (qC_NoDealing : PySem.W.excIn K C_NoDealing PySem.HandSPX.veTail "ValueError.__new__" = true)
    (aC_NoPlace : PySem.W.nsIn K mainGlobals "NoPlace" = some (some (.ref C_NoPlace)))
    (eC_NoPlace : errB K C_NoPlace = true)
    (qC_NoPlace : PySem.W.excIn K C_NoPlace PySem.HandSPX.veTail "ValueError.__new__" = true)
    (aC_NotWhole : PySem.W.nsIn K mainGlobals "NotWhole" = some (some (.ref C_NotWhole)))
    (eC_NotWhole : errB K C_NotWhole = true)
    (qC_NotWhole : PySem.W.excIn K C_NotWhole PySem.HandSPX.veTail "ValueError.__new__" = true)
    (aC_NoBack : PySem.W.nsIn K mainGlobals "NoBack" = some (some (.ref C_NoBack)))
    (eC_NoBack : errB K C_NoBack = true)
    (qC_NoBack : PySem.W.excIn K C_NoBack PySem.HandSPX.veTail "ValueError.__new__" = true)
    (aC_NoRow : PySem.W.nsIn K mainGlobals "NoRow" = some (some (.ref C_NoRow)))
    (eC_NoRow : errB K C_NoRow = true)
    (qC_NoRow : PySem.W.excIn K C_NoRow PySem.HandSPX.veTail "ValueError.__new__" = true)
    (aC_Clash : PySem.W.nsIn K mainGlobals "Clash" = some (some (.ref C_Clash)))
    (eC_Clash : errB K C_Clash = true)
    (sC_Clash : SupW l.prog K C_Clash "pair")
    (aC_NoText : PySem.W.nsIn K mainGlobals "NoText" = some (some (.ref C_NoText)))
    (eC_NoText : errB K C_NoText = true)
    (sC_NoText : SupW l.prog K C_NoText "at")
    (kindsE : kindsB K C_WoodError [C_NoPiece, C_TooMany, C_NoRun, C_NoWood, C_NoHouse, C_NoShifts, C_NotRight, C_NoMore, C_NotOne, C_NoGap, C_NoDealing, C_NoPlace, C_NotWhole, C_NoBack, C_NoRow, C_Clash, C_NoText] = true)
    (z_ValueError : PySem.W.nsIn K mainGlobals "ValueError" = some none)
    (z_all : PySem.W.nsIn K mainGlobals "all" = some none)
    (z_isinstance : PySem.W.nsIn K mainGlobals "isinstance" = some none)
    (z_len : PySem.W.nsIn K mainGlobals "len" = some none)
    (z_list : PySem.W.nsIn K mainGlobals "list" = some none)
    (z_range : PySem.W.nsIn K mainGlobals "range" = some none)
    (z_repr : PySem.W.nsIn K mainGlobals "repr" = some none)
    (z_super : PySem.W.nsIn K mainGlobals "super" = some none) :
    ∃ fd : FuncData, (∀ (s : Shared) (v : Value), BindsTo s fd ⟨[v], []⟩ [("script", v)]) ∧ ∀ base : Heap, K.In base → base.Ns mainGlobals mg → Holds l.prog w K mg base 3 fa fd ["script"] (prLaw K) := by
  have e := (PySem.W.mg_of X G a_law).symm.trans hfa
  cases e
  let T : Tx l.prog K mg := { f_llmixed := _, fd_llmixed := _, F_llmixed := fun_mk (st := s_llmixed) l_llmixed e_llmixed k_llmixed, g_llmixed := PySem.W.mg_of X G a_llmixed, b_llmixed := (fun_mk (st := s_llmixed) l_llmixed e_llmixed k_llmixed).binds (ps := ["cell", "at"]) (fun _ _ _ _ _ _ us hl => match us, hl with | [_, _], _ => rfl), f_llopen := _, fd_llopen := _, F_llopen := fun_mk (st := s_llopen) l_llopen e_llopen k_llopen, g_llopen := PySem.W.mg_of X G a_llopen, b_llopen := (fun_mk (st := s_llopen) l_llopen e_llopen k_llopen).binds (ps := ["script"]) (fun _ _ _ _ _ _ us hl => match us, hl with | [_], _ => rfl), f_lldraw := _, fd_lldraw := _, F_lldraw := fun_mk (st := s_lldraw) l_lldraw e_lldraw k_lldraw, g_lldraw := PySem.W.mg_of X G a_lldraw, b_lldraw := (fun_mk (st := s_lldraw) l_lldraw e_lldraw k_lldraw).binds (ps := ["feed", "many"]) (fun _ _ _ _ _ _ us hl => match us, hl with | [_, _], _ => rfl), f_llkind := _, fd_llkind := _, F_llkind := fun_mk (st := s_llkind) l_llkind e_llkind k_llkind, g_llkind := PySem.W.mg_of X G a_llkind, b_llkind := (fun_mk (st := s_llkind) l_llkind e_llkind k_llkind).binds (ps := ["caught"]) (fun _ _ _ _ _ _ us hl => match us, hl with | [_], _ => rfl), f_law := _, fd_law := _, F_law := fun_mk (st := s_law) l_law e_law k_law, g_law := PySem.W.mg_of X G a_law, b_law := (fun_mk (st := s_law) l_law e_law k_law).binds (ps := ["script"]) (fun _ _ _ _ _ _ us hl => match us, hl with | [_], _ => rfl), C_WoodError := C_WoodError, gC_WoodError := PySem.W.mg_of X G aC_WoodError, E_WoodError := errB_ok eC_WoodError, q_WoodError := qC_WoodError, C_NoPiece := C_NoPiece, gC_NoPiece := PySem.W.mg_of X G aC_NoPiece, E_NoPiece := errB_ok eC_NoPiece, q_NoPiece := qC_NoPiece, C_TooMany := C_TooMany, gC_TooMany := PySem.W.mg_of X G aC_TooMany, E_TooMany := errB_ok eC_TooMany, q_TooMany := qC_TooMany, C_NoRun := C_NoRun, gC_NoRun := PySem.W.mg_of X G aC_NoRun, E_NoRun := errB_ok eC_NoRun, q_NoRun := qC_NoRun, C_NoWood := C_NoWood, gC_NoWood := PySem.W.mg_of X G aC_NoWood, E_NoWood := errB_ok eC_NoWood, q_NoWood := qC_NoWood, C_NoHouse := C_NoHouse, gC_NoHouse := PySem.W.mg_of X G aC_NoHouse, E_NoHouse := errB_ok eC_NoHouse, q_NoHouse := qC_NoHouse, C_NoShifts := C_NoShifts, gC_NoShifts := PySem.W.mg_of X G aC_NoShifts, E_NoShifts := errB_ok eC_NoShifts, q_NoShifts := qC_NoShifts, C_NotRight := C_NotRight, gC_NotRight := PySem.W.mg_of X G aC_NotRight, E_NotRight := errB_ok eC_NotRight, q_NotRight := qC_NotRight, C_NoMore := C_NoMore, gC_NoMore := PySem.W.mg_of X G aC_NoMore, E_NoMore := errB_ok eC_NoMore, q_NoMore := qC_NoMore, C_NotOne := C_NotOne, gC_NotOne := PySem.W.mg_of X G aC_NotOne, E_NotOne := errB_ok eC_NotOne, q_NotOne := qC_NotOne, C_NoGap := C_NoGap, gC_NoGap := PySem.W.mg_of X G aC_NoGap, E_NoGap := errB_ok eC_NoGap, q_NoGap := qC_NoGap, C_NoDealing := C_NoDealing, gC_NoDealing := PySem.W.mg_of X G aC_NoDealing, E_NoDealing := errB_ok eC_NoDealing, q_NoDealing := qC_NoDealing, C_NoPlace := C_NoPlace, gC_NoPlace := PySem.W.mg_of X G aC_NoPlace, E_NoPlace := errB_ok eC_NoPlace, q_NoPlace := qC_NoPlace, C_NotWhole := C_NotWhole, gC_NotWhole := PySem.W.mg_of X G aC_NotWhole, E_NotWhole := errB_ok eC_NotWhole, q_NotWhole := qC_NotWhole, C_NoBack := C_NoBack, gC_NoBack := PySem.W.mg_of X G aC_NoBack, E_NoBack := errB_ok eC_NoBack, q_NoBack := qC_NoBack, C_NoRow := C_NoRow, gC_NoRow := PySem.W.mg_of X G aC_NoRow, E_NoRow := errB_ok eC_NoRow, q_NoRow := qC_NoRow, C_Clash := C_Clash, gC_Clash := PySem.W.mg_of X G aC_Clash, E_Clash := errB_ok eC_Clash, S_Clash := sC_Clash mg (PySem.W.mg_none_of X G z_super), C_NoText := C_NoText, gC_NoText := PySem.W.mg_of X G aC_NoText, E_NoText := errB_ok eC_NoText, S_NoText := sC_NoText mg (PySem.W.mg_none_of X G z_super), kinds := kindsB_ok kindsE, m_ValueError := PySem.W.mg_none_of X G z_ValueError, m_all := PySem.W.mg_none_of X G z_all, m_isinstance := PySem.W.mg_none_of X G z_isinstance, m_len := PySem.W.mg_none_of X G z_len, m_list := PySem.W.mg_none_of X G z_list, m_range := PySem.W.mg_none_of X G z_range, m_repr := PySem.W.mg_none_of X G z_repr, m_super := PySem.W.mg_none_of X G z_super }
  exact ⟨PySem.W.fnOf "law" "law" (defArgs s_law) (defBody s_law) (defScope s_law) .none kV_law dc_law pm_law an_law cd_law ct_law, fun s v => .of_eq rfl, fun base _ _ => ok_law T⟩
end LW
open PySem PySem.W PyProof.Rows
set_option maxRecDepth 100000 in
set_option maxHeartbeats 0 in
theorem PySem.Challenge.cw_latewood_k05_refusals_apart_holds : PySem.Challenge.rw_latewood_k05_refusals_apart.Holds := by
  w_on; o_law; k_head; (case hw => w_witness2)
  k_fill
  refine DL.walk_law (l := PySem.Challenge.rw_latewood_k05_refusals_apart) (x := "script") (k := 3) rfl rfl ⟨rfl, by decide, by decide⟩ (fun w h Y => PySem.W.kIn_of Y) ?F
  case F =>
    intro w mg fa h KX G hmg
    refine' LW.all_mk KX G hmg ?a_llmixed ?l_llmixed ?e_llmixed ?k_llmixed ?a_llopen ?l_llopen ?e_llopen ?k_llopen ?a_lldraw ?l_lldraw ?e_lldraw ?k_lldraw ?a_llkind ?l_llkind ?e_llkind ?k_llkind ?a_law ?l_law ?e_law ?k_law ?aC_WoodError ?eC_WoodError ?qC_WoodError ?aC_NoPiece ?eC_NoPiece ?qC_NoPiece ?aC_TooMany ?eC_TooMany ?qC_TooMany ?aC_NoRun ?eC_NoRun ?qC_NoRun ?aC_NoWood ?eC_NoWood ?qC_NoWood ?aC_NoHouse ?eC_NoHouse ?qC_NoHouse ?aC_NoShifts ?eC_NoShifts ?qC_NoShifts ?aC_NotRight ?eC_NotRight ?qC_NotRight ?aC_NoMore ?eC_NoMore ?qC_NoMore ?aC_NotOne ?eC_NotOne ?qC_NotOne ?aC_NoGap ?eC_NoGap ?qC_NoGap ?aC_NoDealing ?eC_NoDealing ?qC_NoDealing ?aC_NoPlace ?eC_NoPlace ?qC_NoPlace ?aC_NotWhole ?eC_NotWhole ?qC_NotWhole ?aC_NoBack ?eC_NoBack ?qC_NoBack ?aC_NoRow ?eC_NoRow ?qC_NoRow ?aC_Clash ?eC_Clash ?sC_Clash ?aC_NoText ?eC_NoText ?sC_NoText ?kindsE ?z_ValueError ?z_all ?z_isinstance ?z_len ?z_list ?z_range ?z_repr ?z_super
    (case a_llmixed => k_is)
    (case l_llmixed => k_is)
    (case e_llmixed => k_is)
    (case k_llmixed => k_is)
    (case a_llopen => k_is)
    (case l_llopen => k_is)
    (case e_llopen => k_is)
    (case k_llopen => k_is)
    (case a_lldraw => k_is)
    (case l_lldraw => k_is)
    (case e_lldraw => k_is)
    (case k_lldraw => k_is)
    (case a_llkind => k_is)
    (case l_llkind => k_is)
    (case e_llkind => k_is)
    (case k_llkind => k_is)
    (case a_law => k_is)
    (case l_law => k_is)
    (case e_law => k_is)
    (case k_law => k_is)
    (case aC_WoodError => k_is)
    (case eC_WoodError => kernel_rfl)
    (case qC_WoodError => kernel_rfl)
    (case aC_NoPiece => k_is)
    (case eC_NoPiece => kernel_rfl)
    (case qC_NoPiece => kernel_rfl)
    (case aC_TooMany => k_is)
    (case eC_TooMany => kernel_rfl)
    (case qC_TooMany => kernel_rfl)
    (case aC_NoRun => k_is)
    (case eC_NoRun => kernel_rfl)
    (case qC_NoRun => kernel_rfl)
    (case aC_NoWood => k_is)
    (case eC_NoWood => kernel_rfl)
    (case qC_NoWood => kernel_rfl)
    (case aC_NoHouse => k_is)
    (case eC_NoHouse => kernel_rfl)
    (case qC_NoHouse => kernel_rfl)
    (case aC_NoShifts => k_is)
    (case eC_NoShifts => kernel_rfl)
    (case qC_NoShifts => kernel_rfl)
    (case aC_NotRight => k_is)
    (case eC_NotRight => kernel_rfl)
    (case qC_NotRight => kernel_rfl)
    (case aC_NoMore => k_is)
    (case eC_NoMore => kernel_rfl)
    (case qC_NoMore => kernel_rfl)
    (case aC_NotOne => k_is)
    (case eC_NotOne => kernel_rfl)
    (case qC_NotOne => kernel_rfl)
    (case aC_NoGap => k_is)
    (case eC_NoGap => kernel_rfl)
    (case qC_NoGap => kernel_rfl)
    (case aC_NoDealing => k_is)
    (case eC_NoDealing => kernel_rfl)
    (case qC_NoDealing => kernel_rfl)
    (case aC_NoPlace => k_is)
    (case eC_NoPlace => kernel_rfl)
    (case qC_NoPlace => kernel_rfl)
    (case aC_NotWhole => k_is)
    (case eC_NotWhole => kernel_rfl)
    (case qC_NotWhole => kernel_rfl)
    (case aC_NoBack => k_is)
    (case eC_NoBack => kernel_rfl)
    (case qC_NoBack => kernel_rfl)
    (case aC_NoRow => k_is)
    (case eC_NoRow => kernel_rfl)
    (case qC_NoRow => kernel_rfl)
    (case aC_Clash => k_is)
    (case eC_Clash => kernel_rfl)
    (case sC_Clash => (refine' DL.supW_mk ?s1 ?s2 ?s3 ?s4 ?s5 ?s6 ?s7 ?s8 ?s9 ?s10 ?s11 ?s12 ?s13 ?s14 ?s15 ?s16 ?s17 ?s18 ?s19 ?s20 ?s21 ?s22 ?s23; (case s1 => k_is); (case s2 => kernel_rfl); (case s3 => kernel_rfl); (case s4 => decide +kernel); (case s5 => k_is); (case s6 => k_is); (case s7 => k_is); (case s8 => k_is); (case s9 => k_is); (case s10 => exact rfl); (case s11 => decide +kernel); (case s12 => k_is); (case s13 => exact rfl); (case s14 => exact rfl); (case s15 => decide +kernel); (case s16 => decide +kernel); (case s17 => decide +kernel); (case s18 => exact fun _ _ _ => .of_eq rfl); (case s19 => decide +kernel); (case s20 => decide +kernel); (case s21 => exact fun env => ⟨_, rfl⟩); (case s22 => exact fun env => rfl); (case s23 => exact fun env => rfl)))
    (case aC_NoText => k_is)
    (case eC_NoText => kernel_rfl)
    (case sC_NoText => (refine' DL.supW_mk ?s1 ?s2 ?s3 ?s4 ?s5 ?s6 ?s7 ?s8 ?s9 ?s10 ?s11 ?s12 ?s13 ?s14 ?s15 ?s16 ?s17 ?s18 ?s19 ?s20 ?s21 ?s22 ?s23; (case s1 => k_is); (case s2 => kernel_rfl); (case s3 => kernel_rfl); (case s4 => decide +kernel); (case s5 => k_is); (case s6 => k_is); (case s7 => k_is); (case s8 => k_is); (case s9 => k_is); (case s10 => exact rfl); (case s11 => decide +kernel); (case s12 => k_is); (case s13 => exact rfl); (case s14 => exact rfl); (case s15 => decide +kernel); (case s16 => decide +kernel); (case s17 => decide +kernel); (case s18 => exact fun _ _ _ => .of_eq rfl); (case s19 => decide +kernel); (case s20 => decide +kernel); (case s21 => exact fun env => ⟨_, rfl⟩); (case s22 => exact fun env => rfl); (case s23 => exact fun env => rfl)))
    (case kindsE => kernel_rfl)
    (case z_ValueError => k_is)
    (case z_all => k_is)
    (case z_isinstance => k_is)
    (case z_len => k_is)
    (case z_list => k_is)
    (case z_range => k_is)
    (case z_repr => k_is)
    (case z_super => k_is)
