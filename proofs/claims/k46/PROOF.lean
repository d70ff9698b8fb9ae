import PyProof.Rows.All
import Wide.All
import OpenK.AllK
import Wide.FinOn
import HandS.ForMost
import HandS.Evl
import HandS.IsInst
import HandS.Wide
import HandS.TupAny
import HandS.Exc
import KE.LtData
import HandS.Defaults
import HandS.Style
import HandS.SortInts
import PyProof.ReprLen
import HandS.Dict
import HandS.SetKeys
import HandS.WordsDict
import HandS.Conv
import HandS.Small
import KE.SortData
import HandS.Iter
import HandS.ExcInit
import HandS.ExcValue
import HandS.TryOnly
import HandS.ExcOwn
import HandS.ExcField
import KE.KExcSuper
import KE.KExcIs
import KE.DataEq
import HandS.TupSets
import KE.KDictCopyH
import KE.DataMinMax
import KE.DataCmp
import HandS.SetBool
import HandS.Strs
import KE.KDictSum
import PyProof.LongRange
import PyProof.ListRange
import KE.KTupSum
import HandS.DictComp
import KE.KDictPairs
import KE.KDictKeyed
import HandS.SetFor
import HandS.Flow
import PySem.Challenge.RW_latewood_k46_gaps_told
set_option Elab.async false
set_option linter.all false
set_option maxRecDepth 100000
set_option maxHeartbeats 4000000
/-! A layer without heaps over HandS: what a name, an item holds is a datum, or an object of one's own that may change. -/
namespace DL
open PySem PySem.Spec PyProof.Rows L2
open Evl (Ex)
abbrev Dt := PyData
/-- the script; an exception that was made; what stood still at a def's entry -/
inductive Fx where
  | scr (K : PySem.W.Frag) (xs : List Int)
  | exc (C : Addr) (fs : List (Str × Dt))
  | base (H0 : Hp)
/-- what a slot or an item holds -/
inductive Sl where
  | dat (d : Dt)
  | own (a : Addr)
  | raw (v : V)
  | fix (x : Fx)
abbrev Sl.scr (K : PySem.W.Frag) (xs : List Int) : Sl := .fix (.scr K xs)
abbrev Sl.exc (C : Addr) (fs : List (Str × Dt)) : Sl := .fix (.exc C fs)
abbrev Sl.base (H0 : Hp) : Sl := .fix (.base H0)
/-- an object of ours that may change (a tuple of what may change, too) -/
inductive MO where
  | lst (xs : List Sl)
  | dct (kvs : List (Key × Sl))
  | dtt (kvs : List (List Key × Sl))
  | tup (xs : List Sl)
  | raw (o : HO)
  | ins (C : Addr) (N : List Str) (vs : List Sl)
  /-- dicts while they are walked -/
  | fdk (od : Obj) (ws : List (Key × V)) (kvs : List (Key × Sl))
  | fdt (od : Obj) (ws : List (List Key × V)) (kvs : List (List Key × Sl))
def MO.nt : MO → Bool
  | .tup _ => false
  | .raw (.tup _) => false
  | _ => true
abbrev Mem := Addr → Option MO
def put (M : Mem) (a : Addr) (o : MO) : Mem := fun b => if b = a then some o else M b
def del (M : Mem) (a : Addr) : Mem := fun b => if b = a then none else M b
theorem put_at {M : Mem} {a : Addr} {o : MO} : put M a o a = some o := by unfold put; rw [if_pos rfl]
theorem put_ne {M : Mem} {a b : Addr} {o : MO} (h : b ≠ a) : put M a o b = M b := by unfold put; rw [if_neg h]
theorem del_at {M : Mem} {a : Addr} : del M a a = none := by unfold del; rw [if_pos rfl]
theorem del_ne {M : Mem} {a b : Addr} (h : b ≠ a) : del M a b = M b := by unfold del; rw [if_neg h]
theorem put_put {M : Mem} {a : Addr} {o u : MO} : put (put M a o) a u = put M a u := by
  funext b; unfold put; split <;> rfl
theorem del_put {M : Mem} {a : Addr} {o : MO} (h : M a = none) : del (put M a o) a = M := by
  funext b
  by_cases e : b = a
  · rw [e, del_at, h]
  · rw [del_ne e, put_ne e]
theorem ne_mem {M : Mem} {a b : Addr} {o : MO} (h : M a = some o) (h' : M b = none) : a ≠ b := by
  intro e; subst e; rw [h] at h'; cases h'
abbrev Fm := List (Option Sl)
mutual
/-- v is the datum d: all its lists and tuples are tracked -/
inductive Dq (H : Hp) : V → PyData → Prop
  | non : Dq H .non .none
  | bl (b : Bool) : Dq H (.bl b) (.bool b)
  | int (i : Int) : Dq H (.int i) (.int i)
  | str (x : Str) : Dq H (.str x) (.str x)
  | lst {a : Addr} {xs : List V} {ds : List PyData} : H a = some (.lst xs) → DqAll H xs ds → Dq H (.ref a) (.list ds)
  | tup {a : Addr} {xs : List V} {ds : List PyData} : H a = some (.tup xs) → DqAll H xs ds → Dq H (.ref a) (.tuple ds)
inductive DqAll (H : Hp) : List V → List PyData → Prop
  | nil : DqAll H [] []
  | cons {v : V} {vs : List V} {d : PyData} {ds : List PyData} : Dq H v d → DqAll H vs ds → DqAll H (v :: vs) (d :: ds)
end
/-- at a: an exception that was made, of the class at C, its own dict -/
def Kx (a C : Addr) (d : Option Addr) (h : Heap) : Prop := ∃ (oe : Obj) (vs : Array Value), h.get? a = some oe ∧ Zc (.ref C) d oe ∧ oe.data = .fields vs
def exk (a C : Addr) (d : Option Addr) : HO := .ext (Kx a C d)
/-- its fields -/
def FsAt (H : Hp) (d : Option Addr) (fs : List (Str × Dt)) : Prop := match d with
  | none => fs = []
  | some dd => ∃ ws : List (Str × V), H dd = some (.xd ws) ∧ Paired (fun (p : Str × Dt) (q : Str × V) => p.1 = q.1 ∧ Dq H q.2 p.2) fs ws
section
def RpF (H : Hp) (v : V) : Fx → Prop
  | .scr K xs => ∃ a, v = .ref a ∧ SqL K H a (xs.map .int)
  | .exc C fs => ∃ a d φ, v = .ref a ∧ H a = some (.ext φ) ∧ (∀ h, φ h → Kx a C d h) ∧ FsAt H d fs
  | .base _ => False
/-- v is what s says, in the heap H of what stands still -/
def Rp (H : Hp) : Sl → V → Prop
  | .dat d, v => Dq H v d
  | .own a, v => v = .ref a
  | .raw u, v => v = u
  | .fix x, v => RpF H v x
abbrev Rps (H : Hp) : List Sl → List V → Prop := Paired (Rp H)
def RpO (H : Hp) (Hc : Option HO) : MO → Prop
  | .lst xs => xs.length ≤ sizeLine ∧ ∃ vs, Hc = some (.lst vs) ∧ Rps H xs vs
  | .dct kvs => ∃ ws, Hc = some (.dK ws) ∧ Paired (fun (p : Key × Sl) (q : Key × V) => p.1 = q.1 ∧ Rp H p.2 q.2) kvs ws
  | .dtt kvs => ∃ ws, Hc = some (.dT ws) ∧ Paired (fun (p : List Key × Sl) (q : List Key × V) => p.1 = q.1 ∧ Rp H p.2 q.2) kvs ws
  | .tup xs => ∃ vs, Hc = some (.tup vs) ∧ Rps H xs vs
  | .raw o => Hc = some o
  | .ins C N ss => ss.length ≤ N.length ∧ ∃ dx vs, Hc = some (.ins C dx (N.zip vs)) ∧ Rps H ss vs
  | .fdk od ws kvs => Hc = some (.frz od (.dK ws)) ∧ Paired (fun (p : Key × Sl) (q : Key × V) => p.1 = q.1 ∧ Rp H p.2 q.2) kvs ws
  | .fdt od ws kvs => Hc = some (.frz od (.dT ws)) ∧ Paired (fun (p : List Key × Sl) (q : List Key × V) => p.1 = q.1 ∧ Rp H p.2 q.2) kvs ws
theorem RpO.nt {H : Hp} {c : Option HO} {u : MO} (h : RpO H c u) (n : u.nt = true) : ∀ vs, c ≠ some (.tup vs) := by
  intro vs e
  cases u with
  | lst xs => obtain ⟨_, vs, q, _⟩ := h; rw [e] at q; cases q
  | dct kvs => obtain ⟨ws, q, _⟩ := h; rw [e] at q; cases q
  | dtt kvs => obtain ⟨ws, q, _⟩ := h; rw [e] at q; cases q
  | tup xs => cases n
  | raw o => have q : c = some o := h; rw [e] at q; cases q; cases n
  | ins C N ss => obtain ⟨_, dx, vs, q, _⟩ := h; rw [e] at q; cases q
  | fdk od ws kvs => have q := h.1; rw [e] at q; cases q
  | fdt od ws kvs => have q := h.1; rw [e] at q; cases q
structure Own (H Hc : Hp) (M : Mem) : Prop where
  ex : Ex H Hc
  no : ∀ a o, M a = some o → H a = none ∨ ∃ vs, Hc a = some (.tup vs)
  ob : ∀ a o, M a = some o → RpO H (Hc a) o
structure Fr (H : Hp) (σ : L2.St) (Γ : Fm) : Prop where
  len : σ.length ≤ Γ.length
  sl : ∀ (i : Nat) (s : Sl), i < σ.length → Γ[i]? = some (some s) → ∃ v, σ[i]? = some (some v) ∧ Rp H s v
  gh : ∀ (i : Nat) (H0 : Hp), Γ[i]? = some (some (.base H0)) → Ex H0 H
end
section
variable {H H' Hc Hc' : Hp} {M M' : Mem} {s : Sl} {v : V} {a : Addr}
mutual
theorem dp_ex (e : Ex H H') : ∀ {d : Dt} {v : V}, Dq H v d → Dq H' v d
  | .none, _, h => by cases h; exact .non
  | .bool b, _, h => by cases h; exact .bl b
  | .int i, _, h => by cases h; exact .int i
  | .str x, _, h => by cases h; exact .str x
  | .list ds, _, h => by cases h with | lst hs ha => exact .lst (e _ _ hs) (dps_ex e ha)
  | .tuple ds, _, h => by cases h with | tup hs ha => exact .tup (e _ _ hs) (dps_ex e ha)
  | .dict _, _, h => by cases h
theorem dps_ex (e : Ex H H') : ∀ {ds : List Dt} {vs : List V}, DqAll H vs ds → DqAll H' vs ds
  | [], _, h => by cases h; exact .nil
  | d :: ds, _, h => by cases h with | cons h1 h2 => exact .cons (dp_ex e h1) (dps_ex e h2)
end
mutual
theorem dq_dp {K : PySem.W.Frag} : ∀ {d : Dt} {v : V}, Dq H v d → Dp K H v d
  | .none, _, h => by cases h; exact .non
  | .bool b, _, h => by cases h; exact .bl b
  | .int i, _, h => by cases h; exact .int i
  | .str x, _, h => by cases h; exact .str x
  | .list ds, _, h => by cases h with | lst hs ha => exact .lst (SqL.of hs) (dqs_dps ha)
  | .tuple ds, _, h => by cases h with | tup hs ha => exact .tup (SqT.of hs) (dqs_dps ha)
  | .dict _, _, h => by cases h
theorem dqs_dps {K : PySem.W.Frag} : ∀ {ds : List Dt} {vs : List V}, DqAll H vs ds → DpAll K H vs ds
  | [], _, h => by cases h; exact .nil
  | d :: ds, _, h => by cases h with | cons h1 h2 => exact .cons (dq_dp h1) (dqs_dps h2)
end
theorem fs_ex {d : Option Addr} {fs : List (Str × Dt)} (e : Ex H H') (h : FsAt H d fs) : FsAt H' d fs := by
  cases d with
  | none => exact h
  | some dd => obtain ⟨ws, h1, h2⟩ := h; exact ⟨ws, e _ _ h1, Paired.mapP h2 fun p q r => ⟨r.1, dp_ex e r.2⟩⟩
theorem rp_ex (e : Ex H H') (h : Rp H s v) : Rp H' s v := by
  cases s with
  | dat d => exact dp_ex e h
  | own a => exact h
  | raw u => exact h
  | fix x => cases x with
    | scr K xs => obtain ⟨a, h1, h2⟩ := h; exact ⟨a, h1, Evl.ex_l e h2⟩
    | exc C fs => obtain ⟨a, d, φ, h1, h2, h3, h4⟩ := h; exact ⟨a, d, φ, h1, e _ _ h2, h3, fs_ex e h4⟩
    | base H0 => exact h.elim
theorem rps_ex (e : Ex H H') : ∀ {ss : List Sl} {vs : List V}, Rps H ss vs → Rps H' ss vs
  | [], _, .nil => .nil
  | _ :: _, _, .cons r t => .cons (rp_ex e r) (rps_ex e t)
theorem rpo_ex {c : Option HO} {o : MO} (e : Ex H H') (h : RpO H c o) : RpO H' c o := by
  cases o with
  | lst xs => obtain ⟨z, vs, h1, h2⟩ := h; exact ⟨z, vs, h1, rps_ex e h2⟩
  | dct kvs => obtain ⟨ws, h1, h2⟩ := h; exact ⟨ws, h1, Paired.mapP h2 fun p q r => ⟨r.1, rp_ex e r.2⟩⟩
  | dtt kvs => obtain ⟨ws, h1, h2⟩ := h; exact ⟨ws, h1, Paired.mapP h2 fun p q r => ⟨r.1, rp_ex e r.2⟩⟩
  | tup xs => obtain ⟨vs, h1, h2⟩ := h; exact ⟨vs, h1, rps_ex e h2⟩
  | raw o => exact h
  | ins C N ss => obtain ⟨hl, dx, vs, h1, h2⟩ := h; exact ⟨hl, dx, vs, h1, rps_ex e h2⟩
  | fdk od ws kvs => exact ⟨h.1, Paired.mapP h.2 fun p q r => ⟨r.1, rp_ex e r.2⟩⟩
  | fdt od ws kvs => exact ⟨h.1, Paired.mapP h.2 fun p q r => ⟨r.1, rp_ex e r.2⟩⟩
theorem Fr.ex {σ : L2.St} {Γ : Fm} (e : Ex H H') (F : Fr H σ Γ) : Fr H' σ Γ :=
  ⟨F.len, fun i s hi h => by obtain ⟨v, h1, h2⟩ := F.sl i s hi h; exact ⟨v, h1, rp_ex e h2⟩, fun i H0 h => (F.gh i H0 h).trans e⟩
theorem Fr.set {σ : L2.St} {Γ : Fm} (F : Fr H σ Γ) {i : Nat} (r : Rp H s v) : Fr H (σ.set i (some v)) (Γ.set i (some s)) := by
  refine ⟨by rw [List.length_set, List.length_set]; exact F.len, fun j t hj h => ?_, fun j H0 h => ?_⟩
  · rw [List.length_set] at hj
    by_cases e : i = j
    · subst e
      rw [List.getElem?_set_self (Nat.lt_of_lt_of_le hj F.len)] at h
      cases h
      exact ⟨v, List.getElem?_set_self hj, r⟩
    · rw [List.getElem?_set_ne e] at h ⊢
      exact F.sl j t hj h
  · by_cases e : i = j
    · subst e
      by_cases hl : i < Γ.length
      · rw [List.getElem?_set_self hl] at h
        cases h
        exact r.elim
      · rw [List.getElem?_eq_none (by rw [List.length_set]; omega)] at h
        cases h
    · rw [List.getElem?_set_ne e] at h
      exact F.gh j H0 h
/-- forgetting -/
theorem Fr.weak {σ : L2.St} {Γ Γ' : Fm} (F : Fr H σ Γ) (hl : Γ'.length = Γ.length) (h : ∀ (i : Nat) s, Γ'[i]? = some (some s) → Γ[i]? = some (some s)) : Fr H σ Γ' :=
  ⟨by rw [hl]; exact F.len, fun i s hi e => F.sl i s hi (h i s e), fun i H0 e => F.gh i H0 (h i _ e)⟩
/-! ### the heaps grow -/
theorem Own.grow {p : Addr} {o : HO} (O : Own H Hc M) (h : Hc p = none) : Own (upd H p o) (upd Hc p o) M ∧ Ex H (upd H p o) := by
  have h0 : H p = none := Evl.fresh_back O.ex h
  have e0 : Ex H (upd H p o) := Evl.Ex.new h0
  refine ⟨⟨fun b u e => ?_, fun b u e => ?_, fun b u e => ?_⟩, e0⟩
  · by_cases hb : b = p
    · subst hb; rw [upd_same] at e ⊢; exact e
    · rw [upd_ne hb] at e ⊢; exact O.ex b u e
  · have hb : b ≠ p := by
      rintro rfl
      have := O.ob b u e
      cases u with
      | lst xs => obtain ⟨_, vs, q, _⟩ := this; rw [h] at q; cases q
      | dct kvs => obtain ⟨ws, q, _⟩ := this; rw [h] at q; cases q
      | dtt kvs => obtain ⟨ws, q, _⟩ := this; rw [h] at q; cases q
      | tup xs => obtain ⟨vs, q, _⟩ := this; rw [h] at q; cases q
      | raw o => have q := this; dsimp only [RpO] at q; rw [h] at q; cases q
      | ins C N ss => obtain ⟨_, dx, vs, q, _⟩ := this; rw [h] at q; cases q
      | fdk od ws kvs => have q := this.1; rw [h] at q; cases q
      | fdt od ws kvs => have q := this.1; rw [h] at q; cases q
    rw [upd_ne hb, upd_ne hb]; exact O.no b u e
  · have hb : b ≠ p := by
      rintro rfl
      have := O.ob b u e
      cases u with
      | lst xs => obtain ⟨_, vs, q, _⟩ := this; rw [h] at q; cases q
      | dct kvs => obtain ⟨ws, q, _⟩ := this; rw [h] at q; cases q
      | dtt kvs => obtain ⟨ws, q, _⟩ := this; rw [h] at q; cases q
      | tup xs => obtain ⟨vs, q, _⟩ := this; rw [h] at q; cases q
      | raw o => have q := this; dsimp only [RpO] at q; rw [h] at q; cases q
      | ins C N ss => obtain ⟨_, dx, vs, q, _⟩ := this; rw [h] at q; cases q
      | fdk od ws kvs => have q := this.1; rw [h] at q; cases q
      | fdt od ws kvs => have q := this.1; rw [h] at q; cases q
    rw [upd_ne hb]; exact rpo_ex e0 (O.ob b u e)
theorem Own.freeM {p : Addr} (O : Own H Hc M) (h : Hc p = none) : M p = none := by
  cases e : M p with
  | none => rfl
  | some u =>
    have := O.ob p u e
    cases u with
    | lst xs => obtain ⟨_, vs, q, _⟩ := this; rw [h] at q; cases q
    | dct kvs => obtain ⟨ws, q, _⟩ := this; rw [h] at q; cases q
    | dtt kvs => obtain ⟨ws, q, _⟩ := this; rw [h] at q; cases q
    | tup xs => obtain ⟨vs, q, _⟩ := this; rw [h] at q; cases q
    | raw o => have q := this; dsimp only [RpO] at q; rw [h] at q; cases q
    | ins C N ss => obtain ⟨_, dx, vs, q, _⟩ := this; rw [h] at q; cases q
    | fdk od ws kvs => have q := this.1; rw [h] at q; cases q
    | fdt od ws kvs => have q := this.1; rw [h] at q; cases q
/-- what nobody speaks of any more -/
theorem Own.waste {p : Addr} {o : HO} (O : Own H Hc M) (h : Hc p = none) : Own H (upd Hc p o) M := by
  have h0 : H p = none := Evl.fresh_back O.ex h
  have hm := O.freeM h
  refine ⟨fun b u e => ?_, fun b u e => by rw [upd_ne (ne_mem e hm)]; exact O.no b u e, fun b u e => ?_⟩
  · rw [upd_ne (ne_of_none e h0)]; exact O.ex b u e
  · rw [upd_ne (ne_mem e hm)]; exact O.ob b u e
/-- a new object of ours -/
theorem Own.born {p : Addr} {o : HO} {u : MO} (O : Own H Hc M) (h : Hc p = none) (r : RpO H (some o) u) : Own H (upd Hc p o) (put M p u) := by
  have h0 : H p = none := Evl.fresh_back O.ex h
  refine ⟨fun b x e => ?_, fun b x e => ?_, fun b x e => ?_⟩
  · rw [upd_ne (ne_of_none e h0)]; exact O.ex b x e
  · by_cases hb : b = p
    · subst hb; exact .inl h0
    · rw [put_ne hb] at e; rw [upd_ne hb]; exact O.no b x e
  · by_cases hb : b = p
    · subst hb; rw [put_at] at e; cases e; rw [upd_same]; exact r
    · rw [put_ne hb] at e; rw [upd_ne hb]; exact O.ob b x e
/-- an object of ours changes -/
theorem Own.turn {p : Addr} {o : HO} {u u0 : MO} (O : Own H Hc M) (h : M p = some u0) (r : RpO H (some o) u) (nt : u0.nt = true := by rfl) : Own H (upd Hc p o) (put M p u) := by
  have h0 : H p = none := (O.no p u0 h).elim id fun ⟨vs, z⟩ => absurd z ((O.ob p u0 h).nt nt vs)
  refine ⟨fun b x e => ?_, fun b x e => ?_, fun b x e => ?_⟩
  · rw [upd_ne (ne_of_none e h0)]; exact O.ex b x e
  · by_cases hb : b = p
    · subst hb; exact .inl h0
    · rw [put_ne hb] at e; rw [upd_ne hb]; exact O.no b x e
  · by_cases hb : b = p
    · subst hb; rw [put_at] at e; cases e; rw [upd_same]; exact r
    · rw [put_ne hb] at e; rw [upd_ne hb]; exact O.ob b x e
theorem rps_dat : ∀ {ds : List Dt} {vs : List V}, Rps H (ds.map .dat) vs → DqAll H vs ds
  | [], _, .nil => .nil
  | d :: ds, _, .cons r t => .cons r (rps_dat t)
theorem dat_rps : ∀ {ds : List Dt} {vs : List V}, DqAll H vs ds → Rps H (ds.map .dat) vs
  | [], _, .nil => .nil
  | d :: ds, _, .cons r t => .cons r (dat_rps t)
theorem dps_len : ∀ {ds : List Dt} {vs : List V}, DqAll H vs ds → vs.length = ds.length
  | [], _, .nil => rfl
  | d :: ds, _, .cons r t => congrArg (· + 1) (dps_len t)
/-- a list of ours is given away: it stands still from now on -/
theorem Own.freeze {p : Addr} {ds : List Dt} (O : Own H Hc M) (h : M p = some (.lst (ds.map .dat))) :
    ∃ H', Ex H H' ∧ Own H' Hc (del M p) ∧ Dq H' (.ref p) (.list ds) := by
  have h0 : H p = none := (O.no p _ h).elim id fun ⟨vs, z⟩ => absurd z ((O.ob p _ h).nt rfl vs)
  obtain ⟨z, vs, h1, h2⟩ := O.ob p _ h
  have e0 : Ex H (upd H p (.lst vs)) := Evl.Ex.new h0
  refine ⟨upd H p (.lst vs), e0, ⟨fun b x e => ?_, fun b x e => ?_, fun b x e => ?_⟩, .lst upd_same (dps_ex e0 (rps_dat h2))⟩
  · by_cases hb : b = p
    · subst hb; rw [upd_same] at e; rw [h1]; exact e
    · rw [upd_ne hb] at e; exact O.ex b x e
  · by_cases hb : b = p
    · subst hb; rw [del_at] at e; cases e
    · rw [del_ne hb] at e; rw [upd_ne hb]; exact O.no b x e
  · by_cases hb : b = p
    · subst hb; rw [del_at] at e; cases e
    · rw [del_ne hb] at e; exact rpo_ex e0 (O.ob b x e)
/-- a tuple that is tracked stands still, whoever speaks of it -/
theorem Own.keyed {q : Addr} {vs : List V} (O : Own H Hc M) (h : Hc q = some (.tup vs)) : ∃ H', Ex H H' ∧ Own H' Hc M ∧ H' q = some (.tup vs) := by
  have e0 : Ex H (upd H q (.tup vs)) := fun b u e => by
    by_cases hb : b = q
    · subst hb
      have e1 := O.ex _ _ e
      rw [h] at e1
      cases e1
      exact upd_same
    · rw [upd_ne hb]; exact e
  refine ⟨upd H q (.tup vs), e0, ⟨fun b x e => ?_, fun b x e => ?_, fun b x e => rpo_ex e0 (O.ob b x e)⟩, upd_same⟩
  · by_cases hb : b = q
    · subst hb; rw [upd_same] at e; rw [h]; exact e
    · rw [upd_ne hb] at e; exact O.ex b x e
  · by_cases hb : b = q
    · subst hb; exact .inr ⟨vs, h⟩
    · rw [upd_ne hb]; exact O.no b x e
/-- an object of ours that nobody speaks of any more -/
theorem Own.drop {p : Addr} (O : Own H Hc M) : Own H Hc (del M p) := by
  refine ⟨O.ex, fun b x e => ?_, fun b x e => ?_⟩
  · by_cases hb : b = p
    · subst hb; rw [del_at] at e; cases e
    · rw [del_ne hb] at e; exact O.no b x e
  · by_cases hb : b = p
    · subst hb; rw [del_at] at e; cases e
    · rw [del_ne hb] at e; exact O.ob b x e
end
/-! ### the judgements, by values of the heapless kind -/
abbrev DK := Sl → Mem → Prop
abbrev DE := Fm → Mem → DK → Prop
abbrev DB := Fm → Mem → (Bool → Mem → Prop) → Prop
abbrev DA := Fm → Mem → (List Sl → Mem → Prop) → Prop
structure DEnds where
  nx : Fm → Mem → Prop
  rt : DK
  bk : Fm → Mem → Prop := fun _ _ => False
  ct : Fm → Mem → Prop := fun _ _ => False
abbrev DS := DEnds → Fm → Mem → Prop
/-- the way on, asked of the heaps -/
def On (H : Hp) (k : DK) (Q : VK) : Prop := ∀ v s M' H' Hc', Ex H H' → Own H' Hc' M' → Rp H' s v → k s M' → Q v Hc'
def OnB (H : Hp) (k : Bool → Mem → Prop) (Q : Bool → Hp → Prop) : Prop := ∀ b M' H' Hc', Ex H H' → Own H' Hc' M' → k b M' → Q b Hc'
def OnA (H : Hp) (k : List Sl → Mem → Prop) (Q : List V → Hp → Prop) : Prop := ∀ vs ss M' H' Hc', Ex H H' → Own H' Hc' M' → Rps H' ss vs → k ss M' → Q vs Hc'
def OnF (H : Hp) (k : Fm → Mem → Prop) (Q : L2.St → Hp → Prop) : Prop := ∀ σ' Γ' M' H' Hc', Ex H H' → Fr H' σ' Γ' → Own H' Hc' M' → k Γ' M' → Q σ' Hc'
structure OnD (H : Hp) (D : DEnds) (E : Ends) : Prop where
  nx : OnF H D.nx E.nx
  rt : On H D.rt E.rt
  bk : OnF H D.bk E.bk
  ct : OnF H D.ct E.ct
def SimE (te : TE) (de : DE) : Prop := ∀ Γ M k σ H Hc Q, de Γ M k → Fr H σ Γ → Own H Hc M → On H k Q → te σ Hc Q
def SimB (te : TT) (de : DB) : Prop := ∀ Γ M k σ H Hc Q, de Γ M k → Fr H σ Γ → Own H Hc M → OnB H k Q → te σ Hc Q
def SimA (te : TA) (de : DA) : Prop := ∀ Γ M k σ H Hc Q, de Γ M k → Fr H σ Γ → Own H Hc M → OnA H k Q → te σ Hc Q
def SimS (ts : TS) (ds : DS) : Prop := ∀ Γ M D σ H Hc E, ds D Γ M → Fr H σ Γ → Own H Hc M → OnD H D E → ts E σ Hc
theorem On.ex {H H' : Hp} {k : DK} {Q : VK} (e : Ex H H') (h : On H k Q) : On H' k Q := fun v s M' H2 Hc' e2 => h v s M' H2 Hc' (e.trans e2)
theorem OnF.ex {H H' : Hp} {k : Fm → Mem → Prop} {Q : L2.St → Hp → Prop} (e : Ex H H') (h : OnF H k Q) : OnF H' k Q := fun v s M' H2 Hc' e2 => h v s M' H2 Hc' (e.trans e2)
theorem OnB.ex {H H' : Hp} {k : Bool → Mem → Prop} {Q : Bool → Hp → Prop} (e : Ex H H') (h : OnB H k Q) : OnB H' k Q := fun b M' H2 Hc' e2 => h b M' H2 Hc' (e.trans e2)
theorem OnA.ex {H H' : Hp} {k : List Sl → Mem → Prop} {Q : List V → Hp → Prop} (e : Ex H H') (h : OnA H k Q) : OnA H' k Q := fun v s M' H2 Hc' e2 => h v s M' H2 Hc' (e.trans e2)
theorem OnD.ex {H H' : Hp} {D : DEnds} {E : Ends} (e : Ex H H') (h : OnD H D E) : OnD H' D E := ⟨h.nx.ex e, h.rt.ex e, h.bk.ex e, h.ct.ex e⟩
/-- the heapless reading, as a reading of the layer -/
def LE (de : DE) : TE := fun σ Hc Q => ∃ Γ M H k, de Γ M k ∧ Fr H σ Γ ∧ Own H Hc M ∧ On H k Q
def LB (de : DB) : TT := fun σ Hc Q => ∃ Γ M H k, de Γ M k ∧ Fr H σ Γ ∧ Own H Hc M ∧ OnB H k Q
def LA (de : DA) : TA := fun σ Hc Q => ∃ Γ M H k, de Γ M k ∧ Fr H σ Γ ∧ Own H Hc M ∧ OnA H k Q
def LS (ds : DS) : TS := fun E σ Hc => ∃ Γ M H D, ds D Γ M ∧ Fr H σ Γ ∧ Own H Hc M ∧ OnD H D E
theorem simLE {de : DE} : SimE (LE de) de := fun Γ M k _ H _ _ h F O q => ⟨Γ, M, H, k, h, F, O, q⟩
theorem simLB {de : DB} : SimB (LB de) de := fun Γ M k _ H _ _ h F O q => ⟨Γ, M, H, k, h, F, O, q⟩
theorem simLA {de : DA} : SimA (LA de) de := fun Γ M k _ H _ _ h F O q => ⟨Γ, M, H, k, h, F, O, q⟩
theorem simLS {ds : DS} : SimS (LS ds) ds := fun Γ M D _ H _ _ h F O q => ⟨Γ, M, H, D, h, F, O, q⟩
abbrev XE (X : Cx) (e : Expr) (de : DE) : Prop := PE X e (LE de)
abbrev XB (X : Cx) (e : Expr) (de : DB) : Prop := PT X e (LB de)
abbrev XW (X : Cx) (e : Expr) (de : DB) : Prop := PW X e (LB de)
abbrev XA (X : Cx) (es : List Expr) (de : DA) : Prop := PA X es (LA de)
abbrev XS (X : Cx) (st : Stmt) (ds : DS) : Prop := PS X st (LS ds)
abbrev XSs (X : Cx) (st : List Stmt) (ds : DS) : Prop := PSs X st (LS ds)
section
variable {X : Cx}
theorem xe_of {e : Expr} {te : TE} {de : DE} (h : PE X e te) (s : SimE te de) : XE X e de :=
  ⟨fun pins st σ Hc Q I ⟨Γ, M, H, k, hd, F, O, q⟩ => h.run pins st σ Hc Q I (s Γ M k σ H Hc Q hd F O q)⟩
theorem xb_of {e : Expr} {te : TT} {de : DB} (h : PT X e te) (s : SimB te de) : XB X e de :=
  ⟨fun pins st σ Hc Q I ⟨Γ, M, H, k, hd, F, O, q⟩ => h.run pins st σ Hc Q I (s Γ M k σ H Hc Q hd F O q)⟩
theorem xw_of {e : Expr} {te : TT} {de : DB} (h : PW X e te) (s : SimB te de) : XW X e de :=
  ⟨fun wh pins st σ Hc Q I ⟨Γ, M, H, k, hd, F, O, q⟩ => h.run wh pins st σ Hc Q I (s Γ M k σ H Hc Q hd F O q)⟩
theorem xa_of {e : List Expr} {te : TA} {de : DA} (h : PA X e te) (s : SimA te de) : XA X e de :=
  ⟨fun pos pins st σ Hc Q I ⟨Γ, M, H, k, hd, F, O, q⟩ => h.run pos pins st σ Hc Q I (s Γ M k σ H Hc Q hd F O q)⟩
theorem xs_of {st : Stmt} {ts : TS} {ds : DS} (h : PS X st ts) (s : SimS ts ds) : XS X st ds :=
  ⟨fun pins sh σ Hc E I ⟨Γ, M, H, D, hd, F, O, q⟩ => h.run pins sh σ Hc E I (s Γ M D σ H Hc E hd F O q)⟩
theorem xss_of {st : List Stmt} {ts : TS} {ds : DS} (h : PSs X st ts) (s : SimS ts ds) : XSs X st ds :=
  ⟨fun pins sh σ Hc E I ⟨Γ, M, H, D, hd, F, O, q⟩ => h.run pins sh σ Hc E I (s Γ M D σ H Hc E hd F O q)⟩
end
theorem dp_int_inv {H : Hp} {v : V} {i : Int} (h : Dq H v (.int i)) : v = .int i := by cases h; rfl
theorem dp_bl_inv {H : Hp} {v : V} {i : Bool} (h : Dq H v (.bool i)) : v = .bl i := by cases h; rfl
theorem dp_str_inv {H : Hp} {v : V} {i : Str} (h : Dq H v (.str i)) : v = .str i := by cases h; rfl
theorem dp_non_inv {H : Hp} {v : V} (h : Dq H v .none) : v = .non := by cases h; rfl
theorem dp_lst_inv {H : Hp} {v : V} {ds : List Dt} (h : Dq H v (.list ds)) : ∃ a vs, v = .ref a ∧ H a = some (.lst vs) ∧ DqAll H vs ds := by cases h with | lst h1 h2 => exact ⟨_, _, rfl, h1, h2⟩
theorem dp_tup_inv {H : Hp} {v : V} {ds : List Dt} (h : Dq H v (.tuple ds)) : ∃ a vs, v = .ref a ∧ H a = some (.tup vs) ∧ DqAll H vs ds := by cases h with | tup h1 h2 => exact ⟨_, _, rfl, h1, h2⟩
end DL
namespace DL
open PySem PySem.Spec PyProof.Rows L2
open Evl (Ex)
/-- s is a list of these (a datum, or ours) -/
def IsL (M : Mem) (s : Sl) (xs : List Sl) : Prop := (∃ ds, s = .dat (.list ds) ∧ xs = ds.map .dat) ∨ ∃ a, s = .own a ∧ M a = some (.lst xs)
theorem IsL.dat {M : Mem} {ds : List Dt} : IsL M (.dat (.list ds)) (ds.map .dat) := .inl ⟨ds, rfl, rfl⟩
theorem IsL.own {M : Mem} {a : Addr} {xs : List Sl} (h : M a = some (.lst xs)) : IsL M (.own a) xs := .inr ⟨a, rfl, h⟩
theorem dqs_rps {H : Hp} : ∀ {ds : List Dt} {vs : List V}, DqAll H vs ds → Rps H (ds.map .dat) vs := dat_rps
theorem IsL.at_ {H Hc : Hp} {M : Mem} {s : Sl} {xs : List Sl} {x : V} (h : IsL M s xs) (O : Own H Hc M) (r : Rp H s x) : ∃ a vs, x = .ref a ∧ Hc a = some (.lst vs) ∧ Rps H xs vs := by
  rcases h with ⟨ds, rfl, rfl⟩ | ⟨a, rfl, h⟩
  · obtain ⟨a, vs, rfl, h1, h2⟩ := dq_lst r
    exact ⟨a, vs, rfl, O.ex _ _ h1, dat_rps h2⟩
  · cases r
    obtain ⟨_, vs, h1, h2⟩ := O.ob a _ h
    exact ⟨a, vs, rfl, h1, h2⟩
where dq_lst {H : Hp} {x : V} {ds : List Dt} (h : Rp H (.dat (.list ds)) x) : ∃ a vs, x = .ref a ∧ H a = some (.lst vs) ∧ DqAll H vs ds := dp_lst_inv h
theorem rps_len {H : Hp} : ∀ {ss : List Sl} {vs : List V}, Rps H ss vs → vs.length = ss.length
  | _, _, .nil => rfl
  | _, _, .cons _ t => congrArg (· + 1) (rps_len t)
theorem rps_get {H : Hp} : ∀ {ss : List Sl} {vs : List V} {i : Nat} {v : V}, Rps H ss vs → vs[i]? = some v → ∃ s, ss[i]? = some s ∧ Rp H s v
  | _, _, _, _, .nil, e => by simp at e
  | _, _, 0, _, .cons r _, e => by simp at e; subst e; exact ⟨_, rfl, r⟩
  | _, _, i + 1, x, .cons _ t, e => by
    obtain ⟨u, h1, h2⟩ := rps_get (i := i) (v := x) t (by simpa using e)
    exact ⟨u, by simpa using h1, h2⟩
theorem rps_get' {H : Hp} : ∀ {ss : List Sl} {vs : List V} {i : Nat} {s : Sl}, Rps H ss vs → ss[i]? = some s → ∃ v, vs[i]? = some v ∧ Rp H s v
  | _, _, _, _, .nil, e => by simp at e
  | _, _, 0, _, .cons r _, e => by simp at e; subst e; exact ⟨_, rfl, r⟩
  | _, _, i + 1, x, .cons _ t, e => by
    obtain ⟨u, h1, h2⟩ := rps_get' (i := i) (s := x) t (by simpa using e)
    exact ⟨u, by simpa using h1, h2⟩
theorem rps_app {H : Hp} : ∀ {ss ts : List Sl} {vs ws : List V}, Rps H ss vs → Rps H ts ws → Rps H (ss ++ ts) (vs ++ ws)
  | _, _, _, _, .nil, h => h
  | _, _, _, _, .cons r t, h => .cons r (rps_app t h)
theorem rps_take {H : Hp} : ∀ {ss : List Sl} {vs : List V} (n : Nat), Rps H ss vs → Rps H (ss.take n) (vs.take n)
  | _, _, 0, _ => .nil
  | _, _, _ + 1, .nil => .nil
  | _, _, n + 1, .cons r t => .cons r (rps_take n t)
theorem rps_drop {H : Hp} : ∀ {ss : List Sl} {vs : List V} (n : Nat), Rps H ss vs → Rps H (ss.drop n) (vs.drop n)
  | _, _, 0, h => h
  | _, _, _ + 1, .nil => .nil
  | _, _, n + 1, .cons _ t => rps_drop n t
theorem rps_set {H : Hp} {s : Sl} {v : V} (q : Rp H s v) : ∀ {ss : List Sl} {vs : List V} (n : Nat), Rps H ss vs → Rps H (ss.set n s) (vs.set n v)
  | _, _, _, .nil => .nil
  | _, _, 0, .cons r t => .cons q t
  | _, _, n + 1, .cons r t => .cons r (rps_set q n t)
theorem dqs_rev {H : Hp} : ∀ {ds : List Dt} {vs : List V}, DqAll H vs ds → ∀ {es : List Dt} {ws : List V}, DqAll H ws es → DqAll H (vs.reverseAux ws) (ds.reverseAux es)
  | [], _, .nil, _, _, q => q
  | d :: ds, _, .cons r t, _, _, q => dqs_rev t (.cons r q)
def cut {α : Type} (xs : List α) (lo hi : Option Int) : List α := (xs.drop (HT.sIx xs.length 0 lo)).take (HT.sIx xs.length xs.length hi - HT.sIx xs.length 0 lo)
theorem rps_cut {H : Hp} {ss : List Sl} {vs : List V} (lo hi : Option Int) (h : Rps H ss vs) : Rps H (cut ss lo hi) (cutV vs lo hi) := by
  unfold cut cutV
  rw [rps_len h]
  exact rps_take _ (rps_drop _ h)
theorem dqs_cut {H : Hp} {ds : List Dt} {vs : List V} (lo hi : Option Int) (h : DqAll H vs ds) : DqAll H (cutV vs lo hi) (cut ds lo hi) := by
  have h2 := rps_cut lo hi (dat_rps h)
  have e : cut (ds.map Sl.dat) lo hi = (cut ds lo hi).map Sl.dat := by
    unfold cut
    rw [List.length_map, List.map_take, List.map_drop]
  rw [e] at h2
  exact rps_dat h2
theorem dqs_app {H : Hp} {ds es : List Dt} {vs ws : List V} (h : DqAll H vs ds) (h' : DqAll H ws es) : DqAll H (vs ++ ws) (ds ++ es) := by
  have h2 := rps_app (dat_rps h) (dat_rps h')
  rw [← List.map_append] at h2
  exact rps_dat h2
theorem atI_rp {H : Hp} {ss : List Sl} {vs : List V} {i : Int} {s : Sl} (h : Rps H ss vs) (e : atI ss i = some s) : ∃ v, atI vs i = some v ∧ Rp H s v := by
  unfold atI at e ⊢
  rw [rps_len h]
  cases q : ixN ss.length i with
  | none => rw [q] at e; cases e
  | some j =>
    rw [q] at e
    obtain ⟨v, h1, h2⟩ := rps_get' h e
    exact ⟨v, h1, h2⟩
theorem atI_dq {H : Hp} {ds : List Dt} {vs : List V} {i : Int} {d : Dt} (h : DqAll H vs ds) (e : atI ds i = some d) : ∃ v, atI vs i = some v ∧ Dq H v d := by
  have e2 : atI (ds.map Sl.dat) i = some (.dat d) := by
    unfold atI at e ⊢
    rw [List.length_map]
    cases q : ixN ds.length i with
    | none => rw [q] at e; cases e
    | some j =>
      rw [q] at e
      have e' : ds[j]? = some d := e
      show (ds.map Sl.dat)[j]? = _
      rw [List.getElem?_map, e'] <;> rfl
  obtain ⟨v, h1, h2⟩ := atI_rp (dat_rps h) e2
  exact ⟨v, h1, h2⟩
def datOf : Sl → Option Dt
  | .dat d => some d
  | _ => none
def datsOf : List Sl → Option (List Dt)
  | [] => some []
  | s :: ss => match datOf s, datsOf ss with
    | some d, some ds => some (d :: ds)
    | _, _ => none
theorem datsOf_eq : ∀ {ss : List Sl} {ds : List Dt}, datsOf ss = some ds → ss = ds.map .dat
  | [], ds, h => by cases h; rfl
  | s :: ss, ds, h => by
    unfold datsOf at h
    cases e1 : datOf s with
    | none => rw [e1] at h; cases h
    | some d =>
      cases e2 : datsOf ss with
      | none => rw [e1, e2] at h; cases h
      | some es =>
        rw [e1, e2] at h
        cases h
        rw [datsOf_eq e2]
        cases s with
        | dat d' => cases e1; rfl
        | own a => cases e1
        | raw v => cases e1
        | fix _ => cases e1
section
variable {X : Cx} {e a b c : Expr} {de da db dc : DE} {pos : Pos} {es : List Expr} {das : DA}
/-! ### names and constants -/
def dV (i : Nat) : DE := fun Γ M k => ∃ s, Γ[i]? = some (some s) ∧ k s M
def dC (d : Dt) : DE := fun _ M k => k (.dat d) M
def dR (v : V) : DE := fun _ M k => k (.raw v) M
theorem slot_lt {σ : L2.St} {pins : List (Addr × Obj)} {H : Hp} {s : Shared} {i : Nat} {x : Str} (I : Inv X pins σ H s) (hN : X.N[i]? = some x) : i < σ.length := by
  rw [I.len]
  exact (List.getElem?_eq_some_iff.mp hN).1
theorem xe_var {i : Nat} {x : Str} {pos : Pos} (hN : X.N[i]? = some x) (h : PE X (.Name x pos) (tVar i)) : XE X (.Name x pos) (dV i) :=
  ⟨fun pins st σ Hc Q I ⟨Γ, M, H, k, ⟨s, h1, h2⟩, F, O, q⟩ => by
    obtain ⟨v, h3, h4⟩ := F.sl i s (slot_lt I hN) h1
    exact h.run pins st σ Hc Q I ⟨v, h3, q v s M H Hc (Evl.Ex.refl H) O h4 h2⟩⟩
theorem xv (i : Nat) {x : Str} {pos : Pos} (hN : X.N[i]? = some x := by rfl) (hv : Vis X.env.scope x := by first | exact Or.inl rfl | exact Or.inr (Or.inl rfl) | exact Or.inr (Or.inr rfl)) (hd : (x == ("__debug__" : Str)) = false := by decide)
    (hcd : (x == ("__classdict__" : Str)) = false := by decide) : XE X (.Name x pos) (dV i) := xe_var hN (pv i hN hv hd hcd)
theorem sim_c {v : V} {d : Dt} (h : ∀ H, Dq H v d) : SimE (tC v) (dC d) := fun Γ M k σ H Hc Q hk F O q => q v (.dat d) M H Hc (Evl.Ex.refl H) O (h H) hk
theorem xe_int {i : Int} {j pos} : XE X (.Constant (.int i) j pos) (dC (.int i)) := xe_of pe_int (sim_c fun _ => .int i)
theorem xe_bl {b : Bool} {j pos} : XE X (.Constant (.bool b) j pos) (dC (.bool b)) := xe_of pe_bl (sim_c fun _ => .bl b)
theorem xe_non {j pos} : XE X (.Constant .none j pos) (dC .none) := xe_of pe_non (sim_c fun _ => .non)
theorem xe_str {x : Str} {j pos} : XE X (.Constant (.str x) j pos) (dC (.str x)) := xe_of pe_str (sim_c fun _ => .str x)
theorem xe_globI {x : Str} {pos : Pos} {i : Int} {t : Tok} (hm : X.mg x = some (.int i t)) (hg : Gl X x := by rfl) (hdb : (x == ("__debug__" : Str)) = false := by decide) : XE X (.Name x pos) (dC (.int i)) :=
  xe_of (pe_glob (v := .int i) hg hm ⟨t, rfl⟩ hdb) (sim_c fun _ => .int i)
theorem xe_raw {v : V} (h : PE X e (tC v)) : XE X e (dR v) := xe_of h fun Γ M k σ H Hc Q hk F O q => q v (.raw v) M H Hc (Evl.Ex.refl H) O rfl hk
/-! ### two-place operations by values -/
abbrev D2 := Sl → Sl → Mem → DK → Prop
def Sim2 (r : R2) (f : D2) : Prop := ∀ s t M k x y H Hc Q, f s t M k → Rp H s x → Rp H t y → Own H Hc M → On H k Q → r x y Hc Q
def dOp (f : D2) (da db : DE) : DE := fun Γ M k => da Γ M fun s M1 => db Γ M1 fun t M2 => f s t M2 k
theorem sim_op {r : R2} {f : D2} {ta tb : TE} (hr : Sim2 r f) (ha : SimE ta da) (hb : SimE tb db) : SimE (tOp r ta tb) (dOp f da db) := by
  intro Γ M k σ H Hc Q h F O q
  refine ha Γ M _ σ H Hc _ h F O fun x s M1 H1 Hc1 e1 O1 r1 h1 => ?_
  refine hb Γ M1 _ σ H1 Hc1 _ h1 (F.ex e1) O1 fun y t M2 H2 Hc2 e2 O2 r2 h2 => ?_
  exact hr s t M2 k x y H2 Hc2 Q h2 (rp_ex e2 r1) r2 O2 (q.ex (e1.trans e2))
theorem xe_op {op : Operator} {r : R2} {f : D2} (ho : OpR X (binaryOp op) r) (hr : Sim2 r f) (ha : XE X a da) (hb : XE X b db) : XE X (.BinOp a op b pos) (dOp f da db) :=
  xe_of (pe_op ho ha hb) (sim_op hr simLE simLE)
theorem xe_cmp {op : CmpOp} {r : R2} {f : D2} (ho : OpR X (compareOp op) r) (hm : behindInMarks op b = false) (hr : Sim2 r f) (ha : XE X a da) (hb : XE X b db) : XE X (.Compare a [op] [b] pos) (dOp f da db) :=
  xe_of (pe_cmpR ho ha hb hm) (sim_op hr simLE simLE)
theorem OpR.or {f : Value → Value → Sem Value} {r r' : R2} (h : OpR X f r) (h' : OpR X f r') : OpR X f (fun x y H Q => r x y H Q ∨ r' x y H Q) := by
  intro pins s σ H x y v u Q I rx ry q
  rcases q with q | q
  · exact h pins s σ H x y v u Q I rx ry q
  · exact h' pins s σ H x y v u Q I rx ry q
/-- a datum found -/
theorem On.dat {H Hc : Hp} {M : Mem} {k : DK} {Q : VK} {v : V} {d : Dt} (q : On H k Q) (O : Own H Hc M) (r : Dq H v d) (h : k (.dat d) M) : Q v Hc := q v (.dat d) M H Hc (Evl.Ex.refl H) O r h
/-- a new tuple -/
theorem On.tup {H Hc : Hp} {M : Mem} {k : DK} {Q : VK} {vs : List V} {ds : List Dt} {p : Addr} (q : On H k Q) (O : Own H Hc M) (r : DqAll H vs ds) (hp : Hc p = none) (h : k (.dat (.tuple ds)) M) : Q (.ref p) (upd Hc p (.tup vs)) := by
  obtain ⟨O', e⟩ := O.grow (o := .tup vs) hp
  exact q _ (.dat (.tuple ds)) _ _ _ e O' (Dq.tup upd_same (dps_ex e r)) h
/-- a new list that stands still -/
theorem On.lst {H Hc : Hp} {M : Mem} {k : DK} {Q : VK} {vs : List V} {ds : List Dt} {p : Addr} (q : On H k Q) (O : Own H Hc M) (r : DqAll H vs ds) (hp : Hc p = none) (h : k (.dat (.list ds)) M) : Q (.ref p) (upd Hc p (.lst vs)) := by
  obtain ⟨O', e⟩ := O.grow (o := .lst vs) hp
  exact q _ (.dat (.list ds)) _ _ _ e O' (Dq.lst upd_same (dps_ex e r)) h
/-- a new list of ours -/
theorem On.own {H Hc : Hp} {M : Mem} {k : DK} {Q : VK} {vs : List V} {ss : List Sl} {p : Addr} (q : On H k Q) (O : Own H Hc M) (r : Rps H ss vs) (hz : ss.length ≤ sizeLine) (hp : Hc p = none) (h : k (.own p) (put M p (.lst ss))) : Q (.ref p) (upd Hc p (.lst vs)) :=
  q _ (.own p) _ H _ (Evl.Ex.refl H) (O.born (u := .lst ss) hp ⟨hz, vs, rfl, r⟩) rfl h
/-- ints by a function -/
def fI (C : Int → Int → Prop) (g : Int → Int → Dt) : D2 := fun s t M k => match s, t with
  | .dat (.int i), .dat (.int j) => C i j ∧ k (.dat (g i j)) M
  | _, _ => False
def fI0 (g : Int → Int → Dt) : D2 := fun s t M k => match s, t with
  | .dat (.int i), .dat (.int j) => k (.dat (g i j)) M
  | _, _ => False
theorem sim_I {C : Int → Int → Prop} {g : Int → Int → V} {g' : Int → Int → Dt} (hg : ∀ i j H, Dq H (g i j) (g' i j)) : Sim2 (rI C g) (fI C g') := by
  intro s t M k x y H Hc Q h rx ry O q
  unfold fI at h
  split at h
  · exact ⟨_, _, dp_int_inv rx, dp_int_inv ry, h.1, q.dat O (hg _ _ H) h.2⟩
  · exact h.elim
theorem sim_I0 {g : Int → Int → V} {g' : Int → Int → Dt} (hg : ∀ i j H, Dq H (g i j) (g' i j)) : Sim2 (rI0 g) (fI0 g') := by
  intro s t M k x y H Hc Q h rx ry O q
  unfold fI0 at h
  split at h
  · exact ⟨_, _, dp_int_inv rx, dp_int_inv ry, q.dat O (hg _ _ H) h⟩
  · exact h.elim
theorem xe_sub (ha : XE X a da) (hb : XE X b db) : XE X (.BinOp a .Sub b pos) (dOp (fI0 fun i j => .int (i - j)) da db) := xe_op op_sub (sim_I0 fun _ _ _ => .int _) ha hb
theorem xe_mul (ha : XE X a da) (hb : XE X b db) : XE X (.BinOp a .Mult b pos) (dOp (fI CMul fun i j => .int (i * j)) da db) := xe_op op_mul (sim_I fun _ _ _ => .int _) ha hb
theorem xe_mulW (ha : XE X a da) (hb : XE X b db) : XE X (.BinOp a .Mult b pos) (dOp (fI CMulW fun i j => .int (i * j)) da db) := xe_op op_mulW (sim_I fun _ _ _ => .int _) ha hb
theorem xe_mod (ha : XE X a da) (hb : XE X b db) : XE X (.BinOp a .Mod b pos) (dOp (fI (fun _ j => 0 < j) fun i j => .int (i % j)) da db) := xe_op op_mod (sim_I fun _ _ _ => .int _) ha hb
theorem xe_fdiv (ha : XE X a da) (hb : XE X b db) : XE X (.BinOp a .FloorDiv b pos) (dOp (fI CDivW fun i j => .int (i / j)) da db) := xe_op op_fdivW (sim_I fun _ _ _ => .int _) ha hb
theorem xe_pow (ha : XE X a da) (hb : XE X b db) : XE X (.BinOp a .Pow b pos) (dOp (fI CPow fun i j => .int (i ^ j.toNat)) da db) := xe_op op_pow (sim_I fun _ _ _ => .int _) ha hb
theorem xe_le (ha : XE X a da) (hb : XE X b db) : XE X (.Compare a [.LtE] [b] pos) (dOp (fI0 fun i j => .bool (decide (i ≤ j))) da db) := xe_cmp op_le (nomark _) (sim_I0 fun _ _ _ => .bl _) ha hb
theorem xe_gt (ha : XE X a da) (hb : XE X b db) : XE X (.Compare a [.Gt] [b] pos) (dOp (fI0 fun i j => .bool (decide (j < i))) da db) := xe_cmp op_gt (nomark _) (sim_I0 fun _ _ _ => .bl _) ha hb
theorem xe_ge (ha : XE X a da) (hb : XE X b db) : XE X (.Compare a [.GtE] [b] pos) (dOp (fI0 fun i j => .bool (decide (j ≤ i))) da db) := xe_cmp op_ge (nomark _) (sim_I0 fun _ _ _ => .bl _) ha hb
theorem xe_ltI (ha : XE X a da) (hb : XE X b db) : XE X (.Compare a [.Lt] [b] pos) (dOp (fI0 fun i j => .bool (decide (i < j))) da db) := xe_cmp op_lt (nomark _) (sim_I0 fun _ _ _ => .bl _) ha hb
/-! ### a + b -/
/-- new lists are ours -/
def fAdd : D2 := fun s t M k => match s, t with
  | .dat (.int i), .dat (.int j) => k (.dat (.int (i + j))) M
  | .dat (.str i), .dat (.str j) => i.length + j.length ≤ 16777216 ∧ k (.dat (.str (i ++ j))) M
  | .dat (.tuple i), .dat (.tuple j) => i.length + j.length ≤ 16777216 ∧ k (.dat (.tuple (i ++ j))) M
  | s, t => ∃ xs ys, IsL M s xs ∧ IsL M t ys ∧ xs.length + ys.length ≤ 16777216 ∧ ∀ p, M p = none → k (.own p) (put M p (.lst (xs ++ ys)))
/-- new lists stand still -/
def fAddD : D2 := fun s t M k => match s, t with
  | .dat (.int i), .dat (.int j) => k (.dat (.int (i + j))) M
  | .dat (.str i), .dat (.str j) => i.length + j.length ≤ 16777216 ∧ k (.dat (.str (i ++ j))) M
  | .dat (.tuple i), .dat (.tuple j) => i.length + j.length ≤ 16777216 ∧ k (.dat (.tuple (i ++ j))) M
  | s, t => ∃ xs ys, IsL M s (xs.map .dat) ∧ IsL M t (ys.map .dat) ∧ xs.length + ys.length ≤ 16777216 ∧ k (.dat (.list (xs ++ ys))) M
abbrev rStrAdd : R2 := fun x y H Q => ∃ i j, x = .str i ∧ y = .str j ∧ i.length + j.length ≤ sizeLine ∧ Q (.str (i ++ j)) H
theorem op_addAll : OpR X (binaryOp .Add) (fun x y H Q => (rI0 fun i j => .int (i + j)) x y H Q ∨ rStrAdd x y H Q ∨ rCatA X.K x y H Q ∨ rCat x y H Q) := OpR.or op_add (OpR.or op_add_str (OpR.or op_catA op_cat))
theorem cat_tup {K : PySem.W.Frag} {H Hc : Hp} {M : Mem} {k : DK} {Q : VK} {i j : List Dt} {x y : V} (rx : Rp H (.dat (.tuple i)) x) (ry : Rp H (.dat (.tuple j)) y) (O : Own H Hc M) (q : On H k Q) (hz : i.length + j.length ≤ sizeLine) (h : k (.dat (.tuple (i ++ j))) M) : rCatA K x y Hc Q := by
  obtain ⟨a, vs, rfl, h1, h2⟩ := dp_tup_inv rx
  obtain ⟨b, ws, rfl, h3, h4⟩ := dp_tup_inv ry
  refine ⟨a, b, vs, ws, rfl, rfl, SqT.of (O.ex _ _ h1), SqT.of (O.ex _ _ h3), by rw [dps_len h2, dps_len h4]; exact hz, fun e => ?_, fun _ e => ?_, fun _ _ p hp => ?_⟩
  · subst e
    cases h2
    exact q.dat O ry h
  · subst e
    cases h4
    rw [List.append_nil] at h
    exact q.dat O rx h
  · exact q.tup O (dqs_app h2 h4) hp h
theorem sim_add {K : PySem.W.Frag} : Sim2 (fun x y H Q => (rI0 fun i j => .int (i + j)) x y H Q ∨ rStrAdd x y H Q ∨ rCatA K x y H Q ∨ rCat x y H Q) fAdd := by
  intro s t M k x y H Hc Q h rx ry O q
  have lists : (∃ xs ys, IsL M s xs ∧ IsL M t ys ∧ xs.length + ys.length ≤ 16777216 ∧ ∀ p, M p = none → k (.own p) (put M p (.lst (xs ++ ys)))) → rCat x y Hc Q := by
    rintro ⟨xs, ys, l1, l2, hz, k1⟩
    obtain ⟨a, vs, rfl, h1, h2⟩ := l1.at_ O rx
    obtain ⟨b, ws, rfl, h3, h4⟩ := l2.at_ O ry
    exact ⟨a, b, vs, ws, rfl, rfl, h1, h3, by rw [rps_len h2, rps_len h4]; exact hz, fun p hp => q.own O (rps_app h2 h4) (by rw [List.length_append]; exact hz) hp (k1 p (O.freeM hp))⟩
  unfold fAdd at h
  split at h
  · exact .inl ⟨_, _, dp_int_inv rx, dp_int_inv ry, q.dat O (.int _) h⟩
  · exact .inr (.inl ⟨_, _, dp_str_inv rx, dp_str_inv ry, h.1, q.dat O (.str _) h.2⟩)
  · exact .inr (.inr (.inl (cat_tup rx ry O q h.1 h.2)))
  · exact .inr (.inr (.inr (lists h)))
theorem sim_addD {K : PySem.W.Frag} : Sim2 (fun x y H Q => (rI0 fun i j => .int (i + j)) x y H Q ∨ rStrAdd x y H Q ∨ rCatA K x y H Q ∨ rCat x y H Q) fAddD := by
  intro s t M k x y H Hc Q h rx ry O q
  have lists : (∃ xs ys, IsL M s (xs.map .dat) ∧ IsL M t (ys.map .dat) ∧ xs.length + ys.length ≤ 16777216 ∧ k (.dat (.list (xs ++ ys))) M) → rCat x y Hc Q := by
    rintro ⟨xs, ys, l1, l2, hz, k1⟩
    obtain ⟨a, vs, rfl, h1, h2⟩ := l1.at_ O rx
    obtain ⟨b, ws, rfl, h3, h4⟩ := l2.at_ O ry
    exact ⟨a, b, vs, ws, rfl, rfl, h1, h3, by rw [rps_len h2, rps_len h4, List.length_map, List.length_map]; exact hz, fun p hp => q.lst O (dqs_app (rps_dat h2) (rps_dat h4)) hp k1⟩
  unfold fAddD at h
  split at h
  · exact .inl ⟨_, _, dp_int_inv rx, dp_int_inv ry, q.dat O (.int _) h⟩
  · exact .inr (.inl ⟨_, _, dp_str_inv rx, dp_str_inv ry, h.1, q.dat O (.str _) h.2⟩)
  · exact .inr (.inr (.inl (cat_tup rx ry O q h.1 h.2)))
  · exact .inr (.inr (.inr (lists h)))
theorem xe_add (ha : XE X a da) (hb : XE X b db) : XE X (.BinOp a .Add b pos) (dOp fAdd da db) := xe_op op_addAll sim_add ha hb
theorem xe_addD (ha : XE X a da) (hb : XE X b db) : XE X (.BinOp a .Add b pos) (dOp fAddD da db) := xe_op op_addAll sim_addD ha hb
/-! ### a == b -/
/-- as a datum -/
def IsD (M : Mem) (s : Sl) (d : Dt) : Prop := s = .dat d ∨ ∃ a ds, s = .own a ∧ M a = some (.lst (ds.map .dat)) ∧ d = .list ds
theorem IsD.at_ {K : PySem.W.Frag} {H Hc : Hp} {M : Mem} {s : Sl} {d : Dt} {x : V} (h : IsD M s d) (O : Own H Hc M) (r : Rp H s x) : Dp K Hc x d := by
  rcases h with rfl | ⟨a, ds, rfl, h, rfl⟩
  · exact dq_dp (dp_ex O.ex r)
  · cases r
    obtain ⟨_, vs, h1, h2⟩ := O.ob a _ h
    exact .lst (SqL.of h1) (dqs_dps (dps_ex O.ex (rps_dat h2)))
def fEq (neg : Bool) : D2 := fun s t M k => match s, t with
  | .dat (.int i), .dat (.int j) => k (.dat (.bool (if neg = true then !decide (i = j) else decide (i = j)))) M
  | .dat (.str i), .dat (.str j) => k (.dat (.bool (if neg = true then !decide (i = j) else decide (i = j)))) M
  | s, t => ∃ d e, IsD M s d ∧ IsD M t e ∧ SeqAt.shaped d = true ∧ SeqAt.shaped e = true ∧ k (.dat (.bool (if neg = true then !PyData.eqv d e else PyData.eqv d e))) M
theorem op_eqAll (hu : X.A.units + 64 < cLine) : OpR X (compareOp .Eq) (fun x y H Q => rEq x y H Q ∨ rEqD X.K x y H Q) := OpR.or op_eq (op_eqD hu)
theorem op_neAll (hu : X.A.units + 64 < cLine) : OpR X (compareOp .NotEq) (fun x y H Q => rNe x y H Q ∨ rNeD X.K x y H Q) := OpR.or op_ne (op_neD hu)
theorem dec_V {i j : Int} : decide (V.int i = V.int j) = decide (i = j) := by
  by_cases h : i = j
  · rw [decide_eq_true h, decide_eq_true (by rw [h])]
  · rw [decide_eq_false h, decide_eq_false (fun q => h (V.int.inj q))]
theorem dec_VS {i j : Str} : decide (V.str i = V.str j) = decide (i = j) := by
  by_cases h : i = j
  · rw [decide_eq_true h, decide_eq_true (by rw [h])]
  · rw [decide_eq_false h, decide_eq_false (fun q => h (V.str.inj q))]
theorem sim_eq {K : PySem.W.Frag} : Sim2 (fun x y H Q => rEq x y H Q ∨ rEqD K x y H Q) (fEq false) := by
  intro s t M k x y H Hc Q h rx ry O q
  unfold fEq at h
  split at h
  · left
    rw [dp_int_inv rx, dp_int_inv ry]
    refine ⟨rfl, ?_⟩
    rw [dec_V]
    exact q.dat O (.bl _) h
  · left
    rw [dp_str_inv rx, dp_str_inv ry]
    refine ⟨rfl, ?_⟩
    rw [dec_VS]
    exact q.dat O (.bl _) h
  · right
    obtain ⟨d, e, h1, h2, s1, s2, h3⟩ := h
    exact ⟨d, e, h1.at_ O rx, h2.at_ O ry, s1, s2, q.dat O (.bl _) h3⟩
theorem sim_ne {K : PySem.W.Frag} : Sim2 (fun x y H Q => rNe x y H Q ∨ rNeD K x y H Q) (fEq true) := by
  intro s t M k x y H Hc Q h rx ry O q
  unfold fEq at h
  split at h
  · left
    rw [dp_int_inv rx, dp_int_inv ry]
    refine ⟨rfl, ?_⟩
    rw [dec_V]
    exact q.dat O (.bl _) h
  · left
    rw [dp_str_inv rx, dp_str_inv ry]
    refine ⟨rfl, ?_⟩
    rw [dec_VS]
    exact q.dat O (.bl _) h
  · right
    obtain ⟨d, e, h1, h2, s1, s2, h3⟩ := h
    exact ⟨d, e, h1.at_ O rx, h2.at_ O ry, s1, s2, q.dat O (.bl _) h3⟩
theorem xe_eq (hu : X.A.units + 64 < cLine) (ha : XE X a da) (hb : XE X b db) : XE X (.Compare a [.Eq] [b] pos) (dOp (fEq false) da db) := xe_cmp (op_eqAll hu) (nomark _) sim_eq ha hb
theorem xe_ne (hu : X.A.units + 64 < cLine) (ha : XE X a da) (hb : XE X b db) : XE X (.Compare a [.NotEq] [b] pos) (dOp (fEq true) da db) := xe_cmp (op_neAll hu) (nomark _) sim_ne ha hb
/-! ### and, or, not, if; tests -/
def dT (de : DE) : DB := fun Γ M k => de Γ M fun s M1 => match s with
  | .dat (.bool b) => k b M1
  | _ => False
theorem sim_t {te : TE} (h : SimE te de) : SimB (tB te) (dT de) := by
  intro Γ M k σ H Hc Q hd F O q
  refine h Γ M _ σ H Hc _ hd F O fun v s M1 H1 Hc1 e1 O1 r1 h1 => ?_
  split at h1
  · exact ⟨_, dp_bl_inv r1, q _ M1 H1 Hc1 e1 O1 h1⟩
  · exact h1.elim
theorem xb_val (h : XE X e de) (he : ∀ whole, isTrue e X.env whole = (do let v ← whole; standAt e.pos; holding [v] (truthy v)) := by intro _; rfl) : XB X e (dT de) := xb_of (pt_val h he) (sim_t simLE)
theorem sim_tt {te : TE} (h : SimE te de) : SimB (tTest te) (dT de) := by
  intro Γ M k σ H Hc Q hd F O q
  refine h Γ M _ σ H Hc _ hd F O fun v s M1 H1 Hc1 e1 O1 r1 h1 => ?_
  split at h1
  · exact ⟨_, dp_bl_inv r1, q _ M1 H1 Hc1 e1 O1 h1⟩
  · exact h1.elim
theorem xb_cmp {r : R2} {f : D2} (hr : Sim2 r f) (h : PT X e (tTest (tOp r (LE da) (LE db)))) : XB X e (dT (dOp f da db)) := xb_of h (sim_tt (sim_op hr simLE simLE))
def dAnd (t u : DB) : DB := fun Γ M k => t Γ M fun b M1 => (b = true → u Γ M1 k) ∧ (b = false → k false M1)
def dOr (t u : DB) : DB := fun Γ M k => t Γ M fun b M1 => (b = true → k true M1) ∧ (b = false → u Γ M1 k)
def dNot (t : DB) : DB := fun Γ M k => t Γ M fun b M1 => k (!b) M1
theorem sim_and {ta tb : TT} {ba bb : DB} (ha : SimB ta ba) (hb : SimB tb bb) : SimB (tAnd ta tb) (dAnd ba bb) := by
  intro Γ M k σ H Hc Q hd F O q
  refine ha Γ M _ σ H Hc _ hd F O fun v M1 H1 Hc1 e1 O1 h1 => ?_
  cases v with
  | true => rw [if_pos rfl]; exact hb Γ M1 k σ H1 Hc1 Q (h1.1 rfl) (F.ex e1) O1 (q.ex e1)
  | false => rw [if_neg Bool.false_ne_true]; exact q _ _ _ _ e1 O1 (h1.2 rfl)
theorem sim_or {ta tb : TT} {ba bb : DB} (ha : SimB ta ba) (hb : SimB tb bb) : SimB (tOr ta tb) (dOr ba bb) := by
  intro Γ M k σ H Hc Q hd F O q
  refine ha Γ M _ σ H Hc _ hd F O fun v M1 H1 Hc1 e1 O1 h1 => ?_
  cases v with
  | true => rw [if_pos rfl]; exact q _ _ _ _ e1 O1 (h1.1 rfl)
  | false => rw [if_neg Bool.false_ne_true]; exact hb Γ M1 k σ H1 Hc1 Q (h1.2 rfl) (F.ex e1) O1 (q.ex e1)
theorem sim_not {ta : TT} {ba : DB} (ha : SimB ta ba) : SimB (tNot ta) (dNot ba) := by
  intro Γ M k σ H Hc Q hd F O q
  exact ha Γ M _ σ H Hc _ hd F O fun v M1 H1 Hc1 e1 O1 h1 => q _ _ _ _ e1 O1 h1
section
variable {ba bb : DB} {rest : List Expr}
theorem xw_one {op} (h : XB X a ba) (h2 : PT X a (LB ba) → PW X (.BoolOp op [a] pos) (LB ba)) : XW X (.BoolOp op [a] pos) ba := h2 h
theorem xw_and1 (h : XB X a ba) : XW X (.BoolOp .And [a] pos) ba := pw_and1 h
theorem xw_or1 (h : XB X a ba) : XW X (.BoolOp .Or [a] pos) ba := pw_or1 h
theorem xw_and (ha : XB X a ba) (hb : XW X (.BoolOp .And (b :: rest) pos) bb) : XW X (.BoolOp .And (a :: b :: rest) pos) (dAnd ba bb) := xw_of (pw_and ha hb) (sim_and simLB simLB)
theorem xw_or (ha : XB X a ba) (hb : XW X (.BoolOp .Or (b :: rest) pos) bb) : XW X (.BoolOp .Or (a :: b :: rest) pos) (dOr ba bb) := xw_of (pw_or ha hb) (sim_or simLB simLB)
theorem xb_w (h : XW X e ba) : XB X e ba := h.pt
theorem xb_not (h : XB X a ba) : XB X (.UnaryOp .Not a pos) (dNot ba) := xb_of (pt_not h) (sim_not simLB)
end
/-- as values -/
def dAndV (da db : DE) : DE := fun Γ M k => dT da Γ M fun b M1 => (b = true → db Γ M1 k) ∧ (b = false → k (.dat (.bool false)) M1)
def dOrV (da db : DE) : DE := fun Γ M k => dT da Γ M fun b M1 => (b = true → k (.dat (.bool true)) M1) ∧ (b = false → db Γ M1 k)
def dNotV (da : DE) : DE := fun Γ M k => dT da Γ M fun b M1 => k (.dat (.bool (!b))) M1
theorem sim_andV {ta tb : TE} (ha : SimE ta da) (hb : SimE tb db) : SimE (tAndV ta tb) (dAndV da db) := by
  intro Γ M k σ H Hc Q hd F O q
  refine ha Γ M _ σ H Hc _ hd F O fun v s M1 H1 Hc1 e1 O1 r1 h1 => ?_
  split at h1
  · rename_i b
    refine ⟨b, dp_bl_inv r1, ?_⟩
    cases b with
    | true => rw [if_pos rfl]; exact hb Γ M1 k σ H1 Hc1 Q (h1.1 rfl) (F.ex e1) O1 (q.ex e1)
    | false => rw [if_neg Bool.false_ne_true]; exact q _ (.dat (.bool false)) _ _ _ e1 O1 (Dq.bl _) (h1.2 rfl)
  · exact h1.elim
theorem sim_orV {ta tb : TE} (ha : SimE ta da) (hb : SimE tb db) : SimE (tOrV ta tb) (dOrV da db) := by
  intro Γ M k σ H Hc Q hd F O q
  refine ha Γ M _ σ H Hc _ hd F O fun v s M1 H1 Hc1 e1 O1 r1 h1 => ?_
  split at h1
  · rename_i b
    refine ⟨b, dp_bl_inv r1, ?_⟩
    cases b with
    | true => rw [if_pos rfl]; exact q _ (.dat (.bool true)) _ _ _ e1 O1 (Dq.bl _) (h1.1 rfl)
    | false => rw [if_neg Bool.false_ne_true]; exact hb Γ M1 k σ H1 Hc1 Q (h1.2 rfl) (F.ex e1) O1 (q.ex e1)
  · exact h1.elim
theorem sim_notV {ta : TE} (ha : SimE ta da) : SimE (tNotV ta) (dNotV da) := by
  intro Γ M k σ H Hc Q hd F O q
  refine ha Γ M _ σ H Hc _ hd F O fun v s M1 H1 Hc1 e1 O1 r1 h1 => ?_
  split at h1
  · rename_i b
    exact ⟨b, dp_bl_inv r1, q _ (.dat (.bool (!b))) _ _ _ e1 O1 (Dq.bl _) h1⟩
  · exact h1.elim
theorem xe_one {op} (h : XE X a da) : XE X (.BoolOp op [a] pos) da := pe_one h
theorem xe_and {rest : List Expr} (ha : XE X a da) (hb : XE X (.BoolOp .And (b :: rest) pos) db) : XE X (.BoolOp .And (a :: b :: rest) pos) (dAndV da db) := xe_of (pe_and ha hb) (sim_andV simLE simLE)
theorem xe_or {rest : List Expr} (ha : XE X a da) (hb : XE X (.BoolOp .Or (b :: rest) pos) db) : XE X (.BoolOp .Or (a :: b :: rest) pos) (dOrV da db) := xe_of (pe_or ha hb) (sim_orV simLE simLE)
theorem xe_not (ha : XE X a da) : XE X (.UnaryOp .Not a pos) (dNotV da) := xe_of (pe_not ha) (sim_notV simLE)
def dIf (t : DB) (da db : DE) : DE := fun Γ M k => t Γ M fun b M1 => (b = true → da Γ M1 k) ∧ (b = false → db Γ M1 k)
theorem xe_if {ba : DB} (hc : XB X c ba) (ha : XE X a da) (hb : XE X b db) : XE X (.IfExp c a b pos) (dIf ba da db) := xe_of (pe_ifExp hc ha hb) (by
  intro Γ M k σ H Hc Q hd F O q
  refine simLB Γ M _ σ H Hc _ hd F O fun v M1 H1 Hc1 e1 O1 h1 => ?_
  cases v with
  | true => rw [if_pos rfl]; exact simLE Γ M1 k σ H1 Hc1 Q (h1.1 rfl) (F.ex e1) O1 (q.ex e1)
  | false => rw [if_neg Bool.false_ne_true]; exact simLE Γ M1 k σ H1 Hc1 Q (h1.2 rfl) (F.ex e1) O1 (q.ex e1))
/-- a < b < c -/
def dChain (f g : D2) (da db dc : DE) : DE := fun Γ M k => da Γ M fun s M1 => db Γ M1 fun t M2 => f s t M2 fun r M3 => match r with
  | .dat (.bool b) => (b = true → dc Γ M3 fun u M4 => g t u M4 k) ∧ (b = false → k (.dat (.bool false)) M3)
  | _ => False
theorem sim_chain {r r' : R2} {f g : D2} (hf : Sim2 r f) (hg : Sim2 r' g) : SimE (tChain r r' (LE da) (LE db) (LE dc)) (dChain f g da db dc) := by
  intro Γ M k σ H Hc Q hd F O q
  refine simLE Γ M _ σ H Hc _ hd F O fun x s M1 H1 Hc1 e1 O1 r1 h1 => ?_
  refine simLE Γ M1 _ σ H1 Hc1 _ h1 (F.ex e1) O1 fun y t M2 H2 Hc2 e2 O2 r2 h2 => ?_
  refine hf s t M2 _ x y H2 Hc2 _ h2 (rp_ex e2 r1) r2 O2 fun z u M3 H3 Hc3 e3 O3 r3 h3 => ?_
  split at h3
  · rename_i b
    refine ⟨b, dp_bl_inv r3, ?_⟩
    cases b with
    | true =>
      rw [if_pos rfl]
      refine simLE Γ M3 _ σ H3 Hc3 _ (h3.1 rfl) (F.ex (e1.trans (e2.trans e3))) O3 fun z' u' M4 H4 Hc4 e4 O4 r4 h4 => ?_
      exact hg t u' M4 k y z' H4 Hc4 Q h4 (rp_ex (e3.trans e4) r2) r4 O4 (q.ex (e1.trans (e2.trans (e3.trans e4))))
    | false =>
      rw [if_neg Bool.false_ne_true]
      exact q _ (.dat (.bool false)) _ _ _ (e1.trans (e2.trans e3)) O3 (Dq.bl _) (h3.2 rfl)
  · exact h3.elim
theorem xe_chainI {g g' : Int → Int → Bool} (h : PE X e (tChain (rI0 fun i j => .bl (g i j)) (rI0 fun i j => .bl (g' i j)) (LE da) (LE db) (LE dc))) : XE X e (dChain (fI0 fun i j => .bool (g i j)) (fI0 fun i j => .bool (g' i j)) da db dc) :=
  xe_of h (sim_chain (sim_I0 fun _ _ _ => .bl _) (sim_I0 fun _ _ _ => .bl _))
theorem xb_chainI {g g' : Int → Int → Bool} (h : PT X e (tTest (tChain (rI0 fun i j => .bl (g i j)) (rI0 fun i j => .bl (g' i j)) (LE da) (LE db) (LE dc)))) : XB X e (dT (dChain (fI0 fun i j => .bool (g i j)) (fI0 fun i j => .bool (g' i j)) da db dc)) :=
  xb_of h (sim_tt (sim_chain (sim_I0 fun _ _ _ => .bl _) (sim_I0 fun _ _ _ => .bl _)))
end
end DL
namespace DL
open PySem PySem.Spec PyProof.Rows L2
open Evl (Ex)
section
variable {X : Cx} {e a b c : Expr} {de da db dc : DE} {pos : Pos} {es : List Expr} {das : DA}
/-! ### subscripts -/
def fIx : D2 := fun s t M k => match s, t with
  | .dat (.tuple ds), .dat (.int i) => ∃ d, atI ds i = some d ∧ k (.dat d) M
  | .dat (.list ds), .dat (.int i) => ∃ d, atI ds i = some d ∧ k (.dat d) M
  | .dat (.str z), .dat (.int i) => z.length ≤ 16777216 ∧ ∃ c, atI z.cps.toList i = some c ∧ k (.dat (.str ⟨#[c]⟩)) M
  | .own a, .dat (.int i) => ∃ xs v, M a = some (.lst xs) ∧ atI xs i = some v ∧ k v M
  | _, _ => False
theorem sim_ix {K : PySem.W.Frag} : Sim2 (rIx K) fIx := by
  intro s t M k x y H Hc Q h rx ry O q
  unfold fIx at h
  split at h
  · obtain ⟨d, e1, h⟩ := h
    obtain ⟨p, vs, rfl, h1, h2⟩ := dp_tup_inv rx
    obtain ⟨v, e2, h3⟩ := atI_dq h2 e1
    exact .inr (.inl ⟨p, vs, _, v, rfl, dp_int_inv ry, SqT.of (O.ex _ _ h1), e2, q.dat O h3 h⟩)
  · obtain ⟨d, e1, h⟩ := h
    obtain ⟨p, vs, rfl, h1, h2⟩ := dp_lst_inv rx
    obtain ⟨v, e2, h3⟩ := atI_dq h2 e1
    exact .inl ⟨p, vs, _, v, rfl, dp_int_inv ry, SqL.of (O.ex _ _ h1), e2, q.dat O h3 h⟩
  · obtain ⟨hz, c, e1, h⟩ := h
    exact .inr (.inr ⟨_, _, c, dp_str_inv rx, dp_int_inv ry, by rw [sizeLine_eq]; exact hz, e1, q.dat O (.str _) h⟩)
  · obtain ⟨xs, v, e1, e2, h⟩ := h
    cases rx
    obtain ⟨_, vs, h1, h2⟩ := O.ob _ _ e1
    obtain ⟨w, e3, h3⟩ := atI_rp h2 e2
    exact .inl ⟨_, vs, _, w, rfl, dp_int_inv ry, SqL.of h1, e3, q w v M H Hc (Evl.Ex.refl H) O h3 h⟩
  · exact h.elim
theorem xe_ix (ha : XE X a da) (hb : XE X b db) (hs : PlainIx b := by exact fun _ _ => rfl) : XE X (.Subscript a b pos) (dOp fIx da db) := xe_of (pe_ix ix_seq ha hb hs) (sim_op sim_ix simLE simLE)
/-! ### slices -/
abbrev DO := Fm → Mem → (Option Int → Mem → Prop) → Prop
def SimO (t : TO) (d : DO) : Prop := ∀ Γ M (k : Option Int → Mem → Prop) σ H Hc (Q : Option Int → Hp → Prop), d Γ M k → Fr H σ Γ → Own H Hc M → (∀ o M' H' Hc', Ex H H' → Own H' Hc' M' → k o M' → Q o Hc') → t σ Hc Q
def LO (d : DO) : TO := fun σ Hc Q => ∃ Γ M H k, d Γ M k ∧ Fr H σ Γ ∧ Own H Hc M ∧ ∀ o M' H' Hc', Ex H H' → Own H' Hc' M' → k o M' → Q o Hc'
abbrev XO (X : Cx) (e : Option Expr) (d : DO) : Prop := PO X e (LO d)
def dNo : DO := fun _ M k => k none M
def dPt (de : DE) : DO := fun Γ M k => de Γ M fun s M1 => match s with
  | .dat (.int i) => k (some i) M1
  | _ => False
theorem xo_none : XO X none dNo := ⟨fun pins st σ Hc Q I ⟨Γ, M, H, k, hd, F, O, q⟩ => po_none.run pins st σ Hc Q I (q none M H Hc (Evl.Ex.refl H) O hd)⟩
theorem xo_some (h : XE X e de) : XO X (some e) (dPt de) := ⟨fun pins st σ Hc Q I ⟨Γ, M, H, k, hd, F, O, q⟩ => (po_some h).run pins st σ Hc Q I (by
  refine simLE Γ M _ σ H Hc _ hd F O fun v s M1 H1 Hc1 e1 O1 r1 h1 => ?_
  split at h1
  · exact ⟨_, dp_int_inv r1, q _ _ _ _ e1 O1 h1⟩
  · exact h1.elim)⟩
abbrev D3 := Sl → Option Int → Option Int → Mem → DK → Prop
def Sim3 (r : V → Option Int → Option Int → Hp → VK → Prop) (f : D3) : Prop := ∀ s lo hi M k x H Hc Q, f s lo hi M k → Rp H s x → Own H Hc M → On H k Q → r x lo hi Hc Q
def dSl (f : D3) (de : DE) (dl dh : DO) : DE := fun Γ M k => de Γ M fun s M1 => dl Γ M1 fun lo M2 => dh Γ M2 fun hi M3 => f s lo hi M3 k
def fSl : D3 := fun s lo hi M k => match s with
  | .dat (.tuple ds) => k (.dat (.tuple (cut ds lo hi))) M
  | .dat (.str z) => z.length ≤ 16777216 ∧ k (.dat (.str (cutS z lo hi))) M
  | s => ∃ xs, IsL M s xs ∧ xs.length ≤ 16777216 ∧ ∀ p, M p = none → k (.own p) (put M p (.lst (cut xs lo hi)))
def fSlD : D3 := fun s lo hi M k => match s with
  | .dat (.tuple ds) => k (.dat (.tuple (cut ds lo hi))) M
  | .dat (.str z) => z.length ≤ 16777216 ∧ k (.dat (.str (cutS z lo hi))) M
  | s => ∃ xs, IsL M s (xs.map .dat) ∧ k (.dat (.list (cut xs lo hi))) M
theorem cut_whole {α : Type} {xs : List α} {lo hi : Option Int} (h : HT.sIx xs.length 0 lo = 0 ∧ HT.sIx xs.length xs.length hi = xs.length) : cut xs lo hi = xs := by
  unfold cut
  rw [h.1, h.2, List.drop_zero, Nat.sub_zero, List.take_length]
theorem cut_len {α : Type} (xs : List α) (lo hi : Option Int) : (cut xs lo hi).length ≤ xs.length := by
  unfold cut
  rw [List.length_take, List.length_drop]
  omega
theorem sl_all : SlR X (fun x lo hi H Q => rSlA X.K x lo hi H Q ∨ rSlS x lo hi H Q ∨ rSlL X.K x lo hi H Q) := SlR.or sl_tupA (SlR.or sl_str sl_list)
theorem sl_tupD {K : PySem.W.Frag} {H Hc : Hp} {M : Mem} {k : DK} {Q : VK} {ds : List Dt} {lo hi : Option Int} {x : V} (rx : Rp H (.dat (.tuple ds)) x) (O : Own H Hc M) (q : On H k Q) (h : k (.dat (.tuple (cut ds lo hi))) M) : rSlA K x lo hi Hc Q := by
  obtain ⟨p, vs, rfl, h1, h2⟩ := dp_tup_inv rx
  have hl := dps_len h2
  refine ⟨p, vs, rfl, SqT.of (O.ex _ _ h1), fun w => ?_, fun _ p hp => q.tup O (dqs_cut lo hi h2) hp h⟩
  rw [hl] at w
  rw [cut_whole w] at h
  exact q.dat O rx h
theorem sim_sl {K : PySem.W.Frag} : Sim3 (fun x lo hi H Q => rSlA K x lo hi H Q ∨ rSlS x lo hi H Q ∨ rSlL K x lo hi H Q) fSl := by
  intro s lo hi M k x H Hc Q h rx O q
  unfold fSl at h
  split at h
  · exact .inl (sl_tupD rx O q h)
  · exact .inr (.inl ⟨_, dp_str_inv rx, by rw [sizeLine_eq]; exact h.1, q.dat O (.str _) h.2⟩)
  · obtain ⟨xs, l, hz, h⟩ := h
    obtain ⟨a, vs, rfl, h1, h2⟩ := l.at_ O rx
    exact .inr (.inr ⟨a, vs, rfl, SqL.of h1, fun p hp => q.own O (rps_cut lo hi h2) (by rw [sizeLine_eq]; exact Nat.le_trans (cut_len xs lo hi) hz) hp (h p (O.freeM hp))⟩)
theorem sim_slD {K : PySem.W.Frag} : Sim3 (fun x lo hi H Q => rSlA K x lo hi H Q ∨ rSlS x lo hi H Q ∨ rSlL K x lo hi H Q) fSlD := by
  intro s lo hi M k x H Hc Q h rx O q
  unfold fSlD at h
  split at h
  · exact .inl (sl_tupD rx O q h)
  · exact .inr (.inl ⟨_, dp_str_inv rx, by rw [sizeLine_eq]; exact h.1, q.dat O (.str _) h.2⟩)
  · obtain ⟨xs, l, h⟩ := h
    obtain ⟨a, vs, rfl, h1, h2⟩ := l.at_ O rx
    exact .inr (.inr ⟨a, vs, rfl, SqL.of h1, fun p hp => q.lst O (dqs_cut lo hi (rps_dat h2)) hp h⟩)
theorem xe_slF {f : D3} {lo hi : Option Expr} {dl dh : DO} {p2 : Pos} (hf : Sim3 (fun x lo hi H Q => rSlA X.K x lo hi H Q ∨ rSlS x lo hi H Q ∨ rSlL X.K x lo hi H Q) f) (he : XE X e de) (hl : XO X lo dl) (hu : XO X hi dh) : XE X (.Subscript e (.Slice lo hi none p2) pos) (dSl f de dl dh) :=
  xe_of (pe_slice sl_all he hl hu) (by
    intro Γ M k σ H Hc Q hd F O q
    refine simLE Γ M _ σ H Hc _ hd F O fun v s M1 H1 Hc1 e1 O1 r1 h1 => ?_
    refine ⟨Γ, M1, H1, _, h1, F.ex e1, O1, fun lo M2 H2 Hc2 e2 O2 h2 => ?_⟩
    refine ⟨Γ, M2, H2, _, h2, F.ex (e1.trans e2), O2, fun hi M3 H3 Hc3 e3 O3 h3 => ?_⟩
    exact hf s lo hi M3 k v H3 Hc3 Q h3 (rp_ex (e2.trans e3) r1) O3 (q.ex (e1.trans (e2.trans e3))))
theorem xe_sl {lo hi : Option Expr} {dl dh : DO} {p2 : Pos} (he : XE X e de) (hl : XO X lo dl) (hu : XO X hi dh) : XE X (.Subscript e (.Slice lo hi none p2) pos) (dSl fSl de dl dh) := xe_slF sim_sl he hl hu
theorem xe_slD {lo hi : Option Expr} {dl dh : DO} {p2 : Pos} (he : XE X e de) (hl : XO X lo dl) (hu : XO X hi dh) : XE X (.Subscript e (.Slice lo hi none p2) pos) (dSl fSlD de dl dh) := xe_slF sim_slD he hl hu
/-! ### arguments, displays -/
def dNil : DA := fun _ M k => k [] M
def dCons (de : DE) (das : DA) : DA := fun Γ M k => de Γ M fun s M1 => das Γ M1 fun ss M2 => k (s :: ss) M2
theorem xa_nil : XA X [] dNil := xa_of pa_nil fun Γ M k σ H Hc Q h F O q => q [] [] M H Hc (Evl.Ex.refl H) O .nil h
theorem xa_cons (he : XE X e de) (hr : XA X es das) (hs : starEach (e :: es) X.env = (false, eval e X.env) :: starEach es X.env := by rfl) : XA X (e :: es) (dCons de das) := xa_of (pa_cons he hr hs) (by
  intro Γ M k σ H Hc Q hd F O q
  refine simLE Γ M _ σ H Hc _ hd F O fun v s M1 H1 Hc1 e1 O1 r1 h1 => ?_
  refine simLA Γ M1 _ σ H1 Hc1 _ h1 (F.ex e1) O1 fun vs ss M2 H2 Hc2 e2 O2 r2 h2 => ?_
  exact q _ (s :: ss) _ _ _ (e1.trans e2) O2 (.cons (rp_ex e2 r1) r2) h2)
def dTup (das : DA) : DE := fun Γ M k => das Γ M fun ss M1 => Nat.ble ss.length 100000 = true ∧ ∃ ds, datsOf ss = some ds ∧ k (.dat (.tuple ds)) M1
def dLst (das : DA) : DE := fun Γ M k => das Γ M fun ss M1 => Nat.ble ss.length 100000 = true ∧ ∀ p, M1 p = none → k (.own p) (put M1 p (.lst ss))
def dLstD (das : DA) : DE := fun Γ M k => das Γ M fun ss M1 => Nat.ble ss.length 100000 = true ∧ ∃ ds, datsOf ss = some ds ∧ k (.dat (.list ds)) M1
theorem ble_size {n : Nat} (h : Nat.ble n 100000 = true) : n ≤ sizeLine := by
  have := Nat.le_of_ble_eq_true h
  rw [sizeLine_eq]; omega
theorem xe_tup {x1} (h : XA X es das) : XE X (.Tuple es x1 pos) (dTup das) := xe_of (pe_tup h) (by
  intro Γ M k σ H Hc Q hd F O q
  refine simLA Γ M _ σ H Hc _ hd F O fun vs ss M1 H1 Hc1 e1 O1 r1 h1 => ?_
  obtain ⟨hz, ds, e2, h2⟩ := h1
  have := datsOf_eq e2
  subst this
  exact ⟨by rw [rps_len r1]; exact ble_size hz, fun p hp => (q.ex e1).tup O1 (rps_dat r1) hp h2⟩)
theorem xe_lst (h : XA X es das) : XE X (.List es pos) (dLst das) := xe_of (pe_lst h) (by
  intro Γ M k σ H Hc Q hd F O q
  refine simLA Γ M _ σ H Hc _ hd F O fun vs ss M1 H1 Hc1 e1 O1 r1 h1 => ?_
  exact ⟨by rw [rps_len r1]; exact ble_size h1.1, fun p hp => (q.ex e1).own O1 r1 (ble_size h1.1) hp (h1.2 p (O1.freeM hp))⟩)
theorem xe_lstD (h : XA X es das) : XE X (.List es pos) (dLstD das) := xe_of (pe_lst h) (by
  intro Γ M k σ H Hc Q hd F O q
  refine simLA Γ M _ σ H Hc _ hd F O fun vs ss M1 H1 Hc1 e1 O1 r1 h1 => ?_
  obtain ⟨hz, ds, e2, h2⟩ := h1
  have := datsOf_eq e2
  subst this
  exact ⟨by rw [rps_len r1]; exact ble_size hz, fun p hp => (q.ex e1).lst O1 (rps_dat r1) hp h2⟩)
/-! ### calls of built-ins -/
abbrev DC := List Sl → Mem → DK → Prop
def SimC (r : List V → Hp → VK → Prop) (f : DC) : Prop := ∀ ss M k xs H Hc Q, f ss M k → Rps H ss xs → Own H Hc M → On H k Q → r xs Hc Q
def dCB (f : DC) (das : DA) : DE := fun Γ M k => das Γ M fun ss M1 => f ss M1 k
theorem sim_cb {r : List V → Hp → VK → Prop} {f : DC} {t : TA} (h : SimC r f) (ha : SimA t das) : SimE (tCB r t) (dCB f das) := by
  intro Γ M k σ H Hc Q hd F O q
  exact ha Γ M _ σ H Hc _ hd F O fun vs ss M1 H1 Hc1 e1 O1 r1 h1 => h ss M1 k vs H1 Hc1 Q h1 r1 O1 (q.ex e1)
theorem xe_callB {r : List V → Hp → VK → Prop} {f : DC} {ex : Expr} (hf : SimC r f) (h : PE X ex (tCB r (LA das))) : XE X ex (dCB f das) := xe_of h (sim_cb hf simLA)
def fLen : DC := fun ss M k => match ss with
  | [.dat (.tuple ds)] => k (.dat (.int ds.length)) M
  | [.dat (.list ds)] => k (.dat (.int ds.length)) M
  | [.own a] => ∃ xs, M a = some (.lst xs) ∧ k (.dat (.int xs.length)) M
  | [.dat (.str z)] => z.length ≤ 16777216 ∧ k (.dat (.int z.length)) M
  | _ => False
theorem CallR.or {f : Value} {r r' : List V → Hp → VK → Prop} (h : CallR X f r) (h' : CallR X f r') : CallR X f (fun x H Q => r x H Q ∨ r' x H Q) := by
  intro pins s σ H x u Q I rx q
  rcases q with q | q
  · exact h pins s σ H x u Q I rx q
  · exact h' pins s σ H x u Q I rx q
abbrev rLenA (K : PySem.W.Frag) : List V → Hp → VK → Prop := fun xs H Q => (∃ p ys, xs = [.ref p] ∧ (SqL K H p ys ∨ SqT K H p ys) ∧ Q (.int ys.length) H) ∨ ∃ z, xs = [.str z] ∧ z.length ≤ sizeLine ∧ Q (.int z.length) H
theorem call_lenA : CallR X (.builtin "len") (rLenA X.K) := CallR.or call_len_seq call_len_str
theorem rps1 {H : Hp} {s : Sl} {xs : List V} (h : Rps H [s] xs) : ∃ x, xs = [x] ∧ Rp H s x := by
  cases h with
  | cons r t => cases t; exact ⟨_, rfl, r⟩
theorem rps2 {H : Hp} {s t : Sl} {xs : List V} (h : Rps H [s, t] xs) : ∃ x y, xs = [x, y] ∧ Rp H s x ∧ Rp H t y := by
  cases h with
  | cons r q => obtain ⟨y, rfl, h2⟩ := rps1 q; exact ⟨_, _, rfl, r, h2⟩
theorem sim_len {K : PySem.W.Frag} : SimC (rLenA K) fLen := by
  intro ss M k xs H Hc Q h r O q
  unfold fLen at h
  split at h
  · obtain ⟨x, rfl, rx⟩ := rps1 r
    obtain ⟨p, vs, rfl, h1, h2⟩ := dp_tup_inv rx
    rw [← dps_len h2] at h
    exact .inl ⟨p, vs, rfl, .inr (SqT.of (O.ex _ _ h1)), q.dat O (.int _) h⟩
  · obtain ⟨x, rfl, rx⟩ := rps1 r
    obtain ⟨p, vs, rfl, h1, h2⟩ := dp_lst_inv rx
    rw [← dps_len h2] at h
    exact .inl ⟨p, vs, rfl, .inl (SqL.of (O.ex _ _ h1)), q.dat O (.int _) h⟩
  · obtain ⟨x, rfl, rx⟩ := rps1 r
    obtain ⟨ys, e1, h⟩ := h
    cases rx
    obtain ⟨_, vs, h1, h2⟩ := O.ob _ _ e1
    rw [← rps_len h2] at h
    exact .inl ⟨_, vs, rfl, .inl (SqL.of h1), q.dat O (.int _) h⟩
  · obtain ⟨x, rfl, rx⟩ := rps1 r
    exact .inr ⟨_, by rw [dp_str_inv rx], by rw [sizeLine_eq]; exact h.1, q.dat O (.int _) h.2⟩
  · exact h.elim
/-- isinstance -/
def tyD : Dt → String
  | .none => "NoneType" | .bool _ => "bool" | .int _ => "int" | .str _ => "str" | .list _ => "list" | .tuple _ => "tuple" | .dict _ => "dict"
def isiD (T : String) (d : Dt) : Bool := tyD d == T || (tyD d == "bool" && T == "int")
def fIsi : DC := fun ss M k => match ss with
  | [.dat d, .raw (.ty T)] => (T = "int" ∨ T = "bool" ∨ T = "tuple" ∨ T = "list" ∨ T = "str") ∧ k (.dat (.bool (isiD T d))) M
  | _ => False
theorem kit_tab : ∀ a ∈ ["NoneType", "bool", "int", "str", "list", "tuple"], ∀ T ∈ ["int", "bool", "tuple", "list", "str"], kitB a T = some (a == T || (a == "bool" && T == "int")) := by decide +kernel
theorem kit_all {K : PySem.W.Frag} (d : Dt) (hd : ∀ kvs, d ≠ .dict kvs) {T : String} (hT : T = "int" ∨ T = "bool" ∨ T = "tuple" ∨ T = "list" ∨ T = "str") : PySem.W.kitOne K (.type (tyD d)) (.type T) = some (isiD T d) := by
  refine kit_ty (kit_tab (tyD d) ?_ T ?_)
  · cases d with
    | dict kvs => exact absurd rfl (hd kvs)
    | _ => simp [tyD]
  · rcases hT with rfl | rfl | rfl | rfl | rfl <;> simp
theorem ty_of_dq {K : PySem.W.Frag} {H : Hp} {x : V} {d : Dt} (r : Dq H x d) : TyX K H x (.type (tyD d)) := by
  cases r with
  | non => exact .base .non
  | bl b => exact .base (.bl b)
  | int i => exact .base (.int i)
  | str x => exact .base (.str x)
  | lst h _ => exact .base (.lst h)
  | tup h _ => exact .base (.tup h)
theorem dq_no_dict {H : Hp} {x : V} {d : Dt} (r : Dq H x d) : ∀ kvs, d ≠ .dict kvs := by
  rintro kvs rfl
  cases r
theorem sim_isi {K : PySem.W.Frag} : SimC (rIsi K) fIsi := by
  intro ss M k xs H Hc Q h r O q
  unfold fIsi at h
  split at h
  · obtain ⟨x, y, rfl, rx, ry⟩ := rps2 r
    have ry' : y = V.ty _ := ry
    subst ry'
    have rc := dp_ex O.ex rx
    exact ⟨x, _, _, _, _, rfl, .ty _, ty_of_dq rc, kit_all _ (dq_no_dict rc) h.1, q.dat O (.bl _) h.2⟩
  · exact h.elim
/-- list(xs): a new one, ours -/
def fList : DC := fun ss M k => match ss with
  | [.dat (.tuple ds)] => ds.length ≤ 16777216 ∧ ∀ p, M p = none → k (.own p) (put M p (.lst (ds.map .dat)))
  | [.dat (.list ds)] => ds.length ≤ 16777216 ∧ ∀ p, M p = none → k (.own p) (put M p (.lst (ds.map .dat)))
  | [.own a] => ∃ xs, M a = some (.lst xs) ∧ xs.length ≤ 16777216 ∧ ∀ p, M p = none → k (.own p) (put M p (.lst xs))
  | _ => False
abbrev rListA (K : PySem.W.Frag) : List V → Hp → VK → Prop := fun xs H Q => ∃ p ys, xs = [.ref p] ∧ (SqL K H p ys ∨ SqT K H p ys) ∧ ∀ l, H l = none → Q (.ref l) (upd H l (.lst ys))
theorem sim_list {K : PySem.W.Frag} : SimC (rListA K) fList := by
  intro ss M k xs H Hc Q h r O q
  unfold fList at h
  split at h
  · obtain ⟨x, rfl, rx⟩ := rps1 r
    obtain ⟨p, vs, rfl, h1, h2⟩ := dp_tup_inv rx
    exact ⟨p, vs, rfl, .inr (SqT.of (O.ex _ _ h1)), fun l hl => q.own O (dat_rps h2) (by rw [sizeLine_eq, List.length_map]; exact h.1) hl (h.2 l (O.freeM hl))⟩
  · obtain ⟨x, rfl, rx⟩ := rps1 r
    obtain ⟨p, vs, rfl, h1, h2⟩ := dp_lst_inv rx
    exact ⟨p, vs, rfl, .inl (SqL.of (O.ex _ _ h1)), fun l hl => q.own O (dat_rps h2) (by rw [sizeLine_eq, List.length_map]; exact h.1) hl (h.2 l (O.freeM hl))⟩
  · obtain ⟨x, rfl, rx⟩ := rps1 r
    obtain ⟨ys, e1, hz, h⟩ := h
    cases rx
    obtain ⟨_, vs, h1, h2⟩ := O.ob _ _ e1
    exact ⟨_, vs, rfl, .inl (SqL.of h1), fun l hl => q.own O h2 (by rw [sizeLine_eq]; exact hz) hl (h l (O.freeM hl))⟩
  · exact h.elim
/-- repr -/
def fRepr : DC := fun ss M k => match ss with
  | [.dat d] => d.showable = true ∧ d.shown.length ≤ 16777216 ∧ d.depth ≤ 40 ∧ k (.dat (.str d.shown)) M
  | _ => False
def rRepr (K : PySem.W.Frag) : List V → Hp → VK → Prop := fun xs H Q => ∃ x d, xs = [x] ∧ Dq H x d ∧ d.showable = true ∧ d.shown.length ≤ 16777216 ∧ d.depth ≤ 40 ∧ Q (.str d.shown) H
theorem sim_repr {K : PySem.W.Frag} : SimC (rRepr K) fRepr := by
  intro ss M k xs H Hc Q h r O q
  unfold fRepr at h
  split at h
  · obtain ⟨x, rfl, rx⟩ := rps1 r
    exact ⟨x, _, rfl, dp_ex O.ex rx, h.1, h.2.1, h.2.2.1, q.dat O (.str _) h.2.2.2⟩
  · exact h.elim
/-- all([..]) -/
def boolsOf : List Dt → Option (List Bool)
  | [] => some []
  | .bool b :: ds => (boolsOf ds).map (b :: ·)
  | _ => none
end
end DL
namespace DL
open PySem PySem.Spec PyProof.Rows L2
open Evl (Ex)
/-! ### defs, where no repr is under way around -/
/-- room, and no repr under way -/
structure Rm (k : Nat) (A : Around) : Prop where
  rm : Room k A
  gu : A.guards = some []
theorem Rm.mono {j k : Nat} {A : Around} (r : Rm k A) (h : j ≤ k) : Rm j A := ⟨r.rm.mono h, r.gu⟩
/-- a promise without heaps: arguments, what is ours, the way on; the way out by an error -/
abbrev Pr := List Sl → Mem → DK → Prop
structure Holds (P : Program) (w : World) (K : PySem.W.Frag) (mg : Str → Option Value) (base : Heap) (k : Nat) (f : Addr) (fd : FuncData) (ps : List Str) (pr : Pr) : Prop where
  len : ∀ ss M q, pr ss M q → ss.length = ps.length
  go : ∀ (A : Around) (outer : List Env) (s : Shared) (Hc : Hp) (args : Args) (us : List Value) (vs : List V) (ss : List Sl) (M : Mem) (H : Hp) (q : DK) (Q : VK), Rm k A → Env0 P w K mg base A outer s Hc →
    BindsTo s fd args (ps.zip us) → Vals vs us → Rps H ss vs → Own H Hc M → pr ss M q → On H q Q →
    codeAny (model P w) A (.call (.ref f) args) (CR CX0 outer P w Hc s Q fun _ _ _ => False) s
theorem Holds.mono {P : Program} {w : World} {K : PySem.W.Frag} {mg : Str → Option Value} {base : Heap} {j k : Nat} {f : Addr} {fd : FuncData} {ps : List Str} {pr : Pr} (F : Holds P w K mg base j f fd ps pr) (h : j ≤ k) : Holds P w K mg base k f fd ps pr :=
  ⟨F.len, fun A outer s Hc args us vs ss M H q Q r => F.go A outer s Hc args us vs ss M H q Q (r.mono h)⟩
theorem Holds.imp {P : Program} {w : World} {K : PySem.W.Frag} {mg : Str → Option Value} {base : Heap} {k : Nat} {f : Addr} {fd : FuncData} {ps : List Str} {pr pr' : Pr} (F : Holds P w K mg base k f fd ps pr) (h : ∀ ss M q, pr' ss M q → pr ss M q) : Holds P w K mg base k f fd ps pr' :=
  ⟨fun ss M q z => F.len ss M q (h _ _ _ z), fun A outer s Hc args us vs ss M H q Q a1 a2 a3 a4 a5 a6 a7 => F.go A outer s Hc args us vs ss M H q Q a1 a2 a3 a4 a5 a6 (h _ _ _ a7)⟩
section
variable {X : Cx} {e : Expr} {es : List Expr} {de : DE} {das : DA} {pos p : Pos} {x : Str} {k : Nat} {f : Addr} {fd : FuncData} {ps : List Str} {pr : Pr}
def dCall (pr : Pr) (das : DA) : DE := fun Γ M k => das Γ M fun ss M1 => pr ss M1 k
/-- the callee goes its way -/
theorem call_go {pins : List (Addr × Obj)} {σ : L2.St} {Hc H : Hp} {M : Mem} {s : Shared} {Q : VK} {q : DK} {us : List Value} {vs : List V} {ss : List Sl} (F : Holds X.prog X.w X.K X.mg X.base k f fd ps pr) (hr : Rm k X.A) (hb : Binds X.K fd ps [])
    (I : Inv X pins σ Hc s) (r : Vals vs us) (rs : Rps H ss vs) (O : Own H Hc M) (h : pr ss M q) (on : On H q Q) : wpAny (model X.prog X.w) X.A (call (.ref f) us) (EP X pins σ Q) X.xe s := by
  have e1 : us.length = ps.length := by rw [← r.length, rps_len rs]; exact F.len _ _ _ h
  have e2 : BindsTo s fd ⟨us, []⟩ (ps.zip us) := by
    have z := hb s us I.kIn (by rw [List.append_nil]; exact e1)
    rw [List.append_nil] at z
    exact z
  refine wpAny_call (codeAny_mono (F.go X.A X.stack s Hc ⟨us, []⟩ us vs ss M H q Q hr I.env0 e2 r rs O h on) fun res s' hq => ?_)
  match res, hq with
  | .ok (.ret u), hq => exact I.after hq
theorem xe_call (F : Holds X.prog X.w X.K X.mg X.base k f fd ps pr) (hr : Rm k X.A) (hm : X.mg x = some (.ref f)) (hk : PySem.W.keepIn X.K (.ref f) = true) (hb : Binds X.K fd ps []) (ha : XA X (e :: es) das) (hg : Gl X x := by rfl)
    (hdb : (x == ("__debug__" : Str)) = false := by decide) (he : starEach (e :: es) X.env = (false, eval e X.env) :: starEach es X.env := by rfl) (hpl : (backTo pos (starEach es X.env)).any (·.1) = false := by rfl) : XE X (.Call (.Name x p) (e :: es) [] pos) (dCall pr das) := by
  refine ⟨fun pins s σ Hc Q I ⟨Γ, M, H, q, hd, F', O, on⟩ => ?_⟩
  have ha' : PA X (e :: es) (LA das) := ha
  have hR : LA das σ Hc fun vs H1 => ∃ ss M1 H2, Rps H2 ss vs ∧ Own H2 H1 M1 ∧ pr ss M1 q ∧ On H2 q Q :=
    ⟨Γ, M, H, _, hd, F', O, fun vs ss M' H' Hc' e1 O1 r1 h1 => ⟨ss, M', H', r1, O1, h1, on.ex e1⟩⟩
  refine wpAny_Call_Name_kw (ld_glob I hg hm ?_ hdb)
  refine PySem.W.callWith_K (h₀ := X.base) I.ok.mod.kin hk (thn (ha'.run pos pins s σ Hc _ I hR) fun us s1 z => ?_) he hpl
  obtain ⟨vs, H1, I1, r, ss, M1, H2, z1, z2, z3, z4⟩ := z
  exact ⟨I1.kIn, call_go F hr hb I1 r z1 z2 z3 z4⟩
theorem xe_call0 (F : Holds X.prog X.w X.K X.mg X.base k f fd ps pr) (hr : Rm k X.A) (hm : X.mg x = some (.ref f)) (hk : PySem.W.keepIn X.K (.ref f) = true) (hb : Binds X.K fd ps []) (hg : Gl X x := by rfl)
    (hdb : (x == ("__debug__" : Str)) = false := by decide) : XE X (.Call (.Name x p) [] [] pos) (dCall pr dNil) := by
  refine ⟨fun pins s σ Hc Q I ⟨Γ, M, H, q, hd, F', O, on⟩ => ?_⟩
  refine wpAny_Call_Name_kw (ld_glob I hg hm ?_ hdb)
  refine PySem.W.callWith_K0 I.kIn hk ?_
  exact call_go F hr hb (us := []) (vs := []) (ss := []) I .nil .nil O hd on
end
def startF (N : List Str) (ss : List Sl) : Fm := ss.map some ++ List.replicate (N.length - ss.length) none
theorem fr_start {H : Hp} {ss : List Sl} {vs : List V} (N : List Str) (r : Rps H ss vs) : Fr H (L2.start N vs) (startF N ss) := by
  have hl := rps_len r
  have key : ∀ (i : Nat) (s : Sl), (startF N ss)[i]? = some (some s) → ∃ v, (L2.start N vs)[i]? = some (some v) ∧ Rp H s v := fun i s h => by
    unfold startF at h
    by_cases hi : i < ss.length
    · rw [List.getElem?_append_left (by simpa using hi), List.getElem?_map] at h
      cases e : ss[i]? with
      | none => rw [e] at h; cases h
      | some s' =>
        rw [e] at h
        cases h
        obtain ⟨v, h1, h2⟩ := rps_get' r e
        refine ⟨v, ?_, h2⟩
        unfold L2.start
        rw [List.getElem?_append_left (by simpa [hl] using hi), List.getElem?_map, h1] <;> rfl
    · rw [List.getElem?_append_right (by simpa using hi), List.getElem?_replicate] at h
      split at h <;> cases h
  refine ⟨by unfold L2.start startF; simp [hl], fun i s _ h => key i s h, fun i H0 h => ?_⟩
  obtain ⟨v, _, r⟩ := key i _ h
  exact r.elim
/-! ### a def of the text, whatever its defaults are (its callers give them all) -/
structure FunV (K : PySem.W.Frag) (x qual : Str) (st : Stmt) (f : Addr) (fd : FuncData) : Prop where
  ex : ∃ (oc : Value) (od : Option Addr) (dV kV doc pm : Value) (an : Option Addr) (cdv ct : Value) (osl : Array (Option Value)),
    fd = PySem.W.fnOf x qual (defArgs st) (defBody st) (defScope st) dV kV doc pm an cdv ct ∧ K.lookup f = some ⟨oc, od, .func fd, osl⟩ ∧ PySem.W.codeIn K cdv qual = true
  kp : PySem.W.keepIn K (.ref f) = true
theorem funV_mk {K : PySem.W.Frag} {x qual : Str} {st : Stmt} {f : Addr} {oc : Value} {od an : Option Addr} {osl : Array (Option Value)} {dV kV doc pm cdv ct : Value} (l : K.lookup f = some ⟨oc, od, .func (PySem.W.fnOf x qual (defArgs st) (defBody st) (defScope st) dV kV doc pm an cdv ct), osl⟩)
    (c : PySem.W.codeIn K cdv qual = true) (k : PySem.W.keepIn K (.ref f) = true) : FunV K x qual st f (PySem.W.fnOf x qual (defArgs st) (defBody st) (defScope st) dV kV doc pm an cdv ct) := ⟨⟨oc, od, dV, kV, doc, pm, an, cdv, ct, osl, rfl, l, c⟩, k⟩
/-- T is a tuple of n values -/
def dfB (K : PySem.W.Frag) (T : Addr) (n : Nat) : Bool := match K.lookup T with
  | some ⟨_, _, .seq its _, _⟩ => its.size == n
  | _ => false
theorem binds_dfl {K : PySem.W.Frag} {fd : FuncData} {ps : List Str} {T : Addr} {n : Nat} (d : dfB K T n = true)
    (h : ∀ us its : List Value, us.length = ps.length → its.length = n → ∃ k, bindArgs fd ⟨us, []⟩ = seqItems? (.ref T) >>= k ∧ k (some its.toArray) = pure (ps.zip us)) : Binds K fd ps [] := fun s us X hl => by
  rw [List.append_nil] at hl ⊢
  unfold dfB at d
  split at d
  · rename_i oc od its m sl e
    obtain ⟨k, e1, e2⟩ := h us its.toList hl (by simpa using d)
    refine BindsTo.of_looks fun M => ?_
    rw [e1]
    exact looks_items X e rfl (.of_pure (by simpa using e2))
  · cases d
section
variable {P : Program} {w : World} {K : PySem.W.Frag} {mg : Str → Option Value} {base : Heap}
/-- where a body stands -/
abbrev Bd (P : Program) (w : World) (K : PySem.W.Frag) (mg : Str → Option Value) (base : Heap) (N : List Str) (qual : Str) (st : Stmt) (f : Addr) (cdv : Value) (A : Around) (outer : List Env) (s : Shared) (H : Hp) : Cx :=
  (cxOf CX0 P w K mg base N qual (defScope st) f cdv A outer s H fun _ _ _ => False).nox
/-- a def by its body: a term of rules, its reading -/
theorem holds_of {nm qual : Str} {st : Stmt} {f : Addr} {fd : FuncData} {N ps : List Str} {k : Nat} {pr : Pr} {ds : DS} (F : FunV K nm qual st f fd) (S : FnScope N ps (defScope st)) (len : ∀ ss M q, pr ss M q → ss.length = ps.length)
    (body : ∀ (cdv : Value) (A : Around) (outer : List Env) (s : Shared) (H : Hp), Rm k (Bd P w K mg base N qual st f cdv A outer s H).A → XSs (Bd P w K mg base N qual st f cdv A outer s H) (defBody st) ds)
    (read : ∀ ss M q, pr ss M q → ds { nx := fun _ M' => q (.dat .none) M', rt := q } (startF N ss) M) : Holds P w K mg base (k + 1) f fd ps pr := by
  obtain ⟨oc, od, dV, kV, doc, pm, an, cdv, ct, osl, rfl, lk, hcd⟩ := F.ex
  refine ⟨len, fun A outer s Hc args us vs ss M H q Q hr e0 hb r rs O hp on => ?_⟩
  have gu2 : (A.deeper (envOfC qual (defScope st) s.heap.objs.size f cdv)).guards = some [] := hr.gu
  -- the library's rule at this very caller: its room, and the guards that it does not speak of
  have KX : K.In s.heap := e0.mod.kin.keeps fun b o e => (e0.bs b o e).1
  have lim : s.heap.NoLimit := e0.mod.nolimit.keeps fun b o z => (e0.bs b o z).1
  have hl : vs.length = ps.length := by rw [rps_len rs]; exact len _ _ _ hp
  have kinds : ∀ y ∈ ps.zip us, (defScope st).names.lookup y.1 = some .local ∨ ((defScope st).names.lookup y.1 = some .cell ∧ ((cellsFrom (s.heap.objs.size + 1) (defScope st).names []).lookup y.1).isSome = true) := by
    rintro ⟨n, v⟩ hy
    rcases S.par n (List.of_mem_zip hy).1 with z | z
    · exact .inl z
    · exact .inr ⟨z, PySem.W.cellsFrom_some _ _ _ (.inl z)⟩
  refine codeAny_call_function hr.rm.depth (KX _ _ lk) rfl S.co S.gen rfl (PySem.W.codeRec_of KX hcd) (hb _ _ _ _ (wpAny_newFunctionEnv_cells S.kind kinds fun env he s1 z => ?_))
  subst he
  refine ⟨lim.keeps z.toInCall.keep, codeAny_func ?_⟩
  have B := body cdv A outer s Hc ⟨hr.rm.deeper _, gu2⟩
  have I : Inv (cxOf CX0 P w K mg base N qual (defScope st) f cdv A outer s Hc fun _ _ _ => False) [] (L2.start N vs) Hc s1 := inv_start S hr.rm.hd e0 hl r z
  have B' : PSs (cxOf CX0 P w K mg base N qual (defScope st) f cdv A outer s Hc fun _ _ _ => False) (defBody st) (LS ds) := B.nox
  have here : LS ds { nx := fun _ H' => Q .non H', rt := Q } (L2.start N vs) Hc := ⟨_, M, H, _, read ss M q hp, fr_start N rs, O,
    ⟨fun σ' Γ' M' H' Hc' e1 _ O1 h1 => on .non (.dat .none) M' H' Hc' e1 O1 .non h1, on, fun _ _ _ _ _ _ _ _ h1 => h1.elim, fun _ _ _ _ _ _ _ _ h1 => h1.elim⟩⟩
  refine wpAny_mono (B'.run [] s1 (L2.start N vs) Hc _ I here) (fun fl s' hs => ?_) fun _ _ z => z
  match fl, hs with
  | .ret u, ⟨v, _, H', J, rv, h1⟩ => exact ⟨v, H', J.os, J.bare, J.base, J.hok, rv, h1⟩
  | .next, ⟨_, H', J, h1⟩ => exact ⟨.non, H', J.os, J.bare, J.base, J.hok, rfl, h1⟩
  | .brk, ⟨_, _, _, h1⟩ => exact h1.elim
  | .cont, ⟨_, _, _, h1⟩ => exact h1.elim
end
/-! ### repr -/
section
variable {X : Cx}
theorem call_repr (hg : X.A.guards = some []) (hu : X.A.units + 64 < cLine) : CallR X (.builtin "repr") (rRepr X.K) := by
  intro pins s σ H xs us Q I r h
  obtain ⟨x, d, rfl, hd, h1, h2, h3, q⟩ := h
  obtain ⟨u, rfl, ru⟩ := vals1 r
  have h2' : d.shown.length ≤ sizeLine := by rw [sizeLine_eq]; exact h2
  obtain ⟨as, rd⟩ := Dp.reads I d x u (dq_dp hd) ru
  have big : ∀ a, u = .ref a → (∀ kvs, d ≠ .dict kvs) → wpAny (model X.prog X.w) X.A (call (.builtin "repr") [u]) (EP X pins σ Q) X.xe s := fun a e nd => by
    subst e
    refine repr_of_reads' rd h1 (fun z => ?_) hg (by omega) (fun _ _ z => z) (fun h' u tk kp => ⟨.str _, H, I.kept (t' := tk) kp, ⟨_, rfl⟩, q⟩) h2'
    exact absurd z (by rw [nodict hd]; decide)
  cases hd with
  | non => cases ru; exact PySem.P.repr_of_none ⟨.str _, H, I.tok _, ⟨_, rfl⟩, q⟩
  | bl b => cases ru; exact PySem.P.repr_of_bool ⟨.str _, H, I.tok _, ⟨_, rfl⟩, q⟩
  | int i =>
    obtain ⟨t, rfl⟩ := ru
    exact PySem.P.repr_of_int (by simpa [PyData.showable] using h1) ⟨.str _, H, I.tok _, ⟨_, rfl⟩, q⟩
  | str z =>
    obtain ⟨t, rfl⟩ := ru
    exact PySem.P.repr_of_str ⟨.str _, H, I.tok _, ⟨_, rfl⟩, q⟩ h2'
  | lst _ _ => exact big _ ru fun _ z => by cases z
  | tup _ _ => exact big _ ru fun _ z => by cases z
where
  nodict {H : Hp} {x : V} {d : Dt} (h : Dq H x d) : d.hasDict = false := nd1 d x h
  nd1 {H : Hp} : ∀ (d : Dt) (x : V), Dq H x d → d.hasDict = false
    | .none, _, _ => rfl
    | .bool _, _, _ => rfl
    | .int _, _, _ => rfl
    | .str _, _, _ => rfl
    | .list ds, _, h => by cases h with | lst _ ha => unfold PyData.hasDict; exact nd2 ds _ ha
    | .tuple ds, _, h => by cases h with | tup _ ha => unfold PyData.hasDict; exact nd2 ds _ ha
    | .dict _, _, h => by cases h
  nd2 {H : Hp} : ∀ (ds : List Dt) (xs : List V), DqAll H xs ds → PyData.hasDictAll ds = false
    | [], _, _ => rfl
    | d :: ds, _, h => by cases h with | cons h1 h2 => unfold PyData.hasDictAll; rw [nd1 d _ h1, nd2 ds _ h2] <;> rfl
end
end DL
namespace DL
open PySem PySem.Spec PyProof.Rows L2
open Evl (Ex)
section
variable {X : Cx} {e a b c : Expr} {es : List Expr} {de da db : DE} {das : DA} {pos p : Pos} {st : Stmt} {rest body : List Stmt} {d1 d2 : DS} {x : Str}
/-! ### statements -/
def dNext : DS := fun D Γ M => D.nx Γ M
def dSeq (t u : DS) : DS := fun D Γ M => t { D with nx := u D } Γ M
theorem OnD.seq {H : Hp} {D : DEnds} {E : Ends} {u : TS} {v : DS} (o : OnD H D E) (h : SimS u v) : OnD H { D with nx := v D } { E with nx := u E } :=
  ⟨fun σ' Γ' M' H' Hc' e1 F1 O1 h1 => h Γ' M' D σ' H' Hc' E h1 F1 O1 (o.ex e1), o.rt, o.bk, o.ct⟩
theorem xss_nil : XSs X [] dNext := xss_of pss_nil fun Γ M D σ H Hc E h F O q => q.nx σ Γ M H Hc (Evl.Ex.refl H) F O h
theorem xss_cons (h1 : XS X st d1) (h2 : XSs X rest d2) : XSs X (st :: rest) (dSeq d1 d2) := xss_of (pss_cons h1 h2) fun Γ M D σ H Hc E h F O q => simLS Γ M _ σ H Hc _ h F O (q.seq simLS)
theorem xss_one (h1 : XS X st d1) : XSs X [st] d1 := pss_one h1
/-- a statement, then the rest from a word between them -/
def dCut (t u : DS) : DS := fun D Γ M => ∃ Mid : Fm → Mem → Prop, t { D with nx := Mid } Γ M ∧ ∀ Γ' M', Mid Γ' M' → u D Γ' M'
theorem xss_cut (h1 : XS X st d1) (h2 : XSs X rest d2) : XSs X (st :: rest) (dCut d1 d2) := xss_of (pss_cons h1 h2) fun Γ M D σ H Hc E h F O q => by
  obtain ⟨Mid, h, hm⟩ := h
  exact simLS Γ M _ σ H Hc _ h F O ⟨fun σ' Γ' M' H' Hc' e1 F1 O1 g => simLS Γ' M' D σ' H' Hc' E (hm Γ' M' g) F1 O1 (q.ex e1), q.rt, q.bk, q.ct⟩
def dDrop (de : DE) : DS := fun D Γ M => de Γ M fun _ M1 => D.nx Γ M1
theorem xs_expr (he : XE X e de) (hs : swapsWith e none pos.line X.env = pure false := by rfl) : XS X (.Expr e pos) (dDrop de) := xs_of (ps_expr he hs) fun Γ M D σ H Hc E h F O q =>
  simLE Γ M _ σ H Hc _ h F O fun v s M1 H1 Hc1 e1 O1 r1 h1 => q.nx σ Γ M1 H1 Hc1 e1 (F.ex e1) O1 h1
def dRet (de : DE) : DS := fun D Γ M => de Γ M D.rt
theorem xs_ret (he : XE X e de) : XS X (.Return (some e) pos) (dRet de) := xs_of (ps_ret he) fun Γ M D σ H Hc E h F O q => simLE Γ M _ σ H Hc _ h F O q.rt
def dRetN : DS := fun D _ M => D.rt (.dat .none) M
theorem xs_retN : XS X (.Return none pos) dRetN := xs_of ps_retN fun Γ M D σ H Hc E h F O q => q.rt .non (.dat .none) M H Hc (Evl.Ex.refl H) O .non h
def dPass : DS := fun D Γ M => D.nx Γ M
theorem xs_pass : XS X (.Pass pos) dPass := xs_of ps_pass fun Γ M D σ H Hc E h F O q => q.nx σ Γ M H Hc (Evl.Ex.refl H) F O h
def dBrk : DS := fun D Γ M => D.bk Γ M
theorem xs_brk : XS X (.Break pos) dBrk := xs_of ps_break fun Γ M D σ H Hc E h F O q => q.bk σ Γ M H Hc (Evl.Ex.refl H) F O h
def dCt : DS := fun D Γ M => D.ct Γ M
theorem xs_ct : XS X (.Continue pos) dCt := xs_of ps_continue fun Γ M D σ H Hc E h F O q => q.ct σ Γ M H Hc (Evl.Ex.refl H) F O h
def dIfS (t : DB) (u v : DS) : DS := fun D Γ M => t Γ M fun b M1 => (b = true → u D Γ M1) ∧ (b = false → v D Γ M1)
theorem xs_if {ba : DB} {sa sb : List Stmt} (hc : XB X c ba) (ha : XSs X sa d1) (hb : XSs X sb d2) : XS X (.If c sa sb pos) (dIfS ba d1 d2) := xs_of (ps_if hc ha hb) fun Γ M D σ H Hc E h F O q =>
  simLB Γ M _ σ H Hc _ h F O fun v M1 H1 Hc1 e1 O1 h1 => by
    cases v with
    | true => rw [if_pos rfl]; exact simLS Γ M1 D σ H1 Hc1 E (h1.1 rfl) (F.ex e1) O1 (q.ex e1)
    | false => rw [if_neg Bool.false_ne_true]; exact simLS Γ M1 D σ H1 Hc1 E (h1.2 rfl) (F.ex e1) O1 (q.ex e1)
/-! ### targets -/
abbrev DG := Sl → Fm → Mem → (Fm → Mem → Prop) → Prop
def LG (g : DG) : TG := fun v σ Hc Q => ∃ s Γ M H k, g s Γ M k ∧ Rp H s v ∧ Fr H σ Γ ∧ Own H Hc M ∧ OnF H k Q
abbrev XG (X : Cx) (tg : Expr) (g : DG) : Prop := PG X tg (LG g)
def gN (i : Nat) : DG := fun s Γ M k => k (Γ.set i (some s)) M
theorem pg_of {tg : Expr} {t t' : TG} (h : PG X tg t) (s : ∀ v σ Hc Q, t' v σ Hc Q → t v σ Hc Q) : PG X tg t' := by
  obtain ⟨h⟩ := h
  exact ⟨by first | exact fun a b c d e f g i j k => h a b c d e f g i j (s _ _ _ _ k) | exact fun a b c d e f g i j => h a b c d e f g i (s _ _ _ _ j) | exact fun a b c d e f g i => h a b c d e f g (s _ _ _ _ i) | exact fun a b c d e f g i j k l => h a b c d e f g i j k (s _ _ _ _ l)⟩
theorem xg_name {i : Nat} (h : PG X e (gName i)) : XG X e (gN i) := pg_of h fun v σ Hc Q ⟨s, Γ, M, H, k, h1, r, F, O, q⟩ => q _ _ M H Hc (Evl.Ex.refl H) (F.set r) O h1
abbrev DGs := List Dt → Fm → Mem → (Fm → Mem → Prop) → Prop
def LGs (g : DGs) : TGs := fun vs σ Hc Q => ∃ ds Γ M H k, g ds Γ M k ∧ DqAll H vs ds ∧ Fr H σ Γ ∧ Own H Hc M ∧ OnF H k Q
def gT (n : Nat) (g : DGs) : DG := fun s Γ M k => match s with
  | .dat (.tuple ds) => ds.length = n ∧ g ds Γ M k
  | _ => False
def gsN : DGs := fun ds Γ M k => match ds with
  | [] => k Γ M
  | _ => False
def gsC (g : DG) (gs : DGs) : DGs := fun ds Γ M k => match ds with
  | [] => False
  | d :: ds => g (.dat d) Γ M fun Γ1 M1 => gs ds Γ1 M1 k
theorem pgs_of {tg : List Expr} {t t' : TGs} (h : PGs X tg t) (s : ∀ v σ Hc Q, t' v σ Hc Q → t v σ Hc Q) : PGs X tg t' := by
  obtain ⟨h⟩ := h
  exact ⟨by first | exact fun a b c d e f g i j k => h a b c d e f g i j (s _ _ _ _ k) | exact fun a b c d e f g i j => h a b c d e f g i (s _ _ _ _ j) | exact fun a b c d e f g i => h a b c d e f g (s _ _ _ _ i) | exact fun a b c d e f g i j k l => h a b c d e f g i j k (s _ _ _ _ l)⟩
abbrev XGs (X : Cx) (tg : List Expr) (g : DGs) : Prop := PGs X tg (LGs g)
theorem xgs_nil : XGs X [] gsN := pgs_of pgs_nil fun v σ Hc Q ⟨ds, Γ, M, H, k, h1, r, F, O, q⟩ => by
  cases r with
  | nil => exact ⟨rfl, q _ _ M H Hc (Evl.Ex.refl H) F O h1⟩
  | cons _ _ => exact h1.elim
theorem xgs_cons {t : Expr} {ts : List Expr} {g : DG} {gs : DGs} (h : PGs X (t :: ts) (gCons (LG g) (LGs gs))) : XGs X (t :: ts) (gsC g gs) := pgs_of h fun v σ Hc Q ⟨ds, Γ, M, H, k, h1, r, F, O, q⟩ => by
  cases r with
  | nil => exact h1.elim
  | @cons v vs d ds r1 r2 =>
    refine ⟨v, vs, rfl, .dat d, Γ, M, H, _, h1, r1, F, O, fun σ' Γ' M' H' Hc' e1 F1 O1 h2 => ?_⟩
    exact ⟨ds, Γ', M', H', k, h2, dps_ex e1 r2, F1, O1, q.ex e1⟩
theorem xg_tup {n : Nat} {t : Expr} {gs : DGs} (h : PG X t (gTup X.K n (LGs gs))) : XG X t (gT n gs) := pg_of h fun v σ Hc Q ⟨s, Γ, M, H, k, h1, r, F, O, q⟩ => by
  unfold gT at h1
  split at h1
  · obtain ⟨a, vs, rfl, h2, h3⟩ := dp_tup_inv r
    exact ⟨a, vs, rfl, SqT.of (O.ex _ _ h2), by rw [dps_len h3]; exact h1.1, _, Γ, M, H, k, h1.2, h3, F, O, q⟩
  · exact h1.elim
def dAsg (de : DE) (g : DG) : DS := fun D Γ M => de Γ M fun s M1 => g s Γ M1 D.nx
theorem sim_asg {te : TE} {g : DG} (h : SimE te de) : SimS (tAsg te (LG g)) (dAsg de g) := fun Γ M D σ H Hc E hd F O q =>
  h Γ M _ σ H Hc _ hd F O fun v s M1 H1 Hc1 e1 O1 r1 h1 => ⟨s, Γ, M1, H1, _, h1, r1, F.ex e1, O1, q.nx.ex e1⟩
theorem xs_asg {st : Stmt} {g : DG} (h : PS X st (tAsg (LE de) (LG g))) : XS X st (dAsg de g) := xs_of h (sim_asg simLE)
/-- y = .. -/
theorem xs_asgN {st : Stmt} {te : TE} {i : Nat} (h : PS X st (tAsg te (gName i))) (s : SimE te de) : XS X st (dAsg de (gN i)) := xs_of h fun Γ M D σ H Hc E hd F O q => s Γ M _ σ H Hc _ hd F O fun v s M1 H1 Hc1 e1 O1 r1 h1 => q.nx _ _ M1 H1 Hc1 e1 ((F.ex e1).set r1) O1 h1
/-- o[i] = e: a list of ours -/
def dSetL (de do_ di : DE) : DS := fun D Γ M => de Γ M fun s M1 => do_ Γ M1 fun o M2 => di Γ M2 fun i M3 => ∃ a k xs j, o = .own a ∧ i = .dat (.int k) ∧ M3 a = some (.lst xs) ∧ ixN xs.length k = some j ∧ D.nx Γ (put M3 a (.lst (xs.set j s)))
theorem xs_setL {o i : Expr} {do_ di : DE} {p2 : Pos} (h : PS X (.Assign [.Subscript o i p2] e pos) (tAsg (LE de) (gSub (LE do_) (LE di) rSetL))) : XS X (.Assign [.Subscript o i p2] e pos) (dSetL de do_ di) := xs_of h fun Γ M D σ H Hc E hd F O q => by
  refine simLE Γ M _ σ H Hc _ hd F O fun v s M1 H1 Hc1 e1 O1 r1 h1 => ?_
  refine simLE Γ M1 _ σ H1 Hc1 _ h1 (F.ex e1) O1 fun vo so M2 H2 Hc2 e2 O2 r2 h2 => ?_
  refine simLE Γ M2 _ σ H2 Hc2 _ h2 (F.ex (e1.trans e2)) O2 fun vi si M3 H3 Hc3 e3 O3 r3 h3 => ?_
  obtain ⟨a, k, xs, j, rfl, rfl, hm, hj, hn⟩ := h3
  cases r2
  obtain ⟨hz, vs, g1, g2⟩ := O3.ob _ _ hm
  refine ⟨a, vs, k, j, rfl, dp_int_inv r3, g1, by rw [rps_len g2]; exact hj, ?_⟩
  exact q.nx σ Γ _ H3 _ (e1.trans (e2.trans e3)) (F.ex (e1.trans (e2.trans e3))) (O3.turn (u := .lst _) hm ⟨by rw [List.length_set]; exact hz, _, rfl, rps_set (rp_ex (e2.trans e3) r1) j g2⟩) hn
/-! ### methods of lists of ours -/
def dBM (f : Sl → List Sl → Mem → DK → Prop) (do_ : DE) (das : DA) : DE := fun Γ M k => do_ Γ M fun o M1 => das Γ M1 fun ss M2 => f o ss M2 k
def SimM (K : PySem.W.Frag) (T : String) (r : V → List V → Hp → VK → Prop) (f : Sl → List Sl → Mem → DK → Prop) : Prop := (∀ s ss M k x xs H Hc Q, f s ss M k → Rp H s x → Rps H ss xs → Own H Hc M → On H k Q → r x xs Hc Q)
/-- what f takes is of the type's own -/
def OfTy (T : String) (s : Sl) : Prop := match s with
  | .dat (.list _) => T = "list"
  | .dat (.str _) => T = "str"
  | .own _ => T = "list"
  | _ => False
def dBM' (T : String) (f : Sl → List Sl → Mem → DK → Prop) (do_ : DE) (das : DA) : DE := fun Γ M k => do_ Γ M fun o M1 => (∃ xs, IsL M1 o xs) ∧ das Γ M1 fun ss M2 => f o ss M2 k
theorem xe_bmL {r : V → List V → Hp → VK → Prop} {f : Sl → List Sl → Mem → DK → Prop} {do_ : DE} {ex : Expr} (hf : SimM X.K "list" r f) (h : PE X ex (tBM X.K "list" r (LE do_) (LA das))) : XE X ex (dBM' "list" f do_ das) := xe_of h fun Γ M k σ H Hc Q hd F O q => by
  refine simLE Γ M _ σ H Hc _ hd F O fun v s M1 H1 Hc1 e1 O1 r1 h1 => ?_
  obtain ⟨⟨xs, l⟩, h1⟩ := h1
  obtain ⟨a, vs, rfl, g1, _⟩ := l.at_ O1 r1
  refine ⟨.inl ⟨rfl, vs, SqL.of g1⟩, ?_⟩
  refine simLA Γ M1 _ σ H1 Hc1 _ h1 (F.ex e1) O1 fun ws ss M2 H2 Hc2 e2 O2 r2 h2 => ?_
  exact hf s ss M2 k _ ws H2 Hc2 Q h2 (rp_ex e2 r1) r2 O2 (q.ex (e1.trans e2))
def fApp : Sl → List Sl → Mem → DK → Prop := fun o ss M k => match o, ss with
  | .own a, [s] => ∃ xs, M a = some (.lst xs) ∧ xs.length < 16777216 ∧ k (.dat .none) (put M a (.lst (xs ++ [s])))
  | _, _ => False
theorem sim_app {K : PySem.W.Frag} : SimM K "list" rAppend fApp := by
  intro s ss M k x xs H Hc Q h rx rs O q
  unfold fApp at h
  split at h
  · obtain ⟨ys, hm, hz, h⟩ := h
    obtain ⟨y, rfl, ry⟩ := rps1 rs
    cases rx
    obtain ⟨z, vs, g1, g2⟩ := O.ob _ _ hm
    refine ⟨_, vs, y, rfl, rfl, g1, by rw [rps_len g2, sizeLine_eq]; exact hz, ?_⟩
    exact q _ (.dat .none) _ H _ (Evl.Ex.refl H) (O.turn (u := .lst _) hm ⟨by rw [List.length_append, sizeLine_eq]; exact hz, _, rfl, rps_app g2 (.cons ry .nil)⟩) Dq.non h
  · exact h.elim
/-! ### loops -/
/-- for g in (a list): the word Inv of the turn, what the frame and ours hold -/
def dForL (de : DE) (g : DG) (tb : DS) : DS := fun D Γ M => de Γ M fun s M1 => ∃ xs, IsL M1 s xs ∧ ∃ Inv : Nat → Fm → Mem → Prop, Inv 0 Γ M1 ∧ (∀ i Γ' M', i ≤ xs.length → Inv i Γ' M' → IsL M' s xs) ∧
  (∀ i x Γ' M', xs[i]? = some x → Inv i Γ' M' → g x Γ' M' fun Γ2 M2 => tb { D with nx := Inv (i + 1), ct := Inv (i + 1), bk := D.nx } Γ2 M2) ∧ ∀ Γ' M', Inv xs.length Γ' M' → D.nx Γ' M'
theorem OnD.loop {H : Hp} {D : DEnds} {E : Ends} {I : Fm → Mem → Prop} {P : L2.St → Hp → Prop} (o : OnD H D E) (h : OnF H I P) : OnD H { D with nx := I, ct := I, bk := D.nx } { E with nx := P, ct := P, bk := E.nx } := ⟨h, o.rt, o.nx, h⟩
theorem sim_forL {K : PySem.W.Frag} {te : TE} {g : DG} {tb : TS} (h : SimE te de) (hb : SimS tb d1) : SimS (tFor (iList K te) (LG g) tb) (dForL de g d1) := fun Γ M D σ H Hc E hd F O q => by
  refine h Γ M _ σ H Hc _ hd F O fun v s M1 H1 Hc1 e1 O1 r1 h1 => ?_
  obtain ⟨xs, l, W, w0, wl, ws, wd⟩ := h1
  obtain ⟨a, vs, rfl, g1, g2⟩ := l.at_ O1 r1
  refine ⟨a, rfl, ⟨vs, SqL.of g1⟩, fun i m σ' Hc' => m = xs.length - i ∧ i ≤ xs.length ∧ ∃ Γ' M' H', Ex H1 H' ∧ Fr H' σ' Γ' ∧ Own H' Hc' M' ∧ W i Γ' M', ⟨_, rfl, Nat.zero_le _, Γ, M1, H1, Evl.Ex.refl _, F.ex e1, O1, w0⟩, ?_⟩
  rintro i m σ' Hc' ⟨rfl, hi, Γ', M', H', e2, F2, O2, w⟩
  obtain ⟨a', vs', e3, g3, g4⟩ := (wl i Γ' M' hi w).at_ O2 (rp_ex e2 r1)
  cases e3
  have hl := rps_len g4
  rcases Nat.lt_or_ge i xs.length with hlt | hge
  · obtain ⟨x0, hx0⟩ : ∃ x0, vs'[i]? = some x0 := ⟨vs'[i]'(by omega), List.getElem?_eq_getElem (by omega)⟩
    obtain ⟨sx, hs, rx⟩ := rps_get g4 hx0
    refine .inr ⟨⟨vs', x0, SqL.of g3, hx0⟩, fun σ2 Hc2 => ∃ Γ2 M2 H2, Ex H1 H2 ∧ Fr H2 σ2 Γ2 ∧ Own H2 Hc2 M2 ∧ W (i + 1) Γ2 M2, fun σ2 Hc2 z => ⟨xs.length - (i + 1), by omega, rfl, by omega, z⟩, fun x Hy y => ?_⟩
    obtain ⟨rfl, y⟩ := y
    have ex : x = x0 := Option.some.inj ((y vs' (SqL.of g3)).symm.trans hx0)
    subst ex
    refine ⟨sx, Γ', M', H', _, ws i sx Γ' M' hs w, rx, F2, O2, fun σ2 Γ2 M2 H2 Hc2 e3 F3 O3 h3 => ?_⟩
    refine hb Γ2 M2 _ σ2 H2 Hc2 _ h3 F3 O3 ((q.ex (e1.trans (e2.trans e3))).loop fun σ4 Γ4 M4 H4 Hc4 e4 F4 O4 h4 => ?_)
    exact ⟨Γ4, M4, H4, e2.trans (e3.trans e4), F4, O4, h4⟩
  · have ei : i = xs.length := Nat.le_antisymm hi hge
    subst ei
    exact .inl ⟨⟨vs', SqL.of g3, by omega⟩, q.nx σ' Γ' M' H' Hc' (e1.trans e2) F2 O2 (wd Γ' M' w)⟩
theorem xs_forL {tg : Expr} {g : DG} (h : PS X (.For tg e body [] pos) (tFor (iList X.K (LE de)) (LG g) (LS d1))) : XS X (.For tg e body [] pos) (dForL de g d1) := xs_of h (sim_forL simLE simLS)
end
end DL
namespace DL
open PySem PySem.Spec PyProof.Rows L2
open Evl (Ex)
section
variable {X : Cx} {e a b c : Expr} {es : List Expr} {de da db : DE} {das : DA} {pos p : Pos} {st : Stmt} {rest body : List Stmt} {d1 d2 : DS} {x : Str}
/-! ### for x in range(n), range(a, b) -/
def rg1 (ss : List Sl) : Option (Int × Int) := match ss with
  | [.dat (.int j)] => some (0, j)
  | _ => none
def rg2 (ss : List Sl) : Option (Int × Int) := match ss with
  | [.dat (.int i), .dat (.int j)] => some (i, j)
  | _ => none
def dForR (rgEnds : List Sl → Option (Int × Int)) (da : DA) (g : DG) (tb : DS) : DS := fun D Γ M => da Γ M fun ss M1 => ∃ lo hi, rgEnds ss = some (lo, hi) ∧ (-(2 ^ 62) ≤ lo ∧ lo < 2 ^ 62 ∧ -(2 ^ 62) ≤ hi ∧ hi < 2 ^ 62) ∧ ∃ Inv : Nat → Fm → Mem → Prop, Inv 0 Γ M1 ∧
  (∀ (i : Nat) Γ' M', i < (hi - lo).toNat → Inv i Γ' M' → g (.dat (.int (lo + i))) Γ' M' fun Γ2 M2 => tb { D with nx := Inv (i + 1), ct := Inv (i + 1), bk := D.nx } Γ2 M2) ∧ ∀ Γ' M', Inv (hi - lo).toNat Γ' M' → D.nx Γ' M'
theorem loop_rng {lo : Int} {n : Nat} {g : DG} {tb : TS} (hb : SimS tb d1) {D : DEnds} {E : Ends} {σ : L2.St} {H1 Hc1 : Hp} {Γ : Fm} {M1 : Mem} (F : Fr H1 σ Γ) (O : Own H1 Hc1 M1) (q : OnD H1 D E) (W : Nat → Fm → Mem → Prop) (w0 : W 0 Γ M1)
    (ws : ∀ (i : Nat) Γ' M', i < n → W i Γ' M' → g (.dat (.int (lo + i))) Γ' M' fun Γ2 M2 => d1 { D with nx := W (i + 1), ct := W (i + 1), bk := D.nx } Γ2 M2) (wd : ∀ Γ' M', W n Γ' M' → D.nx Γ' M') :
    ∃ W : Nat → Nat → L2.St → Hp → Prop, (∃ m, W 0 m σ Hc1) ∧ ∀ i m σ H, W i m σ H → ((Itr lo n).stop i H ∧ E.nx σ H) ∨
      ((Itr lo n).go i H ∧ ∃ N : L2.St → Hp → Prop, (∀ σ' H', N σ' H' → ∃ m', m' < m ∧ W (i + 1) m' σ' H') ∧ ∀ x H', (Itr lo n).yld i H x H' → LG g x σ H' fun σ2 H2 => tb { E with nx := N, ct := N, bk := E.nx } σ2 H2) := by
  refine for_range (fun i σ' Hc' => ∃ Γ' M' H', Ex H1 H' ∧ Fr H' σ' Γ' ∧ Own H' Hc' M' ∧ W i Γ' M') ⟨Γ, M1, H1, Evl.Ex.refl _, F, O, w0⟩ ?_ ?_
  · rintro i σ' Hc' hi ⟨Γ', M', H', e2, F2, O2, w⟩
    refine ⟨.dat (.int (lo + i)), Γ', M', H', _, ws i Γ' M' hi w, Dq.int _, F2, O2, fun σ2 Γ2 M2 H2 Hc2 e3 F3 O3 h3 => ?_⟩
    refine hb Γ2 M2 _ σ2 H2 Hc2 _ h3 F3 O3 ((q.ex (e2.trans e3)).loop fun σ4 Γ4 M4 H4 Hc4 e4 F4 O4 h4 => ?_)
    exact ⟨Γ4, M4, H4, e2.trans (e3.trans e4), F4, O4, h4⟩
  · rintro σ' Hc' ⟨Γ', M', H', e2, F2, O2, w⟩
    exact q.nx σ' Γ' M' H' Hc' e2 F2 O2 (wd Γ' M' w)
theorem xs_forR1 {tg a : Expr} {g : DG} {p1 p2 : Pos} (h : PS X (.For tg (.Call (.Name "range" p1) [a] [] p2) body [] pos) (tFor (iRng1 (LA das)) (LG g) (LS d1))) : XS X (.For tg (.Call (.Name "range" p1) [a] [] p2) body [] pos) (dForR rg1 das g d1) := xs_of h fun Γ M D σ H Hc E hd F O q => by
  refine simLA Γ M _ σ H Hc _ hd F O fun vs ss M1 H1 Hc1 e1 O1 r1 h1 => ?_
  obtain ⟨lo, hi, er, hz, W, w0, ws, wd⟩ := h1
  unfold rg1 at er
  split at er
  · cases er
    obtain ⟨v, rfl, rv⟩ := rps1 r1
    refine ⟨hi, by rw [dp_int_inv rv], hz.2.2.1, hz.2.2.2, ?_⟩
    rw [Int.sub_zero] at ws wd
    exact loop_rng simLS (F.ex e1) O1 (q.ex e1) W w0 ws wd
  · cases er
theorem xs_forR2 {tg a b : Expr} {g : DG} {p1 p2 : Pos} (h : PS X (.For tg (.Call (.Name "range" p1) [a, b] [] p2) body [] pos) (tFor (iRng2 (LA das)) (LG g) (LS d1))) : XS X (.For tg (.Call (.Name "range" p1) [a, b] [] p2) body [] pos) (dForR rg2 das g d1) := xs_of h fun Γ M D σ H Hc E hd F O q => by
  refine simLA Γ M _ σ H Hc _ hd F O fun vs ss M1 H1 Hc1 e1 O1 r1 h1 => ?_
  obtain ⟨lo, hi, er, hz, W, w0, ws, wd⟩ := h1
  unfold rg2 at er
  split at er
  · cases er
    obtain ⟨v, u, rfl, rv, ru⟩ := rps2 r1
    exact ⟨lo, hi, by rw [dp_int_inv rv, dp_int_inv ru], hz, loop_rng simLS (F.ex e1) O1 (q.ex e1) W w0 ws wd⟩
  · cases er
/-! ### comprehensions -/
def wipeF (Γ : Fm) : List Nat → Fm
  | [] => Γ
  | v :: vs => (wipeF Γ vs).set v none
theorem Fr.forget {H : Hp} {σ : L2.St} {Γ : Fm} (F : Fr H σ Γ) (i : Nat) : Fr H (σ.set i none) (Γ.set i none) := by
  have key : ∀ (j : Nat) (s : Sl), (Γ.set i none)[j]? = some (some s) → i ≠ j ∧ Γ[j]? = some (some s) := fun j s h => by
    by_cases hj : i = j
    · subst hj
      by_cases hl : i < Γ.length
      · rw [List.getElem?_set_self hl] at h; cases h
      · rw [List.getElem?_eq_none (by rw [List.length_set]; omega)] at h; cases h
    · rw [List.getElem?_set_ne hj] at h
      exact ⟨hj, h⟩
  refine ⟨by rw [List.length_set, List.length_set]; exact F.len, fun j s hl h => ?_, fun j H0 h => F.gh j H0 (key j _ h).2⟩
  obtain ⟨hj, h⟩ := key j s h
  rw [List.length_set] at hl
  rw [List.getElem?_set_ne hj]
  exact F.sl j s hl h
theorem Fr.wipe {H : Hp} {σ : L2.St} {Γ : Fm} (F : Fr H σ Γ) : ∀ vs, Fr H (wipe σ vs) (wipeF Γ vs)
  | [] => F
  | v :: vs => (F.wipe vs).forget v
theorem wipe_none {σ : L2.St} : ∀ {vs : List Nat} {i : Nat}, i ∈ vs → i < σ.length → (wipe σ vs)[i]? = some none
  | v :: vs, i, h, hl => by
    unfold L2.wipe
    by_cases e : v = i
    · subst e
      rw [List.getElem?_set_self (by rw [wipe_length]; exact hl)]
    · rw [List.getElem?_set_ne e]
      rcases List.mem_cons.mp h with z | z
      · exact absurd z.symm e
      · exact wipe_none z hl
theorem wipe_ext {σ τ : L2.St} (vs : List Nat) (hl : σ.length = τ.length) (h : ∀ i, i ∉ vs → σ[i]? = τ[i]?) : wipe σ vs = wipe τ vs := by
  refine List.ext_getElem? fun i => ?_
  by_cases hi : i ∈ vs
  · by_cases hz : i < σ.length
    · rw [wipe_none hi hz, wipe_none hi (hl ▸ hz)]
    · rw [List.getElem?_eq_none (by rw [wipe_length]; omega), List.getElem?_eq_none (by rw [wipe_length]; omega)]
  · rw [wipe_out hi, wipe_out hi, h i hi]
theorem wipe_back {σ : L2.St} {vs : List Nat} {j : Nat} (hj : j ∈ vs) (o : Option V) : wipe ((wipe σ vs).set j o) vs = wipe σ vs := by
  refine wipe_ext vs (by rw [List.length_set, wipe_length]) fun i hi => ?_
  rw [List.getElem?_set_ne (show j ≠ i from fun z => hi (by rw [← z]; exact hj)), wipe_out hi]
/-- one turn: the item's name at j; the list that grows stands at p -/
def lcTurn (p : Addr) (Γ : Fm) (vs : List Nat) (j : Nat) (t : DB) (el : DE) (Nx : Mem → Prop) (x : Sl) (M : Mem) : Prop := t ((wipeF Γ vs).set j (some x)) M fun b M3 =>
  (b = true → el ((wipeF Γ vs).set j (some x)) M3 fun y M4 => ∃ acc, M4 p = some (.lst acc) ∧ acc.length < 16777216 ∧ Nx (put M4 p (.lst (acc ++ [y])))) ∧ (b = false → Nx M3)
def dLcL (de : DE) (j : Nat) (t : DB) (el : DE) (vs : List Nat) : DE := fun Γ M k => de Γ M fun s M1 => ∃ xs, IsL M1 s xs ∧ ∀ p, M1 p = none → ∃ Inv : Nat → Mem → Prop, Inv 0 (put M1 p (.lst [])) ∧ (∀ i M', i ≤ xs.length → Inv i M' → IsL M' s xs) ∧
  (∀ i x M', xs[i]? = some x → Inv i M' → lcTurn p Γ vs j t el (Inv (i + 1)) x M') ∧ ∀ M', Inv xs.length M' → k (.own p) M'
def dLcR (rg : List Sl → Option (Int × Int)) (da : DA) (j : Nat) (t : DB) (el : DE) (vs : List Nat) : DE := fun Γ M k => da Γ M fun ss M1 => ∃ lo hi, rg ss = some (lo, hi) ∧ (-(2 ^ 62) ≤ lo ∧ lo < 2 ^ 62 ∧ -(2 ^ 62) ≤ hi ∧ hi < 2 ^ 62) ∧
  ∀ p, M1 p = none → ∃ Inv : Nat → Mem → Prop, Inv 0 (put M1 p (.lst [])) ∧ (∀ (i : Nat) M', i < (hi - lo).toNat → Inv i M' → lcTurn p Γ vs j t el (Inv (i + 1)) (.dat (.int (lo + i))) M') ∧ ∀ M', Inv (hi - lo).toNat M' → k (.own p) M'
theorem lc_turn {p : Addr} {Γ : Fm} {vs : List Nat} {j : Nat} {t : DB} {el : DE} {tt : TT} {te : TE} (ht : SimB tt t) (hel : SimE te el) (hj : j ∈ vs) {Nx : Mem → Prop} {sx : Sl} {x : V} {M' : Mem} {σ : L2.St} {H1 H' Hc' : Hp} (e2 : Ex H1 H') (rx : Rp H' sx x) (F : Fr H' σ Γ) (O2 : Own H' Hc' M') (h : lcTurn p Γ vs j t el Nx sx M') :
    gName j x (wipe σ vs) Hc' fun σ2 H2 => wipe σ2 vs = wipe σ vs ∧ tt σ2 H2 fun b H3 => if b = true then te σ2 H3 fun y H4 => ∃ acc, H4 p = some (.lst acc) ∧ acc.length < sizeLine ∧ ∃ M5 H5, Ex H1 H5 ∧ Own H5 (upd H4 p (.lst (acc ++ [y]))) M5 ∧ Nx M5 else ∃ M5 H5, Ex H1 H5 ∧ Own H5 H3 M5 ∧ Nx M5 := by
  refine ⟨wipe_back hj _, ?_⟩
  have F2 : Fr H' ((wipe σ vs).set j (some x)) ((wipeF Γ vs).set j (some sx)) := (F.wipe vs).set rx
  refine ht _ M' _ _ H' Hc' _ h F2 O2 fun b M3 H3 Hc3 e3 O3 h3 => ?_
  cases b with
  | true =>
    rw [if_pos rfl]
    refine hel _ M3 _ _ H3 Hc3 _ (h3.1 rfl) (F2.ex e3) O3 fun y sy M4 H4 Hc4 e4 O4 r4 h4 => ?_
    obtain ⟨acc, hm, hz, hn⟩ := h4
    obtain ⟨z, ws, g1, g2⟩ := O4.ob _ _ hm
    refine ⟨ws, g1, by rw [rps_len g2, sizeLine_eq]; exact hz, _, H4, e2.trans (e3.trans e4), O4.turn (u := .lst _) hm ⟨by rw [List.length_append, sizeLine_eq]; exact hz, _, rfl, rps_app g2 (.cons r4 .nil)⟩, hn⟩
  | false =>
    rw [if_neg Bool.false_ne_true]
    exact ⟨M3, H3, e2.trans e3, O3, h3.2 rfl⟩
theorem sim_lcL {K : PySem.W.Frag} {te : TE} {j : Nat} {t : DB} {el : DE} {tt : TT} {tel : TE} {vs : List Nat} (h : SimE te de) (ht : SimB tt t) (hel : SimE tel el) (hj : j ∈ vs) : SimE (tLc (iList K te) (gName j) tt tel vs) (dLcL de j t el vs) := fun Γ M k σ H Hc Q hd F O q => by
  refine h Γ M _ σ H Hc _ hd F O fun v s M1 H1 Hc1 e1 O1 r1 h1 => ?_
  obtain ⟨xs, l, h1⟩ := h1
  obtain ⟨a, ws, rfl, g1, g2⟩ := l.at_ O1 r1
  refine ⟨a, rfl, ⟨ws, SqL.of g1⟩, fun p hp => ?_⟩
  obtain ⟨W, w0, wl, wt, wd⟩ := h1 p (O1.freeM hp)
  refine ⟨fun i m Hc' => m = xs.length - i ∧ i ≤ xs.length ∧ ∃ M' H', Ex H1 H' ∧ Own H' Hc' M' ∧ W i M', ⟨_, rfl, Nat.zero_le _, _, H1, Evl.Ex.refl _, O1.born (u := .lst []) hp ⟨Nat.zero_le _, [], rfl, .nil⟩, w0⟩, ?_⟩
  rintro i m Hc' ⟨rfl, hi, M', H', e2, O2, w⟩
  obtain ⟨a', vs', e3, g3, g4⟩ := (wl i M' hi w).at_ O2 (rp_ex e2 r1)
  cases e3
  have hl := rps_len g4
  rcases Nat.lt_or_ge i xs.length with hlt | hge
  · obtain ⟨x0, hx0⟩ : ∃ x0, vs'[i]? = some x0 := ⟨vs'[i]'(by omega), List.getElem?_eq_getElem (by omega)⟩
    obtain ⟨sx, hs, rx⟩ := rps_get g4 hx0
    refine .inr ⟨⟨vs', x0, SqL.of g3, hx0⟩, fun Hc2 => ∃ M2 H2, Ex H1 H2 ∧ Own H2 Hc2 M2 ∧ W (i + 1) M2, fun Hc2 z => ⟨xs.length - (i + 1), by omega, rfl, by omega, z⟩, fun x Hy y => ?_⟩
    obtain ⟨rfl, y⟩ := y
    have ex : x = x0 := Option.some.inj ((y vs' (SqL.of g3)).symm.trans hx0)
    subst ex
    exact lc_turn ht hel hj e2 rx (F.ex (e1.trans e2)) O2 (wt i sx M' hs w)
  · have ei : i = xs.length := Nat.le_antisymm hi hge
    subst ei
    exact .inl ⟨⟨vs', SqL.of g3, by omega⟩, q _ (.own p) M' H' Hc' (e1.trans e2) O2 rfl (wd M' w)⟩
theorem lc_rngD {lo : Int} {n : Nat} {j : Nat} {t : DB} {el : DE} {tt : TT} {tel : TE} {vs : List Nat} (ht : SimB tt t) (hel : SimE tel el) (hj : j ∈ vs) {p : Addr} {Γ : Fm} {M1 : Mem} {σ : L2.St} {H1 Hc1 : Hp} {Q : VK} {k : DK} (F : Fr H1 σ Γ) (O1 : Own H1 Hc1 M1) (q : On H1 k Q) (hp : Hc1 p = none)
    (W : Nat → Mem → Prop) (w0 : W 0 (put M1 p (.lst []))) (wt : ∀ (i : Nat) M', i < n → W i M' → lcTurn p Γ vs j t el (W (i + 1)) (.dat (.int (lo + i))) M') (wd : ∀ M', W n M' → k (.own p) M') :
    ∃ W : Nat → Nat → Hp → Prop, (∃ m, W 0 m (upd Hc1 p (.lst []))) ∧ ∀ i m H, W i m H → ((Itr lo n).stop i H ∧ Q (.ref p) H) ∨ ((Itr lo n).go i H ∧ ∃ Nx : Hp → Prop, (∀ H', Nx H' → ∃ m', m' < m ∧ W (i + 1) m' H') ∧ ∀ x H', (Itr lo n).yld i H x H' → gName j x (wipe σ vs) H' fun σ2 H2 => wipe σ2 vs = wipe σ vs ∧ tt σ2 H2 fun b H3 =>
      if b = true then tel σ2 H3 fun y H4 => ∃ acc, H4 p = some (.lst acc) ∧ acc.length < sizeLine ∧ Nx (upd H4 p (.lst (acc ++ [y]))) else Nx H3) := by
  refine lc_range (D := p) (fun i Hc' => ∃ M' H', Ex H1 H' ∧ Own H' Hc' M' ∧ W i M') ⟨_, H1, Evl.Ex.refl _, O1.born (u := .lst []) hp ⟨Nat.zero_le _, [], rfl, .nil⟩, w0⟩ ?_ ?_
  · rintro i Hc' hi ⟨M', H', e2, O2, w⟩
    exact lc_turn ht hel hj e2 (sx := .dat (.int (lo + i))) (Dq.int _) (F.ex e2) O2 (wt i M' hi w)
  · rintro Hc' ⟨M', H', e2, O2, w⟩
    exact q _ (.own p) M' H' Hc' e2 O2 rfl (wd M' w)
theorem sim_lcR1 {j : Nat} {t : DB} {el : DE} {tt : TT} {tel : TE} {vs : List Nat} {ta : TA} (h : SimA ta das) (ht : SimB tt t) (hel : SimE tel el) (hj : j ∈ vs) : SimE (tLc (iRng1 ta) (gName j) tt tel vs) (dLcR rg1 das j t el vs) := fun Γ M k σ H Hc Q hd F O q => by
  refine h Γ M _ σ H Hc _ hd F O fun ws ss M1 H1 Hc1 e1 O1 r1 h1 => ?_
  obtain ⟨lo, hi, er, hz, h1⟩ := h1
  unfold rg1 at er
  split at er
  · cases er
    obtain ⟨v, rfl, rv⟩ := rps1 r1
    refine ⟨hi, by rw [dp_int_inv rv], hz.2.2.1, hz.2.2.2, fun p hp => ?_⟩
    obtain ⟨W, w0, wt, wd⟩ := h1 p (O1.freeM hp)
    rw [Int.sub_zero] at wt wd
    exact lc_rngD ht hel hj (F.ex e1) O1 (q.ex e1) hp W w0 wt wd
  · cases er
theorem sim_lcR2 {j : Nat} {t : DB} {el : DE} {tt : TT} {tel : TE} {vs : List Nat} {ta : TA} (h : SimA ta das) (ht : SimB tt t) (hel : SimE tel el) (hj : j ∈ vs) : SimE (tLc (iRng2 ta) (gName j) tt tel vs) (dLcR rg2 das j t el vs) := fun Γ M k σ H Hc Q hd F O q => by
  refine h Γ M _ σ H Hc _ hd F O fun ws ss M1 H1 Hc1 e1 O1 r1 h1 => ?_
  obtain ⟨lo, hi, er, hz, h1⟩ := h1
  unfold rg2 at er
  split at er
  · cases er
    obtain ⟨v, u, rfl, rv, ru⟩ := rps2 r1
    refine ⟨lo, hi, by rw [dp_int_inv rv, dp_int_inv ru], hz, fun p hp => ?_⟩
    obtain ⟨W, w0, wt, wd⟩ := h1 p (O1.freeM hp)
    exact lc_rngD ht hel hj (F.ex e1) O1 (q.ex e1) hp W w0 wt wd
  · cases er
def dYes : DB := fun _ M k => k true M
theorem sim_yes : SimB tYes dYes := fun Γ M k σ H Hc Q h F O q => q true M H Hc (Evl.Ex.refl H) O h
abbrev XTs (X : Cx) (ifs : List Expr) (t : DB) : Prop := PTs X ifs (LB t)
theorem xts_nil : XTs X [] dYes := ⟨fun pins s σ Hc Q I ⟨Γ, M, H, k, hd, F, O, q⟩ => pts_nil.run pins s σ Hc Q I (sim_yes Γ M k σ H Hc Q hd F O q)⟩
theorem xts_one {c : Expr} {t : DB} (h : XB X c t) : XTs X [c] t := pts_one h
theorem xe_lcL {ex : Expr} {j : Nat} {t : DB} {el : DE} {vs : List Nat} (h : PE X ex (tLc (iList X.K (LE de)) (gName j) (LB t) (LE el) vs)) (hj : j ∈ vs) : XE X ex (dLcL de j t el vs) := xe_of h (sim_lcL simLE simLB simLE hj)
theorem xe_lcR1 {ex : Expr} {j : Nat} {t : DB} {el : DE} {vs : List Nat} (h : PE X ex (tLc (iRng1 (LA das)) (gName j) (LB t) (LE el) vs)) (hj : j ∈ vs) : XE X ex (dLcR rg1 das j t el vs) := xe_of h (sim_lcR1 simLA simLB simLE hj)
theorem xe_lcR2 {ex : Expr} {j : Nat} {t : DB} {el : DE} {vs : List Nat} (h : PE X ex (tLc (iRng2 (LA das)) (gName j) (LB t) (LE el) vs)) (hj : j ∈ vs) : XE X ex (dLcR rg2 das j t el vs) := xe_of h (sim_lcR2 simLA simLB simLE hj)
/-- what was ours is given away -/
def dFz (de : DE) : DE := fun Γ M k => de Γ M fun s M1 => match s with
  | .own a => ∃ ds, M1 a = some (.lst (ds.map .dat)) ∧ k (.dat (.list ds)) (del M1 a)
  | s => k s M1
theorem xe_fz (h : XE X e de) : XE X e (dFz de) := xe_of h fun Γ M k σ H Hc Q hd F O q => simLE Γ M _ σ H Hc _ hd F O fun v s M1 H1 Hc1 e1 O1 r1 h1 => by
  split at h1
  · obtain ⟨ds, hm, h1⟩ := h1
    obtain ⟨H2, e2, O2, r2⟩ := O1.freeze hm
    cases r1
    exact q _ (.dat (.list ds)) _ H2 Hc1 (e1.trans e2) O2 r2 h1
  · exact q _ _ _ _ _ e1 O1 r1 h1
/-- x = e, given away at once -/
def dFzS (i : Nat) (ds : DS) : DS := fun D Γ M => ds { D with nx := fun Γ1 M1 => ∃ a es, Γ1[i]? = some (some (.own a)) ∧ M1 a = some (.lst (es.map .dat)) ∧ D.nx (Γ1.set i (some (.dat (.list es)))) (del M1 a) } Γ M
/-- the lengths of the frames are the names' -/
theorem xs_len {ds : DS} (h : ∀ pins s σ Hc E, L2.Inv X pins σ Hc s → σ.length = X.N.length → LS ds E σ Hc → ∃ t : TS, PS X st t ∧ t { nx := fun σ' H' => σ'.length = X.N.length → E.nx σ' H', rt := E.rt, bk := fun σ' H' => σ'.length = X.N.length → E.bk σ' H', ct := fun σ' H' => σ'.length = X.N.length → E.ct σ' H' } σ Hc) : XS X st ds :=
  ⟨fun pins s σ Hc E I hd => by
    obtain ⟨t, ht, q⟩ := h pins s σ Hc E I I.len hd
    refine wpAny_mono (ht.run pins s σ Hc _ I q) (fun fl s' hs => ?_) fun _ _ z => z
    match fl, hs with
    | .next, ⟨σ', H', J, q⟩ => exact ⟨σ', H', J, q J.len⟩
    | .ret u, ⟨v, σ', H', J, r, q⟩ => exact ⟨v, σ', H', J, r, q⟩
    | .brk, ⟨σ', H', J, q⟩ => exact ⟨σ', H', J, q J.len⟩
    | .cont, ⟨σ', H', J, q⟩ => exact ⟨σ', H', J, q J.len⟩⟩
theorem xs_fz {i : Nat} {xn : Str} (h : XS X st d1) (hN : X.N[i]? = some xn := by rfl) : XS X st (dFzS i d1) := xs_len fun pins s σ Hc E I hl ⟨Γ, M, H, D, hd, F, O, q⟩ => ⟨_, h, Γ, M, H, _, hd, F, O, ⟨fun σ' Γ' M' H' Hc' e1 F1 O1 h1 hl' => by
  obtain ⟨a, es, g1, g2, g3⟩ := h1
  obtain ⟨v, v1, v2⟩ := F1.sl i _ (by rw [hl']; exact (List.getElem?_eq_some_iff.mp hN).1) g1
  cases v2
  obtain ⟨H2, e2, O2, r2⟩ := O1.freeze g2
  have F2 : Fr H2 (σ'.set i (some (.ref a))) (Γ'.set i (some (.dat (.list es)))) := (F1.ex e2).set r2
  have same : σ'.set i (some (.ref a)) = σ' := by
    refine List.ext_getElem? fun j => ?_
    by_cases hj : i = j
    · subst hj
      rw [v1, List.getElem?_set_self (List.getElem?_eq_some_iff.mp v1).1]
    · rw [List.getElem?_set_ne hj]
  rw [same] at F2
  exact q.nx σ' _ _ H2 Hc' (e1.trans e2) F2 O2 g3, q.rt, fun σ' Γ' M' H' Hc' e1 F1 O1 h1 _ => q.bk σ' Γ' M' H' Hc' e1 F1 O1 h1, fun σ' Γ' M' H' Hc' e1 F1 O1 h1 _ => q.ct σ' Γ' M' H' Hc' e1 F1 O1 h1⟩⟩
/-! ### all, is, sorted of whole numbers, [::-1] -/
def boolsD : List Sl → Option (List Bool)
  | [] => some []
  | .dat (.bool b) :: ds => (boolsD ds).map (b :: ·)
  | _ => none
theorem boolsD_rps {H : Hp} : ∀ {ss : List Sl} {bs : List Bool} {vs : List V}, boolsD ss = some bs → Rps H ss vs → vs = bs.map V.bl
  | [], bs, _, h, .nil => by cases h; rfl
  | .dat (.bool b) :: ss, bs, _, h, .cons r t => by
    unfold boolsD at h
    cases e : boolsD ss with
    | none => rw [e] at h; cases h
    | some cs =>
      rw [e] at h
      cases h
      rw [dp_bl_inv r, boolsD_rps e t]
      rfl
def fAll : DC := fun ss M k => match ss with
  | [.own a] => ∃ xs bs, M a = some (.lst xs) ∧ boolsD xs = some bs ∧ k (.dat (.bool (bs.all id))) (del M a)
  | [.dat (.list ds)] => ∃ bs, boolsD (ds.map .dat) = some bs ∧ k (.dat (.bool (bs.all id))) M
  | _ => False
def fAny : DC := fun ss M k => match ss with
  | [.own a] => ∃ xs bs, M a = some (.lst xs) ∧ boolsD xs = some bs ∧ k (.dat (.bool (bs.any id))) (del M a)
  | [.dat (.list ds)] => ∃ bs, boolsD (ds.map .dat) = some bs ∧ k (.dat (.bool (bs.any id))) M
  | _ => False
theorem sim_all {K : PySem.W.Frag} : SimC (rAll K) fAll := by
  intro ss M k xs H Hc Q h r O q
  unfold fAll at h
  split at h
  · obtain ⟨x, rfl, rx⟩ := rps1 r
    obtain ⟨ys, bs, hm, eb, h⟩ := h
    obtain ⟨a, vs, rfl, g1, g2⟩ := (IsL.own hm).at_ O rx
    exact ⟨a, bs, rfl, by rw [← boolsD_rps eb g2]; exact SqL.of g1, q.dat O.drop (.bl _) h⟩
  · obtain ⟨x, rfl, rx⟩ := rps1 r
    obtain ⟨bs, eb, h⟩ := h
    obtain ⟨a, vs, rfl, g1, g2⟩ := IsL.dat.at_ O rx
    exact ⟨a, bs, rfl, by rw [← boolsD_rps eb g2]; exact SqL.of g1, q.dat O (.bl _) h⟩
  · exact h.elim
theorem sim_any {K : PySem.W.Frag} : SimC (rAny K) fAny := by
  intro ss M k xs H Hc Q h r O q
  unfold fAny at h
  split at h
  · obtain ⟨x, rfl, rx⟩ := rps1 r
    obtain ⟨ys, bs, hm, eb, h⟩ := h
    obtain ⟨a, vs, rfl, g1, g2⟩ := (IsL.own hm).at_ O rx
    exact ⟨a, bs, rfl, by rw [← boolsD_rps eb g2]; exact SqL.of g1, q.dat O.drop (.bl _) h⟩
  · obtain ⟨x, rfl, rx⟩ := rps1 r
    obtain ⟨bs, eb, h⟩ := h
    obtain ⟨a, vs, rfl, g1, g2⟩ := IsL.dat.at_ O rx
    exact ⟨a, bs, rfl, by rw [← boolsD_rps eb g2]; exact SqL.of g1, q.dat O (.bl _) h⟩
  · exact h.elim
def isNoD : Dt → Bool
  | .none => true
  | _ => false
/-- x is y: of truths; of anything and None -/
def fIs (neg : Bool) : D2 := fun s t M k => match s, t with
  | .dat (.bool a), .dat (.bool b) => k (.dat (.bool (if neg = true then !decide (a = b) else decide (a = b)))) M
  | .dat d, .dat .none => k (.dat (.bool (if neg = true then !isNoD d else isNoD d))) M
  | .own _, .dat .none => k (.dat (.bool neg)) M
  | _, _ => False
theorem isNo_eq {H : Hp} {x : V} {d : Dt} (r : Dq H x d) : decide (x = V.non) = isNoD d := by
  cases r <;> simp [isNoD]
abbrev rIsA : R2 := fun x y H Q => (rIsB x y H Q) ∨ (y = .non ∧ Q (.bl (decide (x = .non))) H)
abbrev rNotA : R2 := fun x y H Q => (rNotB x y H Q) ∨ (y = .non ∧ Q (.bl (!decide (x = .non))) H)
theorem sim_is : Sim2 rIsA (fIs false) := by
  intro s t M k x y H Hc Q h rx ry O q
  unfold fIs at h
  split at h
  · exact .inl ⟨_, _, dp_bl_inv rx, dp_bl_inv ry, q.dat O (.bl _) h⟩
  · refine .inr ⟨dp_non_inv ry, ?_⟩
    rw [isNo_eq rx]
    exact q.dat O (.bl _) h
  · refine .inr ⟨dp_non_inv ry, ?_⟩
    cases rx
    rw [decide_eq_false (fun z => nomatch z)]
    exact q.dat O (.bl _) h
  · exact h.elim
theorem sim_isnot : Sim2 rNotA (fIs true) := by
  intro s t M k x y H Hc Q h rx ry O q
  unfold fIs at h
  split at h
  · exact .inl ⟨_, _, dp_bl_inv rx, dp_bl_inv ry, q.dat O (.bl _) h⟩
  · refine .inr ⟨dp_non_inv ry, ?_⟩
    rw [isNo_eq rx]
    exact q.dat O (.bl _) h
  · refine .inr ⟨dp_non_inv ry, ?_⟩
    cases rx
    rw [decide_eq_false (fun z => nomatch z)]
    exact q.dat O (.bl _) h
  · exact h.elim
theorem xe_is (ha : XE X a da) (hb : XE X b db) : XE X (.Compare a [.Is] [b] pos) (dOp (fIs false) da db) := xe_cmp (OpR.or op_isBl op_isN) (nomark _) sim_is ha hb
theorem xe_isnot (ha : XE X a da) (hb : XE X b db) : XE X (.Compare a [.IsNot] [b] pos) (dOp (fIs true) da db) := xe_cmp (OpR.or op_notBl op_notN) (nomark _) sim_isnot ha hb
/-- -n -/
def dNeg (de : DE) : DE := fun Γ M k => de Γ M fun s M1 => match s with
  | .dat (.int i) => k (.dat (.int (-i))) M1
  | _ => False
theorem xe_neg (ha : XE X a da) : XE X (.UnaryOp .USub a pos) (dNeg da) := xe_of (pe_un un_neg ha) fun Γ M k σ H Hc Q hd F O q => simLE Γ M _ σ H Hc _ hd F O fun v s M1 H1 Hc1 e1 O1 r1 h1 => by
  split at h1
  · exact ⟨_, dp_int_inv r1, (q.ex e1).dat O1 (.int _) h1⟩
  · exact h1.elim
/-- abs(n) -/
def fAbs : DC := fun ss M k => match ss with
  | [.dat (.int i)] => k (.dat (.int (if i < 0 then -i else i))) M
  | _ => False
theorem sim_abs : SimC (fun xs H Q => ∃ i, xs = [.int i] ∧ Q (.int (if i < 0 then -i else i)) H) fAbs := by
  intro ss M k xs H Hc Q h r O q
  unfold fAbs at h
  split at h
  · obtain ⟨x, rfl, rx⟩ := rps1 r
    exact ⟨_, by rw [dp_int_inv rx], q.dat O (.int _) h⟩
  · exact h.elim
/-- the script's cells -/
def fSlS (K : PySem.W.Frag) : D3 := fun s lo hi M k => match s with
  | .fix (.scr K' xs) => K' = K ∧ k (.dat (.list ((cut xs lo hi).map .int))) M
  | _ => False
theorem dqs_int {H : Hp} : ∀ ns : List Int, DqAll H (ns.map V.int) (ns.map PyData.int)
  | [] => .nil
  | n :: ns => .cons (.int n) (dqs_int ns)
theorem xe_slS {lo hi : Option Expr} {dl dh : DO} {p2 : Pos} {K : PySem.W.Frag} (hK : X.K = K) (he : XE X e de) (hl : XO X lo dl) (hu : XO X hi dh) : XE X (.Subscript e (.Slice lo hi none p2) pos) (dSl (fSlS K) de dl dh) := xe_slF (f := fSlS K) (by
  subst hK
  intro s lo hi M k x H Hc Q h rx O q
  unfold fSlS at h
  split at h
  · rename_i K' ns
    obtain ⟨rfl, h⟩ := h
    obtain ⟨a, rfl, hs⟩ := rx
    refine .inr (.inr ⟨a, _, rfl, Evl.ex_l O.ex hs, fun p hp => ?_⟩)
    have e : cutV (ns.map V.int) lo hi = (cut ns lo hi).map V.int := by
      unfold cutV cut
      rw [List.length_map, List.map_take, List.map_drop]
    rw [e]
    exact q.lst O (dqs_int _) hp h
  · exact h.elim) he hl hu
end
end DL
namespace DL
open PySem PySem.Spec PyProof.Rows L2
open Evl (Ex)
/-- what a law promises: of its script True, and nothing that is ours is left to tell -/
def prLaw (K : PySem.W.Frag) : Pr := fun ss _ q => ∃ ns, ss = [.scr K ns] ∧ ns.length ≤ 63 ∧ ∀ M', q (.dat (.bool true)) M'
section
variable {P : Program} {w : World} {K : PySem.W.Frag} {mg mb : Str → Option Value} {k : Nat} {fa a : Addr} {fd : FuncData} {x : Str} {s : Shared} {vs : List Value} {ns : List Int}
/-- the script, tracked as what stands still -/
def scrH (a : Addr) (vs : List Value) (ns : List Int) : Hp := fun b => if b = a then some (.frz { cls := .type "list", data := .seq vs.toArray } (.lst (ns.map V.int))) else none
theorem scrH_at {a : Addr} {vs : List Value} {ns : List Int} : scrH a vs ns a = some (.frz { cls := .type "list", data := .seq vs.toArray } (.lst (ns.map V.int))) := if_pos rfl
theorem scrH_ne {a b : Addr} {vs : List Value} {ns : List Int} (h : b ≠ a) : scrH a vs ns b = none := if_neg h
/-- the run of a law from an abstract heap in which the script alone may stand -/
theorem law_run {H : Hp} (KX : K.In s.heap) (hns : s.heap.Ns mainGlobals mg) (hb : s.heap.Ns builtinsNs mb) (hbb : ∀ x : Str, x ≠ "__name__" → mb x = bootBuiltins x) (lim : s.heap.NoLimit) (hg : s.gens = #[]) (ha : s.heap.get? a = some { cls := .type "list", data := .seq vs.toArray })
    (hr : Room k callerA) (F : ∀ base : Heap, K.In base → base.Ns mainGlobals mg → Holds P w K mg base k fa fd [x] (prLaw K)) (bind : ∀ (s : Shared) (u : Value), BindsTo s fd ⟨[u], []⟩ [(x, u)]) (hl : ns.length ≤ 63)
    (hS : SqL K H a (ns.map V.int)) (hok : HOk P w H s.heap) (only : ∀ b u, H b = some u → b = a ∧ (∃ o z, u = .frz o z) ∧ K.lookup a = none) :
    codeAny (model P w) callerA (.call (.ref fa) ⟨[.ref a], []⟩) (fun r s' => r = .ok (.ret (.bool true)) ∧ OldK s.heap s'.heap ∧ s'.os = s.os ∧ AllBare s'.gens) s := by
  have keep : ∀ {b : Addr} {o : Obj}, s.heap.get? b = some o → H b = none → (hidT s.heap H).get? b = some o := fun h n => hidT_get h n
  have notS : ∀ {b : Addr} {o : Obj} {es : Array DictEntry} {ep : Nat}, s.heap.get? b = some o → o.data = .dict es ep → H b = none := by
    intro b o es ep h1 h2
    cases z : H b with
    | none => rfl
    | some u =>
      obtain ⟨rfl, _, _⟩ := only b u z
      rw [ha] at h1
      cases h1
      cases h2
  have dicts : ∀ {b : Addr} {m : Str → Option Value}, s.heap.Ns b m → (hidT s.heap H).Ns b m := by
    rintro b m ⟨o, es, ep, h1, h2, r⟩
    exact ⟨o, es, ep, keep h1 (notS h1 h2), h2, r⟩
  have KB : K.In (hidT s.heap H) := fun b o h1 => keep (KX b o h1) (by
    cases z : H b with
    | none => rfl
    | some u =>
      obtain ⟨rfl, _, h2⟩ := only b u z
      rw [h2] at h1
      cases h1)
  have md : Mod K mg (hidT s.heap H) := by
    obtain ⟨mc, c1, c2⟩ := lim
    exact ⟨KB, dicts hns, ⟨mb, dicts hb, hbb⟩, ⟨mc, dicts c1, c2⟩⟩
  have at0 : Env0 P w K mg (hidT s.heap H) callerA [] s H := { frames := rfl, mod := md, bs := fun b o z => of_hidT z, bsz := Nat.le_of_eq (hidT_size _ _), funs := trivial, frf := (fun b z => (nomatch z)), hok := hok, bare := .of_eq hg }
  have G := F _ KB (dicts hns)
  refine codeAny_mono (G.go callerA [] s H ⟨[.ref a], []⟩ [.ref a] [.ref a] [.scr K ns] (fun _ => none) H (fun t _ => t = .dat (.bool true)) (fun v _ => v = .bl true) ⟨hr, rfl⟩ at0 (bind s (.ref a)) (.cons rfl .nil) (.cons ⟨a, rfl, hS⟩ .nil)
    ⟨Evl.Ex.refl H, (fun _ _ z => (nomatch z)), (fun _ _ z => (nomatch z))⟩ ⟨ns, rfl, hl, fun _ => rfl⟩ (fun v t M' H' Hc' _ _ r z => by subst z; exact dp_bl_inv r)) fun r s' h => ?_
  match r, h with
  | .ok (.ret u), ⟨v, H', os, bare, un, hok', rv, hv⟩ =>
    subst hv
    cases (show u = Value.bool true from rv)
    refine ⟨rfl, OldK.of_keep fun b o h1 => ?_, os, bare⟩
    cases z : H b with
    | none => exact un.keep b o h1 z (fun y => (nomatch y)) (fun y => (nomatch y))
    | some u =>
      obtain ⟨rfl, ⟨o', z', rfl⟩, _⟩ := only b u z
      have h2 := un.frzs b _ _ z
      have q1 := (hok b _ z).1
      have q2 := (hok' b _ h2).1
      rw [h1] at q1
      cases q1
      exact q2
/-- the goal that k_head leaves -/
theorem walk_law {l : PySem.W.OpenLaw} {q : Program} {loose : List Str} {XP : (Str → Option Value) → Heap → Prop} {YP : World → Heap → Prop} {d : DefRec} {K : Params → PySem.W.Frag}
    (hn : l.most = some 63) (hdf : d.params.defaults = []) (hr : Room k callerA) (hY : ∀ (w : World) (h : Heap), YP w h → (K w.params).In h)
    (F : ∀ (w : World) (mg : Str → Option Value) (fa : Addr) (h : Heap), (K w.params).In h → h.Ns mainGlobals mg → mg d.name = some (.ref fa) →
      ∃ fd : FuncData, (∀ (s : Shared) (u : Value), BindsTo s fd ⟨[u], []⟩ [(x, u)]) ∧ ∀ base : Heap, (K w.params).In base → base.Ns mainGlobals mg → Holds l.prog w (K w.params) mg base k fa fd [x] (prLaw (K w.params))) :
    PySem.W.WalkO q loose XP YP l.row.toRowW d [] (fun f vs => PySem.call f vs) := by
  refine Att.attach_call hn hdf fun w s₀ s₁ mg mb fa o pm cd doc a vs ns G Y ho hd hcd hmg hobj hints hlen hg => ?_
  have KX := hY w _ Y
  obtain ⟨fd, bind, hF⟩ := F w mg fa _ KX G.T.g hmg
  cases hk : (K w.params).lookup a with
  | some o' =>
    have e := KX a o' hk
    rw [hobj] at e
    cases e
    refine law_run (H := fun _ => none) KX G.T.g G.T.b G.T.builtins G.T.nolimit hg hobj hr hF bind hlen (.inr ⟨_, vs.toArray, _, hk, rfl, rfl, rfl, ?_, by simpa using vals_ints hints⟩) (fun b u z => (nomatch z)) (fun b u z => (nomatch z))
    rw [List.size_toArray, hints.length, sizeLine_eq]
    omega
  | none =>
    refine law_run (H := scrH a vs ns) KX G.T.g G.T.b G.T.builtins G.T.nolimit hg hobj hr hF bind hlen (.inl (.inr ⟨_, scrH_at⟩)) (fun b u z => ?_) fun b u z => ?_
    · by_cases hb : b = a
      · subst hb
        rw [scrH_at] at z
        cases z
        exact ⟨hobj, by rw [List.length_map, sizeLine_eq]; omega, vs, _, vals_ints hints, hobj⟩
      · rw [scrH_ne hb] at z
        cases z
    · by_cases hb : b = a
      · subst hb
        rw [scrH_at] at z
        cases z
        exact ⟨rfl, ⟨_, _, rfl⟩, hk⟩
      · rw [scrH_ne hb] at z
        cases z
end
end DL
namespace DL
open PySem PySem.Spec PyProof.Rows L2
open Evl (Ex)
theorem IsL.put {M : Mem} {s : Sl} {xs : List Sl} {p : Addr} {o : MO} (l : IsL M s xs) (h : M p = none) : IsL (put M p o) s xs := by
  rcases l with ⟨ds, rfl, rfl⟩ | ⟨a, rfl, e⟩
  · exact .dat
  · exact .own ((put_ne (ne_mem e h)).trans e)
/-- a comprehension whose element is a function of the item -/
theorem lc_map {s : Sl} {xs : List Sl} {M1 : Mem} {Γ : Fm} {vs : List Nat} {j : Nat} {el : DE} {K : Addr → Mem → Prop} (f : Sl → Sl) (l : IsL M1 s xs) (hz : xs.length < 16777216)
    (he : ∀ x ∈ xs, ∀ (M' : Mem) (k' : DK), k' (f x) M' → el ((wipeF Γ vs).set j (some x)) M' k') (hk : ∀ p, M1 p = none → K p (put M1 p (.lst (xs.map f)))) :
    ∃ xs, IsL M1 s xs ∧ ∀ p, M1 p = none → ∃ Inv : Nat → Mem → Prop, Inv 0 (put M1 p (.lst [])) ∧ (∀ i M', i ≤ xs.length → Inv i M' → IsL M' s xs) ∧
      (∀ i x M', xs[i]? = some x → Inv i M' → lcTurn p Γ vs j dYes el (Inv (i + 1)) x M') ∧ ∀ M', Inv xs.length M' → K p M' := by
  refine ⟨xs, l, fun p hp => ⟨fun i M' => M' = put M1 p (.lst ((xs.take i).map f)), rfl, fun i M' _ e => by rw [e]; exact l.put hp, fun i x M' hx e => ?_, fun M' e => by rw [e, List.take_length]; exact hk p hp⟩⟩
  subst e
  refine ⟨fun _ => he x (List.mem_of_getElem? hx) _ _ ?_, fun z => nomatch z⟩
  have hi : i < xs.length := (List.getElem?_eq_some_iff.mp hx).1
  refine ⟨_, put_at, by rw [List.length_map, List.length_take]; omega, ?_⟩
  show put (put M1 p (.lst ((xs.take i).map f))) p (.lst ((xs.take i).map f ++ [f x])) = put M1 p (.lst ((xs.take (i + 1)).map f))
  rw [put_put, List.take_add_one, hx]
  simp
theorem boolsD_map {α : Type} (g : α → Bool) : ∀ xs : List α, boolsD (xs.map fun x => Sl.dat (.bool (g x))) = some (xs.map g)
  | [] => rfl
  | x :: xs => by
    show (boolsD (xs.map fun x => Sl.dat (.bool (g x)))).map (g x :: ·) = _
    rw [boolsD_map g xs] <;> rfl
theorem not_t {b : Bool} (h : (!b) = true) : b = false := by cases b <;> simp_all
theorem not_f {b : Bool} (h : (!b) = false) : b = true := by cases b <;> simp_all
theorem isi_int (d : Dt) : isiD "int" d = match d with | .int _ => true | .bool _ => true | _ => false := by cases d <;> rfl
theorem isi_bool (d : Dt) : isiD "bool" d = match d with | .bool _ => true | _ => false := by cases d <;> rfl
theorem isi_tuple (d : Dt) : isiD "tuple" d = match d with | .tuple _ => true | _ => false := by cases d <;> rfl
/-! ### over a tuple -/
section
variable {X : Cx} {de : DE} {das : DA} {d1 : DS} {body : List Stmt} {pos : Pos} {e : Expr}
def dLcT (de : DE) (j : Nat) (t : DB) (el : DE) (vs : List Nat) : DE := fun Γ M k => de Γ M fun s M1 => ∃ ds, s = .dat (.tuple ds) ∧ ∀ p, M1 p = none → ∃ Inv : Nat → Mem → Prop, Inv 0 (put M1 p (.lst [])) ∧
  (∀ i x M', ds[i]? = some x → Inv i M' → lcTurn p Γ vs j t el (Inv (i + 1)) (.dat x) M') ∧ ∀ M', Inv ds.length M' → k (.own p) M'
theorem dps_get {H : Hp} : ∀ {ds : List Dt} {vs : List V} {i : Nat} {v : V}, DqAll H vs ds → vs[i]? = some v → ∃ d, ds[i]? = some d ∧ Dq H v d
  | [], _, _, _, .nil, h => by simp at h
  | d :: ds, _, 0, _, .cons r _, h => by simp at h; subst h; exact ⟨_, rfl, r⟩
  | d :: ds, _, i + 1, v, .cons _ t, h => by
    obtain ⟨u, h1, h2⟩ := dps_get (i := i) (v := v) t (by simpa using h)
    exact ⟨u, by simpa using h1, h2⟩
theorem sim_lcT {K : PySem.W.Frag} {te : TE} {j : Nat} {t : DB} {el : DE} {tt : TT} {tel : TE} {vs : List Nat} (h : SimE te de) (ht : SimB tt t) (hel : SimE tel el) (hj : j ∈ vs) : SimE (tLc (iTup K te) (gName j) tt tel vs) (dLcT de j t el vs) := fun Γ M k σ H Hc Q hd F O q => by
  refine h Γ M _ σ H Hc _ hd F O fun v s M1 H1 Hc1 e1 O1 r1 h1 => ?_
  obtain ⟨ds, rfl, h1⟩ := h1
  obtain ⟨a, ws, rfl, g1, g2⟩ := dp_tup_inv r1
  have hl := dps_len g2
  refine ⟨a, rfl, ⟨ws, SqT.of (O1.ex _ _ g1)⟩, fun p hp => ?_⟩
  obtain ⟨W, w0, wt, wd⟩ := h1 p (O1.freeM hp)
  refine lc_tup (xs := ws) (fun i Hc' => ∃ M' H', Ex H1 H' ∧ Own H' Hc' M' ∧ W i M') ⟨_, H1, Evl.Ex.refl _, O1.born (u := .lst []) hp ⟨Nat.zero_le _, [], rfl, .nil⟩, w0⟩ ?_ ?_ ?_
  · rintro i Hc' hi ⟨M', H', e2, O2, w⟩
    exact SqT.of (O2.ex _ _ (e2 _ _ g1))
  · rintro i x Hc' hx ⟨M', H', e2, O2, w⟩
    obtain ⟨d, hd', rd⟩ := dps_get g2 hx
    exact lc_turn ht hel hj e2 (sx := .dat d) (dp_ex e2 rd) (F.ex (e1.trans e2)) O2 (wt i d M' hd' w)
  · rintro Hc' ⟨M', H', e2, O2, w⟩
    rw [hl] at w
    exact q _ (.own p) M' H' Hc' (e1.trans e2) O2 rfl (wd M' w)
theorem xe_lcT {ex : Expr} {j : Nat} {t : DB} {el : DE} {vs : List Nat} (h : PE X ex (tLc (iTup X.K (LE de)) (gName j) (LB t) (LE el) vs)) (hj : j ∈ vs) : XE X ex (dLcT de j t el vs) := xe_of h (sim_lcT simLE simLB simLE hj)
/-- a comprehension over a tuple whose element is a function of the item -/
theorem lc_mapT {ds : List Dt} {M1 : Mem} {Γ : Fm} {vs : List Nat} {j : Nat} {el : DE} {K : Addr → Mem → Prop} (f : Dt → Sl) (hz : ds.length < 16777216)
    (he : ∀ x ∈ ds, ∀ (M' : Mem) (k' : DK), k' (f x) M' → el ((wipeF Γ vs).set j (some (.dat x))) M' k') (hk : ∀ p, M1 p = none → K p (put M1 p (.lst (ds.map f)))) :
    ∃ es, Sl.dat (.tuple ds) = .dat (.tuple es) ∧ ∀ p, M1 p = none → ∃ Inv : Nat → Mem → Prop, Inv 0 (put M1 p (.lst [])) ∧
      (∀ i x M', es[i]? = some x → Inv i M' → lcTurn p Γ vs j dYes el (Inv (i + 1)) (.dat x) M') ∧ ∀ M', Inv es.length M' → K p M' := by
  refine ⟨ds, rfl, fun p hp => ⟨fun i M' => M' = put M1 p (.lst ((ds.take i).map f)), rfl, fun i x M' hx e => ?_, fun M' e => by rw [e, List.take_length]; exact hk p hp⟩⟩
  subst e
  refine ⟨fun _ => he x (List.mem_of_getElem? hx) _ _ ?_, fun z => nomatch z⟩
  have hi : i < ds.length := (List.getElem?_eq_some_iff.mp hx).1
  refine ⟨_, put_at, by rw [List.length_map, List.length_take]; omega, ?_⟩
  show put (put M1 p (.lst ((ds.take i).map f))) p (.lst ((ds.take i).map f ++ [f x])) = put M1 p (.lst ((ds.take (i + 1)).map f))
  rw [put_put, List.take_add_one, hx]
  simp
/-- t[::-1], xs[::-1] -/
def dRev (de : DE) : DE := fun Γ M k => de Γ M fun s M1 => match s with
  | .dat (.tuple ds) => k (.dat (.tuple ds.reverse)) M1
  | .dat (.list ds) => k (.dat (.list ds.reverse)) M1
  | .own a => ∃ ds : List Dt, M1 a = some (.lst (ds.map .dat)) ∧ k (.dat (.list ds.reverse)) M1
  | _ => False
end
end DL
namespace DL
open PySem PySem.Spec PyProof.Rows L2 HT
open Evl (Ex)
section
variable {prog : Program} {w : World} {A : Around} {E : Value → Shared → Prop} {s : Shared}
theorem back_bounds (n : Nat) : Builtin.Slice.sliceAdjust none none (-1) (n : Int) = ((n : Int) - 1, -1) := by
  unfold Builtin.Slice.sliceAdjust
  simp
theorem back_places (n : Nat) : Builtin.Slice.slicePlaces ((n : Int) - 1) (-1) (-1) = n := by
  unfold Builtin.Slice.slicePlaces
  simp
  try omega
theorem back_applied {sl : Addr} {vl vu vs : Value} {n : Nat} {Q : Int × Int × Nat → Shared → Prop} (hs : s.heap.IsSliceOf sl vl vu vs) (pl : IsPart vl none) (pu : IsPart vu none) (ps : IsPart vs (some (-1))) (h : Q ((n : Int) - 1, -1, n) s) :
    wpAny (model prog w) A (Builtin.Slice.sliceApplied (.ref sl) (pure (n : Int))) Q E s := by
  obtain ⟨os, h1, h2, h3⟩ := id hs
  unfold Builtin.Slice.sliceApplied Builtin.Slice.sliceFields
  refine wpAny_bind (wpAny_bind (wpAny_field h1 h3 (x := vl) rfl (wpAny_bind (wpAny_field h1 h3 (x := vu) rfl (wpAny_bind (wpAny_field h1 h3 (x := vs) rfl (wpAny_pure ?_)))))))
  refine wpAny_bind (slicePart_ ps ?_)
  show wpAny _ _ (if ((-1 : Int) == 0) = true then _ else _) _ _ s
  rw [if_neg (by decide)]
  refine wpAny_bind (slicePart_ pl (wpAny_bind (slicePart_ pu (wpAny_bind (wpAny_pure ?_)))))
  show wpAny _ _ (match Builtin.Slice.sliceAdjust none none (-1) (n : Int) with | (a, b) => pure (a, (-1 : Int), Builtin.Slice.slicePlaces a b (-1))) _ _ s
  rw [back_bounds]
  show wpAny _ _ (pure ((n : Int) - 1, (-1 : Int), Builtin.Slice.slicePlaces ((n : Int) - 1) (-1) (-1))) _ _ s
  rw [back_places]
  exact wpAny_pure h
theorem back_pick (xs : List Value) : ((List.range xs.length).filterMap fun (m : Nat) => xs.toArray[((xs.length : Int) - 1 + (m : Int) * (-1)).toNat]?) = xs.reverse := by
  refine List.ext_getElem? fun i => ?_
  have key : (List.range xs.length).filterMap (fun (m : Nat) => xs.toArray[((xs.length : Int) - 1 + (m : Int) * (-1)).toNat]?) = (List.range xs.length).map fun m => xs.getD (xs.length - 1 - m) .none := by
    have e : ∀ m ∈ List.range xs.length, xs.toArray[((xs.length : Int) - 1 + (m : Int) * (-1)).toNat]? = some (xs.getD (xs.length - 1 - m) .none) := by
      intro m hm
      have hm' := List.mem_range.mp hm
      have e1 : ((xs.length : Int) - 1 + (m : Int) * (-1)).toNat = xs.length - 1 - m := by omega
      rw [e1]
      have hlt : xs.length - 1 - m < xs.length := by omega
      simp [List.getD_eq_getElem?_getD, List.getElem?_eq_getElem hlt]
    generalize hL : List.range xs.length = L at e ⊢
    clear hL
    induction L with
    | nil => rfl
    | cons m L ih =>
      rw [List.filterMap_cons, e m List.mem_cons_self, List.map_cons]
      simp only
      rw [ih fun k hk => e k (List.mem_cons_of_mem _ hk)]
  rw [key]
  by_cases hi : i < xs.length
  · rw [List.getElem?_map, List.getElem?_range hi, List.getElem?_reverse hi]
    have hlt : xs.length - 1 - i < xs.length := by omega
    simp [List.getD_eq_getElem?_getD, List.getElem?_eq_getElem hlt]
  · rw [List.getElem?_eq_none (by simp; omega), List.getElem?_eq_none (by simp; omega)]
theorem getItem_tuple_back {t sl : Addr} {its : List Value} {vl vu vs : Value} {Q : Value → Shared → Prop} (ht : IsTup s.heap t its.toArray) (hs : s.heap.IsSliceOf sl vl vu vs) (pl : IsPart vl none) (pu : IsPart vu none) (ps : IsPart vs (some (-1))) (hz : its.length ≤ sizeLine)
    (h : Q (.ref s.heap.objs.size) { s with heap := s.heap.push { cls := .type "tuple", data := .seq its.reverse.toArray } }) : wpAny (model prog w) A (getItem (.ref t) (.ref sl)) Q E s := by
  have room : sizeOk (.seq its.reverse.toArray) := by
    show its.reverse.toArray.size ≤ sizeLine
    rw [List.size_toArray, List.length_reverse]
    exact hz
  obtain ⟨os, h1, h2, h3⟩ := id hs
  have hT : s.TypeIs (.ref sl) "slice" := ⟨os, h1, h2⟩
  unfold getItem
  try with_reducible refine wpAny_holding ?_
  first | refine wpAny_bind (wpAny_pure ?_) | skip
  refine wpAny_bind (wpAny_sequenceKey ht.typeIs (by decide) ?_)
  refine wpAny_bind (wpAny_callSpecial?_slot (name := Str.ofString "__getitem__") ht.typeIs PyProof.Rows.slot_tuple_getitem (wpAny_call_entry PyProof.Rows.slot_tuple_getitem ht.typeIs entry_tuple_getitem ?_ (args_tuple_getitem _ _)))
  show wpAny _ _ (Builtin.Tuple.tupleItemsOf (.ref t) >>= _) _ _ s
  refine wpAny_bind (tupleItemsOf_ ht ?_)
  refine wpAny_bind (wpAny_typeOf hT ?_)
  rw [if_pos (by decide)]
  refine wpAny_bind (back_applied hs pl pu ps ?_)
  have no : ¬ ((((its.toArray.size : Int) - 1 == 0) && ((-1 : Int) == 1) && (its.toArray.size == its.toArray.size)) = true) := by simp
  show wpAny _ _ (if (((its.toArray.size : Int) - 1 == 0) && ((-1 : Int) == 1) && (its.toArray.size == its.toArray.size)) = true then _ else _) _ _ s
  rw [if_neg no]
  have e := back_pick its
  have e2 : ((List.range its.toArray.size).filterMap fun (m : Nat) => its.toArray[((its.toArray.size : Int) - 1 + (m : Int) * (-1)).toNat]?).toArray = its.reverse.toArray := by
    rw [List.size_toArray, e]
  rw [e2]
  first
    | exact wpAny_bind (m := Builtin.Tuple.tupleExact _) (wpAny_newObj_type (wpAny_pure ⟨_, rfl, wpAny_pure h⟩) room)
    | exact wpAny_bind (m := Builtin.Tuple.tupleExact _) (wpAny_newObj_type (wpAny_bind (wpAny_pure (wpAny_pure ⟨_, rfl, wpAny_pure h⟩))) room)
    | exact wpAny_bind (wpAny_bind (m := Builtin.Tuple.tupleExact _) (wpAny_newObj_type (wpAny_pure (wpAny_pure ⟨_, rfl, wpAny_pure h⟩)) room))
    | exact wpAny_bind (wpAny_bind (m := Builtin.Tuple.tupleExact _) (wpAny_newObj_type (wpAny_pure ⟨_, rfl, wpAny_pure h⟩) room))
end
section
variable {X : Cx} {e : Expr} {te : TE} {de : DE}
/-- x[::-1], x a list or a tuple -/
def tBack (K : PySem.W.Frag) (te : TE) : TE := fun σ H Q => te σ H fun x H1 => ∃ a xs, x = .ref a ∧ ((SqL K H1 a xs ∧ ∀ p, H1 p = none → Q (.ref p) (upd H1 p (.lst xs.reverse))) ∨ (SqT K H1 a xs ∧ ∀ p, H1 p = none → Q (.ref p) (upd H1 p (.tup xs.reverse))))
theorem pe_back {k : Nat} {p1 p2 p3 pos : Pos} (he : PE X e te) : PE X (.Subscript e (.Slice none none (some (.UnaryOp .USub (.Constant (.int 1) k p1) p2)) p3) pos) (tBack X.K te) := by
  have step : PO X (some (.UnaryOp .USub (.Constant (.int 1) k p1) p2)) (tPart (tUn (rU fun i => .int (-i)) (tC (.int 1)))) := po_some (pe_un un_neg pe_int)
  constructor
  intro pins s σ H Q I h
  refine Subscript_ (thn (he.run pins s σ H _ I h) fun v s1 ⟨x, H1, I1, r1, a, xs, hx, q⟩ => ?_)
  subst hx
  cases r1
  refine wpAny_Slice (thn (po_none.run pins s1 σ H1 (fun o G => o = none ∧ G = H1) I1 ⟨rfl, rfl⟩) fun u1 s2 z1 => ?_)
  obtain ⟨_, _, I2, w1, rfl, rfl⟩ := z1
  refine thn (po_none.run pins s2 σ _ (fun o G => o = none ∧ G = _) I2 ⟨rfl, rfl⟩) fun u2 s3 z2 => ?_
  obtain ⟨_, _, I3, w2, rfl, rfl⟩ := z2
  refine thn (step.run pins s3 σ _ (fun o G => o = some (-1) ∧ G = _) I3 ⟨1, rfl, -1, rfl, rfl, rfl⟩) fun u3 s4 z3 => ?_
  obtain ⟨_, G, I4, w3, rfl, rfl⟩ := z3
  have I5 : Inv X pins σ G { s4 with heap := s4.heap.push { cls := .type "slice", data := .fields #[u1, u2, u3] } } := I4.kept (t' := s4.toks) fun b ob z => Heap.get?_push_of_some _ z
  rcases q with ⟨hq, q⟩ | ⟨hq, q⟩
  · obtain ⟨its, r, ht, hz⟩ := I5.list hq
    have hlen := r.length
    refine tail_any (ops := [.ref a, .ref s4.heap.objs.size]) ht.isList.typeIs (PySem.slot_list_getitem.lookup) ?_ (by with_unfolding_all rfl)
    refine wpAny_getItem_list_slice ht.isList (Heap.IsSliceOf.new _ u1 u2 u3) w1 w2 w3 (by decide) ?_ (by rw [List.size_toArray]; omega)
    rw [PySem.W.krv_pick]
    refine ⟨.ref _, upd G _ (.lst xs.reverse), I5.laid (t' := s4.toks) (o := .lst xs.reverse) (fun b ob z => Heap.get?_push_of_some _ z) (Nat.le_refl _) ⟨by rw [List.length_reverse]; exact hz, _, 0, r.reverse, Heap.get?_push_size _ rfl⟩, rfl, q _ (I5.hok.fresh (Nat.le_refl _))⟩
  · obtain ⟨its, r, ht, hz⟩ := I5.tuple hq
    have hlen := r.length
    refine tail_any (ops := [.ref a, .ref s4.heap.objs.size]) ht.typeIs (PyProof.Rows.slot_tuple_getitem.lookup) ?_ (by with_unfolding_all rfl)
    refine getItem_tuple_back ht (Heap.IsSliceOf.new _ u1 u2 u3) w1 w2 w3 (by omega) ?_
    exact ⟨.ref _, upd G _ (.tup xs.reverse), I5.laid (t' := s4.toks) (o := .tup xs.reverse) (fun b ob z => Heap.get?_push_of_some _ z) (Nat.le_refl _) ⟨by rw [List.length_reverse]; exact hz, _, r.reverse, IsTup.new _ _⟩, rfl, q _ (I5.hok.fresh (Nat.le_refl _))⟩
theorem dqs_reverse {H : Hp} {ds : List Dt} {vs : List V} (h : DqAll H vs ds) : DqAll H vs.reverse ds.reverse := by
  exact dqs_rev h (.nil : DqAll H [] [])
theorem xe_rev {k : Nat} {p1 p2 p3 pos : Pos} (he : XE X e de) : XE X (.Subscript e (.Slice none none (some (.UnaryOp .USub (.Constant (.int 1) k p1) p2)) p3) pos) (dRev de) := xe_of (pe_back he) fun Γ M k σ H Hc Q hd F O q => simLE Γ M _ σ H Hc _ hd F O fun v s M1 H1 Hc1 e1 O1 r1 h1 => by
  split at h1
  · obtain ⟨a, vs, rfl, g1, g2⟩ := dp_tup_inv r1
    exact ⟨a, vs, rfl, .inr ⟨SqT.of (O1.ex _ _ g1), fun p hp => (q.ex e1).tup O1 (dqs_reverse g2) hp h1⟩⟩
  · obtain ⟨a, vs, rfl, g1, g2⟩ := dp_lst_inv r1
    exact ⟨a, vs, rfl, .inl ⟨SqL.of (O1.ex _ _ g1), fun p hp => (q.ex e1).lst O1 (dqs_reverse g2) hp h1⟩⟩
  · obtain ⟨ds, hm, h1⟩ := h1
    cases r1
    obtain ⟨_, vs, g1, g2⟩ := O1.ob _ _ hm
    exact ⟨_, vs, rfl, .inl ⟨SqL.of g1, fun p hp => (q.ex e1).lst O1 (dqs_reverse (rps_dat g2)) hp h1⟩⟩
  · exact h1.elim
end
/-! ### sorted of whole numbers -/
def fSortI : DC := fun ss M k => match ss with
  | [s] => ∃ ns : List Int, IsL M s (ns.map fun n => .dat (.int n)) ∧ ns.length ≤ 1000000 ∧ ∀ (ns' : List Int) p, ns'.Perm ns → ns'.Pairwise (· ≤ ·) → M p = none → k (.own p) (put M p (.lst (ns'.map fun n => .dat (.int n))))
  | _ => False
theorem rps_ints {H : Hp} : ∀ {ns : List Int} {vs : List V}, Rps H (ns.map fun n => Sl.dat (.int n)) vs → vs = ns.map V.int
  | [], _, .nil => rfl
  | n :: ns, _, .cons r t => by rw [dp_int_inv r, rps_ints t] <;> rfl
theorem ints_rps {H : Hp} : ∀ ns : List Int, Rps H (ns.map fun n => Sl.dat (.int n)) (ns.map V.int)
  | [] => .nil
  | n :: ns => .cons (Dq.int n) (ints_rps ns)
theorem sim_sortI {K : PySem.W.Frag} : SimC (rSortedI K) fSortI := by
  intro ss M k xs H Hc Q h r O q
  unfold fSortI at h
  split at h
  · obtain ⟨x, rfl, rx⟩ := rps1 r
    obtain ⟨ns, l, hz, h⟩ := h
    obtain ⟨a, vs, rfl, g1, g2⟩ := l.at_ O rx
    rw [rps_ints g2] at g1
    refine ⟨a, ns, rfl, SqL.of g1, fun ns' p h1 h2 hp => ?_⟩
    exact q.own O (ints_rps ns') (by rw [List.length_map, h1.length_eq, sizeLine_eq]; omega) hp (h ns' p h1 h2 (O.freeM hp))
  · exact h.elim
/-! ### how long a repr is -/
mutual
def sz : Dt → Nat
  | .none => 4
  | .bool _ => 5
  | .int _ => 2000
  | .str x => (reprText x).length
  | .list xs => szAll xs + 3
  | .tuple xs => szAll xs + 3
  | .dict _ => 0
def szAll : List Dt → Nat
  | [] => 0
  | x :: xs => sz x + 2 + szAll xs
end
def noDict : Dt → Bool
  | .dict _ => false
  | _ => true
mutual
theorem shown_sz : ∀ d : Dt, d.showable = true → d.hasDict = false → d.shown.length ≤ sz d
  | .none, _, _ => by decide +kernel
  | .bool b, _, _ => by cases b <;> decide +kernel
  | .int i, h, _ => by
    have e : i.natAbs.log2 < 1920 := by simpa [PyData.showable] using h
    have := int_text_len_1921 e
    show (Str.ofString (toString i)).length ≤ 2000
    omega
  | .str x, _, _ => Nat.le_refl _
  | .list xs, h, h2 => by
    have z := shown_szAll xs (by simpa [PyData.showable] using h) (by simpa [PyData.hasDict] using h2)
    have y := listText_len_le (PyData.shownAll xs)
    show (listText (PyData.shownAll xs)).length ≤ szAll xs + 3
    omega
  | .tuple xs, h, h2 => by
    have z := shown_szAll xs (by simpa [PyData.showable] using h) (by simpa [PyData.hasDict] using h2)
    have y := tupleText_len_le (PyData.shownAll xs)
    show (tupleText (PyData.shownAll xs)).length ≤ szAll xs + 3
    omega
  | .dict _, _, h => by simp [PyData.hasDict] at h
theorem shown_szAll : ∀ ds : List Dt, PyData.showableAll ds = true → PyData.hasDictAll ds = false → ((PyData.shownAll ds).map (·.length)).sum + 2 * (PyData.shownAll ds).length ≤ szAll ds
  | [], _, _ => Nat.le_refl _
  | d :: ds, h, h2 => by
    rw [PyData.showableAll, Bool.and_eq_true] at h
    rw [PyData.hasDictAll, Bool.or_eq_false_iff] at h2
    have a := shown_sz d h.1 h2.1
    have b := shown_szAll ds h.2 h2.2
    show ((d.shown :: PyData.shownAll ds).map (·.length)).sum + 2 * (d.shown :: PyData.shownAll ds).length ≤ sz d + 2 + szAll ds
    rw [List.map_cons, List.sum_cons, List.length_cons]
    omega
end
/-- small enough to be shown: k levels -/
structure Sm (k : Nat) (d : Dt) : Prop where
  sh : d.showable = true
  nd : d.hasDict = false
  sz : sz d ≤ 3000 * 40 ^ k
  dp : d.depth ≤ k
theorem Sm.mono {j k : Nat} {d : Dt} (h : Sm j d) (le : j ≤ k) : Sm k d := ⟨h.sh, h.nd, Nat.le_trans h.sz (Nat.mul_le_mul_left _ (Nat.pow_le_pow_right (by decide) le)), Nat.le_trans h.dp le⟩
theorem Sm.int {i : Int} (h : i.natAbs < 2 ^ 1000) : Sm 0 (.int i) := by
  refine ⟨?_, rfl, (show 2000 ≤ 3000 * 40 ^ 0 by decide), Nat.le_refl _⟩
  have e : i.natAbs.log2 < 1920 := Nat.lt_of_lt_of_le (PySem.Flt.log2_lt_of (by decide) h) (by decide)
  simpa [PyData.showable] using e
theorem Sm.bool {b : Bool} : Sm 0 (.bool b) := ⟨rfl, rfl, by show 5 ≤ 3000 * 40 ^ 0; decide, Nat.le_refl _⟩
theorem Sm.none : Sm 0 .none := ⟨rfl, rfl, by show 4 ≤ 3000 * 40 ^ 0; decide, Nat.le_refl _⟩
theorem Sm.str {x : Str} (h : (reprText x).length ≤ 3000) : Sm 0 (.str x) := ⟨rfl, rfl, h, Nat.le_refl _⟩
theorem sm_all {k : Nat} : ∀ {ds : List Dt}, (∀ d ∈ ds, Sm k d) → PyData.showableAll ds = true ∧ PyData.hasDictAll ds = false ∧ szAll ds ≤ ds.length * (3000 * 40 ^ k + 2) ∧ PyData.depthAll ds ≤ k
  | [], _ => ⟨rfl, rfl, Nat.zero_le _, Nat.zero_le _⟩
  | d :: ds, h => by
    obtain ⟨a, b, c, e⟩ := sm_all fun x hx => h x (List.mem_cons_of_mem _ hx)
    have g := h d List.mem_cons_self
    refine ⟨?_, ?_, ?_, ?_⟩
    · rw [PyData.showableAll, g.sh, a] <;> rfl
    · rw [PyData.hasDictAll, g.nd, b] <;> rfl
    · show sz d + 2 + szAll ds ≤ (ds.length + 1) * (3000 * 40 ^ k + 2)
      rw [Nat.succ_mul]
      have := g.sz
      omega
    · show max d.depth (PyData.depthAll ds) ≤ k
      have := g.dp
      omega
theorem sm_bound (k n : Nat) (h : n ≤ 38) : n * (3000 * 40 ^ k + 2) + 3 ≤ 3000 * 40 ^ (k + 1) := by
  have e : 1 ≤ 40 ^ k := Nat.pos_of_ne_zero (by simp)
  rw [Nat.pow_succ]
  have : n * (3000 * 40 ^ k + 2) ≤ 38 * (3000 * 40 ^ k + 2) := Nat.mul_le_mul_right _ h
  omega
theorem Sm.tup {k : Nat} {ds : List Dt} (h : ∀ d ∈ ds, Sm k d) (hl : ds.length ≤ 38) : Sm (k + 1) (.tuple ds) := by
  obtain ⟨a, b, c, e⟩ := sm_all h
  refine ⟨a, b, ?_, Nat.succ_le_succ e⟩
  show szAll ds + 3 ≤ _
  have := sm_bound k ds.length hl
  omega
theorem Sm.list {k : Nat} {ds : List Dt} (h : ∀ d ∈ ds, Sm k d) (hl : ds.length ≤ 38) : Sm (k + 1) (.list ds) := by
  obtain ⟨a, b, c, e⟩ := sm_all h
  refine ⟨a, b, ?_, Nat.succ_le_succ e⟩
  show szAll ds + 3 ≤ _
  have := sm_bound k ds.length hl
  omega
theorem Sm.fits {d : Dt} (h : Sm 2 d) : d.shown.length ≤ 16777216 := Nat.le_trans (shown_sz d h.sh h.nd) (Nat.le_trans h.sz (by decide))
theorem cut_mem {α : Type} {xs : List α} {lo hi : Option Int} {x : α} (h : x ∈ cut xs lo hi) : x ∈ xs := by
  unfold cut at h
  exact List.mem_of_mem_drop (List.mem_of_mem_take h)
/-- an item of a list at a drawn place -/
theorem pick {α : Type} {P : α → Prop} {xs : List α} {i : Int} (h : ∀ x ∈ xs, P x) (h0 : 0 ≤ i) (h1 : i < xs.length) : ∃ x, atI xs i = some x ∧ P x := by
  obtain ⟨j, rfl⟩ := Int.eq_ofNat_of_zero_le h0
  have hj : j < xs.length := by omega
  exact ⟨xs[j], atI_nat (List.getElem?_eq_getElem hj), h _ (List.getElem_mem hj)⟩
theorem pickI {P : Int → Prop} {xs : List Int} {i : Int} (h : ∀ x ∈ xs, P x) (h0 : 0 ≤ i) (h1 : i < xs.length) : ∃ x, atI (xs.map PyData.int) i = some (.int x) ∧ P x := by
  obtain ⟨j, rfl⟩ := Int.eq_ofNat_of_zero_le h0
  have hj : j < xs.length := by omega
  exact ⟨xs[j], atI_nat (by rw [List.getElem?_map, List.getElem?_eq_getElem hj] <;> rfl), h _ (List.getElem_mem hj)⟩
end DL
namespace DL
open PySem PySem.Spec PyProof.Rows L2
open Evl (Ex)
/-! ### dicts of ours, their keys whole numbers or texts -/
def keyD : Dt → Option Key
  | .int i => some (.inl i)
  | .str x => some (.inr x)
  | _ => none
theorem key_rp {H : Hp} {d : Dt} {key : Key} {v : V} (r : Dq H v d) (h : keyD d = some key) : v = kV key := by
  cases d <;> first | (cases h <;> first | exact dp_int_inv r | exact dp_str_inv r) | (cases h)
abbrev Kvs := List (Key × Sl)
def dval (kvs : Kvs) (k : Key) : Option Sl := (kvs.find? fun kv => decide (kv.1 = k)).map (·.2)
def dput (kvs : Kvs) (k : Key) (s : Sl) : Kvs := if (kvs.any fun kv => decide (kv.1 = k)) = true then kvs.map (fun kv => if kv.1 = k then (kv.1, s) else kv) else kvs ++ [(k, s)]
abbrev RpK (H : Hp) : Kvs → List (Key × V) → Prop := Paired (fun (p : Key × Sl) (q : Key × V) => p.1 = q.1 ∧ Rp H p.2 q.2)
theorem rpk_len {H : Hp} : ∀ {kvs : Kvs} {ws : List (Key × V)}, RpK H kvs ws → ws.length = kvs.length
  | [], _, .nil => rfl
  | _ :: _, _, .cons _ t => congrArg (· + 1) (rpk_len t)
theorem rpk_val {H : Hp} {k : Key} : ∀ {kvs : Kvs} {ws : List (Key × V)}, RpK H kvs ws → (dval kvs k = none ∧ valV ws k = none) ∨ ∃ s v, dval kvs k = some s ∧ valV ws k = some v ∧ Rp H s v
  | [], _, .nil => .inl ⟨rfl, rfl⟩
  | (a, s) :: kvs, _, .cons (b := (b, v)) r t => by
    obtain ⟨rfl, r2⟩ := r
    rename_i ws
    by_cases e : a = k
    · subst e
      refine .inr ⟨s, v, ?_, ?_, r2⟩
      · unfold dval
        rw [List.find?_cons, decide_eq_true rfl]
        rfl
      · unfold valV
        rw [List.find?_cons, decide_eq_true rfl]
        rfl
    · have e1 : dval ((a, s) :: kvs) k = dval kvs k := by
        unfold dval
        rw [List.find?_cons, decide_eq_false e]
      have e2 : valV ((a, v) :: ws) k = valV ws k := by
        unfold valV
        rw [List.find?_cons, decide_eq_false e]
      rw [e1, e2]
      exact rpk_val t
theorem rpk_map {H : Hp} {k : Key} {s : Sl} {v : V} (r : Rp H s v) : ∀ {kvs : Kvs} {ws : List (Key × V)}, RpK H kvs ws → RpK H (kvs.map (fun kv => if kv.1 = k then (kv.1, s) else kv)) (ws.map (fun kv => if kv.1 = k then (kv.1, v) else kv))
  | [], _, .nil => .nil
  | (a, x) :: kvs, _, .cons (b := (b, y)) q t => by
    obtain ⟨rfl, q2⟩ := q
    refine .cons ?_ (rpk_map r t)
    show ((if a = k then (a, s) else (a, x)) : Key × Sl).1 = ((if a = k then (a, v) else (a, y)) : Key × V).1 ∧ Rp H ((if a = k then (a, s) else (a, x)) : Key × Sl).2 ((if a = k then (a, v) else (a, y)) : Key × V).2
    by_cases e : a = k
    · rw [if_pos e, if_pos e]
      exact ⟨rfl, r⟩
    · rw [if_neg e, if_neg e]
      exact ⟨rfl, q2⟩
theorem rpk_any {H : Hp} {k : Key} : ∀ {kvs : Kvs} {ws : List (Key × V)}, RpK H kvs ws → (kvs.any fun kv => decide (kv.1 = k)) = (ws.any fun kv => decide (kv.1 = k))
  | [], _, .nil => rfl
  | (a, x) :: kvs, _, .cons (b := (b, y)) q t => by
    obtain ⟨rfl, q2⟩ := q
    rw [List.any_cons, List.any_cons, rpk_any t]
theorem rpk_app {H : Hp} : ∀ {kvs kvs2 : Kvs} {ws ws2 : List (Key × V)}, RpK H kvs ws → RpK H kvs2 ws2 → RpK H (kvs ++ kvs2) (ws ++ ws2)
  | [], _, _, _, .nil, h => h
  | _ :: _, _, _, _, .cons r t, h => .cons r (rpk_app t h)
theorem rpk_put {H : Hp} {k : Key} {s : Sl} {v : V} {kvs : Kvs} {ws : List (Key × V)} (h : RpK H kvs ws) (r : Rp H s v) : RpK H (dput kvs k s) (putK ws k v) := by
  unfold dput putK
  rw [rpk_any h]
  by_cases e : (ws.any fun kv => decide (kv.1 = k)) = true
  · rw [if_pos e, if_pos e]
    exact rpk_map r h
  · rw [if_neg e, if_neg e]
    exact rpk_app h (.cons ⟨rfl, r⟩ .nil)
section
variable {X : Cx} {e f o i : Expr} {de df do_ di : DE} {das : DA} {pos apos : Pos}
def dDct0 : DE := fun _ M k => ∀ p, M p = none → k (.own p) (put M p (.dct []))
theorem xe_dct0 : XE X (.Dict [] [] pos) dDct0 := xe_of pe_dnewK fun Γ M k σ H Hc Q hd F O q p hp => q (.ref p) (.own p) _ H _ (Ex.refl H) (O.born (u := .dct []) hp ⟨[], rfl, .nil⟩) rfl (hd p (O.freeM hp))
/-- d.get(key, other) -/
def dGet2 (do_ di de : DE) : DE := fun Γ M k => do_ Γ M fun o M1 => (∃ a kvs, o = .own a ∧ M1 a = some (.dct kvs)) ∧ di Γ M1 fun i M2 => de Γ M2 fun z M3 => ∃ a kvs d key, o = .own a ∧ M3 a = some (.dct kvs) ∧ i = .dat d ∧ keyD d = some key ∧ k ((dval kvs key).getD z) M3
theorem xe_get2 (h : PE X e (tDGet2 (LE do_) (LE di) (LE de))) : XE X e (dGet2 do_ di de) := xe_of h fun Γ M k σ H Hc Q hd F O q => by
  refine simLE Γ M _ σ H Hc _ hd F O fun vo so M1 H1 Hc1 e1 O1 r1 h1 => ?_
  obtain ⟨⟨a, kvs, rfl, hm⟩, h1⟩ := h1
  cases r1
  obtain ⟨ws, g1, _⟩ := O1.ob _ _ hm
  refine ⟨a, rfl, .inl ⟨ws, .inl g1⟩, ?_⟩
  refine simLE Γ M1 _ σ H1 Hc1 _ h1 (F.ex e1) O1 fun vi si M2 H2 Hc2 e2 O2 r2 h2 => ?_
  refine simLE Γ M2 _ σ H2 Hc2 _ h2 (F.ex (e1.trans e2)) O2 fun vz sz M3 H3 Hc3 e3 O3 r3 h3 => ?_
  obtain ⟨a', kvs', d, key, ea, hm3, rfl, hk, h3⟩ := h3
  cases ea
  obtain ⟨ws', g1', g2'⟩ := O3.ob _ _ hm3
  have r2' : Dq H2 vi d := r2
  have ek := key_rp r2' hk
  subst ek
  refine ⟨valV ws' key, DGet.k g1', ?_⟩
  rcases rpk_val (k := key) g2' with ⟨z1, z2⟩ | ⟨s, v, z1, z2, z3⟩
  · rw [z2]
    rw [z1] at h3
    exact q vz sz M3 H3 Hc3 (e1.trans (e2.trans e3)) O3 r3 h3
  · rw [z2]
    rw [z1] at h3
    exact q v s M3 H3 Hc3 (e1.trans (e2.trans e3)) O3 z3 h3
/-- d[key] -/
def fDIx : D2 := fun o i M k => ∃ a kvs d key s, o = .own a ∧ M a = some (.dct kvs) ∧ i = .dat d ∧ keyD d = some key ∧ dval kvs key = some s ∧ k s M
theorem xe_dix (h : PE X e (tDGet (LE do_) (LE di))) : XE X e (dOp fDIx do_ di) := xe_of h fun Γ M k σ H Hc Q hd F O q => by
  refine simLE Γ M _ σ H Hc _ hd F O fun vo so M1 H1 Hc1 e1 O1 r1 h1 => ?_
  refine simLE Γ M1 _ σ H1 Hc1 _ h1 (F.ex e1) O1 fun vi si M2 H2 Hc2 e2 O2 r2 h2 => ?_
  obtain ⟨a, kvs, d, key, s, rfl, hm, rfl, hk, hv, h2⟩ := h2
  cases r1
  obtain ⟨ws, g1, g2⟩ := O2.ob _ _ hm
  have r2' : Dq H2 vi d := r2
  have ek := key_rp r2' hk
  subst ek
  rcases rpk_val (k := key) g2 with ⟨z1, z2⟩ | ⟨s', v, z1, z2, z3⟩
  · rw [z1] at hv
    cases hv
  · rw [z1] at hv
    cases hv
    refine ⟨a, v, rfl, ?_, q v s M2 H2 Hc2 (e1.trans e2) O2 z3 h2⟩
    rw [← z2]
    exact DGet.k g1
/-- d[key] = e -/
def dSetD (de do_ di : DE) : DS := fun D Γ M => de Γ M fun s M1 => do_ Γ M1 fun o M2 => di Γ M2 fun i M3 => ∃ a kvs d key, o = .own a ∧ i = .dat d ∧ keyD d = some key ∧ M3 a = some (.dct kvs) ∧ kvs.length < 16777216 ∧ D.nx Γ (put M3 a (.dct (dput kvs key s)))
theorem xs_setD {st : Stmt} (h : PS X st (tAsg (LE de) (gSub (LE do_) (LE di) rSetD))) : XS X st (dSetD de do_ di) := xs_of h fun Γ M D σ H Hc E hd F O q => by
  refine simLE Γ M _ σ H Hc _ hd F O fun v s M1 H1 Hc1 e1 O1 r1 h1 => ?_
  refine simLE Γ M1 _ σ H1 Hc1 _ h1 (F.ex e1) O1 fun vo so M2 H2 Hc2 e2 O2 r2 h2 => ?_
  refine simLE Γ M2 _ σ H2 Hc2 _ h2 (F.ex (e1.trans e2)) O2 fun vi si M3 H3 Hc3 e3 O3 r3 h3 => ?_
  obtain ⟨a, kvs, d, key, rfl, rfl, hk, hm, hz, hn⟩ := h3
  cases r2
  obtain ⟨ws, g1, g2⟩ := O3.ob _ _ hm
  have r3' : Dq H3 vi d := r3
  have ek := key_rp r3' hk
  subst ek
  refine ⟨a, _, rfl, DPut.k g1 (by rw [rpk_len g2, sizeLine_eq]; exact hz), ?_⟩
  exact q.nx σ Γ _ H3 _ (e1.trans (e2.trans e3)) (F.ex (e1.trans (e2.trans e3))) (O3.turn (u := .dct _) hm ⟨_, rfl, rpk_put g2 (rp_ex (e2.trans e3) r1)⟩) hn
/-- d.setdefault(key, e) -/
def dSetd (do_ di de : DE) : DE := fun Γ M k => do_ Γ M fun o M1 => (∃ a kvs, o = .own a ∧ M1 a = some (.dct kvs)) ∧ di Γ M1 fun i M2 => de Γ M2 fun z M3 => ∃ a kvs d key, o = .own a ∧ M3 a = some (.dct kvs) ∧ i = .dat d ∧ keyD d = some key ∧ kvs.length < 16777216 ∧ (∀ s, dval kvs key = some s → k s M3) ∧ (dval kvs key = none → k z (put M3 a (.dct (dput kvs key z))))
theorem xe_setd (h : PE X e (tDSetd (LE do_) (LE di) (LE de))) : XE X e (dSetd do_ di de) := xe_of h fun Γ M k σ H Hc Q hd F O q => by
  refine simLE Γ M _ σ H Hc _ hd F O fun vo so M1 H1 Hc1 e1 O1 r1 h1 => ?_
  obtain ⟨⟨a, kvs, rfl, hm⟩, h1⟩ := h1
  cases r1
  obtain ⟨ws, g1, _⟩ := O1.ob _ _ hm
  refine ⟨a, rfl, .inl ⟨ws, .inl g1⟩, ?_⟩
  refine simLE Γ M1 _ σ H1 Hc1 _ h1 (F.ex e1) O1 fun vi si M2 H2 Hc2 e2 O2 r2 h2 => ?_
  refine simLE Γ M2 _ σ H2 Hc2 _ h2 (F.ex (e1.trans e2)) O2 fun vz sz M3 H3 Hc3 e3 O3 r3 h3 => ?_
  obtain ⟨a', kvs', d, key, ea, hm3, rfl, hk, hz, hs, hn⟩ := h3
  cases ea
  obtain ⟨ws', g1', g2'⟩ := O3.ob _ _ hm3
  have r2' : Dq H2 vi d := r2
  have ek := key_rp r2' hk
  subst ek
  refine ⟨ws', key, g1', rfl, by rw [rpk_len g2', sizeLine_eq]; exact hz, fun v hv => ?_, fun hv => ?_⟩
  · rcases rpk_val (k := key) g2' with ⟨z1, z2⟩ | ⟨s, v', z1, z2, z3⟩
    · rw [z2] at hv
      cases hv
    · rw [z2] at hv
      cases hv
      exact q v s M3 H3 Hc3 (e1.trans (e2.trans e3)) O3 z3 (hs s z1)
  · rcases rpk_val (k := key) g2' with ⟨z1, z2⟩ | ⟨s, v', z1, z2, z3⟩
    · exact q vz sz _ H3 _ (e1.trans (e2.trans e3)) (O3.turn (u := .dct _) hm3 ⟨_, rfl, rpk_put g2' r3⟩) r3 (hn z1)
    · rw [z2] at hv
      cases hv
def fLenD : DC := fun ss M k => match ss with
  | [.own a] => ∃ kvs, M a = some (.dct kvs) ∧ k (.dat (.int kvs.length)) M
  | _ => False
theorem sim_lenD : SimC (fun xs H Q => ∃ a kvs, xs = [V.ref a] ∧ H a = some (.dK kvs) ∧ Q (.int kvs.length) H) fLenD := by
  intro ss M k xs H Hc Q h r O q
  unfold fLenD at h
  split at h
  · obtain ⟨kvs, hm, h⟩ := h
    obtain ⟨x, rfl, rx⟩ := rps1 r
    cases rx
    obtain ⟨ws, g1, g2⟩ := O.ob _ _ hm
    refine ⟨_, ws, rfl, g1, ?_⟩
    rw [rpk_len g2]
    exact q _ (.dat (.int _)) M H Hc (Ex.refl H) O (Dq.int _) h
  · exact h.elim
/-- {key: e} -/
def dDct1 (di de : DE) : DE := fun Γ M k => ∀ p, M p = none → di Γ (put M p (.dct [])) fun i M1 => de Γ M1 fun s M2 => ∃ d key, i = .dat d ∧ keyD d = some key ∧ M2 p = some (.dct []) ∧ k (.own p) (put M2 p (.dct [(key, s)]))
theorem xe_dct1 (hi : XE X i di) (he : XE X e de) : XE X (.Dict [some i] [e] pos) (dDct1 di de) := xe_of (pe_disp (pps_cons hi he pps_nil) rfl rfl (by simp) (show 1 ≤ 15 by decide)) fun Γ M k σ H Hc Q hd F O q p hp => by
  have hm := O.freeM hp
  have O0 := O.born (u := .dct []) hp ⟨[], rfl, .nil⟩
  refine simLE Γ _ _ σ H _ _ (hd p hm) F O0 fun vi si M1 H1 Hc1 e1 O1 r1 h1 => ?_
  refine simLE Γ M1 _ σ H1 Hc1 _ h1 (F.ex e1) O1 fun v s M2 H2 Hc2 e2 O2 r2 h2 => ?_
  obtain ⟨d, key, rfl, hk, hp2, h2⟩ := h2
  obtain ⟨ws, g1, g2⟩ := O2.ob _ _ hp2
  cases g2
  have r1' : Dq H1 vi d := r1
  have ek := key_rp r1' hk
  subst ek
  refine ⟨g1, [(key, v)], rfl, by show 1 ≤ 15; decide, ?_⟩
  exact q (.ref p) (.own p) _ H2 _ (e1.trans e2) (O2.turn (u := .dct _) hp2 ⟨_, rfl, .cons ⟨rfl, r2⟩ .nil⟩) rfl h2
/-! ### list(range(n)), pop, in, times -/
def dListR (de : DE) : DE := fun Γ M k => de Γ M fun s M1 => ∃ n, s = .dat (.int n) ∧ 0 ≤ n ∧ n ≤ 16777216 ∧ ∀ p, M1 p = none → k (.own p) (put M1 p (.lst ((List.range n.toNat).map fun (i : Nat) => .dat (.int (i : Int)))))
theorem rg_rps {H : Hp} : ∀ (ns : List Nat), Rps H (ns.map fun (i : Nat) => Sl.dat (.int (i : Int))) (ns.map fun i => V.int (0 + (i : Nat)))
  | [] => .nil
  | n :: ns => .cons (by show Dq H (V.int (0 + (n : Int))) (.int (n : Int)); rw [Int.zero_add]; exact Dq.int _) (rg_rps ns)
theorem xe_listR (h : PE X e (tLstRg (tRg1 (LE de)))) : XE X e (dListR de) := xe_of h fun Γ M k σ H Hc Q hd F O q => by
  refine simLE Γ M _ σ H Hc _ hd F O fun v s M1 H1 Hc1 e1 O1 r1 h1 => ?_
  obtain ⟨n, rfl, h0, hz, h1⟩ := h1
  refine ⟨n, dp_int_inv r1, RgOk.of_le (Int.le_refl 0) hz (by decide) h0, fun p hp => ?_⟩
  have er : rgV 0 n = (List.range n.toNat).map fun i => V.int (0 + (i : Nat)) := by
    unfold rgV
    rw [Int.sub_zero]
  rw [er]
  exact (q.ex e1).own O1 (rg_rps _) (by rw [List.length_map, List.length_range, sizeLine_eq]; omega) hp (h1 p (O1.freeM hp))
def fPopAt : Sl → List Sl → Mem → DK → Prop := fun o ss M k => match o, ss with
  | .own a, [.dat (.int i)] => ∃ xs j y, M a = some (.lst xs) ∧ i = ((j : Nat) : Int) ∧ xs[j]? = some y ∧ j < 16777216 ∧ k y (put M a (.lst (xs.eraseIdx j)))
  | _, _ => False
theorem rps_getS {H : Hp} : ∀ {ss : List Sl} {vs : List V} {j : Nat} {y : Sl}, Rps H ss vs → ss[j]? = some y → ∃ v, vs[j]? = some v ∧ Rp H y v
  | _ :: _, _, 0, _, .cons r t, h => by cases h; exact ⟨_, rfl, r⟩
  | _ :: _, _, j + 1, _, .cons r t, h => rps_getS (j := j) t h
theorem rps_erase {H : Hp} : ∀ {ss : List Sl} {vs : List V} (j : Nat), Rps H ss vs → Rps H (ss.eraseIdx j) (vs.eraseIdx j)
  | [], _, _, .nil => .nil
  | _ :: _, _, 0, .cons r t => t
  | _ :: _, _, j + 1, .cons r t => .cons r (rps_erase j t)
theorem sim_popAt {K : PySem.W.Frag} : SimM K "list" rPopAt fPopAt := by
  intro s ss M k x xs H Hc Q h rx rs O q
  unfold fPopAt at h
  split at h
  · obtain ⟨ys, j, y, hm, rfl, hy, hj, h⟩ := h
    obtain ⟨u, rfl, ru⟩ := rps1 rs
    cases rx
    obtain ⟨z, vs, g1, g2⟩ := O.ob _ _ hm
    obtain ⟨v, gv, rv⟩ := rps_getS g2 hy
    have hlt : j < vs.length := (List.getElem?_eq_some_iff.mp gv).1
    refine ⟨_, vs, (j : Int), j, v, rfl, by rw [dp_int_inv ru], g1, by omega, by omega, ?_, gv, ?_⟩
    · unfold seqIndex?
      simp
      omega
    · exact q v y _ H _ (Ex.refl H) (O.turn (u := .lst _) hm ⟨Nat.le_trans (List.length_eraseIdx_le ..) z, _, rfl, rps_erase j g2⟩) rv h
  · exact h.elim
end
end DL
namespace DL
open PySem PySem.Spec PyProof.Rows L2
open Evl (Ex)
/-! ### sorted of data -/
/-- in order, alike ones in their old order -/
def sortD (ds : List Dt) : List Dt := ds.mergeSort (PySem.W.dataLe false fun d => d)
def rSortedD (K : PySem.W.Frag) : List V → Hp → VK → Prop := fun vs H Q => ∃ (a : Addr) (xs : List V) (ds : List Dt) (R : V → Dt → Prop), vs = [.ref a] ∧ SqL K H a xs ∧ Paired R xs ds ∧ (∀ x d, R x d → Dp K H x d) ∧ PySem.W.AllAlike ds ∧ PySem.W.Sortable ds ∧ (∀ d ∈ ds, d.depth ≤ 60) ∧ ∀ ys p, Paired R ys (sortD ds) → H p = none → Q (.ref p) (upd H p (.lst ys))
theorem each_two {R : V → Dt → Prop} : ∀ {xs : List V} {us : List Value} {ds : List Dt}, Vals xs us → Paired R xs ds → PySem.W.EachIs (fun v d => ∃ x, RelV x v ∧ R x d) us ds
  | [], _, _, .nil, .nil => .nil
  | _ :: _, _, _, .cons r t, .cons r2 t2 => .cons ⟨_, r, r2⟩ (each_two t t2)
theorem two_each {R : V → Dt → Prop} : ∀ {us : List Value} {ds : List Dt}, PySem.W.EachIs (fun v d => ∃ x, RelV x v ∧ R x d) us ds → ∃ xs, Vals xs us ∧ Paired R xs ds
  | _, _, .nil => ⟨[], .nil, .nil⟩
  | _, _, .cons ⟨x, h1, h2⟩ t => by
    obtain ⟨xs, h3, h4⟩ := two_each t
    exact ⟨x :: xs, .cons h1 h3, .cons h2 h4⟩
section
variable {X : Cx}
theorem cr_sortedD (hu : X.A.units + 64 < cLine) : CallR X (.builtin "sorted") (rSortedD X.K) := by
  intro pins s σ H vs us Q I r h
  obtain ⟨a, xs, ds, R, rfl, hs, hp, hd, hal, hk, hdep, q⟩ := h
  obtain ⟨its, rv, hl, hz⟩ := I.list hs
  obtain ⟨u, rfl, ru⟩ := vals1 r
  obtain rfl : u = Value.ref a := ru
  have e := each_two rv hp
  have er : PySem.W.EachIs (fun v d => ∃ as, Reads s.heap v ((fun d : Dt => d) d) as) its ds := e.mono fun v d ⟨x, h1, h2⟩ => Dp.reads I d x v (hd _ _ h2) h1
  have hid : ds.map (fun d : Dt => d) = ds := List.map_id' ds
  refine PySem.W.sorted_data (enc := fun d : Dt => d) hl.isList e er (by rw [hid]; exact hal) (by rw [hid]; exact hk) (by rw [← e.length, ← rv.length]; exact hz) (fun d hm => by have := hdep d hm; show _ + 2 + d.depth < _; omega) fun out ho eo => ?_
  obtain ⟨ys, h1, h2⟩ := two_each eo
  obtain ⟨n, hn⟩ := sortedAll_at s.heap its out.toArray
  have hd' : s.heap.objs.size ≤ s.heap.objs.size + 1 := Nat.le_succ _
  refine ⟨.ref _, upd H _ (.lst ys), I.laid (t' := s.toks) (fun b o z => sortedAll_old z) hd' ⟨?_, out, n, h1, hn⟩, rfl, q _ _ h2 (I.hok.fresh hd')⟩
  rw [h1.length, ho, ← e.length, ← rv.length]
  exact hz
end
def fSortD : DC := fun ss M k => match ss with
  | [s] => ∃ ds : List Dt, IsL M s (ds.map .dat) ∧ ds.length ≤ 16777216 ∧ PySem.W.AllAlike ds ∧ PySem.W.Sortable ds ∧ (∀ d ∈ ds, d.depth ≤ 60) ∧ ∀ p, M p = none → k (.own p) (put M p (.lst ((sortD ds).map .dat)))
  | _ => False
theorem dps_pair {H : Hp} : ∀ {ds : List Dt} {vs : List V}, DqAll H vs ds → Paired (Dq H) vs ds
  | [], _, .nil => .nil
  | _ :: _, _, .cons r t => .cons r (dps_pair t)
theorem pair_dps {H : Hp} : ∀ {ds : List Dt} {vs : List V}, Paired (Dq H) vs ds → DqAll H vs ds
  | [], _, .nil => .nil
  | _ :: _, _, .cons r t => .cons r (pair_dps t)
theorem sortD_len (ds : List Dt) : (sortD ds).length = ds.length := List.length_mergeSort ds
theorem sim_sortD {K : PySem.W.Frag} : SimC (rSortedD K) fSortD := by
  intro ss M k xs H Hc Q h r O q
  unfold fSortD at h
  split at h
  · obtain ⟨x, rfl, rx⟩ := rps1 r
    obtain ⟨ds, l, hz, hal, hk, hdep, h⟩ := h
    obtain ⟨a, vs, rfl, g1, g2⟩ := l.at_ O rx
    refine ⟨a, vs, ds, Dq H, rfl, SqL.of g1, dps_pair (rps_dat g2), fun x d hx => dq_dp (dp_ex O.ex hx), hal, hk, hdep, fun ys p hy hp => ?_⟩
    exact q.own O (dat_rps (pair_dps hy)) (by rw [List.length_map, sortD_len, sizeLine_eq]; exact hz) hp (h p (O.freeM hp))
  · exact h.elim
/-! ### in, of whole numbers; a list so many times -/
def fInI (neg : Bool) : D2 := fun s t M k => ∃ (i : Int) (ns : List Int), s = .dat (.int i) ∧ IsL M t (ns.map fun n => .dat (.int n)) ∧ k (.dat (.bool (if neg = true then !decide (i ∈ ns) else decide (i ∈ ns)))) M
theorem inV_ints (i : Int) : ∀ ns : List Int, inV (.int i) (ns.map V.int) = decide (i ∈ ns)
  | [] => rfl
  | n :: ns => by
    show ((n == i) || inV (.int i) (ns.map V.int)) = decide (i ∈ n :: ns)
    rw [inV_ints i ns]
    by_cases e : n = i
    · subst e
      simp
    · have e2 : ¬ i = n := fun z => e z.symm
      simp [e, e2]
theorem flat_ints : ∀ ns : List Int, (ns.map V.int).all flatV = true
  | [] => rfl
  | n :: ns => by
    show (flatV (.int n) && (ns.map V.int).all flatV) = true
    rw [flat_ints ns] <;> rfl
theorem sim_inI {K : PySem.W.Frag} (neg : Bool) : Sim2 (rIn K neg) (fInI neg) := by
  intro s t M k x y H Hc Q h rx ry O q
  obtain ⟨i, ns, rfl, l, h⟩ := h
  obtain ⟨a, vs, rfl, g1, g2⟩ := l.at_ O ry
  rw [rps_ints g2] at g1
  refine ⟨a, _, rfl, .inl (SqL.of g1), by rw [dp_int_inv rx] <;> rfl, flat_ints ns, ?_⟩
  rw [dp_int_inv rx, inV_ints]
  exact q _ (.dat (.bool _)) M H Hc (Ex.refl H) O (Dq.bl _) h
def fRep : D2 := fun s t M k => ∃ (xs : List Sl) (n : Int), IsL M s xs ∧ t = .dat (.int n) ∧ 0 ≤ n ∧ n < 16777216 ∧ xs.length * n.toNat ≤ 16777216 ∧ ∀ p, M p = none → k (.own p) (put M p (.lst (List.replicate n.toNat xs).flatten))
theorem rps_rep {H : Hp} {ss : List Sl} {vs : List V} (h : Rps H ss vs) : ∀ n : Nat, Rps H (List.replicate n ss).flatten (List.replicate n vs).flatten
  | 0 => .nil
  | n + 1 => rps_app h (rps_rep h n)
theorem flat_len {α : Type} (xs : List α) : ∀ n : Nat, (List.replicate n xs).flatten.length = xs.length * n
  | 0 => rfl
  | n + 1 => by
    rw [List.replicate_succ, List.flatten_cons, List.length_append, flat_len xs n, Nat.mul_succ, Nat.add_comm]
theorem sim_rep : Sim2 rRep fRep := by
  intro s t M k x y H Hc Q h rx ry O q
  obtain ⟨xs, n, l, rfl, h0, h1, hz, h⟩ := h
  obtain ⟨a, vs, rfl, g1, g2⟩ := l.at_ O rx
  refine ⟨a, n, vs, rfl, dp_int_inv ry, g1, by omega, by omega, by rw [rps_len g2, sizeLine_eq]; exact hz, fun p hp => ?_⟩
  exact q.own O (rps_rep g2 _) (by rw [flat_len, sizeLine_eq]; exact hz) hp (h p (O.freeM hp))
end DL
namespace DL
open PySem PySem.Spec PyProof.Rows L2
open Evl (Ex)
section
variable {X : Cx} {e : Expr} {da : DA} {d1 : DS} {pos : Pos} {body : List Stmt}
/-- for (i, x) in enumerate(a list of data) -/
def dForE (da : DA) (g : DG) (tb : DS) : DS := fun D Γ M => da Γ M fun ss M1 => ∃ (ds : List Dt) (s : Sl), ss = [s] ∧ IsL M1 s (ds.map .dat) ∧ ∃ Inv : Nat → Fm → Mem → Prop, Inv 0 Γ M1 ∧ (∀ i Γ' M', i ≤ ds.length → Inv i Γ' M' → IsL M' s (ds.map .dat)) ∧
  (∀ (i : Nat) d Γ' M', ds[i]? = some d → Inv i Γ' M' → g (.dat (.tuple [.int (i : Int), d])) Γ' M' fun Γ2 M2 => tb { D with nx := Inv (i + 1), ct := Inv (i + 1), bk := D.nx } Γ2 M2) ∧ ∀ Γ' M', Inv ds.length Γ' M' → D.nx Γ' M'
theorem sim_forE {K : PySem.W.Frag} {ta : TA} {g : DG} {tb : TS} (h : SimA ta da) (hb : SimS tb d1) : SimS (tFor (iEnum K ta) (LG g) tb) (dForE da g d1) := fun Γ M D σ H Hc E hd F O q => by
  refine h Γ M _ σ H Hc _ hd F O fun ws ss M1 H1 Hc1 e1 O1 r1 h1 => ?_
  obtain ⟨ds, s, rfl, l, W, w0, wl, ws', wd⟩ := h1
  obtain ⟨v, rfl, rv⟩ := rps1 r1
  obtain ⟨a, vs, rfl, g1, g2⟩ := l.at_ O1 rv
  refine ⟨a, vs, rfl, SqL.of g1, fun i m σ' Hc' => m = ds.length - i ∧ i ≤ ds.length ∧ ∃ Γ' M' H', Ex H1 H' ∧ Fr H' σ' Γ' ∧ Own H' Hc' M' ∧ W i Γ' M', ⟨_, rfl, Nat.zero_le _, Γ, M1, H1, Ex.refl _, F.ex e1, O1, w0⟩, ?_⟩
  rintro i m σ' Hc' ⟨rfl, hi, Γ', M', H', e2, F2, O2, w⟩
  obtain ⟨a', vs', e3, g3, g4⟩ := (wl i Γ' M' hi w).at_ O2 (rp_ex e2 rv)
  cases e3
  have hl := rps_len g4
  rw [List.length_map] at hl
  rcases Nat.lt_or_ge i ds.length with hlt | hge
  · obtain ⟨x0, hx0⟩ : ∃ x0, vs'[i]? = some x0 := ⟨vs'[i]'(by omega), List.getElem?_eq_getElem (by omega)⟩
    obtain ⟨d, hd, rx⟩ := dps_get (rps_dat g4) hx0
    refine .inr ⟨⟨vs', x0, SqL.of g3, hx0⟩, fun σ2 Hc2 => ∃ Γ2 M2 H2, Ex H1 H2 ∧ Fr H2 σ2 Γ2 ∧ Own H2 Hc2 M2 ∧ W (i + 1) Γ2 M2, fun σ2 Hc2 z => ⟨ds.length - (i + 1), by omega, rfl, by omega, z⟩, fun x Hy y => ?_⟩
    obtain ⟨T, x, rfl, hT, rfl, y⟩ := y
    have ex : x = x0 := Option.some.inj ((y vs' (SqL.of g3)).symm.trans hx0)
    subst ex
    obtain ⟨O3, e3⟩ := O2.grow (o := .tup [.int ((i : Nat) : Int), x]) hT
    refine ⟨.dat (.tuple [.int (i : Int), d]), Γ', M', _, _, ws' i d Γ' M' hd w, .tup upd_same (.cons (.int _) (.cons (dp_ex e3 rx) .nil)), F2.ex e3, O3, fun σ2 Γ2 M2 H2 Hc2 e4 F3 O4 h3 => ?_⟩
    refine hb Γ2 M2 _ σ2 H2 Hc2 _ h3 F3 O4 ((q.ex (e1.trans (e2.trans (e3.trans e4)))).loop fun σ4 Γ4 M4 H4 Hc4 e5 F4 O5 h4 => ?_)
    exact ⟨Γ4, M4, H4, e2.trans (e3.trans (e4.trans e5)), F4, O5, h4⟩
  · have ei : i = ds.length := Nat.le_antisymm hi hge
    subst ei
    exact .inl ⟨⟨vs', SqL.of g3, by omega⟩, q.nx σ' Γ' M' H' Hc' (e1.trans e2) F2 O2 (wd Γ' M' w)⟩
theorem xs_forE {tg : Expr} {g : DG} (h : PS X (.For tg e body [] pos) (tFor (iEnum X.K (LA da)) (LG g) (LS d1))) : XS X (.For tg e body [] pos) (dForE da g d1) := xs_of h (sim_forE simLA simLS)
end
end DL
namespace DL
open PySem PySem.Spec PyProof.Rows L2
open Evl (Ex)
/-! ### an own exception whose __init__ says super().__init__(a text) and keeps its argument as a field -/
/-- what the written part says of such a class, over ValueError -/
structure SupC (P : Program) (K : PySem.W.Frag) (mg : Str → Option Value) (C : Addr) (f : Str) : Prop where
  T : OexC K C
  no : PySem.W.findIn K (.ref C) f = some none
  ve : PySem.W.subIn K (.ref C) (.type "ValueError") = some true
  self : PySem.W.mroIn K C (.ref C) = some true
  sup : PySem.W.ks_superIn K C C "__init__" = some (some (.builtin "ValueError.__init__"))
  any : PySem.W.nsIn K cStatics "thirdparty.any" = some none
  gsup : mg "super" = none
  top : (P.main.scope.names.lookup ("super" : Str)).isSome = false
  fn : ∃ (fI cda cc : Addr) (nm qual : Str) (params : Arguments) (scope : Scope) (dV kV doc pm ct oc ccl cl : Value) (an od cdd cld : Option Addr) (osl ccs csl : Array (Option Value)) (vs : Array Value) (file m : Str) (tf : Tok) (j : Nat) (ar : Arg) (p0 p1 p2 p3 p4 p5 p6 p7 p8 p9 : Pos),
    PySem.W.findIn K (.ref C) "__init__" = some (some (.ref fI)) ∧ PySem.W.typeIn K (.ref fI) = some (.type "function") ∧
    K.lookup fI = some ⟨oc, od, .func (PySem.W.ksFn nm qual params [.Expr (.Call (.Attribute (.Call (.Name "super" p0) [] [] p1) "__init__" p2) [.Constant (.str m) j p3] [] p4) p5, .Assign [.Attribute (.Name "self" p6) f p7] (.Name f p8) p9] scope dV kV doc pm an (.ref cda) ct cc), osl⟩ ∧
    PySem.W.codeIn K (.ref cda) qual = true ∧ K.lookup cda = some ⟨ccl, cdd, .fields vs, ccs⟩ ∧ vs[2]? = some (.str file tf) ∧ ((P.main.file : Str) == file) = true ∧ K.lookup cc = some ⟨cl, cld, .cell (some (.ref C)), csl⟩ ∧
    (params.posonlyargs ++ params.args).head? = some ar ∧ ar.arg = "self" ∧ scope.names.lookup ("super" : Str) = some .globalImplicit ∧ scope.names.lookup ("__class__" : Str) = some .free ∧ scope.names.lookup ("self" : Str) = some .local ∧ scope.names.lookup f = some .local ∧
    (∀ x ∈ scope.names, x.2 ≠ .cell) ∧ scope.kind = .function ∧ scope.isCoroutine = false ∧ scope.isGenerator = false ∧
    (∀ (s : Shared) (u v : Value), BindsTo s (PySem.W.ksFn nm qual params [.Expr (.Call (.Attribute (.Call (.Name "super" p0) [] [] p1) "__init__" p2) [.Constant (.str m) j p3] [] p4) p5, .Assign [.Attribute (.Name "self" p6) f p7] (.Name f p8) p9] scope dV kV doc pm an (.ref cda) ct cc) ⟨[u, v], []⟩ [("self", u), (f, v)]) ∧
    f ≠ "self" ∧ (f == ("__debug__" : Str)) = false ∧
    (∀ env : Env, ∃ pl : Sem Bool, eval (.Call (.Attribute (.Call (.Name "super" p0) [] [] p1) "__init__" p2) [.Constant (.str m) j p3] [] p4) env = (do
      let ov ← attributeBase (.Call (.Name "super" p0) [] [] p1) "__init__" env (eval (.Call (.Name "super" p0) [] [] p1) env)
      standAt p2.atName
      let (f, first) ← holding [ov] (getMethod ov "__init__" pl)
      callWith p4 f first (backTo p4 (starEach [.Constant (.str m) j p3] env)) [])) ∧
    (∀ env : Env, swapsWith (.Call (.Attribute (.Call (.Name "super" p0) [] [] p1) "__init__" p2) [.Constant (.str m) j p3] [] p4) none p5.line env = pure false) ∧
    (∀ env : Env, swapsWith (.Name f p8) (some (.Attribute (.Name "self" p6) f p7)) p9.line env = pure false)
section
variable {X : Cx} {pins : List (Addr × Obj)} {σ : L2.St} {H : Hp} {s : Shared} {C : Addr} {f : Str}
/-- two new objects are tracked -/
theorem inv_two {h' : Heap} {a d : Addr} {o u : HO} {t' : Nat} (I : L2.Inv X pins σ H s) (k : ∀ b ob, s.heap.get? b = some ob → h'.get? b = some ob) (ha : s.heap.objs.size ≤ a) (hd : s.heap.objs.size ≤ d)
    (new : ObjOk X.prog X.w (upd (upd H d u) a o) h' a o) (new2 : ObjOk X.prog X.w (upd (upd H d u) a o) h' d u) : L2.Inv X pins σ (upd (upd H d u) a o) { s with heap := h', toks := t' } := by
  have na : H a = none := I.hok.fresh ha
  have nd : H d = none := I.hok.fresh hd
  have la : ∀ {b : Addr} {ob : Obj}, s.heap.get? b = some ob → b ≠ a := fun {b ob} e => Nat.ne_of_lt (Nat.lt_of_lt_of_le (Heap.lt_size e) ha)
  have ld : ∀ {b : Addr} {ob : Obj}, s.heap.get? b = some ob → b ≠ d := fun {b ob} e => Nat.ne_of_lt (Nat.lt_of_lt_of_le (Heap.lt_size e) hd)
  refine I.un ⟨fun b ob e _ _ _ => k b ob e, fun b ob e _ _ _ => ⟨ob.slots, k b ob e⟩, fun b ob e n _ => by rw [upd_ne (la e), upd_ne (ld e)]; exact n, fun b ob e _ => ⟨ob, k b ob e⟩, fun b xs e => ?_, fun b ob x e => ?_, fun b ps e => ⟨#[], ?_⟩⟩ fun b w e => ?_
  · rw [upd_ne (ne_of_none e na), upd_ne (ne_of_none e nd)]; exact e
  · rw [upd_ne (ne_of_none e na), upd_ne (ne_of_none e nd)]; exact e
  · rw [upd_ne (ne_of_none e na), upd_ne (ne_of_none e nd), e]; simp
  · by_cases hb : b = a
    · subst hb
      rw [upd_same] at e
      cases e
      exact new
    · rw [upd_ne hb] at e
      by_cases hbd : b = d
      · subst hbd
        rw [upd_same] at e
        cases e
        exact new2
      · rw [upd_ne hbd] at e
        exact (I.hok b w e).stay (fun c v _ q => k c v q) (fun c q => by rw [upd_ne (ne_of_none q na), upd_ne (ne_of_none q nd)]; exact q) fun c xs q => by rw [upd_ne (ne_of_none q na), upd_ne (ne_of_none q nd)]; exact q
/-- ValueError.__init__ bound to an exception, called: its args are laid anew -/
theorem mw_call {prog : Program} {w : World} {A : Around} {E : Value → Shared → Prop} {hp : Heap} {g : Array GenState} {dr : Drawn} {tk : Nat} {os : OsState} {nm q : Str} {C N e u t0 : Addr} {bs bm : List Value} {hdct : Bool} {sn : List Str} {sub : List Value} {ab : Bool} {col : Option Bool} {dd : Option Addr} {k0 k1 k2 k3 k5 : Option Value} {rest : List Value} {Q : Value → Shared → Prop}
    (hC : hp.get? C = some (excClassObj nm q C N bs bm hdct sn sub ab col dd k0 k1 k2 k3 k5 "ValueError.__new__")) (he : hp.get? e = some (PySem.HandSPX.excO C t0)) (hu : hp.get? u = some (PySem.W.kxs_mw "ValueError.__init__" e)) (hz : rest.length ≤ sizeLine)
    (hq : ∀ h' t1, (∀ b o, b ≠ e → hp.get? b = some o → h'.get? b = some o) → h'.get? e = some (PySem.HandSPX.excO C t1) → Q .none ⟨h', g, dr, tk, os⟩) :
    wpAny (model prog w) A (call (.ref u) rest) Q E ⟨hp, g, dr, tk, os⟩ := by
  refine wpAny_call (codeAny_of_tree ?_)
  show wpAny _ A.in1 (callAny (.ref u) ⟨rest, []⟩) _ _ _
  unfold callAny
  refine wpAny_bind (wpAny_load hu ?_)
  have c1 : (Value.type "method-wrapper" == Value.type "method" || Value.type "method-wrapper" == Value.type "builtin_function_or_method" || Value.type "method-wrapper" == Value.type "method-wrapper") = true := by decide
  simp only [PySem.W.kxs_mw, c1, if_true]
  refine PySem.W.KFB.if_so (by decide) (wpAny_bind (PySem.W.check_bound_init F.excBase_ValueError.toExcCallFacts hC he rfl (wpAny_bind (wpAny_pure (wpAny_pure ?_)))))
  refine ⟨plainId_quiet F.excBase_ValueError.init.plain _, codeAny_builtin F.excBase_ValueError.initEntry ?_⟩
  exact PySem.W.exc_init_tree (cls := .ref C) (t0 := t0) (dv := none) (c2 := .none) (c3 := .none) (b4 := .bool false) he hz fun h' k1 k2 _ => hq h' _ k1 k2
theorem ns_at {h h' : Heap} {a : Addr} {m : Str → Option Value} (hn : h.Ns a m) (k : ∀ o, h.get? a = some o → h'.get? a = some o) : h'.Ns a m := by
  obtain ⟨o, es, ep, ho, r⟩ := hn
  exact ⟨o, es, ep, k o ho, r⟩
/-- the class called with its field's value -/
theorem mk_sup (S : SupC X.prog X.K X.mg C f) (hr : Room 2 X.A) (I : L2.Inv X pins σ H s) {u : Value} {Q : Value → Shared → Prop} {E : Value → Shared → Prop}
    (h : ∀ h' tk a d, (∀ b o, s.heap.get? b = some o → h'.get? b = some o) → s.heap.objs.size ≤ a → s.heap.objs.size ≤ d → d ≠ a → Kx a C (some d) h' → (∃ oe vs, h'.get? a = some oe ∧ oe.data = .fields vs ∧ vs[1]? = some .none) →
      h'.Ns1 d (fun y => if y = f then some u else none) → Q (.ref a) { s with heap := h', toks := tk }) :
    wpAny (model X.prog X.w) X.A (call (.ref C) [u]) Q E s := by
  obtain ⟨cnm, cq, N, bs, bm, sn, sub, ab, col, dd, k0, k1, k2, k3, k5, hC, hbm⟩ := S.T.cls
  obtain ⟨fI, cda, cc, nm, qual, params, scope, dV, kV, doc, pm, ct, oc, ccl, cl, an, od, cdd, cld, osl, ccs, csl, vs, file, m, tf, j, ar, p0, p1, p2, p3, p4, p5, p6, p7, p8, p9, iC, tI, lf, hcd, lcda, hvs, hfile, lcc, hpar, har, ks1, ks2, ks3, ks4, hcell, hkind, hco, hgen, hb, hne, hdb, hev, hsw1, hsw2⟩ := S.fn
  obtain ⟨mb, hmb1, hmb2⟩ := I.mod.blt
  have bk := I.bk
  have lim : s.heap.NoLimit := I.mod.nolimit.keeps bk
  have gl : s.heap.Ns mainGlobals X.mg := I.mod.glob.keeps bk
  have bl : s.heap.Ns builtinsNs mb := hmb1.keeps bk
  have kin := I.kIn
  obtain ⟨hp, g, dr, tk, os⟩ := s
  have hsz : hp.objs.size ≤ hp.objs.size + 1 := Nat.le_succ _
  refine wpAny_call (PySem.HandSPX.call_own F.excBase_ValueError (fun Y => PySem.HandSPX.refsVE_contains Y bm hbm) (kin _ _ hC) (PySem.W.looks_findIn kin iC) (fun self => PySem.W.bind_fn kin self tI) (by show 1 ≤ sizeLine; rw [sizeLine_eq]; omega) ?_)
  have kk : ∀ b o, hp.get? b = some o → ((hp.push (PySem.W.kdv_tup [u])).push (PySem.HandSPX.excO C hp.objs.size)).get? b = some o := fun b o e => Heap.get?_push_of_some _ (Heap.get?_push_of_some _ e)
  have hget : ((hp.push (PySem.W.kdv_tup [u])).push (PySem.HandSPX.excO C hp.objs.size)).get? (hp.objs.size + 1) = some (PySem.HandSPX.excO C hp.objs.size) := by heap_get
  have K2 := kin.keeps kk
  refine ks_codeAny_call_defAt (binds := [("self", .ref (hp.objs.size + 1)), (f, u)]) (hr.make C [u] []).depth (K2 _ _ lf) rfl (lim.keeps kk) (PySem.W.codeRec_of K2 hcd) rfl (hb _ _ _) hcell (fun x hx => ?_) (fun h0 hns h0k => ?_) hco hgen hkind
  · rcases List.mem_cons.mp hx with e | hx
    · rw [e]; exact ks3
    · rw [List.mem_singleton.mp hx]; exact ks4
  have k0 : ∀ b o, hp.get? b = some o → h0.get? b = some o := fun b o e => h0k b o (kk b o e)
  have K0 := kin.keeps k0
  have he0 := h0k _ _ hget
  have hself : (fun x => ([("self", Value.ref (hp.objs.size + 1)), (f, u)] : List (Str × Value)).reverse.lookup x) "self" = some (.ref (hp.objs.size + 1)) := by
    show List.lookup ("self" : Str) [(f, u), ("self", Value.ref (hp.objs.size + 1))] = _
    have e1 : (("self" : Str) == f) = false := by simpa using fun e => hne e.symm
    simp [List.lookup, e1]
  have hfu : (fun x => ([("self", Value.ref (hp.objs.size + 1)), (f, u)] : List (Str × Value)).reverse.lookup x) f = some u := by
    show List.lookup f [(f, u), ("self", Value.ref (hp.objs.size + 1))] = _
    simp [List.lookup]
  have hL : ((hp.push (PySem.W.kdv_tup [u])).push (PySem.HandSPX.excO C hp.objs.size)).objs.size ≠ hp.objs.size + 1 := by
    rw [Heap.size_push, Heap.size_push]
    omega
  obtain ⟨pl, hevE⟩ := hev (callEnv (PySem.W.ksFn nm qual params [.Expr (.Call (.Attribute (.Call (.Name "super" p0) [] [] p1) "__init__" p2) [.Constant (.str m) j p3] [] p4) p5, .Assign [.Attribute (.Name "self" p6) f p7] (.Name f p8) p9] scope dV kV doc pm an (.ref cda) ct cc) ((hp.push (PySem.W.kdv_tup [u])).push (PySem.HandSPX.excO C hp.objs.size)).objs.size fI)
  have hint : interactive (callEnv (PySem.W.ksFn nm qual params [.Expr (.Call (.Attribute (.Call (.Name "super" p0) [] [] p1) "__init__" p2) [.Constant (.str m) j p3] [] p4) p5, .Assign [.Attribute (.Name "self" p6) f p7] (.Name f p8) p9] scope dV kV doc pm an (.ref cda) ct cc) ((hp.push (PySem.W.kdv_tup [u])).push (PySem.HandSPX.excO C hp.objs.size)).objs.size fI) = false := by
    unfold interactive
    show (scope.kind == .module && _) = false
    rw [hkind]
    rfl
  refine ks_wpAt_execs_cons (ks_wpAt_Expr_any (ks_wpAt_MethodCall (ks_wpAt_super_base ks1 ks2 (by decide) rfl (K0 _ _ lf) rfl hpar rfl (K0 _ _ lcda) rfl hvs hfile S.top ?_) hevE) hint (hsw1 _))
  refine PySem.W.ks_loadName_global hkind ks1 (Calls.loadGlobal_builtin (gl.keeps k0) S.gsup (bl.keeps k0) ((hmb2 "super" (by decide)).trans Boot.«super») ⟨rfl, ?_⟩)
  refine wpAny_loadName_free hkind ks2 rfl ⟨_, K0 _ _ lcc, rfl⟩ ?_
  rw [har]
  refine wpAny_loadName_local hkind ks3 hns hself ?_
  refine ks_wpAny_isType_cls (K0 _ _ hC) rfl ⟨rfl, ?_⟩
  refine ks_wpAny_call_super (K0 _ _ hC) rfl he0 rfl (fun c z => nomatch z) (PySem.W.looks_mroIn K0 S.self) (fun h1 so1 k1 => ?_)
  have K1 := K0.keeps k1
  have he1 := k1 _ _ he0
  have hns1 : h1.Ns ((hp.push (PySem.W.kdv_tup [u])).push (PySem.HandSPX.excO C hp.objs.size)).objs.size _ := ns_at hns fun o e => k1 _ _ e
  have hcl : PySem.W.clsIn X.K C = some { name := cnm, bases := bs, mro := .ref C :: bm, ns := N, qualname := cq, hasDict := true, slotNames := sn, subclasses := sub, abstract := ab, collection := col, hasDel := false } := by
    unfold PySem.W.clsIn
    rw [hC] <;> rfl
  have I1 : PySem.W.InstAt h1 (hp.objs.size + 1) (PySem.HandSPX.excO C hp.objs.size) C none := ⟨he1, rfl, rfl, trivial⟩
  have hm : PySem.W.alongIn X.K "__init__" (((Value.ref C :: bm).dropWhile (· != .ref C)).drop 1) = some (some (.builtin "ValueError.__init__")) := by
    have z := S.sup
    unfold PySem.W.ks_superIn at z
    rw [hcl] at z
    exact z
  refine PySem.W.kxs_getMethod PySem.W.kxs_ValueError so1 (PySem.W.looks_opaque K1 S.any) (l₀ := .ref C :: bm) ((PySem.W.looks_clsIn K1 hcl).andThen .now) rfl K1 hm (I1.type.andThen (PySem.W.looks_subIn K1 S.ve)) (PySem.W.ks_ne K1 I1 hcl) (by decide) ?_
  have u1 : ∀ b o, h1.get? b = some o → (h1.push (PySem.W.kxs_mw "ValueError.__init__" (hp.objs.size + 1))).get? b = some o := fun b o e => Heap.get?_push_of_some _ e
  have hu1 : (h1.push (PySem.W.kxs_mw "ValueError.__init__" (hp.objs.size + 1))).get? h1.objs.size = some (PySem.W.kxs_mw "ValueError.__init__" (hp.objs.size + 1)) := Heap.get?_push_at rfl rfl
  refine PySem.W.kxs_callWith (i := "ValueError.__init__") (x := hp.objs.size + 1) rfl (Calls.evalArgs_plain (Calls.spliced_cons (Calls.Constant_str (x := m) (k := j) (pos := p3) (Calls.spliced_nil ⟨hu1, ?_⟩))))
  refine mw_call (K1.keeps u1 _ _ hC) (u1 _ _ he1) hu1 (by show 1 ≤ sizeLine; rw [sizeLine_eq]; omega) fun h2 t1 k2 he2 => ?_
  have hns2 : h2.Ns ((hp.push (PySem.W.kdv_tup [u])).push (PySem.HandSPX.excO C hp.objs.size)).objs.size _ := ns_at hns1 fun o e => k2 _ _ hL (u1 _ _ e)
  have kp2 : ∀ b o, hp.get? b = some o → h2.get? b = some o := fun b o e => k2 b o (Nat.ne_of_lt (Nat.lt_succ_of_lt (Heap.lt_size e))) (u1 _ _ (k1 _ _ (k0 _ _ e)))
  have K2' := kin.keeps kp2
  show PySem.wpAt _ _ _ (execs _ _) _ _ _
  refine ks_wpAt_execs_cons (ks_wpAt_Assign_Attr ?_ (hsw2 _))
  refine PySem.wpAt_of_wpAny ?_
  refine wpAny_Name (wpAny_loadName_local (by exact hkind) (by exact ks4) hns2 hfu ?_) hdb
  refine wpAny_Name (wpAny_loadName_local (by exact hkind) (by exact ks3) hns2 hself ?_) (by decide)
  refine PySem.W.set_plain K2' (ox := PySem.HandSPX.excO C t1) (od := none) ⟨he2, rfl, rfl, trivial⟩ S.T.sa ?_
  refine PySem.HandSPX.exc_osa K2' he2 hcl (show PySem.HandSPX.refsVE (.ref C :: bm) = true from hbm) rfl S.no (fun h3 tk3 dx k3 dn dne hx hn => ?_)
  have sz2 : hp.objs.size ≤ h2.objs.size := Nat.le_of_lt (Nat.lt_of_succ_lt (Heap.lt_size he2))
  refine PySem.wpAt_of_wpAny (wpAny_execs_nil ⟨rfl, ?_⟩)
  exact h h3 tk3 (hp.objs.size + 1) dx (fun b o e => k3 b o (Nat.ne_of_lt (Nat.lt_succ_of_lt (Heap.lt_size e))) (kp2 b o e)) hsz (Nat.le_trans sz2 dn) dne ⟨_, _, hx, ⟨rfl, rfl⟩, rfl⟩ ⟨_, _, hx, rfl, rfl⟩ hn
end
end DL
namespace DL
open PySem PySem.Spec PyProof.Rows L2
open Evl (Ex)
/-! ### exceptions: wishes -/
/-- the class, its fields, what is ours -/
abbrev DX := Addr → List (Str × Dt) → Mem → Prop
/-- what is known where an exception leaves: H0 stood still at the entry, G0 the frame (where it is asked for) -/
def Wof (H0 : Hp) (G0 : Option Fm) (kx : DX) (cls : Value) (d : Option Addr) (σ : L2.St) (Hc : Hp) : Prop :=
  ∃ C fs M' H', cls = .ref C ∧ Ex H0 H' ∧ (∀ Γ0, G0 = some Γ0 → Fr H' σ Γ0) ∧ Own H' Hc M' ∧ FsAt H' d fs ∧ kx C fs M'
theorem Wof.ex {H0 H1 : Hp} {kx : DX} {cls : Value} {d : Option Addr} {σ : L2.St} {Hc : Hp} (e : Ex H0 H1) (h : Wof H1 none kx cls d σ Hc) : Wof H0 none kx cls d σ Hc := by
  obtain ⟨C, fs, M', H', h1, h2, _, r⟩ := h
  exact ⟨C, fs, M', H', h1, e.trans h2, fun _ z => (nomatch z), r⟩
/-- the frame is the one that is asked for -/
def At0 (G0 : Option Fm) (Γ : Fm) : Prop := match G0 with
  | none => True
  | some Γ0 => Γ0 = Γ
/-- a promise that may be broken by an exception -/
abbrev PrX := List Sl → Mem → DK → DX → Prop
structure HoldsX (P : Program) (w : World) (K : PySem.W.Frag) (mg : Str → Option Value) (base : Heap) (k : Nat) (f : Addr) (fd : FuncData) (ps : List Str) (pr : PrX) : Prop where
  len : ∀ ss M q kx, pr ss M q kx → ss.length = ps.length
  go : ∀ (A : Around) (outer : List Env) (s : Shared) (Hc : Hp) (args : Args) (us : List Value) (vs : List V) (ss : List Sl) (M : Mem) (H : Hp) (q : DK) (kx : DX) (Q : VK) (E : XK), Rm k A → Env0 P w K mg base A outer s Hc →
    BindsTo s fd args (ps.zip us) → Vals vs us → Rps H ss vs → Own H Hc M → pr ss M q kx → On H q Q → (∀ cls d σ Hc', Wof H none kx cls d σ Hc' → E cls d Hc') →
    codeAny (model P w) A (.call (.ref f) args) (CR (L2.CX P w) outer P w Hc s Q E) s
theorem HoldsX.mono {P : Program} {w : World} {K : PySem.W.Frag} {mg : Str → Option Value} {base : Heap} {j k : Nat} {f : Addr} {fd : FuncData} {ps : List Str} {pr : PrX} (F : HoldsX P w K mg base j f fd ps pr) (h : j ≤ k) : HoldsX P w K mg base k f fd ps pr :=
  ⟨F.len, fun A outer s Hc args us vs ss M H q kx Q E r => F.go A outer s Hc args us vs ss M H q kx Q E (r.mono h)⟩
section
variable {X : Cx} {e : Expr} {es : List Expr} {de : DE} {das : DA} {pos p : Pos} {x : Str} {k : Nat} {f : Addr} {fd : FuncData} {ps : List Str} {pr : PrX}
theorem callX_go {pins : List (Addr × Obj)} {σ : L2.St} {Hc H : Hp} {M : Mem} {s : Shared} {Q : VK} {q : DK} {kx : DX} {W : WX} {us : List Value} {vs : List V} {ss : List Sl} (tk : Takes X W) (F : HoldsX X.prog X.w X.K X.mg X.base k f fd ps pr) (hr : Rm k X.A) (hb : Binds X.K fd ps [])
    (I : L2.Inv X pins σ Hc s) (r : Vals vs us) (rs : Rps H ss vs) (O : Own H Hc M) (h : pr ss M q kx) (on : On H q Q) (hW : ∀ cls d σ' Hc', Wof H none kx cls d σ' Hc' → W cls d σ Hc') : wpAny (model X.prog X.w) X.A (call (.ref f) us) (EP X pins σ Q) X.xe s := by
  have e1 : us.length = ps.length := by rw [← r.length, rps_len rs]; exact F.len _ _ _ _ h
  have e2 : BindsTo s fd ⟨us, []⟩ (ps.zip us) := by
    have z := hb s us I.kIn (by rw [List.append_nil]; exact e1)
    rw [List.append_nil] at z
    exact z
  refine wpAny_call (codeAny_mono (F.go X.A X.stack s Hc ⟨us, []⟩ us vs ss M H q kx Q (WE W σ) hr I.env0 e2 r rs O h on hW) fun res s' hq => ?_)
  cases res with
  | error er => exact passAt tk σ pins Hc s er s' I hq
  | ok fl =>
    cases fl with
    | ret u => exact I.after hq
    | next => exact hq.elim
    | brk => exact hq.elim
    | cont => exact hq.elim
/-- f(..), where f raises nothing -/
def dCallN (pr : PrX) (das : DA) : DE := fun Γ M k => das Γ M fun ss M1 => pr ss M1 k fun _ _ _ => False
theorem run_args {pins : List (Addr × Obj)} {σ : L2.St} {Hc : Hp} {s : Shared} {das : DA} {Γ : Fm} {M : Mem} {H : Hp} {k0 : List Sl → Mem → Prop} (ha : XA X (e :: es) das) (I : L2.Inv X pins σ Hc s) (hd : das Γ M k0) (F' : Fr H σ Γ) (O : Own H Hc M) {R : List Value → Shared → Prop}
    (hR : ∀ us s1 vs ss H1 H2 M1, L2.Inv X pins σ H1 s1 → Vals vs us → Rps H2 ss vs → Own H2 H1 M1 → Ex H H2 → k0 ss M1 → R us s1) :
    wpAny (model X.prog X.w) X.A (spliced (backTo pos (starEach (e :: es) X.env))) R X.xe s := by
  have ha' : PA X (e :: es) (LA das) := ha
  have hR0 : LA das σ Hc fun vs H1 => ∃ ss M1 H2, Rps H2 ss vs ∧ Own H2 H1 M1 ∧ k0 ss M1 ∧ Ex H H2 :=
    ⟨Γ, M, H, k0, hd, F', O, fun vs ss M' H' Hc' e1 O1 r1 h1 => ⟨ss, M', H', r1, O1, h1, e1⟩⟩
  refine thn (ha'.run pos pins s σ Hc _ I hR0) fun us s1 z => ?_
  obtain ⟨vs, H1, I1, r, ss, M1, H2, z1, z2, z3, z4⟩ := z
  exact hR us s1 vs ss H1 H2 M1 I1 r z1 z2 z4 z3
theorem takes_false (X : Cx) : Takes X fun _ _ _ _ => False := fun u s' ⟨_, _, _, _, _, _, _, _, _, _, _, _, _, _, _, _, z⟩ => z.elim
theorem xe_callN (F : HoldsX X.prog X.w X.K X.mg X.base k f fd ps pr) (hr : Rm k X.A) (hm : X.mg x = some (.ref f)) (hk : PySem.W.keepIn X.K (.ref f) = true) (hb : Binds X.K fd ps []) (ha : XA X (e :: es) das) (hg : Gl X x := by rfl)
    (hdb : (x == ("__debug__" : Str)) = false := by decide) (he : starEach (e :: es) X.env = (false, eval e X.env) :: starEach es X.env := by rfl) (hpl : (backTo pos (starEach es X.env)).any (·.1) = false := by rfl) : XE X (.Call (.Name x p) (e :: es) [] pos) (dCallN pr das) := by
  refine ⟨fun pins s σ Hc Q I ⟨Γ, M, H, q, hd, F', O, on⟩ => ?_⟩
  refine wpAny_Call_Name_kw (ld_glob I hg hm ?_ hdb)
  refine PySem.W.callWith_K (h₀ := X.base) I.ok.mod.kin hk (run_args ha I hd F' O fun us s1 vs ss H1 H2 M1 I1 r z1 z2 z4 z3 => ?_) he hpl
  exact ⟨I1.kIn, callX_go (takes_false X) F hr hb I1 r z1 z2 z3 (on.ex z4) fun _ _ _ _ ⟨_, _, _, _, _, _, _, _, _, z⟩ => z⟩
/-- f(..), where f may raise: i the ghost's place -/
def dCallX (i : Nat) (H0 : Hp) (G0 : Option Fm) (kx : DX) (pr : PrX) (das : DA) : DE := fun Γ M k => (Γ[i]? = some (some (.base H0)) ∧ At0 G0 Γ) ∧ das Γ M fun ss M1 => pr ss M1 k kx
/-- exceptions are wished for -/
abbrev Wish (X : Cx) (W : WX) (H0 : Hp) (G0 : Option Fm) (kx : DX) : Prop := Takes X W ∧ ∀ cls d σ Hc', Wof H0 G0 kx cls d σ Hc' → W cls d σ Hc'
theorem wof_at {H0 H H2 : Hp} {G0 : Option Fm} {kx : DX} {Γ : Fm} {σ σ' : L2.St} {cls : Value} {d : Option Addr} {Hc : Hp} (F : Fr H σ Γ) {i : Nat} (hg : Γ[i]? = some (some (.base H0)) ∧ At0 G0 Γ) (e : Ex H H2) (h : Wof H2 none kx cls d σ' Hc) : Wof H0 G0 kx cls d σ Hc := by
  obtain ⟨C, fs, M', H', h1, h2, _, r⟩ := h
  refine ⟨C, fs, M', H', h1, ((F.gh i H0 hg.1).trans e).trans h2, fun Γ0 z => ?_, r⟩
  have a := hg.2
  rw [z] at a
  have a' : Γ0 = Γ := a
  rw [a']
  exact F.ex (e.trans h2)
theorem xe_callX {i : Nat} {H0 : Hp} {G0 : Option Fm} {kx : DX} {W : WX} (wi : Wish X W H0 G0 kx) (F : HoldsX X.prog X.w X.K X.mg X.base k f fd ps pr) (hr : Rm k X.A) (hm : X.mg x = some (.ref f)) (hk : PySem.W.keepIn X.K (.ref f) = true) (hb : Binds X.K fd ps []) (ha : XA X (e :: es) das) (hg : Gl X x := by rfl)
    (hdb : (x == ("__debug__" : Str)) = false := by decide) (he : starEach (e :: es) X.env = (false, eval e X.env) :: starEach es X.env := by rfl) (hpl : (backTo pos (starEach es X.env)).any (·.1) = false := by rfl) : XE X (.Call (.Name x p) (e :: es) [] pos) (dCallX i H0 G0 kx pr das) := by
  refine ⟨fun pins s σ Hc Q I ⟨Γ, M, H, q, ⟨hgh, hd⟩, F', O, on⟩ => ?_⟩
  refine wpAny_Call_Name_kw (ld_glob I hg hm ?_ hdb)
  refine PySem.W.callWith_K (h₀ := X.base) I.ok.mod.kin hk (run_args ha I hd F' O fun us s1 vs ss H1 H2 M1 I1 r z1 z2 z4 z3 => ?_) he hpl
  exact ⟨I1.kIn, callX_go wi.1 F hr hb I1 r z1 z2 z3 (on.ex z4) fun cls d σ' Hc' z => wi.2 cls d σ Hc' (wof_at F' hgh z4 z)⟩
end
/-- a def that may raise -/
def startX (N : List Str) (ss : List Sl) (H0 : Hp) : Fm := startF N ss ++ [some (.base H0)]
theorem fr_startX {H : Hp} {ss : List Sl} {vs : List V} {N : List Str} (r : Rps H ss vs) (hz : ss.length ≤ N.length) : Fr H (L2.start N vs) (startX N ss H) := by
  have F := fr_start N r
  have hl := rps_len r
  have e1 : (L2.start N vs).length = N.length := by unfold L2.start; simp [hl]; omega
  have e2 : (startF N ss).length = N.length := by unfold startF; simp; omega
  refine ⟨by unfold startX; rw [List.length_append, e1, e2]; exact Nat.le_succ _, fun i s hi h => ?_, fun i H0 h => ?_⟩
  · unfold startX at h
    rw [List.getElem?_append_left (by rw [e2]; rw [e1] at hi; exact hi)] at h
    exact F.sl i s hi h
  · unfold startX at h
    by_cases hi : i < (startF N ss).length
    · rw [List.getElem?_append_left hi] at h
      exact F.gh i H0 h
    · rw [List.getElem?_append_right (by omega)] at h
      by_cases h2 : i - (startF N ss).length = 0
      · rw [h2] at h
        cases h
        exact Evl.Ex.refl H
      · rw [List.getElem?_eq_none (by simp; omega)] at h
        cases h
section
variable {P : Program} {w : World} {K : PySem.W.Frag} {mg : Str → Option Value} {base : Heap}
abbrev BdX (P : Program) (w : World) (K : PySem.W.Frag) (mg : Str → Option Value) (base : Heap) (N : List Str) (qual : Str) (st : Stmt) (f : Addr) (cdv : Value) (A : Around) (outer : List Env) (s : Shared) (H : Hp) (E : XK) : Cx :=
  cxOf (L2.CX P w) P w K mg base N qual (defScope st) f cdv A outer s H E
theorem holdsX_of {nm qual : Str} {st : Stmt} {f : Addr} {fd : FuncData} {N ps : List Str} {k : Nat} {pr : PrX} {ds : Hp → DX → DS} (F : FunV K nm qual st f fd) (S : FnScope N ps (defScope st)) (hz : ps.length ≤ N.length) (len : ∀ ss M q kx, pr ss M q kx → ss.length = ps.length)
    (body : ∀ (cdv : Value) (A : Around) (outer : List Env) (s : Shared) (H : Hp) (E : XK) (H0 : Hp) (kx : DX), Rm k (BdX P w K mg base N qual st f cdv A outer s H E).A → Wish (BdX P w K mg base N qual st f cdv A outer s H E) (fun cls d _ Hc => E cls d Hc) H0 none kx →
      XSs (BdX P w K mg base N qual st f cdv A outer s H E) (defBody st) (ds H0 kx))
    (read : ∀ ss M q kx H0, pr ss M q kx → ds H0 kx { nx := fun _ M' => q (.dat .none) M', rt := q } (startX N ss H0) M) : HoldsX P w K mg base (k + 1) f fd ps pr := by
  obtain ⟨oc, od, dV, kV, doc, pm, an, cdv, ct, osl, rfl, lk, hcd⟩ := F.ex
  refine ⟨len, fun A outer s Hc args us vs ss M H q kx Q E hr e0 hb r rs O hp on hE => ?_⟩
  have gu2 : (A.deeper (envOfC qual (defScope st) s.heap.objs.size f cdv)).guards = some [] := hr.gu
  have KX : K.In s.heap := e0.mod.kin.keeps fun b o e => (e0.bs b o e).1
  have lim : s.heap.NoLimit := e0.mod.nolimit.keeps fun b o z => (e0.bs b o z).1
  have hl : vs.length = ps.length := by rw [rps_len rs]; exact len _ _ _ _ hp
  have kinds : ∀ y ∈ ps.zip us, (defScope st).names.lookup y.1 = some .local ∨ ((defScope st).names.lookup y.1 = some .cell ∧ ((cellsFrom (s.heap.objs.size + 1) (defScope st).names []).lookup y.1).isSome = true) := by
    rintro ⟨n, v⟩ hy
    rcases S.par n (List.of_mem_zip hy).1 with z | z
    · exact .inl z
    · exact .inr ⟨z, PySem.W.cellsFrom_some _ _ _ (.inl z)⟩
  refine codeAny_call_function hr.rm.depth (KX _ _ lk) rfl S.co S.gen rfl (PySem.W.codeRec_of KX hcd) (hb _ _ _ _ (wpAny_newFunctionEnv_cells S.kind kinds fun env he s1 z => ?_))
  subst he
  refine ⟨lim.keeps z.toInCall.keep, codeAny_func ?_⟩
  have wi : Wish (BdX P w K mg base N qual st f cdv A outer s Hc E) (fun cls d _ Hc => E cls d Hc) H none kx := ⟨takes_of rfl rfl rfl rfl, hE⟩
  have B := body cdv A outer s Hc E H kx ⟨hr.rm.deeper _, gu2⟩ wi
  have I : L2.Inv (BdX P w K mg base N qual st f cdv A outer s Hc E) [] (L2.start N vs) Hc s1 := inv_start S hr.rm.hd e0 hl r z
  have here : LS (ds H kx) { nx := fun _ H' => Q .non H', rt := Q } (L2.start N vs) Hc := ⟨_, M, H, _, read ss M q kx H hp, fr_startX rs (by rw [len _ _ _ _ hp]; exact hz), O,
    ⟨fun σ' Γ' M' H' Hc' e1 _ O1 h1 => on .non (.dat .none) M' H' Hc' e1 O1 .non h1, on, fun _ _ _ _ _ _ _ _ h1 => h1.elim, fun _ _ _ _ _ _ _ _ h1 => h1.elim⟩⟩
  refine wpAny_mono (B.run [] s1 (L2.start N vs) Hc _ I here) (fun fl s' hs => ?_) fun e s' hs => hs
  match fl, hs with
  | .ret u, ⟨v, _, H', J, rv, h1⟩ => exact ⟨v, H', J.os, J.bare, J.base, J.hok, rv, h1⟩
  | .next, ⟨_, H', J, h1⟩ => exact ⟨.non, H', J.os, J.bare, J.base, J.hok, rfl, h1⟩
  | .brk, ⟨_, _, _, h1⟩ => exact h1.elim
  | .cont, ⟨_, _, _, h1⟩ => exact h1.elim
end
end DL
namespace DL
open PySem PySem.Spec PyProof.Rows L2
open Evl (Ex)
/-! ### exceptions made, raised, asked, caught -/
/-- what the written part says of an own error class -/
structure ErrC (K : PySem.W.Frag) (C : Addr) : Prop where
  cl : (PySem.W.clsIn K C).isSome = true
  hg : PySem.W.findIn K (.ref C) "__getattribute__" = some (some (.builtin "BaseException.__getattribute__"))
  hk : PySem.W.findIn K (.ref C) "__getattr__" = some none
  hs : PySem.W.subIn K (.ref C) (.type "BaseException") = some true
  ha : PySem.W.findIn K (.ref C) "__class__" = some (some (.builtin "object.__class__"))
  hn : PySem.W.specialIn K (.builtin "object.__class__") "__get__" = some (some (.builtin "getset_descriptor.__get__"))
  ht : PySem.W.takesIn K (.builtin "object.__class__") = some true
  hm : PySem.W.mroIn K C (.type "object") = some true
  hd : PySem.W.hasDictIn K C = true
  ty : PySem.W.typeIn K (.ref C) = some (.type "type")
  kC : PySem.W.keepIn K (.ref C) = true
def errB (K : PySem.W.Frag) (C : Addr) : Bool :=
  (PySem.W.clsIn K C).isSome && (decide (PySem.W.findIn K (.ref C) "__getattribute__" = some (some (.builtin "BaseException.__getattribute__"))) && (decide (PySem.W.findIn K (.ref C) "__getattr__" = some none) && (decide (PySem.W.subIn K (.ref C) (.type "BaseException") = some true) &&
  (decide (PySem.W.findIn K (.ref C) "__class__" = some (some (.builtin "object.__class__"))) && (decide (PySem.W.specialIn K (.builtin "object.__class__") "__get__" = some (some (.builtin "getset_descriptor.__get__"))) && (decide (PySem.W.takesIn K (.builtin "object.__class__") = some true) &&
  (decide (PySem.W.mroIn K C (.type "object") = some true) && (PySem.W.hasDictIn K C && (decide (PySem.W.typeIn K (.ref C) = some (.type "type")) && PySem.W.keepIn K (.ref C))))))))))
theorem errB_ok {K : PySem.W.Frag} {C : Addr} (h : errB K C = true) : ErrC K C := by
  unfold errB at h
  simp only [Bool.and_eq_true, decide_eq_true_eq] at h
  obtain ⟨a1, a2, a3, a4, a5, a6, a7, a8, a9, a10, a11⟩ := h
  exact ⟨a1, a2, a3, a4, a5, a6, a7, a8, a9, a10, a11⟩
theorem ErrC.raises {X : Cx} {C : Addr} (h : ErrC X.K C) : Raises X (.ref C) := raises_own h.hs h.ty
section
variable {X : Cx} {e : Expr} {es : List Expr} {te : TE} {de : DE} {das : DA} {pos p : Pos} {x : Str} {C : Addr} {f : Str}
/-- C(e), as a value -/
theorem pe_mkF (S : SupC X.prog X.K X.mg C f) (hr : Room 2 X.A) (hg : Gl X x) (hm : X.mg x = some (.ref C)) (he : PE X e te) (hs : starEach [e] X.env = (false, eval e X.env) :: starEach [] X.env := by rfl) (hdb : (x == ("__debug__" : Str)) = false := by decide) :
    PE X (.Call (.Name x p) [e] [] pos) (fun σ H Q => te σ H fun v H1 => ∀ a d, H1 a = none → H1 d = none → d ≠ a → Q (.ref a) (upd (upd H1 d (.xd [(f, v)])) a (exk a C (some d)))) := by
  refine ⟨fun pins s σ H Q I h => ?_⟩
  refine wpAny_Call_Name_kw (ld_glob I hg hm ?_ hdb)
  refine PySem.W.callWith_K (h₀ := X.base) I.ok.mod.kin S.T.kC ?_ hs (by rfl)
  rw [hs]
  show wpAny _ _ (spliced ((false, eval e X.env) :: backTo pos (starEach [] X.env))) _ _ s
  refine Calls.spliced_cons (thn (he.run pins s σ H _ I h) fun u s1 ⟨v, H1, I1, r1, q1⟩ => ?_)
  refine Calls.spliced_nil ⟨I1.kIn, ?_⟩
  refine mk_sup S hr I1 fun h' tk a d k ha hd hne hk _ hn => ?_
  have na := I1.hok.fresh ha
  have nd := I1.hok.fresh hd
  have rr : ∀ g, RelO (([(f, v)] : List (Str × V)).lookup g) (if g = f then some u else none) := fun g => L2.relO_put (fs := []) (mA := fun _ => none) r1 (fun _ => True.intro) g
  have ext : ObjOk X.prog X.w (upd (upd H1 d (.xd [(f, v)])) a (exk a C (some d))) h' a (exk a C (some d)) := by
    obtain ⟨oe, vs, e1, e2, e3⟩ := hk
    exact ⟨⟨oe, vs, e1, e2, e3⟩, ⟨oe, e1⟩, fun h1 h2 ⟨o, w, q1, q2, q3⟩ kk => ⟨o, w, kk o q1, q2, q3⟩⟩
  have xdk : ObjOk X.prog X.w (upd (upd H1 d (.xd [(f, v)])) a (exk a C (some d))) h' d (.xd [(f, v)]) := ⟨_, hn, rr⟩
  exact ⟨.ref a, _, inv_two (t' := tk) I1 k ha hd ext xdk, rfl, q1 a d na nd hne⟩
/-- raise C(e): the exception that is made -/
theorem pmk_sup (S : SupC X.prog X.K X.mg C f) (hr : Room 2 X.A) (hg : Gl X x) (hm : X.mg x = some (.ref C)) (he : PE X e te) (hs : starEach [e] X.env = (false, eval e X.env) :: starEach [] X.env := by rfl) (hdb : (x == ("__debug__" : Str)) = false := by decide) :
    PMk X (.Call (.Name x p) [e] [] pos) (fun σ H Q => te σ H fun v H1 => ∀ d, H1 d = none → Q (.ref C) (some d) (upd H1 d (.xd [(f, v)]))) := by
  intro pins s σ H Q I h
  refine wpAny_Call_Name_kw (ld_glob I hg hm ?_ hdb)
  refine PySem.W.callWith_K (h₀ := X.base) I.ok.mod.kin S.T.kC ?_ hs (by rfl)
  rw [hs]
  show wpAny _ _ (spliced ((false, eval e X.env) :: backTo pos (starEach [] X.env))) _ _ s
  refine Calls.spliced_cons (thn (he.run pins s σ H _ I h) fun u s1 ⟨v, H1, I1, r1, q1⟩ => ?_)
  refine Calls.spliced_nil ⟨I1.kIn, ?_⟩
  refine mk_sup S hr I1 fun h' tk a d k ha hd hne hk ho hn => ?_
  obtain ⟨oe, vs, e1, e2, e3⟩ := hk
  obtain ⟨oe2, vs2, g1, g2, g3⟩ := ho
  rw [e1] at g1
  cases g1
  obtain ⟨G, g1', g2'⟩ := restrict h' fun b => decide (b ≠ a)
  have gk : ∀ b, b ≠ a → G.get? b = h'.get? b := fun b hb => g1' b (decide_eq_true hb)
  have ge : G.get? a = none := g2' a (by simp)
  have na := I1.hok.fresh ha
  have nd := I1.hok.fresh hd
  have k2 : ∀ b o, s1.heap.get? b = some o → G.get? b = some o := fun b o q => by
    rw [gk b (Nat.ne_of_lt (Nat.lt_of_lt_of_le (Heap.lt_size q) ha))]
    exact k b o q
  have rr : ∀ g, RelO (([(f, v)] : List (Str × V)).lookup g) (if g = f then some u else none) := fun g => L2.relO_put (fs := []) (mA := fun _ => none) r1 (fun _ => True.intro) g
  have J : L2.Inv X pins σ (upd H1 d (.xd [(f, v)])) { s1 with heap := G, toks := tk } := I1.laid k2 hd ⟨_, hn.at fun o q => (gk d hne).trans q, rr⟩
  refine ⟨a, oe, vs2, _, upd H1 d (.xd [(f, v)]), .ref C, some d, rfl, J, fun b o q => ?_, ge, e1, e2, g2, g3, by rw [upd_ne (Ne.symm hne)]; exact na, rfl, I1.bare, raises_own S.T.exC S.T.tyC, q1 d nd⟩
  by_cases hb : b = a
  · rw [hb, ge] at q
    cases q
  · rw [← gk b hb]
    exact q
/-! ### readings -/
def dMkF (C : Addr) (f : Str) (de : DE) : DE := fun Γ M k => de Γ M fun s M1 => match s with
  | .dat d => k (.exc C [(f, d)]) M1
  | _ => False
def dMkT (C : Addr) (de : DE) : DE := fun Γ M k => de Γ M fun _ M1 => k (.exc C []) M1
theorem xe_mkF (S : SupC X.prog X.K X.mg C f) (hr : Rm 2 X.A) (hm : X.mg x = some (.ref C)) (he : XE X e de) (hg : Gl X x := by rfl) (hs : starEach [e] X.env = (false, eval e X.env) :: starEach [] X.env := by rfl) (hdb : (x == ("__debug__" : Str)) = false := by decide) :
    XE X (.Call (.Name x p) [e] [] pos) (dMkF C f de) := xe_of (pe_mkF S hr.rm hg hm he hs hdb) fun Γ M k σ H Hc Q hd F O q => simLE Γ M _ σ H Hc _ hd F O fun v s M1 H1 Hc1 e1 O1 r1 h1 => by
  split at h1
  · intro a d na nd hne
    obtain ⟨O2, e2⟩ := O1.grow (o := .xd [(f, v)]) nd
    obtain ⟨O3, e3⟩ := O2.grow (p := a) (o := exk a C (some d)) (by rw [upd_ne (Ne.symm hne)]; exact na)
    refine q _ (.exc C [(f, _)]) _ _ _ (e1.trans (e2.trans e3)) O3 ⟨a, some d, Kx a C (some d), rfl, upd_same, fun _ z => z, ?_⟩ h1
    exact ⟨[(f, v)], by rw [upd_ne hne, upd_same], .cons ⟨rfl, dp_ex (e2.trans e3) r1⟩ .nil⟩
  · exact h1.elim
theorem xe_mkT {bmB : List Value} {B newId initId : String} (F : ExcBaseFacts B newId initId bmB) (q : PySem.W.excIn X.K C bmB newId = true) (kC : PySem.W.keepIn X.K (.ref C) = true) (hm : X.mg x = some (.ref C)) (he : XE X e de) (hg : Gl X x := by rfl)
    (hs : starEach [e] X.env = (false, eval e X.env) :: starEach [] X.env := by rfl) (hdb : (x == ("__debug__" : Str)) = false := by decide) :
    XE X (.Call (.Name x p) [e] [] pos) (dMkT C de) := xe_of (pe_exc1 F q hm kC hg he hs hdb) fun Γ M k σ H Hc Q hd F' O q => simLE Γ M _ σ H Hc _ hd F' O fun v s M1 H1 Hc1 e1 O1 r1 h1 => by
  intro a na
  obtain ⟨O2, e2⟩ := O1.grow (o := ExO (.ref C) a) na
  exact q _ (.exc C []) _ _ _ (e1.trans e2) O2 ⟨a, none, _, rfl, upd_same, fun h ⟨oe, vs, z1, z2, z3, _⟩ => ⟨oe, vs, z1, z2, z3⟩, rfl⟩ h1
/-- less is ours -/
theorem Own.less {H Hc : Hp} {M M' : Mem} (O : Own H Hc M) (h : ∀ a o, M' a = some o → M a = some o) : Own H Hc M' := ⟨O.ex, fun a o e => O.no a o (h a o e), fun a o e => O.ob a o (h a o e)⟩
/-- raise C('m') -/
def dRaiT (i : Nat) (H0 : Hp) (G0 : Option Fm) (kx : DX) (C : Addr) : DS := fun _ Γ M => (Γ[i]? = some (some (.base H0)) ∧ At0 G0 Γ) ∧ ∃ M', (∀ a o, M' a = some o → M a = some o) ∧ kx C [] M'
def dRaiF (i : Nat) (H0 : Hp) (G0 : Option Fm) (kx : DX) (C : Addr) (f : Str) (de : DE) : DS := fun _ Γ M => (Γ[i]? = some (some (.base H0)) ∧ At0 G0 Γ) ∧ de Γ M fun s M1 => ∃ d, s = .dat d ∧ ∃ M', (∀ a o, M' a = some o → M1 a = some o) ∧ kx C [(f, d)] M'
theorem wof_here {H0 H H2 : Hp} {G0 : Option Fm} {kx : DX} {Γ : Fm} {σ : L2.St} {d : Option Addr} {Hc : Hp} {fs : List (Str × Dt)} {M' : Mem} (F : Fr H σ Γ) {i : Nat} (hg : Γ[i]? = some (some (.base H0)) ∧ At0 G0 Γ) (e : Ex H H2) (O : Own H2 Hc M') (hf : FsAt H2 d fs) (h : kx C fs M') : Wof H0 G0 kx (.ref C) d σ Hc :=
  wof_at (σ' := σ) F hg e ⟨C, fs, M', H2, rfl, Evl.Ex.refl _, (fun _ z => nomatch z), O, hf, h⟩
theorem xs_raiT {bmB : List Value} {B newId initId : String} {i : Nat} {H0 : Hp} {G0 : Option Fm} {kx : DX} {W : WX} {m : Str} {j : Nat} {p2 pos2 : Pos} (wi : Wish X W H0 G0 kx) (F : ExcBaseFacts B newId initId bmB) (q : PySem.W.excIn X.K C bmB newId = true) (E : ErrC X.K C) (hm : X.mg x = some (.ref C))
    (hc : X.calm = true := by rfl) (hg : Gl X x := by rfl) (hdb : (x == ("__debug__" : Str)) = false := by decide) : XS X (.Raise (some (.Call (.Name x p) [.Constant (.str m) j p2] [] pos)) none pos2) (dRaiT i H0 G0 kx C) :=
  xs_of (ps_raise hc wi.1 (pmk_own F q hm E.kC E.raises hg hdb)) fun Γ M D σ H Hc Q hd F' O _ => by
  obtain ⟨hgh, M', hM, hk⟩ := hd
  exact wi.2 _ _ _ _ (wof_here F' hgh (Evl.Ex.refl _) (O.less hM) rfl hk)
theorem xs_raiF {i : Nat} {H0 : Hp} {G0 : Option Fm} {kx : DX} {W : WX} {pos2 : Pos} (wi : Wish X W H0 G0 kx) (S : SupC X.prog X.K X.mg C f) (hr : Rm 2 X.A) (hm : X.mg x = some (.ref C)) (he : XE X e de)
    (hc : X.calm = true := by rfl) (hg : Gl X x := by rfl) (hs : starEach [e] X.env = (false, eval e X.env) :: starEach [] X.env := by rfl) (hdb : (x == ("__debug__" : Str)) = false := by decide) : XS X (.Raise (some (.Call (.Name x p) [e] [] pos)) none pos2) (dRaiF i H0 G0 kx C f de) :=
  xs_of (ps_raise hc wi.1 (pmk_sup S hr.rm hg hm he hs hdb)) fun Γ M D σ H Hc Q hd F' O _ => by
  obtain ⟨hgh, hd⟩ := hd
  refine simLE Γ M _ σ H Hc _ hd F' O fun v s M1 H1 Hc1 e1 O1 r1 h1 => ?_
  obtain ⟨d, rfl, M', hM, hk⟩ := h1
  intro a na
  obtain ⟨O2, e2⟩ := O1.grow (o := .xd [(f, v)]) na
  exact wi.2 _ _ _ _ (wof_here F' hgh (e1.trans e2) (O2.less hM) ⟨[(f, v)], upd_same, .cons ⟨rfl, dp_ex e2 (show Dq H1 v d from r1)⟩ .nil⟩ hk)
end
end DL
namespace DL
open PySem PySem.Spec PyProof.Rows L2
open Evl (Ex)
/-! ### isinstance of an exception, its field; try: .. except x as n: t = n -/
def rIsX (K : PySem.W.Frag) : List V → Hp → VK → Prop := fun xs H Q => ∃ (a C : Addr) (d : Option Addr) (φ : Heap → Prop) (c : V) (cv : Value) (b : Bool), xs = [.ref a, c] ∧ H a = some (.ext φ) ∧ (∀ h, φ h → Kx a C d h) ∧ (∀ dd, d = some dd → ∃ ws, H dd = some (.xd ws)) ∧ ErrC K C ∧
  (∀ u, RelV c u → u = cv) ∧ PySem.W.kitOne K (.ref C) cv = some b ∧ Q (.bl b) H
section
variable {X : Cx} {pins : List (Addr × Obj)} {σ : L2.St} {H : Hp} {s : Shared}
/-- the exception stands there -/
theorem exc_inst {a C : Addr} {d : Option Addr} {φ : Heap → Prop} (I : L2.Inv X pins σ H s) (ha : H a = some (.ext φ)) (hφ : ∀ h, φ h → Kx a C d h) (hd : ∀ dd, d = some dd → ∃ ws, H dd = some (.xd ws)) :
    ∃ ox od, PySem.W.InstAt s.heap a ox C od ∧ ∀ dd ws, d = some dd → H dd = some (.xd ws) → ∃ mA, s.heap.Ns1 dd mA ∧ (∀ f, RelO (ws.lookup f) (mA f)) ∧ ∃ o, od = some o ∧ ∀ f, PySem.W.lookIn f o = some (mA f) := by
  obtain ⟨oe, vs, h1, h2, h3⟩ := hφ _ (I.hok a _ ha).1
  cases d with
  | none => exact ⟨oe, none, ⟨h1, h2.1, by unfold PySem.W.notCls; rw [h3] <;> rfl, by rw [h2.2]; exact True.intro⟩, fun dd ws z => (nomatch z)⟩
  | some dd =>
    obtain ⟨ws, e⟩ := hd dd rfl
    have hx : ObjOk X.prog X.w H s.heap dd (.xd ws) := I.hok dd _ e
    obtain ⟨mA, hns, hr⟩ := hx
    obtain ⟨od, ho, hl⟩ := lookIn_ns hns
    refine ⟨oe, some od, ⟨h1, h2.1, by unfold PySem.W.notCls; rw [h3] <;> rfl, by rw [h2.2]; exact ho⟩, fun d2 w2 z q => ?_⟩
    cases z
    rw [e] at q
    cases q
    exact ⟨mA, hns, hr, od, rfl, hl⟩
theorem call_isX : CallR X (.builtin "isinstance") (rIsX X.K) := by
  intro pins s σ H xs us Q I r h
  obtain ⟨a, C, d, φ, c, cv, b, rfl, ha, hφ, hd, E, hcv, e, q⟩ := h
  cases r with
  | cons rx rr =>
    cases rr with
    | cons rt rr =>
      cases rr
      cases rx
      have ec := hcv _ rt
      subst ec
      obtain ⟨ox, od, J, _⟩ := exc_inst I ha hφ hd
      exact PySem.W.kia_one (PySem.W.kitx_exc E.cl E.hg E.hk E.hs E.ha E.hn E.ht E.hm) I.kIn J e (fun z => nomatch z) fun tk => ⟨.bl b, H, I.kept (t' := tk) fun _ _ z => z, rfl, q⟩
def fIsiX (K : PySem.W.Frag) : DC := fun ss M k => match ss with
  | [.fix (.exc C fs), .raw (.ref D)] => ErrC K C ∧ ∃ b, PySem.W.kitOne K (.ref C) (.ref D) = some b ∧ k (.dat (.bool b)) M
  | [.fix (.exc C fs), .raw (.ty T)] => ErrC K C ∧ ∃ b, PySem.W.kitOne K (.ref C) (.type T) = some b ∧ k (.dat (.bool b)) M
  | [.dat d, .raw (.ref D)] => ∃ b, PySem.W.kitOne K (.type (tyD d)) (.ref D) = some b ∧ k (.dat (.bool b)) M
  | [.dat d, .raw (.ty T)] => ∃ b, PySem.W.kitOne K (.type (tyD d)) (.type T) = some b ∧ k (.dat (.bool b)) M
  | _ => False
theorem fs_dict {H : Hp} {d : Option Addr} {fs : List (Str × Dt)} (h : FsAt H d fs) : ∀ dd, d = some dd → ∃ ws, H dd = some (.xd ws) := by
  rintro dd rfl
  obtain ⟨ws, h1, _⟩ := h
  exact ⟨ws, h1⟩
theorem sim_isiX {K : PySem.W.Frag} : SimC (fun xs H Q => rIsX K xs H Q ∨ rIsi K xs H Q) (fIsiX K) := by
  intro ss M k xs H Hc Q h r O q
  unfold fIsiX at h
  split at h
  · obtain ⟨x, y, rfl, rx, ry⟩ := rps2 r
    obtain ⟨a, d, φ, rfl, h1, h2, h3⟩ := rx
    cases ry
    obtain ⟨E, b, e, h⟩ := h
    have fd := fs_dict h3
    exact .inl ⟨a, _, d, φ, _, _, b, rfl, O.ex _ _ h1, h2, fun dd z => by obtain ⟨ws, e⟩ := fd dd z; exact ⟨ws, O.ex _ _ e⟩, E, fun u z => z, e, q.dat O (.bl _) h⟩
  · obtain ⟨x, y, rfl, rx, ry⟩ := rps2 r
    obtain ⟨a, d, φ, rfl, h1, h2, h3⟩ := rx
    cases ry
    obtain ⟨E, b, e, h⟩ := h
    have fd := fs_dict h3
    exact .inl ⟨a, _, d, φ, _, _, b, rfl, O.ex _ _ h1, h2, fun dd z => by obtain ⟨ws, e⟩ := fd dd z; exact ⟨ws, O.ex _ _ e⟩, E, fun u z => z, e, q.dat O (.bl _) h⟩
  · obtain ⟨x, y, rfl, rx, ry⟩ := rps2 r
    cases ry
    obtain ⟨b, e, h⟩ := h
    exact .inr ⟨x, _, _, _, b, rfl, .own _, ty_of_dq (dp_ex O.ex rx), e, q.dat O (.bl _) h⟩
  · obtain ⟨x, y, rfl, rx, ry⟩ := rps2 r
    cases ry
    obtain ⟨b, e, h⟩ := h
    exact .inr ⟨x, _, _, _, b, rfl, .ty _, ty_of_dq (dp_ex O.ex rx), e, q.dat O (.bl _) h⟩
  · exact h.elim
theorem call_isiX : CallR X (.builtin "isinstance") (fun xs H Q => rIsX X.K xs H Q ∨ rIsi X.K xs H Q) := CallR.or call_isX call_isi
/-! ### e.f -/
def tAttX (K : PySem.W.Frag) (n : Str) (te : TE) : TE := fun σ H Q => te σ H fun x H1 => ∃ (a C dd : Addr) (φ : Heap → Prop) (ws : List (Str × V)) (v : V), x = .ref a ∧ H1 a = some (.ext φ) ∧ (∀ h, φ h → Kx a C (some dd) h) ∧ H1 dd = some (.xd ws) ∧ ws.lookup n = some v ∧ ErrC K C ∧ PySem.W.findIn K (.ref C) n = some none ∧ Q v H1
theorem pe_attX {e : Expr} {te : TE} {pos : Pos} {n : Str} (he : PE X e te) (hb : attributeBase e n X.env (eval e X.env) = eval e X.env := by rfl) : PE X (.Attribute e n pos) (tAttX X.K n te) := by
  refine ⟨fun pins s σ H Q I h => ?_⟩
  refine attr_of hb (thn (he.run pins s σ H _ I h) fun u s1 hh => ?_)
  obtain ⟨x, H1, I1, rx, a, C, dd, φ, ws, v, rfl, ha, hφ, hd, l, E, hno, q⟩ := hh
  obtain rfl : u = Value.ref a := rx
  obtain ⟨ox, od, J, z⟩ := exc_inst I1 ha hφ (fun d2 e => by cases e; exact ⟨ws, hd⟩)
  obtain ⟨mA, hns, hr, o, rfl, hl⟩ := z dd ws rfl hd
  obtain ⟨u, hu, ru⟩ := RelO.some_of (v := v) (o := mA n) (by rw [← l]; exact hr n)
  exact PySem.HandSPX.exc_get I1.kIn J E.hg E.hk E.hs (PySem.W.findObj_own E.hd hno rfl (by rw [hl, hu])) (handed_of ru) ⟨v, H1, I1.tok _, ru, q⟩
def dAttX (K : PySem.W.Frag) (n : Str) (de : DE) : DE := fun Γ M k => de Γ M fun s M1 => match s with
  | .fix (.exc C fs) => ∃ d, fs.lookup n = some d ∧ ErrC K C ∧ PySem.W.findIn K (.ref C) n = some none ∧ k (.dat d) M1
  | _ => False
theorem fs_look {H : Hp} {n : Str} {d : Dt} : ∀ {fs : List (Str × Dt)} {ws : List (Str × V)}, Paired (fun (p : Str × Dt) (q : Str × V) => p.1 = q.1 ∧ Dq H q.2 p.2) fs ws → fs.lookup n = some d → ∃ v, ws.lookup n = some v ∧ Dq H v d
  | [], _, .nil, h => nomatch h
  | (f, x) :: fs, (g, y) :: ws, .cons r t, h => by
    obtain ⟨e, r⟩ := r
    dsimp only at e
    subst e
    by_cases hf : (n == f) = true
    · rw [List.lookup_cons, hf] at h ⊢
      cases h
      exact ⟨y, rfl, r⟩
    · have hf' : (n == f) = false := by simpa using hf
      rw [List.lookup_cons, hf'] at h ⊢
      exact fs_look t h
theorem xe_attX {e : Expr} {de : DE} {pos : Pos} {n : Str} (he : XE X e de) (hb : attributeBase e n X.env (eval e X.env) = eval e X.env := by rfl) : XE X (.Attribute e n pos) (dAttX X.K n de) := xe_of (pe_attX he hb) fun Γ M k σ H Hc Q hd F O q => simLE Γ M _ σ H Hc _ hd F O fun v s M1 H1 Hc1 e1 O1 r1 h1 => by
  split at h1
  · obtain ⟨a, dd, φ, rfl, g1, g2, g3⟩ := r1
    obtain ⟨d, l, E, hno, h1⟩ := h1
    cases dd with
    | none =>
      have z : _ = [] := g3
      rw [z] at l
      cases l
    | some dd =>
      obtain ⟨ws, w1, w2⟩ := g3
      obtain ⟨v, l2, r2⟩ := fs_look w2 l
      exact ⟨a, _, dd, φ, ws, v, rfl, O1.ex _ _ g1, g2, O1.ex _ _ w1, l2, E, hno, (q.ex e1).dat O1 r2 h1⟩
  · exact h1.elim
/-! ### a caught exception is kept -/
/-- what was caught is tracked from now on -/
theorem inv_track {a C : Addr} {d : Option Addr} (I : L2.Inv X pins σ H s) (hk : Kx a C d s.heap) (na : H a = none) (n0 : X.s_0.heap.get? a = none) (nL : a ≠ X.env.locals) (nP : ∀ p ∈ X.pn ++ pins, p.1 ≠ a) : L2.Inv X pins σ (upd H a (exk a C d)) s := by
  obtain ⟨oe, vs, k1, k2, k3⟩ := hk
  have old : ∀ b o, X.s_0.heap.get? b = some o → b ≠ a := fun b o e z => by rw [z, n0] at e; cases e
  have tr : ∀ {b : Addr} {o : HO}, H b = some o → b ≠ a := fun {b o} e z => by rw [z, na] at e; cases e
  refine ⟨I.ok, I.os, I.bare, ⟨I.base.keep, I.base.slot, fun b o e n hx => ?_, I.base.there, fun b xs e => ?_, fun b o u e => ?_, fun b ps e => ?_⟩, I.loc, I.cell, ?_, fun x c e => ?_, fun p hp => ?_, fun b w e => ?_, I.len⟩
  · rw [upd_ne (old b o e)]; exact I.base.free b o e n hx
  · have z := I.base.tups b xs e
    rw [upd_ne (tr z)]; exact z
  · have z := I.base.frzs b o u e
    rw [upd_ne (tr z)]; exact z
  · obtain ⟨m, z⟩ := I.base.tbls b ps e
    exact ⟨m, by rw [upd_ne (tr z)]; exact z⟩
  · rw [upd_ne (Ne.symm nL)]; exact I.free
  · rw [upd_ne ?_]
    · exact I.freeC x c e
    · rintro rfl
      obtain ⟨v, o, ho, hc⟩ := I.cell x c e
      rw [k1] at ho
      cases ho
      rw [k3] at hc
      cases hc
  · obtain ⟨z1, z2, z3⟩ := I.pin p hp
    exact ⟨z1, by rw [upd_ne (nP p hp)]; exact z2, z3⟩
  · by_cases hb : b = a
    · subst hb
      rw [upd_same] at e
      cases e
      exact ⟨⟨oe, vs, k1, k2, k3⟩, ⟨oe, k1⟩, fun h1 h2 ⟨o, w, q1, q2, q3⟩ kk => ⟨o, w, kk o q1, q2, q3⟩⟩
    · rw [upd_ne hb] at e
      exact (I.hok b w e).stay (fun c v _ q => q) (fun c q => by rw [upd_ne (tr q)]; exact q) fun c xs q => by rw [upd_ne (tr q)]; exact q
/-- what 'except x as n: t = n' wishes: i is n's slot, j is t's -/
def wKeep (K : PySem.W.Frag) (c : Value) (i j : Nat) (D : Ends) : WX := fun cls d σ H => ∃ C, cls = .ref C ∧ PySem.W.exmOne K (.ref C) c = some true ∧ ∀ a, H a = none → D.nx (((σ.set i (some (.ref a))).set j (some (.ref a))).set i none) (upd H a (exk a C d))
theorem ps_try_keep {x n t : Str} {c : Value} {i j : Nat} {body : List Stmt} {np pos pos' q1 q2 q3 : Pos} {tb : WX → TS} (hx : X.ex = []) (hs : X.stack = X.env :: X.outer) (hf : X.env.frame = some X.env.locals) (hN : X.N.Nodup) (hi : X.N[i]? = some n) (hln : X.env.kindOf n = some .local)
    (hj : X.N[j]? = some t) (hlt : X.env.kindOf t = some .local) (hc : Names X x c) (hdn : (n == ("__debug__" : Str)) = false) (hcn : (n == ("__classdict__" : Str)) = false) (hsw : swapsWith (.Name n q2) (some (.Name t q1)) q3.line X.env = pure false)
    (hb : ∀ (W : WX) (pn : List (Addr × Obj)) (xe : Value → Shared → Prop), Takes (X.tr pn xe) W → PassesOwn (model X.prog X.w) X.A X.env xe → PSs (X.tr pn xe) body (tb W)) :
    PS X (.Try body [.ExceptHandler (some (.Name x np)) (some n) [.Assign [.Name t q1] (.Name n q2) q3] pos'] [] [] pos) (fun D σ H => tb (wKeep X.K c i j D) D σ H) := by
  refine ⟨fun pins s σ H D I h => ?_⟩
  have ok := I.ok
  have hfr : X.A.frames = some (X.env :: X.outer) := by rw [ok.frames, hs]
  have tail : ∀ {fl : Flow} {s1 : Shared}, SP (X.tr (X.pn ++ pins) fun e s₁ => wpAny (model X.prog X.w) X.A (noteFrame e X.env) (fun _ s₂ => wpAny (model X.prog X.w) X.A (setFlight e none) (fun _ s₃ =>
      wpAny (model X.prog X.w) X.A (handleBy e X.env [.ExceptHandler (some (.Name x np)) (some n) [.Assign [.Name t q1] (.Name n q2) q3] pos']) (SP X pins D) X.xe s₃) X.xe s₂) X.xe s₁) [] D fl s1 → SP X pins D fl s1 := fun {fl s1} hsp => by
    match fl, hsp with
    | .next, ⟨σ', H', J, q⟩ => exact ⟨σ', H', J.ofTry ok, q⟩
    | .brk, ⟨σ', H', J, q⟩ => exact ⟨σ', H', J.ofTry ok, q⟩
    | .cont, ⟨σ', H', J, q⟩ => exact ⟨σ', H', J.ofTry ok, q⟩
    | .ret u, ⟨v, σ', H', J, r, q⟩ => exact ⟨v, σ', H', J.ofTry ok, r, q⟩
  refine wpAny_Try_except (wpAny_mono ((hb (wKeep X.K c i j D) (X.pn ++ pins) _ (fun u s' xx => ?_) PassesOwn.looking).run [] s σ H D (I.toTry _) h) (fun fl s1 hsp => ?_) fun e s1 he => he)
  · obtain ⟨a, B, sI, pins', σ', H', cls, d, rfl, J', nb, up, sky, na, os, ag, C, rfl, hex, hgo⟩ := xx
    have J : L2.Inv X pins σ' H' sI := J'.ofTry ok
    have sky' : Sky B (X.env :: X.outer) a (Zc (.ref C) d) X.env.locals s'.heap := hs ▸ sky
    have nB : B.get? a = none := by
      rcases sky' with ⟨_, z, _⟩ | ⟨_, z, _⟩ | ⟨_, z, _⟩ <;> exact z
    show wpAny (model X.prog X.w) X.A (noteFrame (.ref a) X.env) _ _ _
    refine Sky.land Zc.steady hfr hf sky' fun h3 fl3 up3 => ?_
    have J3 : L2.Inv X pins σ' H' { s' with heap := h3 } := J.landed nb fl3.1 (up.trans up3) os ag
    obtain ⟨oe3, vs3, he3, hz3, hd3⟩ := fl3.there
    have nfr : a ∉ frs (X.env :: X.outer) := fun hm => by
      obtain ⟨_, o', e', hnf⟩ := fl3.2.2.1.mem hm
      rw [he3] at e'
      cases e'
      exact hnf _ hd3
    have nI : ∀ o, sI.heap.get? a ≠ some o := fun o e => by
      have z := nb a o e (by rw [hs]; exact nfr)
      rw [nB] at z
      cases z
    have nL : a ≠ X.env.locals := fun z => nfr (List.mem_filterMap.mpr ⟨X.env, List.mem_cons_self, by rw [hf, z]⟩)
    have nF : a ∉ X.fs := fun hm => by
      obtain ⟨e, he, q⟩ := List.mem_filterMap.mp hm
      exact nfr (List.mem_filterMap.mpr ⟨e, List.mem_cons_of_mem _ he, q⟩)
    have n0 : X.s_0.heap.get? a = none := by
      cases z : X.s_0.heap.get? a with
      | none => rfl
      | some o =>
        obtain ⟨o', z'⟩ := J.base.there a o z (by rw [hx]; exact fun z => nomatch z)
        exact absurd z' (nI o')
    have nP : ∀ p ∈ X.pn ++ pins, p.1 ≠ a := fun p hp z => nI p.2 (by rw [← z]; exact (J.pin p hp).1)
    have S3 := J3.suite he3 hd3 na nL nF
    refine wpAny_handleBy_cons (codeAny_handlers_test ?_) (by intro q; cases q)
    have LT : PySem.W.Looks (model X.prog X.w) h3 (typeOf (.ref a)) (.ref C) := fun A Q E s k q => wpAny_typeOf_ref (k _ _ he3) (by rw [hz3.1]; exact q)
    have LM := PySem.W.exm_one (M := model X.prog X.w) (J3.kIn) LT hex
    have test : ∀ {Q : Value → Shared → Prop} {E : Value → Shared → Prop}, Q c { s' with heap := h3 } → wpAny (model X.prog X.w) (X.A.mark (some (.ref a))) (eval (.Name x np) X.env) Q E { s' with heap := h3 } := fun {Q E} q => by
      obtain ⟨hg, hdbg, hm | ⟨hm, hv, hnn⟩⟩ := hc
      · exact ld_glob (X := X.suite a ((a, oe3) :: (X.pn ++ pins))) S3 hg hm q hdbg
      · exact ld_blt (X := X.suite a ((a, oe3) :: (X.pn ++ pins))) S3 hg hm hv q hnn hdbg
    refine test (LM.here ?_)
    refine codeAny_handlers_suite_as ?_
    refine PySem.HandSPX.lands_againZ fl3 fun h4 fl4 up4 => ?_
    have J4 : L2.Inv X pins σ' H' { s' with heap := h4 } := J.landed nb fl4.1 ((up.trans up3).trans up4) os ag
    obtain ⟨oe4, vs4, he4, hz4, hd4⟩ := fl4.there
    have S4 := J4.suite he4 hd4 na nL nF
    have hloc : Loc X.env.scope n := .inl hln
    refine store_ok (X := X.suite a ((a, oe4) :: (X.pn ++ pins))) (v := .ref a) S4 hN hi hloc rfl (fun s5 S5 => ?_) (.inr hln)
    have asg : PSs (X.suite a ((a, oe4) :: (X.pn ++ pins))) [.Assign [.Name t q1] (.Name n q2) q3] (fun D σ H => ∃ v, σ[i]? = some (some v) ∧ D.nx (σ.set j (some v)) H) :=
      pss_one (ps_set (X := X.suite a ((a, oe4) :: (X.pn ++ pins))) (i := j) hN hj (.inl hlt) (pv (X := X.suite a ((a, oe4) :: (X.pn ++ pins))) i hi (.inl hln) hdn hcn) (hs := hsw) (hf := .inr hlt))
    refine wpAny_mono (asg.run [] s5 _ H' { nx := fun σ6 H6 => H6 = H' ∧ σ6 = (σ'.set i (some (.ref a))).set j (some (.ref a)), rt := fun _ _ => False } S5 ⟨.ref a, List.getElem?_set_self (by rw [J.len]; exact (List.getElem?_eq_some_iff.mp hi).1), rfl, rfl⟩) (fun fl s6 hsp => ?_) fun _ _ z => False.elim z
    match fl, hsp with
    | .next, ⟨σ6, H6, S6, e6, e7⟩ =>
      subst e6 e7
      refine gone_ok (X := X.suite a ((a, oe4) :: (X.pn ++ pins))) S6 hN hi hln fun s7 S7 => ?_
      obtain ⟨g7, _⟩ := S7.pin (a, oe4) (List.mem_append_left _ List.mem_cons_self)
      have J7 := S7.unsuite ok
      exact ⟨_, _, inv_track J7 ⟨oe4, vs4, g7, hz4, hd4⟩ na n0 nL nP, hgo a na⟩
    | .brk, ⟨σ6, H6, S6, z⟩ => exact z.elim
    | .cont, ⟨σ6, H6, S6, z⟩ => exact z.elim
    | .ret u, ⟨v6, σ6, H6, S6, r6, z⟩ => exact z.elim
  · cases fl with
    | next => exact wpAny_execs_nil (tail hsp)
    | brk => exact tail hsp
    | cont => exact tail hsp
    | ret u => exact tail hsp
end
end DL
namespace DL
open PySem PySem.Spec PyProof.Rows L2
open Evl (Ex)
/-! ### try: .. except x as n: t = n, by readings -/
theorem Fr.take {H : Hp} {σ : L2.St} {Γ : Fm} (F : Fr H σ Γ) {n : Nat} (h : σ.length ≤ n) : Fr H σ (Γ.take n) := by
  have key : ∀ (i : Nat) (s : Sl), (Γ.take n)[i]? = some (some s) → Γ[i]? = some (some s) := fun i s e => by
    rw [List.getElem?_take] at e
    split at e
    · exact e
    · cases e
  refine ⟨by rw [List.length_take]; have := F.len; omega, fun i s hi e => F.sl i s hi (key i s e), fun i H0 e => F.gh i H0 (key i _ e)⟩
theorem Fr.ghost {H : Hp} {σ : L2.St} {Γ : Fm} (F : Fr H σ Γ) : Fr H σ (Γ ++ [some (.base H)]) := by
  refine ⟨by rw [List.length_append]; exact Nat.le_trans F.len (Nat.le_add_right _ _), fun i s hi e => F.sl i s hi ?_, fun i H0 e => ?_⟩
  · rw [List.getElem?_append_left (Nat.lt_of_lt_of_le hi F.len)] at e
    exact e
  · by_cases h : i < Γ.length
    · rw [List.getElem?_append_left h] at e
      exact F.gh i H0 e
    · rw [List.getElem?_append_right (by omega)] at e
      by_cases h2 : i - Γ.length = 0
      · rw [h2] at e
        cases e
        exact Evl.Ex.refl H
      · rw [List.getElem?_eq_none (by simp; omega)] at e
        cases e
/-- the wish of the body's exceptions -/
def kxT (K : PySem.W.Frag) (c : Value) (i j : Nat) (Γ : Fm) (D : DEnds) : DX := fun C fs M' => PySem.W.exmOne K (.ref C) c = some true ∧ D.nx (((Γ.set i (some (.exc C fs))).set j (some (.exc C fs))).set i none) M'
def dTry (K : PySem.W.Frag) (c : Value) (i j : Nat) (db : Hp → Option Fm → DX → DS) : DS := fun D Γ M => ∀ H0, db H0 (some (Γ ++ [some (.base H0)])) (kxT K c i j Γ D)
  { nx := fun Γ' M' => D.nx (Γ'.take Γ.length) M', rt := D.rt, bk := fun Γ' M' => D.bk (Γ'.take Γ.length) M', ct := fun Γ' M' => D.ct (Γ'.take Γ.length) M' } (Γ ++ [some (.base H0)]) M
section
variable {X : Cx}
theorem xs_try {x n t : Str} {c : Value} {i j : Nat} {body : List Stmt} {np pos pos' q1 q2 q3 : Pos} {db : Hp → Option Fm → DX → DS} (hx : X.ex = []) (hs : X.stack = X.env :: X.outer) (hf : X.env.frame = some X.env.locals) (hN : X.N.Nodup) (hi : X.N[i]? = some n) (hln : X.env.kindOf n = some .local)
    (hj : X.N[j]? = some t) (hlt : X.env.kindOf t = some .local) (hc : Names X x c) (hdn : (n == ("__debug__" : Str)) = false) (hcn : (n == ("__classdict__" : Str)) = false) (hsw : swapsWith (.Name n q2) (some (.Name t q1)) q3.line X.env = pure false)
    (hb : ∀ (W : WX) (pn : List (Addr × Obj)) (xe : Value → Shared → Prop) (H0 : Hp) (G0 : Option Fm) (kx : DX), Wish (X.tr pn xe) W H0 G0 kx → PassesOwn (model X.prog X.w) X.A X.env xe → XSs (X.tr pn xe) body (db H0 G0 kx)) :
    XS X (.Try body [.ExceptHandler (some (.Name x np)) (some n) [.Assign [.Name t q1] (.Name n q2) q3] pos'] [] [] pos) (dTry X.K c i j db) := by
  refine xs_len fun pins s σ Hc E I hl ⟨Γ, M, H, D, hd, F, O, q⟩ => ?_
  refine ⟨_, ps_try_keep (tb := fun W E σ Hc => ∃ H0 G0 kx, (∀ cls d σ' Hc', Wof H0 G0 kx cls d σ' Hc' → W cls d σ' Hc') ∧ LS (db H0 G0 kx) E σ Hc) hx hs hf hN hi hln hj hlt hc hdn hcn hsw (fun W pn xe tk pass => ⟨fun pins s σ Hc E I ⟨H0, G0, kx, hw, h⟩ => (hb W pn xe H0 G0 kx ⟨tk, hw⟩ pass).run pins s σ Hc E I h⟩), ?_⟩
  have lenG : ∀ {σ' : L2.St}, σ'.length = X.N.length → σ'.length ≤ Γ.length := fun {σ'} e => by
    rw [e, ← hl]
    exact F.len
  refine ⟨H, some (Γ ++ [some (.base H)]), kxT X.K c i j Γ D, fun cls d σ' Hc' w => ?_, Γ ++ [some (.base H)], M, H, { nx := fun Γ' M' => D.nx (Γ'.take Γ.length) M', rt := D.rt, bk := fun Γ' M' => D.bk (Γ'.take Γ.length) M', ct := fun Γ' M' => D.ct (Γ'.take Γ.length) M' }, hd H, F.ghost, O, ⟨fun σ' Γ' M' H' Hc' e1 F1 O1 h1 hl' => ?_, q.rt, fun σ' Γ' M' H' Hc' e1 F1 O1 h1 hl' => ?_, fun σ' Γ' M' H' Hc' e1 F1 O1 h1 hl' => ?_⟩⟩
  · obtain ⟨C, fs, M', H', rfl, e1, hfr, O1, hfs, hex, hn⟩ := w
    have F1 := hfr _ rfl
    refine ⟨C, rfl, hex, fun a na hl' => ?_⟩
    rw [List.length_set, List.length_set, List.length_set] at hl'
    obtain ⟨O2, e2⟩ := O1.grow (o := exk a C d) na
    have na' : H' a = none := Evl.fresh_back O1.ex na
    have F2 : Fr H' σ' Γ := by
      have z := F1.take (n := Γ.length) (lenG hl')
      rw [List.take_left] at z
      exact z
    have r : Rp (upd H' a (exk a C d)) (.exc C fs) (.ref a) := ⟨a, d, Kx a C d, rfl, upd_same, fun _ z => z, fs_ex e2 hfs⟩
    have F3 := (((F2.ex e2).set (i := i) r).set (i := j) r).forget i
    exact q.nx _ _ M' _ _ (e1.trans e2) F3 O2 hn
  · exact q.nx _ _ M' H' Hc' e1 (F1.take (lenG hl')) O1 h1
  · exact q.bk _ _ M' H' Hc' e1 (F1.take (lenG hl')) O1 h1
  · exact q.ct _ _ M' H' Hc' e1 (F1.take (lenG hl')) O1 h1
end
end DL
namespace DL
open PySem PySem.Spec PyProof.Rows L2
open Evl (Ex)
/-! ### count and index of flat data -/
def flatD : Dt → Bool
  | .none | .bool _ | .int _ | .str _ => true
  | _ => false
def vOf : Dt → V
  | .bool b => .bl b
  | .int i => .int i
  | .str x => .str x
  | _ => .non
theorem dq_vOf {H : Hp} {v : V} {d : Dt} (r : Dq H v d) (h : flatD d = true) : v = vOf d := by cases r <;> first | rfl | cases h
theorem flat_vOf {d : Dt} : flatV (vOf d) = true := by cases d <;> rfl
theorem dqs_vOf {H : Hp} : ∀ {ds : List Dt} {vs : List V}, DqAll H vs ds → ds.all flatD = true → vs = ds.map vOf
  | [], _, .nil, _ => rfl
  | d :: ds, _, .cons r t, h => by
    rw [List.all_cons, Bool.and_eq_true] at h
    rw [dq_vOf r h.1, dqs_vOf t h.2]
    rfl
theorem all_flat (ds : List Dt) : (ds.map vOf).all flatV = true := by
  rw [List.all_map, List.all_eq_true]
  exact fun _ _ => flat_vOf
section
variable {X : Cx}
def rCountF (K : PySem.W.Frag) : V → List V → Hp → VK → Prop := fun x xs H Q => ∃ (a : Addr) (ys : List V) (y : V), x = .ref a ∧ xs = [y] ∧ SqL K H a ys ∧ flatV y = true ∧ ys.all flatV = true ∧ Q (.int (ys.countP fun z => eqV z y : Nat)) H
theorem count_flat {y : V} : ∀ {ys : List V} {us : List Value}, Vals ys us → ys.all flatV = true → us.countP (eqU y) = ys.countP fun z => eqV z y
  | [], _, .nil, _ => rfl
  | z :: ys, _, .cons r t, h => by
    rw [List.all_cons, Bool.and_eq_true] at h
    rw [List.countP_cons, List.countP_cons, count_flat t h.2, eqU_of r h.1]
theorem mt_countF : MtR X "list.count" (rCountF X.K) := by
  intro pins s σ H x xs v us Q I rx rxs h
  obtain ⟨a, ys, y, rfl, rfl, hs, fy, fys, q⟩ := h
  cases rx
  cases rxs with
  | cons ry rt =>
    rename_i uy ut
    cases rt
    obtain ⟨its, rv, ⟨⟨cls, dd, data, sl⟩, n, ho, hc, hdn, hd⟩, hlen⟩ := I.list hs
    simp only at hc hd
    subst hc hd
    refine call_meets PySem.F.slot_list_count ⟨_, ho, rfl⟩ PySem.F.entry_list_count (PySem.F.args_list_count_2 _ _) (SeqAt.list_countAt a its.toArray n dd sl uy (eqU y)) ⟨ho, fun u' hu' => mem_eqAt ry fy rv fys u' (by simpa using hu'), ?_⟩
    refine ⟨.int (ys.countP fun z => eqV z y : Nat), H, I.tok _, ⟨s.toks, ?_⟩, q⟩
    show Value.int ((its.toArray.toList.countP (eqU y) : Nat) : Int) s.toks = _
    rw [show its.toArray.toList = its from rfl, count_flat rv fys]
def fCountF : Sl → List Sl → Mem → DK → Prop := fun o ss M k => match ss with
  | [.dat d] => ∃ ds : List Dt, IsL M o (ds.map .dat) ∧ ds.all flatD = true ∧ flatD d = true ∧ k (.dat (.int (ds.countP fun e => eqV (vOf e) (vOf d) : Nat))) M
  | _ => False
theorem sim_countF {K : PySem.W.Frag} : SimM K "list" (rCountF K) fCountF := by
  intro s ss M k x xs H Hc Q h rx rs O q
  unfold fCountF at h
  split at h
  · obtain ⟨ds, l, h1, h2, h⟩ := h
    obtain ⟨y, rfl, ry⟩ := rps1 rs
    obtain ⟨a, vs, rfl, g1, g2⟩ := l.at_ O rx
    have e1 := dqs_vOf (rps_dat g2) h1
    subst e1
    refine ⟨a, _, y, rfl, rfl, SqL.of g1, by rw [dq_vOf ry h2]; exact flat_vOf, all_flat ds, ?_⟩
    rw [dq_vOf ry h2, List.countP_map]
    exact q.dat O (.int _) h
  · exact h.elim
def fIndexF : Sl → List Sl → Mem → DK → Prop := fun o ss M k => match ss with
  | [.dat d] => ∃ (ds : List Dt) (j : Nat) (e : Dt), IsL M o (ds.map .dat) ∧ ds.all flatD = true ∧ flatD d = true ∧ ds[j]? = some e ∧ eqV (vOf e) (vOf d) = true ∧ (∀ (m : Nat) (e' : Dt), m < j → ds[m]? = some e' → eqV (vOf e') (vOf d) = false) ∧ k (.dat (.int j)) M
  | _ => False
theorem sim_indexF {K : PySem.W.Frag} : SimM K "list" (rIndex K) fIndexF := by
  intro s ss M k x xs H Hc Q h rx rs O q
  unfold fIndexF at h
  split at h
  · obtain ⟨ds, j, e, l, h1, h2, h3, h4, h5, h⟩ := h
    obtain ⟨y, rfl, ry⟩ := rps1 rs
    obtain ⟨a, vs, rfl, g1, g2⟩ := l.at_ O rx
    have e1 := dqs_vOf (rps_dat g2) h1
    subst e1
    refine ⟨a, _, y, j, vOf e, rfl, rfl, SqL.of g1, by rw [dq_vOf ry h2]; exact flat_vOf, all_flat ds, by rw [List.getElem?_map, h3] <;> rfl, by rw [dq_vOf ry h2]; exact h4, fun m z' hm hz => ?_, q.dat O (.int _) h⟩
    rw [List.getElem?_map] at hz
    cases e2 : ds[m]? with
    | none => rw [e2] at hz; cases hz
    | some e' =>
      rw [e2] at hz
      cases hz
      rw [dq_vOf ry h2]
      exact h5 m e' hm e2
  · exact h.elim
end
theorem xe_attK {X : Cx} {K : PySem.W.Frag} (hK : X.K = K) {e : Expr} {de : DE} {pos : Pos} {n : Str} (he : XE X e de) (hb : attributeBase e n X.env (eval e X.env) = eval e X.env := by rfl) : XE X (.Attribute e n pos) (dAttX K n de) := by
  subst hK
  exact xe_attX he hb
/-- what was there is as it was -/
def MoreM (M M' : Mem) : Prop := ∀ a, M a ≠ none → M' a = M a
theorem MoreM.refl (M : Mem) : MoreM M M := fun _ _ => rfl
theorem MoreM.trans {M M1 M2 : Mem} (h : MoreM M M1) (h' : MoreM M1 M2) : MoreM M M2 := fun a ha => (h' a (by rw [h a ha]; exact ha)).trans (h a ha)
theorem MoreM.born {M M' : Mem} (h : MoreM M M') {p : Addr} {o : MO} (hp : M' p = none) : MoreM M (put M' p o) := fun a ha => by
  have e := h a ha
  have ne : a ≠ p := fun z => ha (by rw [← e, z]; exact hp)
  rw [put_ne ne]; exact e
theorem MoreM.at {M M' : Mem} (h : MoreM M M') {p : Addr} {o : MO} (hp : M p = some o) : M' p = some o := (h p (by rw [hp]; exact nofun)).trans hp
theorem MoreM.to {M M' : Mem} (h : MoreM M M') {p : Addr} {o : MO} (hp : M p = none) : MoreM M (put M' p o) := fun a ha => by
  have ne : a ≠ p := fun z => ha (by rw [z]; exact hp)
  rw [put_ne ne]
  exact h a ha
theorem MoreM.no {M M' : Mem} (h : MoreM M M') {p : Addr} (hp : M' p = none) : M p = none := by
  cases e : M p with
  | none => rfl
  | some o => rw [h.at e] at hp; cases hp
theorem IsL.more {M M' : Mem} {s : Sl} {xs : List Sl} (l : IsL M s xs) (h : MoreM M M') : IsL M' s xs := by
  rcases l with ⟨ds, rfl, rfl⟩ | ⟨a, rfl, e⟩
  · exact .dat
  · exact .own (h.at e)
/-- a comprehension whose element is a function of the item; new things of ours may come -/
theorem lc_mapM {s : Sl} {xs : List Sl} {M1 : Mem} {Γ : Fm} {vs : List Nat} {j : Nat} {el : DE} {K : Addr → Mem → Prop} (f : Sl → Sl) (l : IsL M1 s xs) (hz : xs.length < 16777216)
    (he : ∀ (i : Nat) x, xs[i]? = some x → ∀ (M' : Mem) (k' : DK), MoreM M1 M' → (∀ M'', MoreM M' M'' → k' (f x) M'') → el ((wipeF Γ vs).set j (some x)) M' k') (hk : ∀ p M', M1 p = none → M' p = some (.lst (xs.map f)) → MoreM M1 M' → K p M') :
    ∃ xs, IsL M1 s xs ∧ ∀ p, M1 p = none → ∃ Inv : Nat → Mem → Prop, Inv 0 (put M1 p (.lst [])) ∧ (∀ i M', i ≤ xs.length → Inv i M' → IsL M' s xs) ∧
      (∀ i x M', xs[i]? = some x → Inv i M' → lcTurn p Γ vs j dYes el (Inv (i + 1)) x M') ∧ ∀ M', Inv xs.length M' → K p M' := by
  refine ⟨xs, l, fun p hp => ⟨fun i M' => M' p = some (.lst ((xs.take i).map f)) ∧ MoreM M1 M', ⟨put_at, (MoreM.refl M1).born hp⟩, fun i M' _ e => l.more e.2, fun i x M' hx e => ?_, fun M' e => hk p M' hp (by rw [e.1, List.take_length]) e.2⟩⟩
  obtain ⟨e1, e2⟩ := e
  refine ⟨fun _ => he i x hx _ _ e2 fun M'' hm => ?_, fun z => nomatch z⟩
  have hi : i < xs.length := (List.getElem?_eq_some_iff.mp hx).1
  refine ⟨_, hm.at e1, by rw [List.length_map, List.length_take]; omega, ?_, (e2.trans hm).to hp⟩
  rw [put_at, List.take_add_one, hx]
  simp
theorem paired_at {α β : Type} {R : α → β → Prop} : ∀ {xs : List α} {ys : List β}, Paired R xs ys → ∀ {i : Nat} {x : α} {y : β}, xs[i]? = some x → ys[i]? = some y → R x y
  | _, _, .nil, _, _, _, h, _ => by simp at h
  | _, _, .cons r _, 0, _, _, h1, h2 => by simp at h1 h2; subst h1 h2; exact r
  | _, _, .cons _ t, i + 1, _, _, h1, h2 => paired_at t (by simpa using h1) (by simpa using h2)
/-- .. told item by item -/
theorem lc_listM {s : Sl} {xs : List Sl} {M1 : Mem} {Γ : Fm} {vs : List Nat} {j : Nat} {el : DE} {K : Addr → Mem → Prop} (ys : List Sl) (R : Sl → Sl → Prop) (pr : Paired R xs ys) (l : IsL M1 s xs) (hz : xs.length < 16777216)
    (he : ∀ x y, R x y → ∀ (M' : Mem) (k' : DK), MoreM M1 M' → (∀ M'', MoreM M' M'' → k' y M'') → el ((wipeF Γ vs).set j (some x)) M' k') (hk : ∀ p M', M1 p = none → M' p = some (.lst ys) → MoreM M1 M' → K p M') :
    ∃ xs, IsL M1 s xs ∧ ∀ p, M1 p = none → ∃ Inv : Nat → Mem → Prop, Inv 0 (put M1 p (.lst [])) ∧ (∀ i M', i ≤ xs.length → Inv i M' → IsL M' s xs) ∧
      (∀ i x M', xs[i]? = some x → Inv i M' → lcTurn p Γ vs j dYes el (Inv (i + 1)) x M') ∧ ∀ M', Inv xs.length M' → K p M' := by
  have hl : xs.length = ys.length := Paired.length pr
  refine ⟨xs, l, fun p hp => ⟨fun i M' => M' p = some (.lst (ys.take i)) ∧ MoreM M1 M', ⟨put_at, (MoreM.refl M1).born hp⟩, fun i M' _ e => l.more e.2, fun i x M' hx e => ?_, fun M' e => hk p M' hp (by rw [e.1, hl, List.take_length]) e.2⟩⟩
  obtain ⟨e1, e2⟩ := e
  have hi : i < xs.length := (List.getElem?_eq_some_iff.mp hx).1
  have hy : ys[i]? = some (ys[i]'(by omega)) := List.getElem?_eq_getElem (by omega)
  refine ⟨fun _ => he x _ (paired_at pr hx hy) _ _ e2 fun M'' hm => ?_, fun z => nomatch z⟩
  refine ⟨_, hm.at e1, by rw [List.length_take]; omega, ?_, (e2.trans hm).to hp⟩
  rw [put_at, List.take_add_one, hy]
  simp
/-! ### the error classes, apart from one another -/
structure Kinds (K : PySem.W.Frag) (B : Addr) (cs : List Addr) : Prop where
  er : ∀ c ∈ cs, ErrC K c
  ee : ∀ (i j : Nat) (c d : Addr), cs[i]? = some c → cs[j]? = some d → PySem.W.kitOne K (.ref c) (.ref d) = some (decide (i = j))
  ve : ∀ c ∈ cs, PySem.W.kitOne K (.ref c) (.type "ValueError") = some true
  we : ∀ c ∈ cs, PySem.W.kitOne K (.ref c) (.ref B) = some true
  no : ∀ c ∈ cs, PySem.W.kitOne K (.type "NoneType") (.ref c) = some false
  ew : ∀ c ∈ cs, PySem.W.exmOne K (.ref c) (.ref B) = some true
  eb : ErrC K B
  be : ∀ c ∈ cs, PySem.W.kitOne K (.ref B) (.ref c) = some false
  bv : PySem.W.kitOne K (.ref B) (.type "ValueError") = some true
def kindsB (K : PySem.W.Frag) (B : Addr) (cs : List Addr) : Bool :=
  errB K B && (decide (PySem.W.kitOne K (.ref B) (.type "ValueError") = some true) && (cs.all (fun c => errB K c && (decide (PySem.W.kitOne K (.ref c) (.type "ValueError") = some true) && (decide (PySem.W.kitOne K (.ref c) (.ref B) = some true) && (decide (PySem.W.kitOne K (.type "NoneType") (.ref c) = some false) &&
    (decide (PySem.W.exmOne K (.ref c) (.ref B) = some true) && decide (PySem.W.kitOne K (.ref B) (.ref c) = some false)))))) && (cs.zipIdx.all fun p => cs.zipIdx.all fun q => decide (PySem.W.kitOne K (.ref p.1) (.ref q.1) = some (decide (p.2 = q.2))))))
theorem kindsB_ok {K : PySem.W.Frag} {B : Addr} {cs : List Addr} (h : kindsB K B cs = true) : Kinds K B cs := by
  unfold kindsB at h
  simp only [Bool.and_eq_true, decide_eq_true_eq, List.all_eq_true] at h
  obtain ⟨h1, h2, h3, h4⟩ := h
  refine ⟨fun c hc => errB_ok (h3 c hc).1, fun i j c d hi hj => ?_, fun c hc => (h3 c hc).2.1, fun c hc => (h3 c hc).2.2.1, fun c hc => (h3 c hc).2.2.2.1, fun c hc => (h3 c hc).2.2.2.2.1, errB_ok h1, fun c hc => (h3 c hc).2.2.2.2.2, h2⟩
  exact h4 (c, i) (List.mk_mem_zipIdx_iff_getElem?.mpr hi) (d, j) (List.mk_mem_zipIdx_iff_getElem?.mpr hj)
end DL
namespace DL
open PySem PySem.Spec PyProof.Rows L2
/-! ### an error class with a field: its facts, gathered -/
def SupW (P : Program) (K : PySem.W.Frag) (C : Addr) (f : Str) : Prop := ∀ mg : Str → Option Value, mg "super" = none → SupC P K mg C f
def supB (K : PySem.W.Frag) (C : Addr) (f : Str) : Bool :=
  decide (PySem.W.findIn K (.ref C) "__setattr__" = some (some (.builtin "object.__setattr__"))) && (decide (PySem.W.subIn K (.ref C) (.type "BaseException") = some true) && (decide (PySem.W.typeIn K (.ref C) = some (.type "type")) && (PySem.W.keepIn K (.ref C) &&
  (decide (PySem.W.findIn K (.ref C) f = some none) && (decide (PySem.W.subIn K (.ref C) (.type "ValueError") = some true) && (decide (PySem.W.mroIn K C (.ref C) = some true) && (decide (PySem.W.ks_superIn K C C "__init__" = some (some (.builtin "ValueError.__init__"))) && decide (PySem.W.nsIn K cStatics "thirdparty.any" = some none))))))))
theorem supW_mk {P : Program} {K : PySem.W.Frag} {C N fI cda cc : Addr} {f cnm cq : Str} {bs bm : List Value} {sn : List Str} {sub : List Value} {ab : Bool} {col : Option Bool} {dd : Option Addr} {k0 k1 k2 k3 k5 : Option Value}
    {nm qual : Str} {params : Arguments} {scope : Scope} {dV kV doc pm ct oc ccl cl : Value} {an od cdd cld : Option Addr} {osl ccs csl : Array (Option Value)} {vs : Array Value} {file m : Str} {tf : Tok} {j : Nat} {ar : Arg} {p0 p1 p2 p3 p4 p5 p6 p7 p8 p9 : Pos}
    (lC : K.lookup C = some (excClassObj cnm cq C N bs bm true sn sub ab col dd k0 k1 k2 k3 k5 "ValueError.__new__")) (hbm : PySem.HandSPX.refsVE bm = true) (b : supB K C f = true) (top : (P.main.scope.names.lookup ("super" : Str)).isSome = false)
    (iC : PySem.W.findIn K (.ref C) "__init__" = some (some (.ref fI))) (tI : PySem.W.typeIn K (.ref fI) = some (.type "function"))
    (lf : K.lookup fI = some ⟨oc, od, .func (PySem.W.ksFn nm qual params [.Expr (.Call (.Attribute (.Call (.Name "super" p0) [] [] p1) "__init__" p2) [.Constant (.str m) j p3] [] p4) p5, .Assign [.Attribute (.Name "self" p6) f p7] (.Name f p8) p9] scope dV kV doc pm an (.ref cda) ct cc), osl⟩)
    (hcd : PySem.W.codeIn K (.ref cda) qual = true) (lcda : K.lookup cda = some ⟨ccl, cdd, .fields vs, ccs⟩) (hvs : vs[2]? = some (.str file tf)) (hfile : ((P.main.file : Str) == file) = true) (lcc : K.lookup cc = some ⟨cl, cld, .cell (some (.ref C)), csl⟩)
    (hpar : (params.posonlyargs ++ params.args).head? = some ar) (har : ar.arg = "self") (hs : scope.names.lookup ("super" : Str) = some .globalImplicit ∧ scope.names.lookup ("__class__" : Str) = some .free ∧ scope.names.lookup ("self" : Str) = some .local ∧ scope.names.lookup f = some .local)
    (hcell : ∀ x ∈ scope.names, x.2 ≠ .cell) (hk : scope.kind = .function ∧ scope.isCoroutine = false ∧ scope.isGenerator = false)
    (hb : ∀ (s : Shared) (u v : Value), BindsTo s (PySem.W.ksFn nm qual params [.Expr (.Call (.Attribute (.Call (.Name "super" p0) [] [] p1) "__init__" p2) [.Constant (.str m) j p3] [] p4) p5, .Assign [.Attribute (.Name "self" p6) f p7] (.Name f p8) p9] scope dV kV doc pm an (.ref cda) ct cc) ⟨[u, v], []⟩ [("self", u), (f, v)])
    (hne : f ≠ "self") (hdb : (f == ("__debug__" : Str)) = false)
    (hev : ∀ env : Env, ∃ pl : Sem Bool, eval (.Call (.Attribute (.Call (.Name "super" p0) [] [] p1) "__init__" p2) [.Constant (.str m) j p3] [] p4) env = (do
      let ov ← attributeBase (.Call (.Name "super" p0) [] [] p1) "__init__" env (eval (.Call (.Name "super" p0) [] [] p1) env)
      standAt p2.atName
      let (f, first) ← holding [ov] (getMethod ov "__init__" pl)
      callWith p4 f first (backTo p4 (starEach [.Constant (.str m) j p3] env)) []))
    (hsw1 : ∀ env : Env, swapsWith (.Call (.Attribute (.Call (.Name "super" p0) [] [] p1) "__init__" p2) [.Constant (.str m) j p3] [] p4) none p5.line env = pure false)
    (hsw2 : ∀ env : Env, swapsWith (.Name f p8) (some (.Attribute (.Name "self" p6) f p7)) p9.line env = pure false) : SupW P K C f := by
  unfold supB at b
  simp only [Bool.and_eq_true, decide_eq_true_eq] at b
  obtain ⟨b1, b2, b3, b4, b5, b6, b7, b8, b9⟩ := b
  exact fun mg gs => ⟨⟨⟨_, _, _, _, _, _, _, _, _, _, _, _, _, _, _, lC, hbm⟩, b1, b2, b3, b4⟩, b5, b6, b7, b8, b9, gs, top,
    ⟨fI, cda, cc, nm, qual, params, scope, dV, kV, doc, pm, ct, oc, ccl, cl, an, od, cdd, cld, osl, ccs, csl, vs, file, m, tf, j, ar, p0, p1, p2, p3, p4, p5, p6, p7, p8, p9, iC, tI, lf, hcd, lcda, hvs, hfile, lcc, hpar, har, hs.1, hs.2.1, hs.2.2.1, hs.2.2.2, hcell, hk.1, hk.2.1, hk.2.2, hb, hne, hdb, hev, hsw1, hsw2⟩⟩
end DL
/-! Sets of tuples whose items are carried by value (ints, truths, texts, None), over the table's laws of the library. -/
namespace DS
open PySem PySem.Spec PyProof.Rows
open L2 (TabOk MaskOk way nth runAt wp_if_pos wp_if_neg)
section
variable {P : Program} {w : World} {κ : Type} [DecidableEq κ] {knd : KeyKind P w κ} {A : Around} {E : Value → Shared → Prop} {s : Shared}
/-- items of no class statement, hashed by value -/
structure Flat (knd : KeyKind P w κ) : Prop where
  cls : ∀ k v n, knd.is k v = true → ofAClassStatement n v = pure false
  hsh : ∀ k v n, knd.is k v = true → hashByValue n v = pure true
theorem each_item {ks : List κ} {vs : List Value} (h : ItemsAre knd ks vs) : ∀ v ∈ vs, ∃ k, knd.is k v = true := by
  induction h with
  | nil => exact fun v hv => nomatch hv
  | @cons k0 v0 ks vs h1 _ ih =>
    intro v hv
    cases hv with
    | head => exact ⟨k0, h1⟩
    | tail _ hv => exact ih v hv
theorem no_cls (Z : Flat knd) {ks : List κ} {b : Addr} {Q : Bool → Shared → Prop} (x : IsTupleKey knd s.heap ks b) (h : Q false s) : wpAny (model P w) A (ofAClassStatement 8 (.ref b)) Q E s := by
  have ty := x.typeIs
  obtain ⟨o, items, n, ho, _, hd, hi⟩ := x
  unfold ofAClassStatement
  refine wpAny_bind (wpAny_typeOf ty ?_)
  dsimp only
  have isT : (("tuple" : String) == "tuple") = true := by decide
  simp only [isT, if_true, Bool.not_true, Bool.false_eq_true, if_false]
  try refine wpAny_bind (wpAny_pure ?_)
  try simp only [Bool.not_true, Bool.false_eq_true, if_false]
  show wpAny _ _ (seqItems? (.ref b) >>= _) _ _ s
  refine wpAny_bind (wpAny_seqItems ho hd ?_)
  dsimp only
  refine wpAny_bind ?_
  show wpAny _ _ (forIn items _ _) _ _ s
  rw [← Array.forIn_toList]
  refine wpAny_forIn_list _ (fun left r s' => r.1 = none ∧ s' = s ∧ ∀ v ∈ left, ∃ k, knd.is k v = true) _ ?_ ?_ _ _ ⟨rfl, rfl, each_item hi⟩
  · rintro v left r s' ⟨_, rfl, every⟩
    obtain ⟨k, hk⟩ := every v List.mem_cons_self
    rw [Z.cls k v _ hk]
    refine wpAny_bind (wpAny_pure ?_)
    simp only [Bool.false_eq_true, if_false]
    exact wpAny_pure ⟨rfl, rfl, fun u hu => every u (List.mem_cons_of_mem _ hu)⟩
  · rintro ⟨r1, r2⟩ s' ⟨e, rfl, _⟩
    dsimp only at e
    subst e
    exact wpAny_pure h
theorem by_hash (Z : Flat knd) {ks : List κ} {b : Addr} {Q : Bool → Shared → Prop} (x : IsTupleKey knd s.heap ks b) (h : Q true s) : wpAny (model P w) A (hashByValue 8 (.ref b)) Q E s := by
  have ty := x.typeIs
  obtain ⟨o, items, n, ho, _, hd, hi⟩ := x
  unfold hashByValue
  refine wpAny_bind (wpAny_specialOf ty F.slot_tuple_hash.lookup ?_)
  show wpAny _ _ (seqItems? (.ref b) >>= _) _ _ s
  refine wpAny_bind (wpAny_seqItems ho hd (wpAny_bind ?_))
  show wpAny _ _ (forIn items _ _) _ _ s
  rw [← Array.forIn_toList]
  refine wpAny_forIn_list _ (fun left r s' => r.1 = none ∧ s' = s ∧ ∀ v ∈ left, ∃ k, knd.is k v = true) _ ?_ ?_ _ _ ⟨rfl, rfl, each_item hi⟩
  · rintro v left r s' ⟨_, rfl, every⟩
    obtain ⟨k, hk⟩ := every v List.mem_cons_self
    rw [Z.hsh k v _ hk]
    refine wpAny_bind (wpAny_pure ?_)
    simp only [Bool.not_true, Bool.false_eq_true, if_false]
    exact wpAny_pure ⟨rfl, rfl, fun u hu => every u (List.mem_cons_of_mem _ hu)⟩
  · rintro ⟨r1, r2⟩ s' ⟨e, rfl, _⟩
    dsimp only at e
    subst e
    exact wpAny_pure h
theorem quiet_search (Z : Flat knd) {ks : List κ} {b : Addr} {Q : Bool → Shared → Prop} (x : IsTupleKey knd s.heap ks b) {ys : List Value} (hy : ∀ y ∈ ys, ∃ l c, y = Value.ref c ∧ IsTupleKey knd s.heap l c) (h : Q false s) :
    wpAny (model P w) A (searchCouldBeSeen (.ref b) ys) Q E s := by
  unfold searchCouldBeSeen
  refine wpAny_bind (wpAny_forIn_list _ (fun left r s' => r.1 = none ∧ s' = s ∧ ∀ y ∈ left, ∃ l c, y = Value.ref c ∧ IsTupleKey knd s.heap l c) _ ?_ ?_ _ _ ⟨rfl, rfl, hy⟩)
  · rintro v left r s' ⟨_, rfl, every⟩
    obtain ⟨l, c, rfl, hc⟩ := every v List.mem_cons_self
    have later : ∀ y ∈ left, ∃ l c, y = Value.ref c ∧ IsTupleKey knd s'.heap l c := fun u hu => every u (List.mem_cons_of_mem _ hu)
    dsimp only
    by_cases same : (b == c || (carriedByValue (.ref b) && carriedByValue (.ref c))) = true
    · exact wp_if_pos same (wpAny_pure ⟨rfl, rfl, later⟩)
    · refine wp_if_neg same (wpAny_bind (wpAny_eqIsQuiet_tuple x ?_))
      simp only [Bool.not_true, Bool.false_eq_true, if_false]
      refine wpAny_bind (wpAny_eqIsQuiet_tuple hc ?_)
      simp only [Bool.not_true, Bool.false_eq_true, if_false]
      refine wpAny_bind (no_cls Z x ?_)
      simp only [Bool.false_eq_true, if_false]
      refine wpAny_bind (no_cls Z hc ?_)
      simp only [Bool.false_eq_true, if_false]
      exact wpAny_pure ⟨rfl, rfl, later⟩
  · rintro ⟨r1, r2⟩ s' ⟨e, rfl, _⟩
    dsimp only at e
    subst e
    exact wpAny_pure h
/-! ### the set -/
abbrev Row (κ : Type) := Addr × List κ
def rows (knd : KeyKind P w κ) (L : List (Row κ)) : List (Int × Value) := L.map fun p => (tupleKeyHash knd p.2, Value.ref p.1)
structure SetR (knd : KeyKind P w κ) (h : Heap) (a : Addr) (L : List (Row κ)) (es : Array (Int × Value)) (ep : Nat) (t : SetTable) : Prop where
  ob : ∃ o, h.get? a = some o ∧ o.ExactSet ∧ o.data = .set es ep t
  rw_ : es.toList = rows knd L
  tab : TabOk t (L.map fun p => tupleKeyHash knd p.2)
  nd : (L.map (·.2)).Nodup
  tup : ∀ p ∈ L, IsTupleKey knd h p.2 p.1
  plain : t.plain = true
  led : w.params.followText "set-order" = true ∨ t.led = true
  room : L.length * 5 < t.mask * 3
  few : L.length < 64
theorem rows_len (L : List (Row κ)) : (rows knd L).length = L.length := List.length_map ..
variable {a : Addr} {L : List (Row κ)} {es : Array (Int × Value)} {ep : Nat} {t : SetTable}
theorem SetR.size (R : SetR knd s.heap a L es ep t) : es.size = L.length := by
  rw [← Array.length_toList, R.rw_, rows_len]
theorem SetR.fits (R : SetR knd s.heap a L es ep t) : t.fits es.size = true := by
  have h1 := R.tab.sz
  have h2 := R.size
  have h3 := R.room
  rw [List.length_map] at h1
  unfold SetTable.fits SetTable.fill
  rw [R.tab.dm, Bool.and_eq_true, beq_iff_eq, decide_eq_true_eq]
  refine ⟨h1.trans h2.symm, ?_⟩
  show t.place.size + 0 ≤ t.mask
  omega
theorem SetR.entry (R : SetR knd s.heap a L es ep t) {i : Nat} {p : Row κ} (h : L[i]? = some p) : es[i]? = some (tupleKeyHash knd p.2, Value.ref p.1) := by
  rw [← Array.getElem?_toList, R.rw_]
  unfold rows
  rw [List.getElem?_map, h] <;> rfl
theorem SetR.open_ (R : SetR knd s.heap a L es ep t) : ¬ t.gaveWay = true := by
  unfold SetTable.gaveWay
  rw [L2.mask_odd R.tab.mok]
  decide
/-- from some step of a key's way on, the search finds it, or the free place behind -/
theorem seek (Z : Flat knd) (R : SetR knd s.heap a L es ep t) {x : Addr} {k : List κ} (hx : IsTupleKey knd s.heap k x) (hu : A.units < cLine) {n : Nat} (hn : n < 10 * SetTable.turns t.mask)
    (free : way t.mask (tupleKeyHash knd k) n ∉ t.place.toList) (used : ∀ c, c < n → way t.mask (tupleKeyHash knd k) c ∈ t.place.toList) {Q : SetFound → Shared → Prop}
    (yes : k ∈ L.map (·.2) → Q (.there none) s) (no : k ∉ L.map (·.2) → Q (.free (way t.mask (tupleKeyHash knd k) n) false) s) :
    ∀ (fuel c : Nat) (at_ : Option SetTable.Probe), at_.getD (t.probeStart (tupleKeyHash knd k)) = nth t.mask (runAt t.mask (SetTable.bits (tupleKeyHash knd k) % (t.mask + 1)) (SetTable.bits (tupleKeyHash knd k))) c → c ≤ n → n - c < fuel →
      (∀ (i : Nat) p, L[i]? = some p → p.2 = k → ∃ c', c ≤ c' ∧ c' < n ∧ t.place.toList[i]? = some (way t.mask (tupleKeyHash knd k) c')) →
      wpAny (model P w) A (setSearchFrom a (.ref x) (tupleKeyHash knd k) true fuel at_) Q E s := by
  generalize hw : tupleKeyHash knd k = hh at free used no ⊢
  have nodum : ∀ (m c : Nat) (p : SetTable.Probe), p.dummy = none → (nth m p c).dummy = none := by
    intro m c
    induction c with
    | zero => exact fun p h => h
    | succ c ih =>
      intro p h
      refine ih (L2.adv m p) ?_
      unfold L2.adv
      split <;> exact h
  intro fuel
  induction fuel with
  | zero => exact fun c at_ _ _ h => absurd h (Nat.not_lt_zero _)
  | succ fuel ih =>
    intro c at_ hat hc hf here
    obtain ⟨o, ho, hex, hd⟩ := R.ob
    rw [L2.setSearchFrom_succ]
    refine wpAny_bind (wpAny_setState_of ho hd R.fits ?_)
    dsimp only
    refine wp_if_neg R.open_ ?_
    try refine wpAny_bind (wpAny_pure ?_)
    generalize hr0 : runAt t.mask (SetTable.bits hh % (t.mask + 1)) (SetTable.bits hh) = r0 at hat
    have wayE : ∀ c, (nth t.mask r0 c).j = way t.mask hh c := fun c => by rw [← hr0]
    have on_ : ∀ q, nth t.mask (nth t.mask r0 c) q = nth t.mask r0 (c + q) := fun q => (L2.nth_add t.mask c _ q).symm
    have wq : ∀ q, (nth t.mask (nth t.mask r0 c) q).j = way t.mask hh (c + q) := fun q => by rw [on_, wayE]
    have hcn : c + (n - c) = n := by omega
    have hAt : ∀ (i : Nat) p, L[i]? = some p → (es[i]?.map (·.1)).getD 0 = tupleKeyHash knd p.2 := fun i p hp => by
      rw [R.entry hp] <;> rfl
    have found := L2.go_spec t R.tab.ris R.tab.dm (fun i => (es[i]?.map (·.1)).getD 0) hh (10 * SetTable.turns t.mask) (n - c) (nth t.mask r0 c) (nodum _ _ _ (by rw [← hr0]; rfl)) (by omega)
      (fun q hq => by rw [wq]; exact used (c + q) (by omega)) (by rw [wq, hcn]; exact free)
    rcases found with ⟨q, i, hq, hi, hhash, hno, hpr⟩ | ⟨hno, hpr⟩
    · have probe : t.probe (fun i => (es[i]?.map (·.1)).getD 0) hh (at_.getD (t.probeStart hh)) = some (.candidate (way t.mask hh (c + q)) i (nth t.mask r0 (c + (q + 1)))) := by
        rw [hat, ← wq, ← on_]
        exact hpr
      rw [probe]
      dsimp only
      rw [wq] at hi
      have hil : i < L.length := by
        have h1 := (List.getElem?_eq_some_iff.mp hi).1
        have h2 := R.tab.sz
        rw [List.length_map] at h2
        rw [Array.length_toList] at h1
        omega
      obtain ⟨p, hp⟩ : ∃ p, L[i]? = some p := ⟨L[i], List.getElem?_eq_getElem hil⟩
      have hm : p ∈ L := List.mem_of_getElem? hp
      have rest : wpAny (model P w) A (L2.searchRest a (.ref x) hh true fuel es t (way t.mask hh (c + q)) i (nth t.mask r0 (c + (q + 1)))) Q E s := by
        unfold L2.searchRest
        rw [R.entry hp]
        dsimp only
        refine wpAny_bind (wpAny_holding (wpAny_eqBool_tuple hu (R.tup p hm) hx ?_))
        refine wpAny_bind (wpAny_setState_of ho hd R.fits ?_)
        dsimp only
        by_cases eq : p.2 = k
        · exact wp_if_pos (by simp [eq]) (wpAny_pure (yes (List.mem_map.mpr ⟨p, hm, eq⟩)))
        refine wp_if_neg (by simp [eq]) ?_
        try refine wpAny_bind (wpAny_pure ?_)
        rw [L2.sameMem]
        dsimp only
        have live : t.slot (way t.mask hh (c + q)) = .live i := L2.slot_live R.tab.ris hi
        simp only [if_true, live, R.entry hp]
        refine wpAny_bind (wpAny_isSame_ref_self (wpAny_bind (wpAny_pure ?_)))
        simp only [if_true]
        refine wp_if_neg (by simp [eq]) (ih (c + (q + 1)) _ (by rw [← hr0] <;> rfl) (by omega) (by omega) fun i0 p0 h0 hk0 => ?_)
        obtain ⟨c', a1, a2, a3⟩ := here i0 p0 h0 hk0
        refine ⟨c', ?_, a2, a3⟩
        rcases Nat.lt_trichotomy c' (c + q) with lt | rfl | gt
        · exact absurd ((hAt i0 p0 h0).trans (by rw [hk0]; exact hw)) (hno (c' - c) i0 (by omega) (by rw [wq, show c + (c' - c) = c' by omega]; exact a3))
        · have live0 := L2.slot_live R.tab.ris a3
          rw [live] at live0
          injection live0 with e
          rw [← e, hp] at h0
          exact absurd ((congrArg Prod.snd (Option.some.inj h0)).trans hk0) eq
        · exact gt
      by_cases led : t.led = true
      · refine wp_if_neg (by simp [led]) ?_
        try refine wpAny_bind (wpAny_pure ?_)
        exact rest
      · refine wp_if_pos (by simp [led]) (wpAny_bind (quiet_search Z hx (fun y hy => ?_) ?_))
        · obtain ⟨e, he, rfl⟩ := List.mem_map.mp hy
          have he2 : e ∈ es.toList := by
            have z : e ∈ es ∧ e.1 = hh := by simpa using he
            simpa using z.1
          rw [R.rw_] at he2
          obtain ⟨p2, hp2, rfl⟩ := List.mem_map.mp he2
          exact ⟨p2.2, p2.1, rfl, R.tup p2 hp2⟩
        · refine wp_if_neg (by decide) ?_
          try refine wpAny_bind (wpAny_pure ?_)
          exact rest
    · have probe : t.probe (fun i => (es[i]?.map (·.1)).getD 0) hh (at_.getD (t.probeStart hh)) = some (.empty (way t.mask hh n) none) := by
        rw [hat, show way t.mask hh n = (nth t.mask (nth t.mask r0 c) (n - c)).j by rw [wq, hcn]]
        exact hpr
      rw [probe]
      dsimp only
      refine wpAny_pure (no fun hm => ?_)
      obtain ⟨p0, h0, hk0⟩ := List.mem_map.mp hm
      obtain ⟨i0, hi0, e0⟩ := List.getElem_of_mem h0
      have h00 : L[i0]? = some p0 := by rw [List.getElem?_eq_getElem hi0, e0]
      obtain ⟨c', a1, a2, a3⟩ := here i0 p0 h00 hk0
      exact absurd ((hAt i0 p0 h00).trans (by rw [hk0]; exact hw)) (hno (c' - c) i0 (by omega) (by rw [wq, show c + (c' - c) = c' by omega]; exact a3))
end
end DS
namespace DS
open PySem PySem.Spec PyProof.Rows
open L2 (TabOk MaskOk way nth runAt wp_if_pos wp_if_neg)
section
variable {P : Program} {w : World} {κ : Type} [DecidableEq κ] {knd : KeyKind P w κ} {A : Around} {E : Value → Shared → Prop} {s : Shared} {a : Addr} {L : List (Row κ)} {es : Array (Int × Value)} {ep : Nat} {t : SetTable}
theorem seek_all (Z : Flat knd) (R : SetR knd s.heap a L es ep t) {x : Addr} {k : List κ} (hx : IsTupleKey knd s.heap k x) (hu : A.units < cLine) {Q : SetFound → Shared → Prop} (yes : k ∈ L.map (·.2) → Q (.there none) s)
    (no : ∀ n, k ∉ L.map (·.2) → way t.mask (tupleKeyHash knd k) n ∉ t.place.toList → (∀ c, c < n → way t.mask (tupleKeyHash knd k) c ∈ t.place.toList) → Q (.free (way t.mask (tupleKeyHash knd k) n) false) s) :
    wpAny (model P w) A (setSearch a (.ref x) (tupleKeyHash knd k) true) Q E s := by
  have room := R.room
  obtain ⟨n, hn, free, used⟩ := R.tab.first (by rw [List.length_map]; omega) (tupleKeyHash knd k)
  have small : n < 100000 := by
    have : 10 * SetTable.turns t.mask ≤ 1420 := by
      unfold SetTable.turns
      rcases R.tab.mok with e | e | e <;> omega
    omega
  unfold setSearch
  refine seek Z R hx hu hn free used yes (fun h => no n h free used) 100000 0 none rfl (Nat.zero_le _) (by omega) fun i p hp hk => ?_
  have hi : (L.map fun p => tupleKeyHash knd p.2)[i]? = some (tupleKeyHash knd k) := by rw [List.getElem?_map, hp, ← hk] <;> rfl
  have hil : i < t.place.toList.length := by
    have h1 := (List.getElem?_eq_some_iff.mp hp).1
    have h2 := R.tab.sz
    rw [List.length_map] at h2
    rw [Array.length_toList]
    omega
  have hj := List.getElem?_eq_getElem hil
  obtain ⟨c, hc, e⟩ := R.tab.before free hi hj
  exact ⟨c, Nat.zero_le _, hc, by rw [hj, e]⟩
/-- a tuple isn't the set -/
theorem key_same {h h' : Heap} {k : List κ} {b : Addr} {o : Obj} (x : IsTupleKey knd h k b) (ho : h.get? a = some o) (hd : o.data = .set es ep t) (hs : Heap.SameBut a h h') : IsTupleKey knd h' k b := by
  obtain ⟨o', items, n, ho', hc, hd', hi⟩ := x
  have ne : b ≠ a := by
    rintro rfl
    rw [ho] at ho'
    cases ho'
    rw [hd] at hd'
    cases hd'
  exact ⟨o', items, n, (hs.2 b ne).trans ho', hc, hd', hi⟩
theorem key_keep {h h' : Heap} {k : List κ} {b : Addr} (x : IsTupleKey knd h k b) (hk : ∀ c o, h.get? c = some o → h'.get? c = some o) : IsTupleKey knd h' k b := by
  obtain ⟨o, items, n, ho, r⟩ := x
  exact ⟨o, items, n, hk b o ho, r⟩
theorem rows_ins (L : List (Row κ)) (p : Nat) (x : Row κ) : rows knd (L.take p ++ x :: L.drop p) = (rows knd L).take p ++ (tupleKeyHash knd x.2, Value.ref x.1) :: (rows knd L).drop p := by
  unfold rows
  rw [List.map_append, List.map_cons, List.map_take, List.map_drop]
/-- the entries in another order -/
theorem rows_order (L : List (Row κ)) (es : Array (Int × Value)) (order : Array Nat) (hr : es.toList = rows knd L) (hp : order.toList.Perm (List.range L.length)) :
    ∃ L2 : List (Row κ), (order.filterMap (es[·]?)).toList = rows knd L2 ∧ L2.Perm L ∧ (L2.map fun p => tupleKeyHash knd p.2) = order.toList.map fun i => (es.map (·.1)).getD i 0 := by
  have sz : es.size = L.length := by rw [← Array.length_toList, hr, rows_len]
  have ent : ∀ i (h : i < L.length), es[i]? = some (tupleKeyHash knd (L[i]).2, Value.ref (L[i]).1) := fun i h => by
    rw [← Array.getElem?_toList, hr]
    unfold rows
    rw [List.getElem?_map, List.getElem?_eq_getElem h] <;> rfl
  have part : ∀ l : List Nat, (∀ i ∈ l, i < L.length) → l.filterMap (fun i => es[i]?) = rows knd (l.filterMap fun i => L[i]?) ∧ ((l.filterMap fun i => L[i]?).map fun p => tupleKeyHash knd p.2) = l.map fun i => (es.map (·.1)).getD i 0 := by
    intro l
    induction l with
    | nil => exact fun _ => ⟨rfl, rfl⟩
    | cons i l ih =>
      intro hl
      have hi := hl i List.mem_cons_self
      obtain ⟨e1, e2⟩ := ih fun j hj => hl j (List.mem_cons_of_mem _ hj)
      rw [List.filterMap_cons_some (List.getElem?_eq_getElem hi), List.filterMap_cons_some (ent i hi), e1, List.map_cons, List.map_cons, e2]
      refine ⟨rfl, ?_⟩
      have e5 : (es.map (·.1))[i]? = some (tupleKeyHash knd (L[i]).2) := by rw [Array.getElem?_map, ent i hi] <;> rfl
      simp [Array.getD_eq_getD_getElem?, e5]
  obtain ⟨e1, e2⟩ := part order.toList fun i hi => List.mem_range.mp (hp.mem_iff.mp hi)
  refine ⟨_, by first | (rw [Array.toList_filterMap]; exact e1) | simpa using e1, ?_, e2⟩
  have all : ∀ n, n ≤ L.length → (List.range n).filterMap (fun i => L[i]?) = L.take n := by
    intro n
    induction n with
    | zero => exact fun _ => rfl
    | succ n ih =>
      intro hn
      rw [List.range_succ, List.filterMap_append, ih (Nat.le_of_lt hn), List.take_add_one, List.getElem?_eq_getElem hn, List.filterMap_cons_some (List.getElem?_eq_getElem hn)] <;> rfl
  have z := all L.length (Nat.le_refl _)
  rw [List.take_length] at z
  have y := hp.filterMap fun i => L[i]?
  rw [z] at y
  exact y
/-- the table laid anew, larger -/
theorem relaid {o : Obj} (ho : s.heap.get? a = some o) (hex : o.ExactSet) (hd : o.data = .set es ep t) (hr : es.toList = rows knd L) (hsz : t.place.size = es.size) (hdm : t.dummies = #[]) (hfl : es.size ≤ t.mask)
    (nd : (L.map (·.2)).Nodup) (tup : ∀ p ∈ L, IsTupleKey knd s.heap p.2 p.1) (pl : t.plain = true) (ld : w.params.followText "set-order" = true ∨ t.led = true) (few : L.length < 64) {wanted M : Nat}
    (hw : SetTable.sizeAbove wanted - 1 = M) (hM : MaskOk M) (hw2 : SetTable.sizeAbove wanted ≤ 128) (hn : L.length * 5 < M * 3) {Q : Unit → Shared → Prop}
    (hQ : ∀ h' L' es' ep' t', Heap.SameBut a s.heap h' → SetR knd h' a L' es' ep' t' → L'.Perm L → Q () { s with heap := h' }) : wpAny (model P w) A (setRelay a wanted) Q E s := by
  have sz : es.size = L.length := by rw [← Array.length_toList, hr, rows_len]
  have fits : t.fits es.size = true := by
    unfold SetTable.fits SetTable.fill
    rw [hdm, Bool.and_eq_true, beq_iff_eq, decide_eq_true_eq]
    refine ⟨hsz, ?_⟩
    show t.place.size + 0 ≤ t.mask
    omega
  obtain ⟨t', order, e, hp, T, em, el, ep', ed⟩ := L2.relaid_ok t (hs := es.map (·.1)) (wanted := wanted) hw hM (by rw [Array.size_map, sz]; omega)
  rw [Array.size_map, sz] at hp
  obtain ⟨LL, r1, r2, r3⟩ := rows_order L es order hr hp
  rw [← r3] at T
  have s2 : (order.filterMap (es[·]?)).size = es.size := by rw [← Array.length_toList, r1, rows_len, r2.length_eq, sz]
  rw [L2.setRelay_eq]
  refine wpAny_bind (wpAny_setState_of ho hd fits ?_)
  dsimp only
  refine wp_if_neg (by rw [sizeLine_eq]; omega) ?_
  try refine wpAny_bind (wpAny_pure ?_)
  rw [e]
  dsimp only
  refine wpAny_bind (wp_if_neg (by rw [s2]; simp) ?_)
  try refine wpAny_bind (wpAny_pure ?_)
  refine wpAny_pure ?_
  dsimp only
  refine wpAny_storeSet_of ho hd ?_ (by rw [s2, sz, sizeLine_eq]; omega)
  have sb : Heap.SameBut a s.heap (s.heap.update a (Obj.putSet (order.filterMap (es[·]?)) t')) := Heap.SameBut.update ..
  exact hQ _ LL _ (ep + 1) t' sb ⟨⟨_, L2.store_at ho hd, ⟨hex.1, hex.2.1, hex.2.2⟩, rfl⟩, r1, T, (r2.map (·.2)).nodup_iff.mpr nd, fun p hpm => key_same (tup p (r2.mem_iff.mp hpm)) ho hd sb, by rw [ep']; exact pl, by rw [el]; exact ld, by rw [r2.length_eq, em]; exact hn, by rw [r2.length_eq]; exact few⟩ r2
/-- an element put in -/
theorem put_in (Z : Flat knd) (R : SetR knd s.heap a L es ep t) {x : Addr} {k : List κ} (hx : IsTupleKey knd s.heap k x) (hu : A.units < cLine) (few : k ∉ L.map (·.2) → L.length + 1 < 64) {Q : Bool → Shared → Prop}
    (hQ : ∀ b h' L' es' ep' t', Heap.SameBut a s.heap h' → SetR knd h' a L' es' ep' t' → (k ∈ L.map (·.2) → L' = L) → (k ∉ L.map (·.2) → L'.Perm ((x, k) :: L)) → Q b { s with heap := h' }) :
    wpAny (model P w) A (setAddHashed a (.ref x) (tupleKeyHash knd k)) Q E s := by
  obtain ⟨o, ho, hex, hd⟩ := R.ob
  have sl := R.size
  have room := R.room
  unfold setAddHashed
  refine wpAny_holding ?_
  rw [show (100000 : Nat) = 99999 + 1 from rfl, L2.setAddHashedIn_succ]
  refine wpAny_bind (wpAny_setState_of ho hd R.fits ?_)
  dsimp only
  refine wp_if_neg (by simp [byScan, Value.scannable]) ?_
  try refine wpAny_bind (wpAny_pure ?_)
  refine wpAny_bind (seek_all Z R hx hu (fun hm => ?_) fun n hm free used => ?_)
  · dsimp only
    exact wpAny_pure (hQ false s.heap L es ep t (Heap.SameBut.refl a s.heap) R (fun _ => rfl) fun z => absurd hm z)
  dsimp only
  refine wpAny_bind (wpAny_setState_of ho hd R.fits ?_)
  dsimp only
  have few1 := few hm
  obtain ⟨q1, q2, q3, q4, q5, q6, q7, q8, q9⟩ := R.tab.put free used
  have pl : (t.put (way t.mask (tupleKeyHash knd k) n)).1.plain = true := by rw [q6]; exact R.plain
  generalize t.put (way t.mask (tupleKeyHash knd k) n) = pt at q1 q3 q4 q5 q6 q7 q8 q9 pl ⊢
  obtain ⟨t1, p⟩ := pt
  dsimp only at q1 q3 q4 q5 q6 q7 q8 q9 pl ⊢
  subst q1
  first
    | (refine wpAny_bind ?_; refine wp_if_pos pl ?_; refine by_hash Z hx ?_)
    | refine wp_if_pos pl (wpAny_bind (by_hash Z hx ?_))
  simp only [if_true]
  have hin : (SetTable.insertAt es (SetTable.below t.place (way t.mask (tupleKeyHash knd k) n)) (tupleKeyHash knd k, Value.ref x)).toList = rows knd (L.take (SetTable.below t.place (way t.mask (tupleKeyHash knd k) n)) ++ (x, k) :: L.drop (SetTable.below t.place (way t.mask (tupleKeyHash knd k) n))) := by
    rw [SetTable.toList_insertAt, rows_ins, R.rw_]
  generalize SetTable.below t.place (way t.mask (tupleKeyHash knd k) n) = p at q2 q3 hin ⊢
  have pm := L2.put_perm L p (x, k)
  have len : (L.take p ++ (x, k) :: L.drop p).length = L.length + 1 := pm.length_eq
  have hs : (L.take p ++ (x, k) :: L.drop p).map (fun p => tupleKeyHash knd p.2) = (L.map fun p => tupleKeyHash knd p.2).take p ++ tupleKeyHash knd k :: (L.map fun p => tupleKeyHash knd p.2).drop p := by
    rw [List.map_append, List.map_cons, List.map_take, List.map_drop]
  rw [← hs] at q3
  have nd1 : ((L.take p ++ (x, k) :: L.drop p).map (·.2)).Nodup := by
    refine (pm.map (·.2)).nodup_iff.mpr ?_
    rw [List.map_cons]
    exact List.nodup_cons.mpr ⟨hm, R.nd⟩
  have es1len : (SetTable.insertAt es p (tupleKeyHash knd k, Value.ref x)).size = L.length + 1 := by rw [← Array.length_toList, hin, rows_len, len]
  generalize SetTable.insertAt es p (tupleKeyHash knd k, Value.ref x) = es1 at hin es1len ⊢
  generalize L.take p ++ (x, k) :: L.drop p = L1 at pm len q3 nd1 hin
  refine wpAny_bind (wpAny_storeSet_of ho hd ?_ (by rw [es1len, sizeLine_eq]; omega))
  have sb : Heap.SameBut a s.heap (s.heap.update a (Obj.putSet es1 t1)) := Heap.SameBut.update ..
  have ho1 := L2.store_at (es' := es1) (t' := t1) ho hd
  generalize s.heap.update a (Obj.putSet es1 t1) = h1 at sb ho1 ⊢
  have tup1 : ∀ p ∈ L1, IsTupleKey knd h1 p.2 p.1 := fun p hp => by
    rcases List.mem_cons.mp (pm.mem_iff.mp hp) with e | hp
    · rw [e]; exact key_same hx ho hd sb
    · exact key_same (R.tup p hp) ho hd sb
  have ld1 : w.params.followText "set-order" = true ∨ t1.led = true := by rw [q5]; exact R.led
  have full : t1.tooFull = true ↔ (L.length + 1) * 5 ≥ t1.mask * 3 := by
    unfold SetTable.tooFull
    rw [decide_eq_true_eq, q9, List.length_map]
  by_cases hf : t1.tooFull = true
  · first
      | (refine wpAny_bind ?_; refine wp_if_pos (by simp [hf]) ?_)
      | (refine wp_if_pos (by simp [hf]) ?_; refine wpAny_bind ?_)
    have hfull := full.mp hf
    rw [sl]
    have sz1 : t1.place.size = es1.size := by
      have h := q3.sz
      rw [List.length_map, len] at h
      rw [h, es1len]
    have two : (t.mask = 7 ∧ L.length = 4) ∨ (t.mask = 31 ∧ L.length = 18) := by
      rcases R.tab.mok with e | e | e
      · exact .inl (by rw [q4, e] at hfull; rw [e] at room; exact ⟨e, by omega⟩)
      · exact .inr (by rw [q4, e] at hfull; rw [e] at room; exact ⟨e, by omega⟩)
      · exfalso; rw [q4, e] at hfull; omega
    have go : ∀ M, SetTable.sizeAbove (SetTable.grown (L.length + 1)) - 1 = M → MaskOk M → SetTable.sizeAbove (SetTable.grown (L.length + 1)) ≤ 128 → (L.length + 1) * 5 < M * 3 →
        wpAny (model P w) A (setRelay a (SetTable.grown (L.length + 1))) (fun _ s' => wpAny (model P w) A (pure true) Q E s') E { s with heap := h1 } := fun M m1 m2 m3 m4 =>
      relaid (s := { s with heap := h1 }) ho1 ⟨hex.1, hex.2.1, hex.2.2⟩ rfl hin sz1 q3.dm (by rw [es1len, q4]; rcases two with ⟨e, e2⟩ | ⟨e, e2⟩ <;> omega) nd1 tup1 pl ld1 (by rw [len]; exact few1) m1 m2 m3 (by rw [len]; exact m4)
        fun h2 LL es2 ep2 t2 sb2 R2 pm2 => wpAny_pure (hQ true h2 LL es2 ep2 t2 (sb.trans sb2) R2 (fun z => absurd z hm) fun _ => pm2.trans pm)
    rcases two with ⟨_, e2⟩ | ⟨_, e2⟩
    · exact go 31 (by rw [e2, L2.size_20]) (.inr (.inl rfl)) (by rw [e2, L2.size_20]; decide) (by omega)
    · exact go 127 (by rw [e2, L2.size_76]) (.inr (.inr rfl)) (by rw [e2, L2.size_76]; decide) (by omega)
  · first
      | refine wp_if_neg (by simp [hf]) ?_
      | (refine wpAny_bind ?_; refine wp_if_neg (by simp [hf]) ?_; refine wpAny_pure ?_)
    have room1 : L1.length * 5 < t1.mask * 3 := by
      rw [len]
      have z : ¬ ((L.length + 1) * 5 ≥ t1.mask * 3) := fun h => hf (full.mpr h)
      omega
    exact wpAny_pure (hQ true h1 L1 es1 (ep + 1) t1 sb ⟨⟨_, ho1, ⟨hex.1, hex.2.1, hex.2.2⟩, rfl⟩, hin, q3, nd1, tup1, pl, ld1, room1, by rw [len]; exact few1⟩ (fun z => absurd z hm) fun _ => pm)
/-- what is in behind the first i items -/
structure Had (ks : List (Row κ)) (i : Nat) (L : List (Row κ)) : Prop where
  sub : ∀ p ∈ L, p ∈ ks.take i
  all : ∀ p ∈ ks.take i, p.2 ∈ L.map (·.2)
theorem Had.same {ks L : List (Row κ)} {i : Nat} {x : Row κ} (g : Had ks i L) (h : ks[i]? = some x) (hm : x.2 ∈ L.map (·.2)) : Had ks (i + 1) L := by
  have e := L2.take_next h
  refine ⟨fun p hp => by rw [e]; exact List.mem_append_left _ (g.sub p hp), fun p hp => ?_⟩
  rw [e] at hp
  rcases List.mem_append.mp hp with z | z
  · exact g.all p z
  · rw [List.mem_singleton.mp z]; exact hm
theorem Had.more {ks L L' : List (Row κ)} {i : Nat} {x : Row κ} (g : Had ks i L) (h : ks[i]? = some x) (pm : L'.Perm (x :: L)) : Had ks (i + 1) L' := by
  have e := L2.take_next h
  refine ⟨fun p hp => ?_, fun p hp => ?_⟩
  · rw [e]
    rcases List.mem_cons.mp (pm.mem_iff.mp hp) with z | z
    · rw [z]; exact List.mem_append_right _ (List.mem_singleton.mpr rfl)
    · exact List.mem_append_left _ (g.sub p z)
  · rw [(pm.map (·.2)).mem_iff, List.map_cons]
    rw [e] at hp
    rcases List.mem_append.mp hp with z | z
    · exact List.mem_cons_of_mem _ (g.all p z)
    · rw [List.mem_singleton.mp z]; exact List.mem_cons_self
theorem SetR.keep {h h' : Heap} (R : SetR knd h a L es ep t) (ha : ∀ o, h.get? a = some o → h'.get? a = some o) (ht : ∀ p ∈ L, IsTupleKey knd h' p.2 p.1) : SetR knd h' a L es ep t := by
  obtain ⟨o, ho, r⟩ := R.ob
  exact ⟨⟨o, ha o ho, r⟩, R.rw_, R.tab, R.nd, ht, R.plain, R.led, R.room, R.few⟩
end
end DS
namespace DS
open PySem PySem.Spec PyProof.Rows
open L2 (TabOk MaskOk way nth runAt wp_if_pos wp_if_neg)
theorem nodup_le {α : Type} [DecidableEq α] : ∀ (l D : List α), l.Nodup → (∀ x ∈ l, x ∈ D) → l.length ≤ D.length
  | [], _, _, _ => Nat.zero_le _
  | x :: l, D, hn, hs => by
    have hx : x ∈ D := hs x List.mem_cons_self
    have ih := nodup_le l (D.erase x) hn.tail fun y hy => (List.mem_erase_of_ne (fun e => (List.nodup_cons.mp hn).1 (by rw [← e]; exact hy))).2 (hs y (List.mem_cons_of_mem _ hy))
    have e := List.length_erase_of_mem hx
    have := List.length_pos_of_mem hx
    rw [List.length_cons]
    omega
section
variable {P : Program} {w : World} {κ : Type} [DecidableEq κ] {knd : KeyKind P w κ} {A : Around} {E : Value → Shared → Prop} {s : Shared}
theorem fresh_set {h : Heap} {a : Addr} (ho : h.get? a = some { cls := .type "set", dict := none, data := .set #[] 0 (.fresh 0 0 (!w.params.followText "set-order")) }) : SetR knd h a [] #[] 0 (.fresh 0 0 (!w.params.followText "set-order")) := by
  refine ⟨⟨_, ho, ⟨rfl, rfl, rfl⟩, rfl⟩, rfl, ⟨List.Pairwise.nil, rfl, rfl, .inl rfl, (fun x hx => nomatch hx), fun i h j hi => by simp at hi⟩, List.nodup_nil, (fun p hp => nomatch hp), rfl, ?_, (show 0 * 5 < 7 * 3 by decide), (show 0 < 64 by decide)⟩
  show _ ∨ (!w.params.followText "set-order") = true
  cases w.params.followText "set-order"
  · exact .inr rfl
  · exact .inl rfl
/-- the loop of an update -/
theorem fill_loop (Z : Flat knd) {I : Addr} {fp wr : List Addr} {G : Array GenState → Array GenState → Prop} {n : Nat} {Pv : Nat → Value → Prop} {St : Nat → Shared → Prop} {R : Result → Shared → Prop} (W : WalksS P w A.in1 I fp wr G n Pv St) (S : Addr) (hSf : S ∉ fp)
    (ks : List (Row κ)) (hn : n = ks.length) {D : List (List κ)} (hD : D.length < 64) (hkD : ∀ p ∈ ks, p.2 ∈ D) (hval : ∀ i v, Pv i v → ∃ p, ks[i]? = some p ∧ v = .ref p.1)
    (h0 : Heap) (hk : ∀ p ∈ ks, IsTupleKey knd h0 p.2 p.1) (hS0 : h0.get? S = none) (hw0 : ∀ b ∈ wr, h0.get? b = none) (hu : A.in1.units < cLine) :
    ∀ (k i : Nat) (s : Shared), n - i = k → i ≤ n → St i s → (∀ b o, h0.get? b = some o → s.heap.get? b = some o) → (∃ L es ep t, SetR knd s.heap S L es ep t ∧ Had ks i L) →
      (∀ s' L es ep t, Moved (S :: wr) G s s' → SetR knd s'.heap S L es ep t → Had ks n L → (∀ b o, h0.get? b = some o → s'.heap.get? b = some o) → R (.ok (.ret .none)) s') →
      codeAny (model P w) A (.builtin "set.update.loop" ⟨[.ref S, .ref I], []⟩) R s := by
  have sw : S ∉ wr := fun h => hSf (W.sub _ h)
  have up : ∀ b ∈ wr, b ∈ S :: wr := fun b hb => List.mem_cons_of_mem _ hb
  have still : ∀ {s s' : Shared}, Moved wr G s s' → (∀ b o, h0.get? b = some o → s.heap.get? b = some o) → ∀ b o, h0.get? b = some o → s'.heap.get? b = some o := fun m k b o e => m.heap b o (fun hb => by rw [hw0 b hb] at e; cases e) (k b o e)
  intro k
  induction k with
  | zero =>
    intro i s hk' hi hst kp ⟨L, es, ep, t, hS, g⟩ done
    obtain rfl : i = n := by omega
    refine codeAny_builtin F.entry_set_update_loop ?_
    rw [Around.under_plainId F.plain_set_update_loop _]
    show wpAny _ A.in1 (pyNext (.ref I) >>= _) _ _ s
    refine wpAny_bind (W.done s _ _ hst fun s' hm => ?_)
    show wpAny _ A.in1 (ret Value.none) _ _ s'
    have kp' := still hm kp
    exact wpAny_pure (done s' L es ep t (hm.mono up) (hS.keep (fun o e => hm.heap S o sw e) fun p hp => key_keep (hk p (List.mem_of_mem_take (g.sub p hp))) kp') g kp')
  | succ k ih =>
    intro i s hk' hi hst kp ⟨L, es, ep, t, hS, g⟩ done
    have lt : i < n := by omega
    refine codeAny_builtin F.entry_set_update_loop ?_
    rw [Around.under_plainId F.plain_set_update_loop _]
    show wpAny _ A.in1 (pyNext (.ref I) >>= _) _ _ s
    refine wpAny_bind (W.item i s _ _ lt hst fun v s' hP hst' hm => ?_)
    obtain ⟨p, hp, rfl⟩ := hval i v hP
    have kp' := still hm kp
    have sub : ∀ q ∈ L, q ∈ ks := fun q hq => List.mem_of_mem_take (g.sub q hq)
    have hS' : SetR knd s'.heap S L es ep t := hS.keep (fun o e => hm.heap S o sw e) fun q hq => key_keep (hk q (sub q hq)) kp'
    have hpk := List.mem_of_getElem? hp
    have hx : IsTupleKey knd s'.heap p.2 p.1 := key_keep (hk p hpk) kp'
    have few : p.2 ∉ L.map (·.2) → L.length + 1 < 64 := fun hno => by
      have z := nodup_le (p.2 :: L.map (·.2)) D (List.nodup_cons.mpr ⟨hno, hS.nd⟩) fun y hy => by
        rcases List.mem_cons.mp hy with e | hy
        · rw [e]; exact hkD p hpk
        · obtain ⟨q, hq, rfl⟩ := List.mem_map.mp hy
          exact hkD q (sub q hq)
      rw [List.length_cons, List.length_map] at z
      omega
    show wpAny _ A.in1 (holding [Value.ref p.1] (setAdd S (.ref p.1)) >>= _) _ _ s'
    refine wpAny_bind (wpAny_holding ?_)
    unfold setAdd
    refine wpAny_holding (wpAny_bind (wpAny_pyHash_tuple hu hx ?_))
    refine put_in (s := { s' with toks := s'.toks + (p.2.length + 1) }) Z hS' hx hu few fun b h' L' es' ep' t' sb S2 c1 c2 => ?_
    have g' : Had ks (i + 1) L' := by
      by_cases c : p.2 ∈ L.map (·.2)
      · rw [c1 c]; exact g.same hp c
      · exact g.more hp (c2 c)
    have kp2 : ∀ b o, h0.get? b = some o → h'.get? b = some o := fun b o e => (sb.2 b (fun z => by rw [z, hS0] at e; cases e)).trans (kp' b o e)
    refine wpAny_pure ⟨plainId_quiet F.plain_set_update_loop _, ih (i + 1) _ (by omega) lt (W.frame _ s' _ _ hst' (Nat.le_add_right _ _) fun b hb o e => ?_) kp2 ⟨L', es', ep', t', S2, g'⟩ fun s'' L2 es2 ep2 t2 hm'' hS'' g'' kp'' => ?_⟩
    · rw [sb.2 b (fun h : b = S => hSf (by rw [← h]; exact hb))]; exact e
    · refine done s'' L2 es2 ep2 t2 (Moved.trans W.gtrans ((hm.mono up).then_heap (Nat.le_add_right _ _) fun b o hb e => ?_) hm'') hS'' g'' kp''
      rw [sb.2 b (fun h : b = S => hb (by rw [h]; exact List.mem_cons_self))]; exact e
/-- the empty set that set() lays first -/
abbrev bare (w : World) : Obj := { cls := .type "set", dict := none, data := .set #[] 0 (.fresh 0 0 (!w.params.followText "set-order")) }
/-- set(a list) -/
theorem set_of (Z : Flat knd) {l : Addr} {items : Array Value} (ks : List (Row κ)) {D : List (List κ)} {Q : Value → Shared → Prop} (hh : A.handled = none) (hl : s.heap.IsList l items) (hit : items.toList = ks.map fun p => Value.ref p.1)
    (hk : ∀ p ∈ ks, IsTupleKey knd s.heap p.2 p.1) (hD : D.length < 64) (hkD : ∀ p ∈ ks, p.2 ∈ D) (hu : A.units + 3 < cLine)
    (h : ∀ (h' : Heap) (tk : Nat) L es ep t, SetR knd h' s.heap.objs.size L es ep t → Had ks ks.length L → (∀ b o, s.heap.get? b = some o → h'.get? b = some o) → Q (.ref s.heap.objs.size) { s with heap := h', toks := tk }) :
    wpAny (model P w) A (call (.type "set") [.ref l]) Q E s := by
  have isz : items.size = ks.length := by rw [← Array.length_toList, hit, List.length_map]
  obtain ⟨c, tl, hmro⟩ := F.called_set.mro
  have hmade := F.called_set.made
  have hsub := F.called_set.sub
  refine wpAny_call (codeAny_of_tree ?_)
  show wpAny _ _ (callAny (.type "set") _) _ _ _
  refine wpAny_pure ⟨Code.quiet_builtin _ (by decide +kernel), codeAny_builtin F.entry_type_call ?_⟩
  rw [Around.under_plain (weight_type_call_type "set" [.ref l] []) rfl]
  have f1 := F.called_set.notType
  have f2 := F.called_set.canCreate
  have f3 := F.typeCall_set_1 (.ref l)
  repeat (any_goals (first | assumption | wp_step))
  refine codeAny_mono (L2.code_set_led1 (.ref l) (E := E) (Q₁ := fun obj s₁ => obj = .ref s.heap.objs.size ∧ s₁ = { s with heap := s.heap.push (bare w) }) ⟨rfl, rfl⟩) fun r s₁ hr => ?_
  match r, hr with
  | .error e, hr => exact hr
  | .ok (.ret obj), hr =>
    obtain ⟨rfl, rfl⟩ := hr
    have hS : (s.heap.push (bare w)).get? s.heap.objs.size = some (bare w) := Heap.get?_push_size _ rfl
    have hT : Shared.TypeIs { s with heap := s.heap.push (bare w) } (.ref s.heap.objs.size) "set" := ⟨_, hS, rfl⟩
    have g1 := F.called_set.init.lookup
    have g2 := F.called_set.init.bind (.ref s.heap.objs.size)
    repeat (any_goals (first | assumption | wp_step))
    refine codeAny_mono (codeAny_call_builtin (R := wants (fun r s₂ => r = .none ∧ ∃ h' tk L es ep t, s₂ = { s with heap := h', toks := tk } ∧ SetR knd h' s.heap.objs.size L es ep t ∧ Had ks ks.length L ∧ (∀ b o, s.heap.get? b = some o → h'.get? b = some o)) E)
      F.called_set.init.plain F.entry_set_init (check_set_init_1 hT ?_)) fun r₂ s₂ hr₂ => ?_
    · obtain ⟨ol, hol, hcl, nl, hdl⟩ := hl
      obtain ⟨ocls, odict, odata, oslots⟩ := ol
      simp only at hcl hdl
      subst hcl; subst hdl
      have hol' : (s.heap.push (bare w)).get? l = some { cls := .type "list", dict := odict, data := .seq items nl, slots := oslots } := Heap.get?_push_of_some _ hol
      have e1 := F.sub_list_set
      have e2 := F.sub_list_frozenset
      have e3 : (Value.type "list" == Value.type "dict") = false := by decide
      have hl1 : (s.heap.push (bare w)).IsList l items := ⟨_, hol', rfl, nl, rfl⟩
      unfold Builtin.«set.__init__» noKeywords Builtin.Frozenset.updateFrom
      generalize hPI : pyIter = PI
      wp_walk
      subst hPI
      refine wpAny_pyIter_list hl1 (wpAny_bind (wpAny_runValue ?_))
      have lS : l < s.heap.objs.size := Heap.lt_size hol
      have hh3 : A.in1.in1.in1.handled = none := by simp [hh]
      have psz : (s.heap.push (bare w)).objs.size = s.heap.objs.size + 1 := Heap.size_push ..
      have neI : l ≠ (s.heap.push (bare w)).objs.size := by rw [psz]; exact Nat.ne_of_lt (Nat.lt_succ_of_lt lS)
      have nofp : s.heap.objs.size ∉ [(s.heap.push (bare w)).objs.size, l] := by
        rw [psz]
        simp only [List.mem_cons, List.not_mem_nil, or_false, not_or]
        exact ⟨Nat.ne_of_lt (Nat.lt_succ_self _), Nat.ne_of_gt lS⟩
      have vals : ∀ (i : Nat) (v : Value), items[i]? = some v → ∃ p, ks[i]? = some p ∧ v = .ref p.1 := fun i v hv => by
        have q : items.toList[i]? = some v := by rw [Array.getElem?_toList]; exact hv
        rw [hit, List.getElem?_map] at q
        cases e : ks[i]? with
        | none => rw [e] at q; cases q
        | some p =>
          rw [e] at q
          exact ⟨p, rfl, (Option.some.inj q).symm⟩
      have beyond : ∀ b, s.heap.objs.size ≤ b → s.heap.get? b = none := fun b hb => by
        cases q : s.heap.get? b with
        | none => rfl
        | some o => exact absurd (Nat.lt_of_lt_of_le (Heap.lt_size q) hb) (Nat.lt_irrefl _)
      refine fill_loop Z ((Walks.list hh3 _ l neI items).toS) s.heap.objs.size nofp ks isz hD hkD vals s.heap hk (beyond _ (Nat.le_refl _)) (fun b hb => beyond b (by rw [List.mem_singleton.mp hb, psz]; exact Nat.le_succ _)) hu (items.size - 0) 0 _ (by omega) (Nat.zero_le _)
        ⟨⟨_, Heap.get?_push_size _ rfl, rfl, rfl⟩, (hl1.push _)⟩ (fun b o e => Heap.get?_push_of_some _ (Heap.get?_push_of_some _ e)) ⟨[], #[], 0, _, fresh_set (Heap.get?_push_of_some _ hS), ⟨fun p h => (nomatch h), fun p h => by simp at h⟩⟩ fun s' L es ep t hm hS' g' kp => ?_
      obtain ⟨h', g3, d', tk', os'⟩ := s'
      have eg : g3 = s.gens := hm.gens
      have ed : d' = s.drawn := hm.drawn
      have eo : os' = s.os := hm.os
      subst eg; subst ed; subst eo
      show wpAny _ _ _ _ _ _
      refine wpAny_pure ?_
      show wpAny _ _ (ret Value.none) _ _ _
      rw [isz] at g'
      exact wpAny_pure ⟨rfl, h', tk', L, es, ep, t, rfl, hS', g', kp⟩
    · match r₂, hr₂ with
      | .error e, hr₂ => exact hr₂
      | .ok (.ret r), hr₂ =>
        obtain ⟨rfl, h', tk, L, es, ep, t, rfl, hS', g', hk'⟩ := hr₂
        repeat (any_goals (first | assumption | wp_step))
        exact h _ _ _ _ _ _ hS' g' hk'
end
end DS
namespace DS
open PySem PySem.Spec PyProof.Rows
open L2 (TabOk MaskOk way nth runAt wp_if_pos wp_if_neg)
theorem perm_map {α β : Type} {g : α → β} {xs ys : List β} (h : xs.Perm ys) : ∀ {l : List α}, xs = l.map g → ∃ l' : List α, l'.Perm l ∧ ys = l'.map g := by
  induction h with
  | nil => intro l e; exact ⟨l, List.Perm.refl _, e⟩
  | @cons x xs ys _ ih =>
    intro l e
    cases l with
    | nil => cases e
    | cons a l =>
      rw [List.map_cons] at e
      injection e with e1 e2
      obtain ⟨l', p, e3⟩ := ih e2
      exact ⟨a :: l', p.cons a, by rw [List.map_cons, e1, e3]⟩
  | swap x y xs =>
    intro l e
    match l, e with
    | a :: b :: l, e =>
      rw [List.map_cons, List.map_cons] at e
      injection e with e1 e2
      injection e2 with e2 e3
      exact ⟨b :: a :: l, List.Perm.swap a b l, by rw [List.map_cons, List.map_cons, e1, e2, e3]⟩
  | trans _ _ ih1 ih2 =>
    intro l e
    obtain ⟨l1, p1, e1⟩ := ih1 e
    obtain ⟨l2, p2, e2⟩ := ih2 e1
    exact ⟨l2, p2.trans p1, e2⟩
section
variable {P : Program} {w : World} {κ : Type} [DecidableEq κ] {knd : KeyKind P w κ} {A : Around} {E : Value → Shared → Prop} {s : Shared} {β : Type}
/-- sorted(a set) -/
theorem sorted_set {a : Addr} {LL : List β} {f : β → Row κ} {enc : β → PyData} {es : Array (Int × Value)} {ep : Nat} {t : SetTable} {Q : Value → Shared → Prop} (R : SetR knd s.heap a (LL.map f) es ep t) (hh : A.handled = none)
    (rd : ∀ b ∈ LL, PySem.Reads s.heap (.ref (f b).1) (enc b) []) (hal : PySem.W.AllAlike (LL.map enc)) (hk : PySem.W.Sortable (LL.map enc)) (hu : ∀ b ∈ LL, A.units + 8 + (enc b).depth < cLine)
    (hQ : ∀ s' p (out : Array Value) (c : Nat) (L1 : List β), (∀ b o, s.heap.get? b = some o → s'.heap.get? b = some o) → s'.gens = s.gens → s'.os = s.os → s.heap.objs.size ≤ p →
      s'.heap.get? p = some (seqObj "list" out c) → out.toList = (L1.mergeSort (PySem.W.dataLe false enc)).map (fun b => Value.ref (f b).1) → L1.Perm LL → Q (.ref p) s') :
    wpAny (model P w) A (call (.builtin "sorted") [.ref a]) Q E s := by
  obtain ⟨o, ho, hex, hd⟩ := R.ob
  have hsz := R.size
  have hfew := R.few
  rw [List.length_map] at hsz hfew
  refine Calls.call_function_entry kind_sorted plain_sorted entry_sorted (args_sorted1 _) ?_
  unfold Builtin.«sorted»
  refine wpAny_bind (m := checkCount "sorted" 1 1 _) (wpAny_pure ?_)
  refine wpAny_bind (L2.collect_set (A := A.in1) hh ⟨o, ho, hex.1, hd⟩ R.fits (by unfold scanBound; omega) R.tab.ris R.led fun s1 vs k1 hz g1 o1 pm => ?_)
  have hes : es.toList.map (·.2) = LL.map fun b => Value.ref (f b).1 := by
    rw [R.rw_]
    unfold rows
    rw [List.map_map, List.map_map] <;> rfl
  obtain ⟨L1, pL, eL⟩ := perm_map (g := fun b => Value.ref (f b).1) pm.symm hes
  subst eL
  have hvl : (L1.map fun b => Value.ref (f b).1).length < 64 := by rw [List.length_map, pL.length_eq]; exact hfew
  refine wpAny_bind (wpAny_newList ?_ (by rw [sizeLine_eq]; omega))
  generalize hvs : (L1.map fun b => Value.ref (f b).1) = vs at hvl ⊢
  have hoL : (s1.heap.push (seqObj "list" vs.toArray 0)).get? s1.heap.objs.size = some (seqObj "list" vs.toArray 0) := Heap.get?_push_size _ rfl
  have each : ∀ (bs : List β), (∀ b ∈ bs, b ∈ LL) → PySem.W.EachIs (fun v b => v = Value.ref (f b).1 ∧ b ∈ LL) (bs.map fun b => Value.ref (f b).1) bs := by
    intro bs
    induction bs with
    | nil => exact fun _ => .nil
    | cons b bs ih => exact fun h => .cons ⟨rfl, h b List.mem_cons_self⟩ (ih fun c hc => h c (List.mem_cons_of_mem _ hc))
  have e1 : PySem.W.EachIs (fun v b => v = Value.ref (f b).1 ∧ b ∈ LL) vs L1 := by rw [← hvs]; exact each L1 fun b hb => pL.mem_iff.mp hb
  have er : PySem.W.EachIs (fun v b => ∃ as, PySem.Reads (s1.heap.push (seqObj "list" vs.toArray 0)) v (enc b) as ∧ s1.heap.objs.size ∉ as) vs L1 := e1.mono fun v b ⟨h1, h2⟩ => by
    subst h1
    exact ⟨[], PyProof.Rows.Reads.keeps (fun c u e => Heap.get?_push_of_some _ (k1 c u e)) (rd b h2), fun z => nomatch z⟩
  have pm2 : (L1.map enc).Perm (LL.map enc) := pL.map enc
  have hal1 : PySem.W.AllAlike (L1.map enc) := fun d hd d' hd' => hal d (pm2.mem_iff.mp hd) d' (pm2.mem_iff.mp hd')
  have hk1 : PySem.W.Sortable (L1.map enc) := hk.imp (fun h d hd => h d (pm2.mem_iff.mp hd)) (fun h d hd => h d (pm2.mem_iff.mp hd))
  have hlen : L1.length = vs.length := by rw [← hvs, List.length_map]
  refine wpAny_bind (wpAny_holding (PySem.W.list_sort_data (s := { s1 with heap := s1.heap.push (seqObj "list" vs.toArray 0) }) hoL e1 er hal1 hk1 (by rw [sizeLine_eq]; omega) (fun b hb => by
    have := hu b (pL.mem_iff.mp hb)
    show _ + 1 + 1 + _ < _
    omega) fun out a1 a2 => ?_))
  obtain ⟨c, hc⟩ := sortedHeap_at (vs := vs) (out := List.toArray out) hoL
  have eo : out = (L1.mergeSort (PySem.W.dataLe false enc)).map fun b => Value.ref (f b).1 := by
    have go : ∀ {us : List Value} {bs : List β}, PySem.W.EachIs (fun v b => v = Value.ref (f b).1 ∧ b ∈ LL) us bs → us = bs.map fun b => Value.ref (f b).1 := by
      intro us bs h
      induction h with
      | nil => rfl
      | cons h _ ih => rw [List.map_cons, h.1, ih]
    exact go a2
  refine wpAny_pure ⟨_, rfl, hQ _ s1.heap.objs.size (List.toArray out) c L1 (fun b u e => ?_) g1 o1 hz hc eo pL⟩
  have q := k1 b u e
  have hlt := Heap.lt_size q
  show (sortedHeap (s1.heap.push (seqObj "list" vs.toArray 0)) s1.heap.objs.size vs (List.toArray out)).get? b = some u
  rw [sortedHeap_old (Nat.ne_of_lt hlt) (by rw [size_push']; exact Nat.lt_succ_of_lt hlt)]
  exact Heap.get?_push_of_some _ q
end
/-! ### leaves -/
def lf : PyData → Leaf
  | .bool b => .num (if b = true then 1 else 0)
  | .int i => .num i
  | _ => .none
def isLf : PyData → Bool
  | .none => true
  | .bool _ => true
  | .int _ => true
  | _ => false
def keyD : PyData → List Leaf
  | .tuple xs => xs.map lf
  | _ => []
def FlatT (d : PyData) : Prop := ∃ xs, d = .tuple xs ∧ ∀ x ∈ xs, isLf x = true
def plainK : Leaf → Bool
  | .text _ => false
  | _ => true
theorem plain_of {k : Leaf} {v : Value} (h : (Leaf.isOf k v && plainK k) = true) : Leaf.isOf k v = true := (Bool.and_eq_true_iff.mp h).1
/-- numbers, truths, None: what is hashed by its value -/
def numKind (P : Program) (w : World) : KeyKind P w Leaf where
  is := fun k v => Leaf.isOf k v && plainK k
  hash := (leafKind P w).hash
  inj := fun v a b ha hb => (leafKind P w).inj v a b (plain_of ha) (plain_of hb)
  byValue := fun k v h => (leafKind P w).byValue k v (plain_of h)
  pyHash := fun hv h => (leafKind P w).pyHash (plain_of hv) h
  eqBool := fun hu hv h => (leafKind P w).eqBool (plain_of hu) (plain_of hv) h
  «strs» := fun k x t v h => by
    cases k <;> first | exact absurd h Bool.false_ne_true | exact absurd (Bool.and_eq_true_iff.mp h).2 Bool.false_ne_true
theorem flat_leaf {P : Program} {w : World} : Flat (numKind P w) where
  cls := fun k v n h => by
    cases k <;> cases v <;> first | exact absurd h Bool.false_ne_true | (cases n <;> rfl) | exact absurd (Bool.and_eq_true_iff.mp h).2 Bool.false_ne_true
  hsh := fun k v n h => by
    cases k <;> cases v <;> first | exact absurd h Bool.false_ne_true | (cases n <;> rfl) | exact absurd (Bool.and_eq_true_iff.mp h).2 Bool.false_ne_true
end DS
namespace DS
open PySem PySem.Spec PyProof.Rows L2 DL
section
variable {X : Cx} {pins : List (Addr × Obj)} {σ : L2.St} {H : Hp} {s : Shared}
theorem leaf_is {x : V} {u : Value} {d : PyData} (h : Dp X.K H x d) (r : RelV x u) (hl : isLf d = true) : (numKind X.prog X.w).is (lf d) u = true ∧ PySem.Reads s.heap u d [] := by
  cases h with
  | non => cases r; exact ⟨rfl, .none⟩
  | bl b => cases r; exact ⟨by cases b <;> rfl, .bool _⟩
  | int i => obtain ⟨t, rfl⟩ := r; exact ⟨Bool.and_eq_true_iff.mpr ⟨decide_eq_true rfl, rfl⟩, .int _ _⟩
  | str x => cases hl
  | lst _ _ => cases hl
  | tup _ _ => cases hl
theorem leaves_are : ∀ {xs : List V} {us : List Value} {ds : List PyData}, DpAll X.K H xs ds → Vals xs us → (∀ d ∈ ds, isLf d = true) → ItemsAre (numKind X.prog X.w) (ds.map lf) us ∧ PySem.ReadsAll s.heap us ds []
  | _, _, [], .nil, .nil, _ => ⟨.nil, .nil⟩
  | _, _, d :: ds, .cons h1 h2, .cons r1 r2, hl => by
    obtain ⟨a, b⟩ := leaf_is (s := s) h1 r1 (hl d List.mem_cons_self)
    obtain ⟨c, e⟩ := leaves_are h2 r2 fun z hz => hl z (List.mem_cons_of_mem _ hz)
    exact ⟨.cons a c, .cons b e⟩
theorem key_at (I : Inv X pins σ H s) {b : Addr} {d : PyData} (h : Dp X.K H (.ref b) d) (hf : FlatT d) : IsTupleKey (numKind X.prog X.w) s.heap (keyD d) b ∧ PySem.Reads s.heap (.ref b) d [] := by
  obtain ⟨ds, rfl, hl⟩ := hf
  cases h with
  | tup hs ha =>
    obtain ⟨its, r, ⟨o, ho, hc, n, hd⟩, _⟩ := I.tuple hs
    obtain ⟨h1, h2⟩ := leaves_are (X := X) (s := s) ha r hl
    exact ⟨⟨o, its.toArray, n, ho, hc, hd, by simpa [keyD] using h1⟩, .tuple ho hc hd (by simpa using h2)⟩
/-- the set at a, without the tuples themselves -/
structure SetT0 (P : Program) (w : World) (h : Heap) (a : Addr) (L : List (Row Leaf)) : Prop where
  ex : ∃ (es : Array (Int × Value)) (ep : Nat) (t : SetTable), (∃ o, h.get? a = some o ∧ o.ExactSet ∧ o.data = .set es ep t) ∧ es.toList = rows (numKind P w) L ∧ TabOk t (L.map fun p => tupleKeyHash (numKind P w) p.2) ∧ (L.map (·.2)).Nodup ∧ t.plain = true ∧
    (w.params.followText "set-order" = true ∨ t.led = true) ∧ L.length * 5 < t.mask * 3 ∧ L.length < 64
def SetO (P : Program) (w : World) (a : Addr) (L : List (Row Leaf)) : HO := .ext fun h => SetT0 P w h a L
theorem SetR.t0 {P : Program} {w : World} {h : Heap} {a : Addr} {L : List (Row Leaf)} {es : Array (Int × Value)} {ep : Nat} {t : SetTable} (R : SetR (numKind P w) h a L es ep t) : SetT0 P w h a L :=
  ⟨es, ep, t, R.ob, R.rw_, R.tab, R.nd, R.plain, R.led, R.room, R.few⟩
theorem SetT0.full {P : Program} {w : World} {h : Heap} {a : Addr} {L : List (Row Leaf)} (R : SetT0 P w h a L) (ht : ∀ p ∈ L, IsTupleKey (numKind P w) h p.2 p.1) : ∃ es ep t, SetR (numKind P w) h a L es ep t := by
  obtain ⟨es, ep, t, h1, h2, h3, h4, h5, h6, h7, h8⟩ := R.ex
  exact ⟨es, ep, t, h1, h2, h3, h4, ht, h5, h6, h7, h8⟩
theorem setO_new {P : Program} {w : World} {H : Hp} {h : Heap} {a : Addr} {L : List (Row Leaf)} (R : SetT0 P w h a L) : ObjOk P w H h a (SetO P w a L) := by
  have ⟨es, ep, t, ⟨o, ho, r⟩, q⟩ := R.ex
  refine ⟨R, ⟨o, ho⟩, fun h1 h2 p k => ?_⟩
  have ⟨es', ep', t', ⟨o', ho', r'⟩, q'⟩ := SetT0.ex p
  exact ⟨es', ep', t', ⟨o', k o' ho', r'⟩, q'⟩
/-- an address and its datum, as a row -/
def rowOf (p : Addr × PyData) : Row Leaf := (p.1, keyD p.2)
theorem refs_are {α : Type} {g : α → Addr} : ∀ {ks : List α} {us : List Value}, Vals (ks.map fun p => V.ref (g p)) us → us = ks.map fun p => Value.ref (g p)
  | [], _, .nil => rfl
  | p :: ks, _, .cons r t => by
    cases r
    rw [refs_are t] <;> rfl
theorem are_refs {α : Type} {g : α → Addr} : ∀ (ks : List α), Vals (ks.map fun p => V.ref (g p)) (ks.map fun p => Value.ref (g p))
  | [] => .nil
  | p :: ks => .cons rfl (are_refs ks)
/-- set(xs), xs a list of flat tuples -/
def rSetOf (K : PySem.W.Frag) (P : Program) (w : World) : List V → Hp → VK → Prop := fun xs H Q => ∃ (l : Addr) (ks : List (Addr × PyData)) (D : List PyData), xs = [V.ref l] ∧ SqL K H l (ks.map fun p => V.ref p.1) ∧ (∀ p ∈ ks, FlatT p.2 ∧ Dp K H (.ref p.1) p.2) ∧ D.length < 64 ∧ (∀ p ∈ ks, p.2 ∈ D) ∧
  ∀ (a : Addr) (L : List (Addr × PyData)), H a = none → (∀ p ∈ L, p ∈ ks) → (∀ p ∈ ks, keyD p.2 ∈ L.map fun q => keyD q.2) → (L.map fun q => keyD q.2).Nodup → Q (.ref a) (upd H a (SetO P w a (L.map rowOf)))
theorem cr_setOf (hc : X.calm = true) (hu : X.A.units + 64 < cLine) : CallR X (.type "set") (rSetOf X.K X.prog X.w) := by
  intro pins s σ H xs us Q I r h
  obtain ⟨l, ks, D, rfl, hl, hk, hf, hD, q⟩ := h
  rw [Vals.ref1 r]
  obtain ⟨its, rv, pl, hz⟩ := I.list hl
  have hn : H s.heap.objs.size = none := I.hok.fresh (Nat.le_refl _)
  refine set_of (P := X.prog) (w := X.w) (flat_leaf (P := X.prog) (w := X.w)) (ks.map rowOf) (D := D.map keyD) (I.ok.hd hc) pl.isList (by rw [List.map_map]; simpa [rowOf, Function.comp_def] using refs_are rv) (fun p hp => ?_) (by rw [List.length_map]; exact hf) (fun p hp => ?_) (by omega) fun h' tk L es ep t R g k => ?_
  · obtain ⟨p0, hp0, rfl⟩ := List.mem_map.mp hp
    exact (key_at I (hk p0 hp0).2 (hk p0 hp0).1).1
  · obtain ⟨p0, hp0, rfl⟩ := List.mem_map.mp hp
    exact List.mem_map.mpr ⟨p0.2, hD p0 hp0, rfl⟩
  · have pick : ∀ L : List (Row Leaf), (∀ p ∈ L, p ∈ ks.map rowOf) → ∃ L0 : List (Addr × PyData), L = L0.map rowOf ∧ ∀ p ∈ L0, p ∈ ks := by
      intro L
      induction L with
      | nil => exact fun _ => ⟨[], rfl, fun p hp => (nomatch hp)⟩
      | cons p L ih =>
        intro hL
        obtain ⟨q0, hq0, e0⟩ := List.mem_map.mp (hL p List.mem_cons_self)
        obtain ⟨L0, e1, h1⟩ := ih fun z hz => hL z (List.mem_cons_of_mem _ hz)
        refine ⟨q0 :: L0, by rw [List.map_cons, e0, e1], fun z hz => ?_⟩
        rcases List.mem_cons.mp hz with e | hz
        · rw [e]; exact hq0
        · exact h1 z hz
    obtain ⟨L0, rfl, h0⟩ := pick L fun p hp => List.mem_of_mem_take (g.sub p hp)
    refine ⟨.ref s.heap.objs.size, upd H s.heap.objs.size (SetO X.prog X.w s.heap.objs.size (L0.map rowOf)), I.laid (t' := tk) k (Nat.le_refl _) (setO_new R.t0), rfl, q _ L0 hn h0 (fun p hp => ?_) ?_⟩
    · have z := g.all (rowOf p) (by rw [List.take_length]; exact List.mem_map.mpr ⟨p, hp, rfl⟩)
      rw [List.map_map] at z
      exact z
    · have z := R.nd
      rw [List.map_map] at z
      exact z
/-- sorted(a set) -/
def rSortSet (K : PySem.W.Frag) (P : Program) (w : World) : List V → Hp → VK → Prop := fun vs H Q => ∃ (a : Addr) (L : List (Addr × PyData)), vs = [V.ref a] ∧ H a = some (SetO P w a (L.map rowOf)) ∧ (∀ p ∈ L, FlatT p.2 ∧ Dp K H (.ref p.1) p.2) ∧
  PySem.W.AllAlike (L.map (·.2)) ∧ PySem.W.Sortable (L.map (·.2)) ∧
  ∀ (L1 : List (Addr × PyData)) (p : Addr), L1.Perm L → H p = none → Q (.ref p) (upd H p (.lst ((L1.mergeSort (PySem.W.dataLe false fun q => q.2)).map fun q => V.ref q.1)))
theorem depth_leaves : ∀ xs : List PyData, (∀ x ∈ xs, isLf x = true) → PyData.depthAll xs = 0
  | [], _ => rfl
  | x :: xs, h => by
    have h1 : x.depth = 0 := by
      have := h x List.mem_cons_self
      cases x <;> first | rfl | cases this
    rw [PyData.depthAll, h1, depth_leaves xs fun y hy => h y (List.mem_cons_of_mem _ hy)]
    rfl
theorem depth_flat {d : PyData} (h : FlatT d) : d.depth ≤ 1 := by
  obtain ⟨xs, rfl, hx⟩ := h
  rw [PyData.depth, depth_leaves xs hx]
  exact Nat.le_refl _
theorem cr_sortSet (hc : X.calm = true) (hu : X.A.units + 64 < cLine) : CallR X (.builtin "sorted") (rSortSet X.K X.prog X.w) := by
  intro pins s σ H vs us Q I r h
  obtain ⟨a, L, rfl, ha, hk, hal, hso, q⟩ := h
  have R0 : SetT0 X.prog X.w s.heap a (L.map rowOf) := (I.hok a _ ha).1
  obtain ⟨es, ep, t, R⟩ := R0.full fun p hp => by
    obtain ⟨p0, hp0, rfl⟩ := List.mem_map.mp hp
    exact (key_at I (hk p0 hp0).2 (hk p0 hp0).1).1
  rw [Vals.ref1 r]
  refine sorted_set (f := rowOf) (enc := fun q => q.2) R (I.ok.hd hc) (fun b hb => (key_at I (hk b hb).2 (hk b hb).1).2) hal hso (fun b hb => by have := depth_flat (hk b hb).1; show _ + 8 + b.2.depth < _; omega) fun s' p out c L1 k g o hp hg hout pm => ?_
  have hfew : L1.length < 64 := by rw [pm.length_eq]; have := R.few; rw [List.length_map] at this; exact this
  have hlen : ((L1.mergeSort (PySem.W.dataLe false fun q => q.2)).map fun q => V.ref q.1).length ≤ sizeLine := by rw [List.length_map, List.length_mergeSort, sizeLine_eq]; omega
  have hn : H p = none := I.hok.fresh hp
  have hv : Vals ((L1.mergeSort (PySem.W.dataLe false fun q => q.2)).map fun q => V.ref q.1) out.toList := by rw [hout]; exact are_refs _
  have J : Inv X pins σ (upd H p (.lst ((L1.mergeSort (PySem.W.dataLe false fun q => q.2)).map fun q => V.ref q.1))) { s with heap := s'.heap, gens := s'.gens, drawn := s'.drawn, toks := s'.toks } :=
    I.call (ch := []) (Un.laid k hp hn) (I.hok.laid k hp ⟨hlen, out.toList, c, hv, hg⟩) (by rw [g]; exact I.bare) (fun _ z => nomatch z)
  have e : s' = { s with heap := s'.heap, gens := s'.gens, drawn := s'.drawn, toks := s'.toks } := by
    cases s'
    cases s
    cases o
    rfl
  rw [e]
  exact ⟨.ref p, _, J, rfl, q L1 p pm hn⟩
/-- sorted(set(xs)) -/
def rSS (K : PySem.W.Frag) (P : Program) (w : World) : List V → Hp → VK → Prop := fun xs H Q => rSetOf K P w xs H fun v H1 => rSortSet K P w [v] H1 Q
end
end DS
namespace DS
open PySem PySem.Spec PyProof.Rows L2 DL
/-- sorted(set(xs)), xs a list of flat tuples: us are its unlike ones -/
def fSS : DC := fun ss M k => match ss with
  | [s] => ∃ ds D : List Dt, IsL M s (ds.map .dat) ∧ D.length < 64 ∧ (∀ d ∈ ds, d ∈ D) ∧ (∀ d ∈ ds, FlatT d) ∧ PySem.W.AllAlike ds ∧ PySem.W.Sortable ds ∧ (∀ d ∈ ds, ∀ d' ∈ ds, keyD d = keyD d' → d = d') ∧
    ∀ (us : List Dt) p, us.Nodup → (∀ d, d ∈ us ↔ d ∈ ds) → M p = none → k (.own p) (put M p (.lst ((sortD us).map .dat)))
  | _ => False
theorem refs_of {H : Hp} : ∀ {ds : List Dt} {vs : List V}, DqAll H vs ds → (∀ d ∈ ds, FlatT d) → ∃ ks : List (Addr × Dt), vs = ks.map (fun p => V.ref p.1) ∧ ds = ks.map (·.2) ∧ ∀ p ∈ ks, Dq H (.ref p.1) p.2
  | [], _, .nil, _ => ⟨[], rfl, rfl, fun p hp => (nomatch hp)⟩
  | d :: ds, v :: vs, .cons r t, h => by
    obtain ⟨ks, h1, h2, h3⟩ := refs_of t fun z hz => h z (List.mem_cons_of_mem _ hz)
    obtain ⟨xs, e, _⟩ := h d List.mem_cons_self
    have r0 := r
    rw [e] at r
    obtain ⟨a, us, rfl, _, _⟩ := dp_tup_inv r
    refine ⟨(a, d) :: ks, by rw [List.map_cons, h1], by rw [List.map_cons, ← h2], fun p hp => ?_⟩
    rcases List.mem_cons.mp hp with rfl | hp
    · exact r0
    · exact h3 p hp
theorem pair_refs {H : Hp} : ∀ {L : List (Addr × Dt)}, (∀ p ∈ L, Dq H (.ref p.1) p.2) → DqAll H (L.map fun p => V.ref p.1) (L.map (·.2))
  | [], _ => .nil
  | p :: L, h => .cons (h p List.mem_cons_self) (pair_refs fun q hq => h q (List.mem_cons_of_mem _ hq))
theorem nodup_map {α β : Type} {f : α → β} : ∀ {l : List α}, (l.map f).Nodup → l.Nodup
  | [], _ => List.nodup_nil
  | a :: l, h => by
    rw [List.map_cons, List.nodup_cons] at h
    exact List.nodup_cons.mpr ⟨fun z => h.1 (List.mem_map.mpr ⟨a, z, rfl⟩), nodup_map h.2⟩
theorem sim_ss {K : PySem.W.Frag} {P : Program} {w : World} : SimC (fun xs H Q => rSetOf K P w xs H fun v H1 => rSortSet K P w [v] H1 Q) fSS := by
  intro ss M k xs H Hc Q h r O q
  unfold fSS at h
  split at h
  · obtain ⟨x, rfl, rx⟩ := rps1 r
    obtain ⟨ds, D, l, hD, hin, hf, hal, hso, hinj, h⟩ := h
    obtain ⟨a, vs, rfl, g1, g2⟩ := l.at_ O rx
    obtain ⟨ks, rfl, rfl, hk⟩ := refs_of (rps_dat g2) hf
    have two : ∀ p ∈ ks, p.2 ∈ ks.map (·.2) := fun p hp => List.mem_map.mpr ⟨p, hp, rfl⟩
    refine ⟨a, ks, D, rfl, SqL.of g1, fun p hp => ⟨hf _ (two p hp), dq_dp (dp_ex O.ex (hk p hp))⟩, hD, fun p hp => hin _ (two p hp), fun b L hb hL hall hnd => ?_⟩
    have O2 := O.waste (o := SetO P w b (L.map rowOf)) hb
    have sub : ∀ d ∈ L.map (·.2), d ∈ ks.map (·.2) := fun d hd => by
      obtain ⟨p, hp, rfl⟩ := List.mem_map.mp hd
      exact two p (hL p hp)
    refine ⟨b, L, rfl, upd_same, fun p hp => ⟨hf _ (two p (hL p hp)), dq_dp (dp_ex O2.ex (hk p (hL p hp)))⟩, fun d hd d' hd' => hal d (sub d hd) d' (sub d' hd'), hso.imp (fun z d hd => z d (sub d hd)) (fun z d hd => z d (sub d hd)), fun L1 p pm hp => ?_⟩
    have es : (L1.mergeSort (PySem.W.dataLe false fun q => q.2)).map (·.2) = sortD (L1.map (·.2)) := List.map_mergeSort fun a _ b _ => rfl
    have hs : ∀ z ∈ L1.mergeSort (PySem.W.dataLe false fun q => q.2), z ∈ L := fun z hz => pm.mem_iff.mp (List.mem_mergeSort.mp hz)
    have hlen : L.length < 64 := by
      have e1 : (L.map (·.2)).Nodup := nodup_map (f := keyD) (by rw [List.map_map]; exact hnd)
      have := @nodup_le _ (fun a b => Classical.propDecidable (a = b)) (L.map (·.2)) D e1 fun d hd => by
        obtain ⟨p, hp, rfl⟩ := List.mem_map.mp hd
        exact hin _ (two p (hL p hp))
      rw [List.length_map] at this
      omega
    refine q.own O2 (ss := (sortD (L1.map (·.2))).map .dat) (by rw [← es]; exact dat_rps (pair_refs fun z hz => hk z (hL z (hs z hz)))) (by rw [List.length_map, sortD_len, List.length_map, pm.length_eq, sizeLine_eq]; omega) hp
      (h (L1.map (·.2)) p ((pm.map (·.2)).nodup_iff.mpr (nodup_map (f := keyD) (by rw [List.map_map]; exact hnd))) (fun d => ?_) (O2.freeM hp))
    rw [(pm.map (·.2)).mem_iff]
    refine ⟨sub d, fun hd => ?_⟩
    obtain ⟨p0, hp0, rfl⟩ := List.mem_map.mp hd
    obtain ⟨q0, hq0, e0⟩ := List.mem_map.mp (hall p0 hp0)
    rw [← hinj q0.2 (two q0 (hL q0 hq0)) p0.2 (two p0 hp0) e0]
    exact List.mem_map.mpr ⟨q0, hq0, rfl⟩
  · exact h.elim
theorem xe_two {X : Cx} {das : DA} {r rs : List V → Hp → VK → Prop} {f : DC} {ex : Expr} (hf : SimC (fun xs H Q => r xs H fun v H1 => rs [v] H1 Q) f) (h : PE X ex (tCB rs (tCons (tCB r (LA das)) tNil))) : XE X ex (dCB f das) := xe_of h fun Γ M k σ H Hc Q hd F O q =>
  simLA Γ M _ σ H Hc _ hd F O fun vs ss M1 H1 Hc1 e1 O1 r1 h1 => hf ss M1 k vs H1 Hc1 Q h1 r1 O1 (q.ex e1)
end DS
namespace DS
open PySem PySem.Spec PyProof.Rows L2 DL
open PySem.SeqAt
section
variable {prog : Program} {w : World} {A : Around} {E : Value → Shared → Prop} {s : Shared}
/-- min(a list of data): the place of the first of the least -/
theorem min_at {l : Addr} {vs : Array Value} {x : PyData} {xs : List PyData} {as : List Addr} {Q : Value → Shared → Prop} (hh : A.handled = none) (hl : s.heap.IsList l vs) (hr : PySem.ReadsAll s.heap vs.toList (x :: xs) as) (ha : PySem.W.AlikeAll (x :: xs)) (hu : A.units + 1 + PyData.depthAll (x :: xs) < cLine)
    (h : ∀ (i : Nat) v h' tk, vs[i]? = some v → (x :: xs)[i]? = some (PySem.W.minD x xs) → (∀ b o, s.heap.get? b = some o → h'.get? b = some o) → Q v { s with heap := h', toks := tk }) :
    wpAny (model prog w) A (call (.builtin "min") [.ref l]) Q E s := by
  have hn : vs.size = xs.length + 1 := PySem.W.readsAll_len hr
  refine call_min_walkH (PySem.W.iter_listW (A := A.in1) hh hl fun s₂ e W st hfp hw hk => ?_)
  refine ⟨_, _, _, _, _, _, _, s.heap, _, rfl, W, st, hfp, by omega, hw, hk, PySem.W.cmpIn_lt (A := A.in1) hr ha (by show A.units + 1 + _ < _; exact hu), fun v s' hP m => ?_⟩
  obtain ⟨h', tk, rfl, hk'⟩ := PySem.W.moved_old e rfl m
  have e1 : vs.size - 1 = xs.length := by omega
  obtain ⟨e0, e2⟩ := PySem.W.argBest_fold PySem.W.dataLt PyData.none x xs xs.length (Nat.le_refl _)
  rw [List.take_length] at e2
  rw [e1] at hP
  refine h _ v h' tk hP ?_ hk'
  rw [List.getD_eq_getElem?_getD] at e2
  have hlt : argBest (fun i j => PySem.W.dataLt ((x :: xs).getD i PyData.none) ((x :: xs).getD j PyData.none)) xs.length < (x :: xs).length := by rw [List.length_cons]; omega
  rw [List.getElem?_eq_getElem hlt] at e2 ⊢
  exact congrArg some e2
end
def rMinD (K : PySem.W.Frag) : List V → Hp → VK → Prop := fun vs H Q => ∃ (a : Addr) (xs : List V) (d : PyData) (ds : List PyData), vs = [V.ref a] ∧ SqL K H a xs ∧ DpAll K H xs (d :: ds) ∧ PySem.W.AlikeAll (d :: ds) ∧ PyData.depthAll (d :: ds) ≤ 60 ∧
  ∀ (i : Nat) (x : V), xs[i]? = some x → (d :: ds)[i]? = some (PySem.W.minD d ds) → Q x H
theorem vals_at : ∀ {xs : List V} {us : List Value} {i : Nat} {v : Value}, Vals xs us → us[i]? = some v → ∃ x, xs[i]? = some x ∧ RelV x v
  | [], _, _, _, .nil, h => by cases h
  | x :: xs, _, 0, _, .cons r t, h => by cases h; exact ⟨x, rfl, r⟩
  | x :: xs, _, i + 1, _, .cons r t, h => vals_at (xs := xs) (i := i) t h
theorem cr_minD {X : Cx} (hc : X.calm = true) (hu : X.A.units + 64 < cLine) : CallR X (.builtin "min") (rMinD X.K) := by
  intro pins s σ H vs us Q I r h
  obtain ⟨a, xs, d, ds, rfl, hs, hd, hal, hdep, q⟩ := h
  obtain ⟨its, rv, hl, hz⟩ := I.list hs
  rw [Vals.ref1 r]
  obtain ⟨as, hr⟩ := Dp.readsAll I (d :: ds) xs its hd rv
  refine min_at (I.ok.hd hc) hl.isList (as := as) (by simpa using hr) hal (by omega) fun i v h' tk hv hm k => ?_
  have hv' : its[i]? = some v := by simpa using hv
  obtain ⟨x, hx, rx⟩ := vals_at rv hv'
  have I2 : Inv X pins σ H { s with heap := h', toks := tk } := I.kept fun b o e => k b o e
  exact ⟨x, H, I2, rx, q i x hx hm⟩
def fMinD : DC := fun ss M k => match ss with
  | [s] => ∃ (d : Dt) (ds : List Dt), IsL M s ((d :: ds).map .dat) ∧ PySem.W.AlikeAll (d :: ds) ∧ PyData.depthAll (d :: ds) ≤ 60 ∧ k (.dat (PySem.W.minD d ds)) M
  | _ => False
theorem dqs_at {H : Hp} : ∀ {xs : List V} {ds : List Dt} {i : Nat} {x : V} {d : Dt}, DqAll H xs ds → xs[i]? = some x → ds[i]? = some d → Dq H x d
  | _, _, 0, _, _, .cons r _, h1, h2 => by cases h1; cases h2; exact r
  | _, _, i + 1, _, _, .cons _ t, h1, h2 => dqs_at t h1 h2
theorem sim_minD {K : PySem.W.Frag} : SimC (rMinD K) fMinD := by
  intro ss M k xs H Hc Q h r O q
  unfold fMinD at h
  split at h
  · obtain ⟨x, rfl, rx⟩ := rps1 r
    obtain ⟨d, ds, l, hal, hdep, h⟩ := h
    obtain ⟨a, vs, rfl, g1, g2⟩ := l.at_ O rx
    have g3 := rps_dat g2
    exact ⟨a, vs, d, ds, rfl, SqL.of g1, dqs_dps (dps_ex O.ex g3), hal, hdep, fun i x hx hm => q.dat O (dqs_at g3 hx hm) h⟩
  · exact h.elim
end DS
namespace DL
open PySem PySem.Spec PyProof.Rows L2
section
variable {X : Cx}
theorem xs_tryK {x n t : Str} {c : Value} {i j : Nat} {body : List Stmt} {np pos pos' q1 q2 q3 : Pos} {db : Hp → Option Fm → DX → DS} {K : PySem.W.Frag} (hK : X.K = K) (hx : X.ex = []) (hs : X.stack = X.env :: X.outer) (hf : X.env.frame = some X.env.locals) (hN : X.N.Nodup) (hi : X.N[i]? = some n) (hln : X.env.kindOf n = some .local)
    (hj : X.N[j]? = some t) (hlt : X.env.kindOf t = some .local) (hc : Names X x c) (hdn : (n == ("__debug__" : Str)) = false) (hcn : (n == ("__classdict__" : Str)) = false) (hsw : swapsWith (.Name n q2) (some (.Name t q1)) q3.line X.env = pure false)
    (hb : ∀ (W : WX) (pn : List (Addr × Obj)) (xe : Value → Shared → Prop) (H0 : Hp) (G0 : Option Fm) (kx : DX), Wish (X.tr pn xe) W H0 G0 kx → PassesOwn (model X.prog X.w) X.A X.env xe → XSs (X.tr pn xe) body (db H0 G0 kx)) :
    XS X (.Try body [.ExceptHandler (some (.Name x np)) (some n) [.Assign [.Name t q1] (.Name n q2) q3] pos'] [] [] pos) (dTry K c i j db) := by
  subst hK
  exact xs_try hx hs hf hN hi hln hj hlt hc hdn hcn hsw hb
end
end DL
namespace DL
open PySem PySem.Spec PyProof.Rows L2
open Evl (Ex)
/-! ### one < other, of alike data -/
def rLtD (K : PySem.W.Frag) : R2 := fun x y H Q => ∃ d e, Dp K H x d ∧ Dp K H y e ∧ PySem.W.alike d e = true ∧ d ≠ .none ∧ d.depth ≤ 60 ∧ Q (.bl (PySem.W.dataLt d e)) H
section
variable {X : Cx} {a b : Expr} {da db : DE} {pos : Pos}
theorem op_ltAll (hu : X.A.units + 64 < cLine) : OpR X (compareOp .Lt) (rLtD X.K) := by
  intro pins s σ H x y v u Q I rx ry h
  obtain ⟨d, e, hd, he, hal, hn, hz, q⟩ := h
  obtain ⟨as, r1⟩ := Dp.reads I d x v hd rx
  obtain ⟨bs, r2⟩ := Dp.reads I e y u he ry
  exact PySem.W.lt_data r1 r2 hal hn (by have := Nat.min_le_left d.depth e.depth; omega) ⟨.bl _, H, I, rfl, q⟩
def fLtD : D2 := fun s t M k => ∃ d e, IsD M s d ∧ IsD M t e ∧ PySem.W.alike d e = true ∧ d ≠ .none ∧ d.depth ≤ 60 ∧ k (.dat (.bool (PySem.W.dataLt d e))) M
theorem sim_ltD {K : PySem.W.Frag} : Sim2 (rLtD K) fLtD := by
  intro s t M k x y H Hc Q h rx ry O q
  obtain ⟨d, e, h1, h2, s1, s2, s3, h3⟩ := h
  exact ⟨d, e, h1.at_ O rx, h2.at_ O ry, s1, s2, s3, q.dat O (.bl _) h3⟩
theorem xe_ltD (hu : X.A.units + 64 < cLine) (ha : XE X a da) (hb : XE X b db) : XE X (.Compare a [.Lt] [b] pos) (dOp fLtD da db) := xe_cmp (op_ltAll hu) (nomark _) sim_ltD ha hb
end
end DL
namespace DL
open PySem PySem.Spec PyProof.Rows L2
open Evl (Ex)
/-- repr, of a list of ours too -/
def fReprA : DC := fun ss M k => match ss with
  | [.dat d] => d.showable = true ∧ d.shown.length ≤ 16777216 ∧ d.depth ≤ 40 ∧ k (.dat (.str d.shown)) M
  | [.own a] => ∃ ds : List Dt, M a = some (.lst (ds.map .dat)) ∧ (PyData.list ds).showable = true ∧ (PyData.list ds).shown.length ≤ 16777216 ∧ (PyData.list ds).depth ≤ 40 ∧ k (.dat (.str (PyData.list ds).shown)) M
  | _ => False
theorem sim_reprA {K : PySem.W.Frag} : SimC (rRepr K) fReprA := by
  intro ss M k xs H Hc Q h r O q
  unfold fReprA at h
  split at h
  · obtain ⟨x, rfl, rx⟩ := rps1 r
    exact ⟨x, _, rfl, dp_ex O.ex rx, h.1, h.2.1, h.2.2.1, q.dat O (.str _) h.2.2.2⟩
  · obtain ⟨x, rfl, rx⟩ := rps1 r
    obtain ⟨ds, hm, h1, h2, h3, h⟩ := h
    cases rx
    obtain ⟨_, vs, g1, g2⟩ := O.ob _ _ hm
    exact ⟨_, _, rfl, .lst g1 (dps_ex O.ex (rps_dat g2)), h1, h2, h3, q.dat O (.str _) h⟩
  · exact h.elim
end DL
/-! Set comprehensions whose items are of any kind that a set rule serves (the library's serves truths alone). -/
namespace DS
open PySem PySem.Spec PyProof.Rows L2 PpSet
section
variable {X : Cx} {κ : Type} [DecidableEq κ]
/-- a new member comes in -/
def AddG (X : Cx) (O : Addr → (κ → Bool) → Nat → HO) (inj : κ → V) : Prop := ∀ (Y : Cx), Y.prog = X.prog → Y.w = X.w → ∀ (pins : List (Addr × Obj)) (σ : L2.St) {H : Hp} {s : Shared} {E : Value → Shared → Prop} {D : Addr} {S : κ → Bool} {n : Nat} {y : κ} {u : Value} {Q : Value → Shared → Prop}, Inv Y pins σ H s → RelV (inj y) u → H D = some (O D S n) → n + 1 < scanBound →
  (∀ s', Inv Y pins σ (upd H D (O D (fun j => S j || decide (j = y)) (if S y = true then n else n + 1))) s' → Q .none s') → wpAny (model Y.prog Y.w) Y.A (call (.builtin "set.add") [.ref D, u]) Q E s
def tScG (O : Addr → (κ → Bool) → Nat → HO) (inj : κ → V) (wi : TI) (g : TG) (tt : TT) (te : TE) (vs : List Nat) : TE := fun σ H Q => wi σ H fun J H1 => ∀ D, H1 D = none → ∃ W : Nat → Nat → Hp → Prop, (∃ m, W 0 m (upd H1 D (O D (fun _ => false) 0))) ∧ ∀ i m H, W i m H →
  (J.stop i H ∧ Q (.ref D) H) ∨ (J.go i H ∧ ∃ Nx : Hp → Prop, (∀ H', Nx H' → ∃ m', m' < m ∧ W (i + 1) m' H') ∧ ∀ x H', J.yld i H x H' → g x (wipe σ vs) H' fun σ2 H2 => wipe σ2 vs = wipe σ vs ∧ tt σ2 H2 fun b H3 =>
    if b = true then te σ2 H3 fun y H4 => ∃ (c : κ) (S : κ → Bool) (n : Nat), y = inj c ∧ H4 D = some (O D S n) ∧ n + 1 < scanBound ∧ Nx (upd H4 D (O D (fun j => S j || decide (j = c)) (if S c = true then n else n + 1))) else Nx H3)
variable {O : Addr → (κ → Bool) → Nat → HO} {inj : κ → V}
theorem scG_core {pins : List (Addr × Obj)} {s : Shared} {σ : L2.St} {H : Hp} {Q : VK} {elt tg iter : Expr} {ifs : List Expr} {scope : Scope} {own : List (PySem.Str × Nat)} {pos pos' : Pos} {wi : TI} {g : TG} {tt : TT} {te : TE} {use : Option (Value → Sem Unit)} {Qf : Value → Shared → Prop}
    (fresh : ∀ (H : Hp) (h : Heap), ObjOk X.prog X.w H (h.push { cls := .type "set", dict := none, data := .set #[] 0 (.fresh 0 0 (!X.w.params.followText "set-order")) }) h.objs.size (O h.objs.size (fun _ => false) 0)) (add : AddG X O inj)
    (hc : X.calm = true) (hN : X.N.Nodup) (I : Inv X pins σ H s) (hi : PI X tg iter wi) (ok : BlkOk X.N X.env.scope scope own)
    (hg : ∀ (s : Shared) (H : Hp) (C : Addr) (cl : List (PySem.Str × Addr)) (fp : List Addr), PG (X.blk s H scope (compEnvC scope cl C X.env) fp) tg g) (ht : ∀ (s : Shared) (H : Hp) (C : Addr) (cl : List (PySem.Str × Addr)) (fp : List Addr), PTs (X.blk s H scope (compEnvC scope cl C X.env) fp) ifs tt)
    (he : ∀ (s : Shared) (H : Hp) (C : Addr) (cl : List (PySem.Str × Addr)) (fp : List Addr), PE (X.blk s H scope (compEnvC scope cl C X.env) fp) elt te) (hs : ∀ x, foldedSetIterable iter X.env x = pure x)
    (h : tScG O inj wi g tt te (own.map (·.2)) σ H Q)
    (hRR : ∀ D C s' m H', Inv X pins σ H' s' → Q (.ref D) H' → s'.heap.Ns C m → FpOk X pins H' C → compPost (model X.prog X.w) X.A X.xe use Qf (.ref D) C (.ok .next) s') :
    wpAny (model X.prog X.w) X.A (comprehension (.SetComp elt [⟨tg, iter, ifs, 0⟩] scope pos) scope X.env pos' (newSet (.type "set")) false (eval iter X.env) use) Qf X.xe s := by
  have hfree : ∀ y ∈ scope.names, y.2 = .free → ∃ c, X.env.cells.lookup y.1 = some c := fun y hy e => by
    rcases ok.free y hy e with k | k
    · exact I.ok.has _ (.inl k)
    · exact I.ok.has _ (.inr k)
  refine wpAny_comprehension_free (use := use) rfl hs (closure_ok hfree) ok.kind (fun y hy e => by rw [ok.uniq y hy, e])
    (thn (hi.run pins s σ H _ I h) fun xv s1 hx => thn hx fun itv s2 h2 => ?_)
  obtain ⟨it, fp, tn, J, H2, e, I2, T, st2, f2, q⟩ := h2
  subst e
  refine newSet_ok (newEnv_comp ?_)
  generalize hD : s2.heap.objs.size = D
  have hDn : H2 D = none := I2.hok.fresh (Nat.le_of_eq hD)
  obtain ⟨W, ⟨m0, w0⟩, turn⟩ := q D hDn
  -- the new list
  generalize hs3 : ({ s2 with heap := s2.heap.push { cls := .type "set", dict := none, data := .set #[] 0 (.fresh 0 0 (!X.w.params.followText "set-order")) } } : Shared) = s3
  have I3 : Inv X pins σ (upd H2 D (O D (fun _ => false) 0)) s3 := by
    rw [← hs3]
    refine I2.laid (t' := s2.toks) (fun b o e => Heap.get?_push_of_some _ e) (Nat.le_of_eq hD) ?_
    rw [← hD]
    exact fresh _ _
  have h3 : s3.heap = s2.heap.push { cls := .type "set", dict := none, data := .set #[] 0 (.fresh 0 0 (!X.w.params.followText "set-order")) } := by rw [← hs3]
  have sz : ∀ b ∈ fp, b < s2.heap.objs.size := fun b hb => by
    obtain ⟨o, e, _⟩ := T.obj _ _ st2 b hb
    exact Heap.lt_size e
  have f3 : ∀ b ∈ fp, FpOk X pins (upd H2 D (O D (fun _ => false) 0)) b ∧ b < s3.heap.objs.size := fun b hb => by
    have hlt := sz b hb
    refine ⟨⟨?_, (f2 b hb).2⟩, by rw [h3, Heap.size_push]; exact Nat.lt_succ_of_lt hlt⟩
    rw [upd_ne (by rw [← hD]; exact Nat.ne_of_lt hlt)]
    exact (f2 b hb).1
  have st3 : tn 0 s3.heap := T.keep _ _ _ st2 fun b _ o e => by rw [h3]; exact Heap.get?_push_of_some _ e
  have I4 := block_start I3 ok hN f3
  have pg := hg s3 (upd H2 D (O D (fun _ => false) 0)) s3.heap.objs.size (cellsFrom (s3.heap.objs.size + 1) scope.names (cloFrom X.env.cells scope.names [])) fp
  have pt := ht s3 (upd H2 D (O D (fun _ => false) 0)) s3.heap.objs.size (cellsFrom (s3.heap.objs.size + 1) scope.names (cloFrom X.env.cells scope.names [])) fp
  have pe := he s3 (upd H2 D (O D (fun _ => false) 0)) s3.heap.objs.size (cellsFrom (s3.heap.objs.size + 1) scope.names (cloFrom X.env.cells scope.names [])) fp
  show codeAny _ _ (.compStart (.SetComp elt [⟨tg, iter, ifs, 0⟩] scope pos) 0 (.ref it) (.ref D) (compEnvC scope (cellsFrom (s3.heap.objs.size + 1) scope.names (cloFrom X.env.cells scope.names [])) s3.heap.objs.size X.env)) (compPost (model X.prog X.w) X.A X.xe use Qf (.ref D) s3.heap.objs.size) { s3 with heap := pushCells (s3.heap.push { cls := .type "dict", data := .dict #[] }) scope.names }
  have nfp : ∀ b ∈ fp, (upd H2 D (O D (fun _ => false) 0)) b = none := fun b hb => (f3 b hb).1.1
  generalize hce : compEnvC scope (cellsFrom (s3.heap.objs.size + 1) scope.names (cloFrom X.env.cells scope.names [])) s3.heap.objs.size X.env = ce at I4 pg pt pe ⊢
  have cL : ce.locals = s3.heap.objs.size := by subst hce; rfl
  generalize hH3 : upd H2 D (O D (fun _ => false) 0) = H3 at I3 I4 pg pt pe w0 nfp f3
  generalize hs4 : ({ s3 with heap := pushCells (s3.heap.push { cls := .type "dict", data := .dict #[] }) scope.names } : Shared) = s4 at I4 ⊢
  have st4 : tn 0 s4.heap := T.keep _ _ _ st3 fun b _ o e => by rw [← hs4]; exact pushCells_keeps _ _ _ _ (Heap.get?_push_of_some _ e)
  have stat : ∀ {σ' : L2.St} {H' : Hp} {s' : Shared}, Inv (X.blk s3 H3 scope ce fp) [] σ' H' s' → (∀ b ∈ fp, H' b = none) → ∀ b ∈ fp, FpOk (X.blk s3 H3 scope ce fp) [] H' b := fun {σ' H' s'} I' hn b hb =>
    ⟨hn b hb, (I'.ok.exf b hb).1, I'.ok.exfs b hb, .inl hb, fun x c e => (I'.ok.exf b hb).2 x c e, fun p hp => absurd (show p ∈ ([] : List (Addr × Obj)) ++ [] from hp) (by simp)⟩
  have loop : codeAny (model X.prog X.w) X.A (.compLoop (.SetComp elt [⟨tg, iter, ifs, 0⟩] scope pos) 0 (.ref it) (.ref D) ce) (compPost (model X.prog X.w) X.A X.xe use Qf (.ref D) s3.heap.objs.size) s4 := by
    refine compLoopS_any (fun n s' => ∃ i H', Inv (X.blk s3 H3 scope ce fp) [] (wipe σ (own.map (·.2))) H' s' ∧ tn i s'.heap ∧ (∀ b ∈ fp, H' b = none) ∧ W i n H') ?_ m0 ⟨0, H3, I4, st4, nfp, w0⟩
    rintro n s5 ⟨i, H5, I5, st5, n5, w5⟩
    rcases turn i n H5 w5 with ⟨stop, qq⟩ | ⟨go, Nx, hNx, step⟩
    · have td := T.done (X.blk s3 H3 scope ce fp) rfl rfl rfl hc i [] s5 _ H5 (fun _ _ => False) I5 (stat I5 n5) st5 stop
      refine thnF td fun r s6 ⟨hr, I6⟩ => ?_
      subst hr
      -- back in the def's context
      have I7 : Inv X pins σ H5 s6 := I3.call' (ch := fp) I6.os I6.base I6.hok I6.bare fun b hb => ⟨(f3 b hb).1.2.2.2.1, (f3 b hb).1.2.1, (f3 b hb).1.2.2.2.2.1, (f3 b hb).1.2.2.2.2.2⟩
      have nC : H5 s3.heap.objs.size = none := by
        have z : H5 ce.locals = none := I6.free
        rw [cL] at z
        exact z
      obtain ⟨m, hn, _⟩ := I6.loc
      have hn : s6.heap.Ns ce.locals m := hn
      rw [cL] at hn
      exact hRR D s3.heap.objs.size s6 m H5 I7 qq hn (I3.fpOk (Nat.le_refl _) nC)
    · have ti := T.item (X.blk s3 H3 scope ce fp) rfl rfl rfl hc i [] s5 _ H5 (fun _ _ => False) I5 (stat I5 n5) st5 go
      refine thnF ti fun r s6 ⟨u, hr, h6⟩ => ?_
      subst hr
      refine thnF h6 fun _ s7 ⟨x, H7, I7, r7, y7, st7, n7⟩ => ?_
      have I7' := I7.pinned (stat I7 n7) (T.obj _ _ st7)
      refine thnF (pg.run _ s7 _ H7 x u _ I7' r7 (step x H7 y7)) fun _ s8 ⟨σ8, H8, I8, hw8, q8⟩ => ?_
      refine thnF (pt.run _ s8 σ8 H8 _ I8 q8) fun b s9 ⟨H9, I9, q9⟩ => ?_
      -- the turn's end
      have fin : ∀ {s' : Shared} {H' : Hp}, Inv (X.blk s3 H3 scope ce fp) ([] ++ pinsAt fp s7.heap) σ8 H' s' → Nx H' → ∃ m, m < n ∧ ∃ i H', Inv (X.blk s3 H3 scope ce fp) [] (wipe σ (own.map (·.2))) H' s' ∧ tn i s'.heap ∧ (∀ b ∈ fp, H' b = none) ∧ W i m H' := fun {s' H'} I' nx => by
        obtain ⟨m', hm, w'⟩ := hNx H' nx
        have pin' : ∀ b ∈ fp, ∀ o, s7.heap.get? b = some o → s'.heap.get? b = some o ∧ H' b = none := fun b hb o e =>
          let z := I'.pin (b, o) (List.mem_append_right _ (List.mem_append_right _ (mem_pinsAt hb e)))
          ⟨z.1, z.2.1⟩
        have hl : (wipe σ (own.map (·.2))).length = σ8.length := by rw [← hw8, wipe_length]
        refine ⟨m', hm, i + 1, H', (I'.unpinned (pins := [])).weak hl (fun j v e => ?_), T.keep _ _ _ st7 fun b hb o e => (pin' b hb o e).1, fun b hb => ?_, w'⟩
        · rw [← hw8] at e
          exact (wipe_some e).1
        · obtain ⟨o, e, _⟩ := T.obj _ _ st7 b hb
          exact (pin' b hb o e).2
      cases b with
      | false =>
        simp only [Bool.false_eq_true, if_false] at q9 ⊢
        exact fin I9 q9
      | true =>
        simp only [if_true] at q9 ⊢
        refine thnF (pe.run _ s9 σ8 H9 _ I9 q9) fun z s10 ⟨yv, H10, I10, r10, cb, S0, n0, ey, hD10, hz10, nx⟩ => ?_
        subst ey
        refine add (X.blk s3 H3 scope ce fp) rfl rfl _ σ8 I10 r10 hD10 hz10 ?_
        exact fun s11 I11 => fin I11 nx
  exact codeAny_compStart_set loop (T.self X.A 0 _ _ _ st4 loop)
theorem pe_scG {elt tg iter : Expr} {ifs : List Expr} {scope : Scope} {own : List (PySem.Str × Nat)} {pos : Pos} {wi : TI} {g : TG} {tt : TT} {te : TE}
    (fresh : ∀ (H : Hp) (h : Heap), ObjOk X.prog X.w H (h.push { cls := .type "set", dict := none, data := .set #[] 0 (.fresh 0 0 (!X.w.params.followText "set-order")) }) h.objs.size (O h.objs.size (fun _ => false) 0)) (add : AddG X O inj) (hc : X.calm = true) (hN : X.N.Nodup) (hi : PI X tg iter wi) (ok : BlkOk X.N X.env.scope scope own)
    (hg : ∀ (s : Shared) (H : Hp) (C : Addr) (cl : List (PySem.Str × Addr)) (fp : List Addr), PG (X.blk s H scope (compEnvC scope cl C X.env) fp) tg g) (ht : ∀ (s : Shared) (H : Hp) (C : Addr) (cl : List (PySem.Str × Addr)) (fp : List Addr), PTs (X.blk s H scope (compEnvC scope cl C X.env) fp) ifs tt)
    (he : ∀ (s : Shared) (H : Hp) (C : Addr) (cl : List (PySem.Str × Addr)) (fp : List Addr), PE (X.blk s H scope (compEnvC scope cl C X.env) fp) elt te) (hs : ∀ x, foldedSetIterable iter X.env x = pure x := by intro _; rfl) :
    PE X (.SetComp elt [⟨tg, iter, ifs, 0⟩] scope pos) (tScG O inj wi g tt te (own.map (·.2))) := by
  refine ⟨fun pins s σ H Q I h => ?_⟩
  rw [eval_SetComp]
  refine scG_core fresh add hc hN I hi ok hg ht he hs h fun D C s' m H' I' q hn f => ⟨m, hn, fun h'' sb => ?_⟩
  obtain ⟨f0, f1, f2, f3, f4, f5⟩ := f
  exact ⟨.ref D, H', I'.turned (t' := s'.toks) (fun b o hb e => (sb.2 b hb).trans e) f0 f1 f3 f4 f5, rfl, q⟩
theorem add_int (X : Cx) : AddG X (L2.SetO X.w) V.int := fun Y hp hw pins σ H s E D S n y u Q I r hD hz h => by
  obtain ⟨tk, rfl⟩ := r
  have hD' : H D = some (L2.SetO Y.w D S n) := by rw [hw]; exact hD
  have R := setO_get I hD'
  refine setR_add R hz fun h' sb new => ?_
  have he : ∃ u, h'.get? D = some u := by
    have ⟨o, _, _, _, ho, _⟩ := new
    exact ⟨o, ho⟩
  have J := I.write (e := D) (t' := s.toks + 1) (by rw [hD']; trivial) (.inl rfl) (fun b u hb hu => (sb.2 b hb).trans hu) he (L2.setO_new new)
  rw [hw] at J
  exact h _ J
end
end DS
namespace DS
open PySem PySem.Spec PyProof.Rows L2 DL
open Evl (Ex)
/-- sorted({el for x in xs}), el whole numbers: ms are those that were met, D the set -/
def dSortSc (de : DE) (j : Nat) (t : DB) (el : DE) (vs : List Nat) : DE := fun Γ M k => de Γ M fun s M1 => ∃ (xs : List Sl), IsL M1 s xs ∧ xs.length < 4000 ∧ ∀ D : Addr, M1 D = none → ∃ Inv : Nat → List Int → Mem → Prop, (∀ o, Inv 0 [] (put M1 D o)) ∧ (∀ i ms M', i ≤ xs.length → Inv i ms M' → IsL M' s xs) ∧
  (∀ i ms x M', xs[i]? = some x → Inv i ms M' → t ((wipeF Γ vs).set j (some x)) M' fun b M2 => (b = true → el ((wipeF Γ vs).set j (some x)) M2 fun y M3 => ∃ c : Int, y = .dat (.int c) ∧ M3 D = M' D ∧ ∀ o, Inv (i + 1) (if c ∈ ms then ms else ms ++ [c]) (put M3 D o)) ∧ (b = false → M2 D = M' D ∧ Inv (i + 1) ms M2)) ∧
  ∀ ms M', ms.Nodup → Inv xs.length ms M' → ms.length < 64 ∧ ∀ (ns : List Int) p, ns.Pairwise (· < ·) → (∀ c, c ∈ ns ↔ c ∈ ms) → M' p = none → k (.own p) (put M' p (.lst (ns.map fun n => .dat (.int n))))
theorem met {c : Int} {ms : List Int} {S : Int → Bool} (h : ∀ v, S v = decide (v ∈ ms)) (hn : ms.Nodup) : (∀ v, (S v || decide (v = c)) = decide (v ∈ if c ∈ ms then ms else ms ++ [c])) ∧ (if S c = true then ms.length else ms.length + 1) = (if c ∈ ms then ms else ms ++ [c]).length ∧ (if c ∈ ms then ms else ms ++ [c]).Nodup := by
  by_cases e : c ∈ ms
  · rw [if_pos e, h c, decide_eq_true e]
    refine ⟨fun v => ?_, rfl, hn⟩
    rw [h v]
    by_cases q : v = c
    · subst q
      rw [decide_eq_true e]
      rfl
    · rw [decide_eq_false q, Bool.or_false]
  · rw [if_neg e, h c, decide_eq_false e]
    refine ⟨fun v => ?_, by rw [List.length_append]; rfl, List.nodup_append.mpr ⟨hn, List.nodup_cons.mpr ⟨fun z => (nomatch z), List.nodup_nil⟩, fun a ha b hb => ?_⟩⟩
    · rw [h v, ← Bool.decide_or]
      exact decide_eq_decide.mpr ⟨fun z => List.mem_append.mpr (z.imp id List.mem_singleton.mpr), fun z => (List.mem_append.mp z).imp id List.mem_singleton.mp⟩
    · rw [List.mem_singleton.mp hb]
      exact fun z => e (z ▸ ha)
theorem sim_sortSc {K : PySem.W.Frag} {w : World} {de : DE} {te : TE} {j : Nat} {t : DB} {el : DE} {tt : TT} {tel : TE} {vs : List Nat} (h : SimE te de) (ht : SimB tt t) (hel : SimE tel el) (hj : j ∈ vs) :
    SimE (tCB (rSortedSet w) (tCons (tScG (L2.SetO w) V.int (iList K te) (gName j) tt tel vs) tNil)) (dSortSc de j t el vs) := fun Γ M k σ H Hc Q hd F O q => by
  refine h Γ M _ σ H Hc _ hd F O fun v s M1 H1 Hc1 e1 O1 r1 h1 => ?_
  obtain ⟨xs, l, hz, h1⟩ := h1
  obtain ⟨a, ws, rfl, g1, g2⟩ := l.at_ O1 r1
  refine ⟨a, rfl, ⟨ws, SqL.of g1⟩, fun D hD => ?_⟩
  obtain ⟨Inv, i0, il, step, fin⟩ := h1 D (O1.freeM hD)
  refine ⟨fun i m Hc' => m = xs.length - i ∧ i ≤ xs.length ∧ ∃ (M' : Mem) (H' : Hp) (ms : List Int) (S : Int → Bool), Ex H1 H' ∧ DL.Own H' Hc' M' ∧ M' D = some (.raw (L2.SetO w D S ms.length)) ∧ (∀ v, S v = decide (v ∈ ms)) ∧ ms.Nodup ∧ ms.length ≤ i ∧ Inv i ms M',
    ⟨_, rfl, Nat.zero_le _, _, H1, [], fun _ => false, Evl.Ex.refl _, O1.born (u := .raw _) hD rfl, put_at, fun v => rfl, List.nodup_nil, Nat.zero_le _, i0 _⟩, ?_⟩
  rintro i m Hc' ⟨rfl, hi, M', H', ms, S, e2, O2, hM2, hms, hnd, hl, w'⟩
  obtain ⟨a', vs', e3, g3, g4⟩ := (il i ms M' hi w').at_ O2 (rp_ex e2 r1)
  cases e3
  have hlen := rps_len g4
  rcases Nat.lt_or_ge i xs.length with hlt | hge
  · obtain ⟨x0, hx0⟩ : ∃ x0, vs'[i]? = some x0 := ⟨vs'[i]'(by omega), List.getElem?_eq_getElem (by omega)⟩
    obtain ⟨sx, hs, rx⟩ := rps_get g4 hx0
    refine .inr ⟨⟨vs', x0, SqL.of g3, hx0⟩, fun Hc2 => ∃ (M' : Mem) (H' : Hp) (ms : List Int) (S : Int → Bool), Ex H1 H' ∧ DL.Own H' Hc2 M' ∧ M' D = some (.raw (L2.SetO w D S ms.length)) ∧ (∀ v, S v = decide (v ∈ ms)) ∧ ms.Nodup ∧ ms.length ≤ i + 1 ∧ Inv (i + 1) ms M', fun Hc2 z => ⟨xs.length - (i + 1), by omega, rfl, by omega, z⟩, fun x Hy y => ?_⟩
    obtain ⟨rfl, y⟩ := y
    have ex : x = x0 := Option.some.inj ((y vs' (SqL.of g3)).symm.trans hx0)
    subst ex
    refine ⟨wipe_back hj _, ?_⟩
    have F2 : DL.Fr H' ((wipe σ vs).set j (some x)) ((wipeF Γ vs).set j (some sx)) := (((F.ex e1).ex e2).wipe vs).set rx
    refine ht _ M' _ _ H' _ _ (step i ms sx M' hs w') F2 O2 fun b M3 H3 Hc3 e3 O3 h3 => ?_
    cases b with
    | true =>
      rw [if_pos rfl]
      refine hel _ M3 _ _ H3 Hc3 _ (h3.1 rfl) (F2.ex e3) O3 fun yv sy M4 H4 Hc4 e4 O4 r4 h4 => ?_
      obtain ⟨c, rfl, hD4, hin⟩ := h4
      rw [hM2] at hD4
      obtain ⟨m1, m2, m3⟩ := met (c := c) hms hnd
      refine ⟨c, S, ms.length, dp_int_inv r4, O4.ob D _ hD4, ?_, _, H4, _, _, e2.trans (e3.trans e4), O4.turn (u := .raw _) hD4 rfl, ?_, m1, m3, ?_, hin _⟩
      · unfold scanBound; omega
      · rw [put_at, m2]
      · split
        · omega
        · rw [List.length_append]; show _ + 1 ≤ _; omega
    | false =>
      rw [if_neg Bool.false_ne_true]
      obtain ⟨f1, f2⟩ := h3.2 rfl
      exact ⟨M3, H3, ms, S, e2.trans e3, O3, f1.trans hM2, hms, hnd, by omega, f2⟩
  · have ei : i = xs.length := Nat.le_antisymm hi hge
    subst ei
    obtain ⟨h64, fin⟩ := fin ms M' hnd w'
    refine .inl ⟨⟨vs', SqL.of g3, by omega⟩, D, S, ms.length, rfl, O2.ob D _ hM2, h64, fun ns p hp hmem hl2 hpn => ?_⟩
    refine (q.ex (e1.trans e2)).own O2 (ints_rps ns) (by rw [List.length_map, sizeLine_eq]; omega) hpn (fin ns p hp (fun c => ?_) (O2.freeM hpn))
    rw [hmem c, hms c, decide_eq_true_eq]
theorem xe_sortSc {X : Cx} {w : World} {ex : Expr} {de : DE} {j : Nat} {t : DB} {el : DE} {vs : List Nat} (h : PE X ex (tCB (rSortedSet w) (tCons (tScG (L2.SetO w) V.int (iList X.K (LE de)) (gName j) (LB t) (LE el) vs) tNil))) (hj : j ∈ vs) : XE X ex (dSortSc de j t el vs) := xe_of h (sim_sortSc simLE simLB simLE hj)
/-- set comprehensions of whole numbers -/
theorem fresh_int {X : Cx} (H : Hp) (h : Heap) : ObjOk X.prog X.w H (h.push { cls := .type "set", dict := none, data := .set #[] 0 (.fresh 0 0 (!X.w.params.followText "set-order")) }) h.objs.size (L2.SetO X.w h.objs.size (fun _ => false) 0) := L2.setO_new (setR_fresh X.w)
end DS
namespace DL
open PySem PySem.Spec PyProof.Rows L2
open Evl (Ex)
/-! ### tuples of anything; for over a tuple; max, min, sum of whole numbers -/
def IsT (M : Mem) (s : Sl) (xs : List Sl) : Prop := (∃ ds, s = .dat (.tuple ds) ∧ xs = ds.map .dat) ∨ ∃ a, s = .own a ∧ M a = some (.tup xs)
theorem IsT.dat {M : Mem} {ds : List Dt} : IsT M (.dat (.tuple ds)) (ds.map .dat) := .inl ⟨ds, rfl, rfl⟩
theorem IsT.own {M : Mem} {a : Addr} {xs : List Sl} (h : M a = some (.tup xs)) : IsT M (.own a) xs := .inr ⟨a, rfl, h⟩
theorem IsT.at_ {H Hc : Hp} {M : Mem} {s : Sl} {xs : List Sl} {x : V} (h : IsT M s xs) (O : DL.Own H Hc M) (r : Rp H s x) : ∃ a vs, x = .ref a ∧ Hc a = some (.tup vs) ∧ Rps H xs vs := by
  rcases h with ⟨ds, rfl, rfl⟩ | ⟨a, rfl, h⟩
  · obtain ⟨a, vs, rfl, h1, h2⟩ := dp_tup_inv r
    exact ⟨a, vs, rfl, O.ex _ _ h1, dat_rps h2⟩
  · cases r
    obtain ⟨vs, h1, h2⟩ := O.ob _ _ h
    exact ⟨a, vs, rfl, h1, h2⟩
section
variable {X : Cx} {e : Expr} {de : DE} {d1 : DS} {das : DA} {pos : Pos} {body : List Stmt}
/-- for g in (a tuple) -/
def dForT (de : DE) (g : DG) (tb : DS) : DS := fun D Γ M => de Γ M fun s M1 => ∃ xs, IsT M1 s xs ∧ ∃ Inv : Nat → Fm → Mem → Prop, Inv 0 Γ M1 ∧ (∀ i Γ' M', i ≤ xs.length → Inv i Γ' M' → IsT M' s xs) ∧
  (∀ i x Γ' M', xs[i]? = some x → Inv i Γ' M' → g x Γ' M' fun Γ2 M2 => tb { D with nx := Inv (i + 1), ct := Inv (i + 1), bk := D.nx } Γ2 M2) ∧ ∀ Γ' M', Inv xs.length Γ' M' → D.nx Γ' M'
theorem sim_forT {K : PySem.W.Frag} {te : TE} {g : DG} {tb : TS} (h : SimE te de) (hb : SimS tb d1) : SimS (tFor (iTup K te) (LG g) tb) (dForT de g d1) := fun Γ M D σ H Hc E hd F O q => by
  refine h Γ M _ σ H Hc _ hd F O fun v s M1 H1 Hc1 e1 O1 r1 h1 => ?_
  obtain ⟨xs, l, W, w0, wl, turn, out⟩ := h1
  obtain ⟨a, vs, rfl, g1, g2⟩ := l.at_ O1 r1
  refine ⟨a, rfl, ⟨vs, SqT.of g1⟩, fun i m σ' Hc' => m = xs.length - i ∧ i ≤ xs.length ∧ ∃ Γ' M' H', Ex H1 H' ∧ DL.Fr H' σ' Γ' ∧ DL.Own H' Hc' M' ∧ W i Γ' M', ⟨_, rfl, Nat.zero_le _, Γ, M1, H1, Evl.Ex.refl _, F.ex e1, O1, w0⟩, ?_⟩
  rintro i m σ' Hc' ⟨rfl, hi, Γ', M', H', e2, F2, O2, w⟩
  obtain ⟨a', vs', e3, g3, g4⟩ := (wl i Γ' M' hi w).at_ O2 (rp_ex e2 r1)
  cases e3
  have many := rps_len g4
  rcases Nat.lt_or_ge i xs.length with hlt | hge
  · obtain ⟨x0, hx0⟩ : ∃ x0, vs'[i]? = some x0 := ⟨vs'[i]'(by omega), List.getElem?_eq_getElem (by omega)⟩
    obtain ⟨sx, hs, rx⟩ := rps_get g4 hx0
    refine .inr ⟨⟨vs', x0, SqT.of g3, hx0⟩, fun σ2 Hc2 => ∃ Γ2 M2 H2, Ex H1 H2 ∧ DL.Fr H2 σ2 Γ2 ∧ DL.Own H2 Hc2 M2 ∧ W (i + 1) Γ2 M2, fun σ2 Hc2 z => ⟨xs.length - (i + 1), by omega, rfl, by omega, z⟩, fun x Hy y => ?_⟩
    obtain ⟨rfl, y⟩ := y
    obtain rfl : x = x0 := Option.some.inj ((y vs' (SqT.of g3)).symm.trans hx0)
    refine ⟨sx, Γ', M', H', _, turn i sx Γ' M' hs w, rx, F2, O2, fun σ2 Γ2 M2 H2 Hc2 e3 F3 O3 h3 => ?_⟩
    refine hb Γ2 M2 _ σ2 H2 Hc2 _ h3 F3 O3 ((q.ex (e1.trans (e2.trans e3))).loop fun σ4 Γ4 M4 H4 Hc4 e4 F4 O4 h4 => ?_)
    exact ⟨Γ4, M4, H4, e2.trans (e3.trans e4), F4, O4, h4⟩
  · obtain rfl : i = xs.length := Nat.le_antisymm hi hge
    exact .inl ⟨⟨vs', SqT.of g3, by omega⟩, q.nx σ' Γ' M' H' Hc' (e1.trans e2) F2 O2 (out Γ' M' w)⟩
theorem xs_forT {tg : Expr} {g : DG} (h : PS X (.For tg e body [] pos) (tFor (iTup X.K (LE de)) (LG g) (LS d1))) : XS X (.For tg e body [] pos) (dForT de g d1) := xs_of h (sim_forT simLE simLS)
/-- a tuple of anything: ours -/
def dTupO (das : DA) : DE := fun Γ M k => das Γ M fun ss M1 => Nat.ble ss.length 100000 = true ∧ ∀ p, M1 p = none → k (.own p) (put M1 p (.tup ss))
theorem xe_tupO {es : List Expr} {x1} (h : XA X es das) : XE X (.Tuple es x1 pos) (dTupO das) := xe_of (pe_tup h) (by
  intro Γ M k σ H Hc Q hd F O q
  refine simLA Γ M _ σ H Hc _ hd F O fun vs ss M1 H1 Hc1 e1 O1 r1 h1 => ?_
  obtain ⟨hz, h2⟩ := h1
  exact ⟨by rw [rps_len r1]; exact ble_size hz, fun p hp => q _ (.own p) _ H1 _ e1 (O1.born (u := .tup ss) hp ⟨vs, rfl, r1⟩) rfl (h2 p (O1.freeM hp))⟩)
end
/-- max, min of whole numbers -/
def fMaxI : DC := fun ss M k => match ss with
  | [s] => ∃ ns : List Int, IsL M s (ns.map fun n => .dat (.int n)) ∧ 0 < ns.length ∧ ∀ m, m ∈ ns → (∀ y, y ∈ ns → y ≤ m) → k (.dat (.int m)) M
  | _ => False
def fMinI : DC := fun ss M k => match ss with
  | [s] => ∃ ns : List Int, IsL M s (ns.map fun n => .dat (.int n)) ∧ 0 < ns.length ∧ ∀ m, m ∈ ns → (∀ y, y ∈ ns → m ≤ y) → k (.dat (.int m)) M
  | _ => False
def fSumI : DC := fun ss M k => match ss with
  | [s] => ∃ ns : List Int, IsL M s (ns.map fun n => .dat (.int n)) ∧ k (.dat (.int ns.sum)) M
  | _ => False
theorem sim_maxI {K : PySem.W.Frag} : SimC (rMax K) fMaxI := by
  intro ss M k xs H Hc Q h r O q
  unfold fMaxI at h
  split at h
  · obtain ⟨x, rfl, rx⟩ := rps1 r
    obtain ⟨ns, l, hz, h⟩ := h
    obtain ⟨a, vs, rfl, g1, g2⟩ := l.at_ O rx
    rw [rps_ints g2] at g1
    exact ⟨a, ns, rfl, SqL.of g1, hz, fun m h1 h2 => q.dat O (.int _) (h m h1 h2)⟩
  · exact h.elim
theorem sim_minI {K : PySem.W.Frag} : SimC (rMin K) fMinI := by
  intro ss M k xs H Hc Q h r O q
  unfold fMinI at h
  split at h
  · obtain ⟨x, rfl, rx⟩ := rps1 r
    obtain ⟨ns, l, hz, h⟩ := h
    obtain ⟨a, vs, rfl, g1, g2⟩ := l.at_ O rx
    rw [rps_ints g2] at g1
    exact ⟨a, ns, rfl, SqL.of g1, hz, fun m h1 h2 => q.dat O (.int _) (h m h1 h2)⟩
  · exact h.elim
theorem sim_sumI {K : PySem.W.Frag} : SimC (rSum K) fSumI := by
  intro ss M k xs H Hc Q h r O q
  unfold fSumI at h
  split at h
  · obtain ⟨x, rfl, rx⟩ := rps1 r
    obtain ⟨ns, l, h⟩ := h
    obtain ⟨a, vs, rfl, g1, g2⟩ := l.at_ O rx
    rw [rps_ints g2] at g1
    exact ⟨a, ns, rfl, SqL.of g1, q.dat O (.int _) h⟩
  · exact h.elim
end DL
namespace DS
open PySem PySem.Spec PyProof.Rows L2 DL
open Evl (Ex)
/-! ### sorted(a dict whose keys are whole numbers) -/
section
variable {P : Program} {w : World} {A : Around} {E : Value → Shared → Prop} {s : Shared}
theorem sorted_keys {d : Addr} {es : Array DictEntry} {ep : Nat} {is : List Int} {Q : Value → Shared → Prop} (lo : (d == sysModules) = false) (hd : s.heap.DictRaw d es ep) (hh : A.handled = none) (hu : A.units + 8 < cLine) (hz : es.size = is.length) (hl : is.length ≤ 16777216)
    (hk : ∀ i (hi : i < es.size), ∃ t, es[i].key = .int (is.getD i 0) t)
    (hQ : ∀ (h' h2 : Heap) (tk : Nat) (out : Array Value) (c : Nat) (ns : List Int), (∀ b o, s.heap.get? b = some o → h'.get? b = some o) → (∀ b o, h'.get? b = some o → h2.get? b = some o) →
      h2.get? h'.objs.size = some (seqObj "list" out c) → IntsAre out.toList ns → ns.Perm is → ns.Pairwise (· ≤ ·) → Q (.ref h'.objs.size) { s with heap := h2, toks := tk }) :
    wpAny (model P w) A (call (.builtin "sorted") [.ref d]) Q E s := by
  refine Calls.call_function_entry kind_sorted plain_sorted entry_sorted (args_sorted1 _) ?_
  unfold Builtin.«sorted»
  refine wpAny_bind (m := checkCount "sorted" 1 1 _) (wpAny_pure ?_)
  refine wpAny_bind (PySem.W.kdu_collect (A := A.in1) (PySem.KdlSrc.rawDict lo) hh hd (by rw [sizeLine_eq]; omega) fun h' tk acc k1 hacc => ?_)
  have hsz : acc.toList.length = is.length := by rw [Array.length_toList, hacc.1, hz]
  refine wpAny_bind (wpAny_newList ?_ (by rw [sizeLine_eq]; omega))
  have each : PySem.W.EachIs (fun v (n : Int) => ∃ t, v = Value.int n t) acc.toList is := by
    have go : ∀ (us : List Value) (ns : List Int), us.length = ns.length → (∀ (i : Nat) (u : Value) (n : Int), us[i]? = some u → ns[i]? = some n → ∃ t, u = Value.int n t) → PySem.W.EachIs (fun v (n : Int) => ∃ t, v = Value.int n t) us ns := by
      intro us
      induction us with
      | nil => intro ns e _; cases ns with
        | nil => exact .nil
        | cons _ _ => cases e
      | cons u us ih => intro ns e h; cases ns with
        | nil => cases e
        | cons n ns => exact .cons (h 0 u n rfl rfl) (ih ns (Nat.succ.inj e) fun i u' n' h1 h2 => h (i + 1) u' n' h1 h2)
    refine go _ _ hsz fun i u n h1 h2 => ?_
    obtain ⟨hi, e⟩ := hacc.2 i u (by rw [← Array.getElem?_toList]; exact h1)
    obtain ⟨t, e2⟩ := hk i hi
    refine ⟨t, ?_⟩
    rw [e, e2, List.getD_eq_getElem?_getD, h2]
    rfl
  generalize acc.toList = vs at each hsz ⊢
  have hoL : (h'.push (seqObj "list" vs.toArray 0)).get? h'.objs.size = some (seqObj "list" vs.toArray 0) := Heap.get?_push_size _ rfl
  have er : PySem.W.EachIs (fun v (n : Int) => ∃ as, PySem.Reads (h'.push (seqObj "list" vs.toArray 0)) v (.int n) as ∧ h'.objs.size ∉ as) vs is := each.mono fun v n ⟨t, e⟩ => by
    subst e
    exact ⟨[], .int _ _, fun z => (nomatch z)⟩
  refine wpAny_bind (wpAny_holding (PySem.W.list_sort_data (enc := fun n : Int => PyData.int n) (s := { s with heap := h'.push (seqObj "list" vs.toArray 0), toks := tk }) hoL each er (PySem.W.AllAlike.of fun _ _ => by simp [PySem.W.alike]) (PySem.W.Sortable.others fun _ => ⟨nofun, fun _ => nofun⟩) (by rw [sizeLine_eq]; omega) (fun n _ => by
    show _ + 1 + 1 + 0 < _
    omega) fun out a1 a2 => ?_))
  obtain ⟨c, hc⟩ := sortedHeap_at (vs := vs) (out := List.toArray out) hoL
  have le : (PySem.W.dataLe false fun n : Int => PyData.int n) = fun a b => decide (a ≤ b) := PySem.W.dataLe_int fun n => n
  rw [le] at a2
  have asInts : ∀ {us : List Value} {ns : List Int}, PySem.W.EachIs (fun v (n : Int) => ∃ t, v = Value.int n t) us ns → IntsAre us ns := by
    intro us ns h
    induction h with
    | nil => exact .nil
    | cons h _ ih =>
      obtain ⟨t, rfl⟩ := h
      exact .cons _ t ih
  refine wpAny_pure ⟨_, rfl, hQ h' _ tk (List.toArray out) c _ k1 (fun b u q => ?_) hc (asInts a2) (List.mergeSort_perm _ _) ?_⟩
  · have hlt := Heap.lt_size q
    show (sortedHeap (h'.push (seqObj "list" vs.toArray 0)) h'.objs.size vs (List.toArray out)).get? b = some u
    rw [sortedHeap_old (Nat.ne_of_lt hlt) (by rw [size_push']; exact Nat.lt_succ_of_lt hlt)]
    exact Heap.get?_push_of_some _ q
  · have := List.pairwise_mergeSort (le := fun a b : Int => decide (a ≤ b)) (fun a b c h1 h2 => decide_eq_true (Int.le_trans (of_decide_eq_true h1) (of_decide_eq_true h2))) (fun a b => by
      rw [Bool.or_eq_true, decide_eq_true_eq, decide_eq_true_eq]
      exact Int.le_total a b) is
    exact this.imp fun h => of_decide_eq_true h
end
def rSortK : List V → Hp → VK → Prop := fun vs H Q => ∃ (a : Addr) (kvs : List (Key × V)) (is : List Int), vs = [V.ref a] ∧ H a = some (.dK kvs) ∧ kvs.map (·.1) = is.map Sum.inl ∧ ∀ (ns : List Int) (p : Addr), ns.Perm is → ns.Pairwise (· ≤ ·) → H p = none → Q (.ref p) (upd H p (.lst (ns.map V.int)))
theorem cr_sortK {X : Cx} (hc : X.calm = true) (hu : X.A.units + 64 < cLine) : CallR X (.builtin "sorted") rSortK := by
  intro pins s σ H vs us Q I r h
  obtain ⟨a, kvs, is, rfl, ha, hv, q⟩ := h
  rw [Vals.ref1 r]
  obtain ⟨hz, lo, ws, rel, dof⟩ := dk_of I.hok ha
  obtain ⟨es, ep, raw, hsz, hes⟩ := dof.raw
  have keys : ws.map (·.1) = is.map Sum.inl := (KV.keys rel).symm.trans hv
  have lw : ws.length = is.length := by
    have e1 := congrArg List.length keys
    rw [List.length_map, List.length_map] at e1
    exact e1
  have lk : kvs.length = is.length := by
    have e1 := congrArg List.length hv
    rw [List.length_map, List.length_map] at e1
    exact e1
  rw [sizeLine_eq] at hz
  refine sorted_keys lo raw (I.ok.hd hc) (by omega) (hsz.trans lw) (by omega) (fun i hi => ?_) fun h' h2 tk out c ns k1 k2 hg hi hp hs => ?_
  · have hiw : i < ws.length := by omega
    obtain ⟨e1, _⟩ := hes i hi ws[i].1 ws[i].2 (List.getElem?_eq_getElem hiw)
    have e2 : ws[i].1 = Sum.inl (is.getD i 0) := by
      have e3 : (ws.map (·.1))[i]? = (is.map Sum.inl)[i]? := by rw [keys]
      rw [List.getElem?_map, List.getElem?_map, List.getElem?_eq_getElem hiw, List.getElem?_eq_getElem (show i < is.length by omega)] at e3
      rw [List.getD_eq_getElem?_getD, List.getElem?_eq_getElem (show i < is.length by omega)]
      exact Option.some.inj e3
    rw [e2] at e1
    exact Value.isInt_shape (k := is.getD i 0) (v := es[i].key) e1
  · have I2 : Inv X pins σ H { s with heap := h', toks := tk } := I.kept (t' := tk) k1
    have hn : H h'.objs.size = none := I2.hok.fresh (Nat.le_refl _)
    have hlen : (ns.map V.int).length ≤ sizeLine := by rw [List.length_map, hp.length_eq, sizeLine_eq]; omega
    exact ⟨.ref _, upd H h'.objs.size (.lst (ns.map V.int)), I2.laid (t' := tk) k2 (Nat.le_refl _) ⟨hlen, out.toList, c, vals_of_ints hi, hg⟩, rfl, q ns _ hp hs hn⟩
def fSortK : DC := fun ss M k => match ss with
  | [.own a] => ∃ (kvs : Kvs) (is : List Int), M a = some (.dct kvs) ∧ kvs.map (·.1) = is.map Sum.inl ∧ is.length ≤ 16777216 ∧ ∀ (ns : List Int) p, ns.Perm is → ns.Pairwise (· ≤ ·) → M p = none → k (.own p) (put M p (.lst (ns.map fun n => .dat (.int n))))
  | _ => False
theorem pair_keys {H : Hp} : ∀ {kvs : Kvs} {ws : List (Key × V)}, Paired (fun (p : Key × Sl) (q : Key × V) => p.1 = q.1 ∧ Rp H p.2 q.2) kvs ws → ws.map (·.1) = kvs.map (·.1)
  | [], _, .nil => rfl
  | _ :: _, _, .cons r t => by rw [List.map_cons, List.map_cons, pair_keys t, r.1]
theorem sim_sortK : SimC rSortK fSortK := by
  intro ss M k xs H Hc Q h r O q
  unfold fSortK at h
  split at h
  · obtain ⟨x, rfl, rx⟩ := rps1 r
    obtain ⟨kvs, is, hm, hk, hz, h⟩ := h
    cases rx
    obtain ⟨ws, g1, g2⟩ := O.ob _ _ hm
    refine ⟨_, ws, is, rfl, g1, (pair_keys g2).trans hk, fun ns p hp hs hpn => ?_⟩
    exact q.own O (ints_rps ns) (by rw [List.length_map, hp.length_eq, sizeLine_eq]; exact hz) hpn (h ns p hp hs (O.freeM hpn))
  · exact h.elim
end DS
namespace DL
open PySem PySem.Spec PyProof.Rows L2
open Evl (Ex)
/-! ### lists of lists of ours, read as data; tuples of anything asked; a call of a value -/
/-- s reads as d, over lists of ours n levels deep -/
def RdM (M : Mem) : Nat → Sl → Dt → Prop
  | 0, s, d => s = .dat d
  | n + 1, s, d => s = .dat d ∨ ∃ a xs ds, s = .own a ∧ d = .list ds ∧ M a = some (.lst xs) ∧ Paired (RdM M n) xs ds
theorem rdm_dq {H Hc : Hp} {M : Mem} (O : DL.Own H Hc M) : ∀ (n : Nat) {s : Sl} {d : Dt} {x : V}, RdM M n s d → Rp H s x → Dq Hc x d
  | 0, s, d, x, h, r => by
    have e : s = .dat d := h
    subst e
    exact dp_ex O.ex r
  | n + 1, s, d, x, h, r => by
    rcases h with rfl | ⟨a, xs, ds, rfl, rfl, hm, hp⟩
    · exact dp_ex O.ex r
    · cases r
      obtain ⟨hz, vs, g1, g2⟩ := O.ob _ _ hm
      refine .lst g1 ?_
      clear hm g1 hz
      induction hp generalizing vs with
      | nil => cases g2; exact .nil
      | cons h1 _ ih =>
        cases g2 with
        | cons r1 r2 => exact .cons (rdm_dq O n h1 r1) (ih _ r2)
def fReprN (n : Nat) : DC := fun ss M k => match ss with
  | [s] => ∃ d, RdM M n s d ∧ d.showable = true ∧ d.shown.length ≤ 16777216 ∧ d.depth ≤ 40 ∧ k (.dat (.str d.shown)) M
  | _ => False
theorem sim_reprN {K : PySem.W.Frag} (n : Nat) : SimC (rRepr K) (fReprN n) := by
  intro ss M k xs H Hc Q h r O q
  unfold fReprN at h
  split at h
  · obtain ⟨x, rfl, rx⟩ := rps1 r
    obtain ⟨d, hd, h1, h2, h3, h⟩ := h
    exact ⟨x, d, rfl, rdm_dq O n hd rx, h1, h2, h3, q.dat O (.str _) h⟩
  · exact h.elim
/-- t[i], len(t) of a tuple of anything -/
def fIxT : D2 := fun s t M k => ∃ (xs : List Sl) (i : Int) (v : Sl), IsT M s xs ∧ t = .dat (.int i) ∧ atI xs i = some v ∧ k v M
theorem sim_ixT {K : PySem.W.Frag} : Sim2 (rIx K) fIxT := by
  intro s t M k x y H Hc Q h rx ry O q
  obtain ⟨xs, i, v, l, rfl, e2, h⟩ := h
  obtain ⟨a, vs, rfl, h1, h2⟩ := l.at_ O rx
  obtain ⟨w, e3, h3⟩ := atI_rp h2 e2
  exact .inr (.inl ⟨a, vs, _, w, rfl, dp_int_inv ry, SqT.of h1, e3, q w v M H Hc (Evl.Ex.refl H) O h3 h⟩)
theorem xe_ixT {X : Cx} {a b : Expr} {da db : DE} {pos : Pos} (ha : XE X a da) (hb : XE X b db) (hs : PlainIx b := by exact fun _ _ => rfl) : XE X (.Subscript a b pos) (dOp fIxT da db) := xe_of (pe_ix ix_seq ha hb hs) (sim_op sim_ixT simLE simLE)
def fLenT : DC := fun ss M k => match ss with
  | [s] => ∃ xs : List Sl, IsT M s xs ∧ k (.dat (.int xs.length)) M
  | _ => False
theorem sim_lenT {K : PySem.W.Frag} : SimC (rLenA K) fLenT := by
  intro ss M k xs H Hc Q h r O q
  unfold fLenT at h
  split at h
  · obtain ⟨x, rfl, rx⟩ := rps1 r
    obtain ⟨ys, l, h⟩ := h
    obtain ⟨a, vs, rfl, g1, g2⟩ := l.at_ O rx
    rw [← rps_len g2] at h
    exact .inl ⟨a, vs, rfl, .inr (SqT.of g1), q.dat O (.int _) h⟩
  · exact h.elim
/-! ### g(..), g a value that holds a def that may raise -/
def dCallXV (P : Program) (w : World) (K : PySem.W.Frag) (mg : Str → Option Value) (base : Heap) (j i : Nat) (H0 : Hp) (G0 : Option Fm) (kx : DX) (df : DE) (das : DA) : DE := fun Γ M k => (Γ[i]? = some (some (.base H0)) ∧ At0 G0 Γ) ∧ df Γ M fun s M1 =>
  ∃ (f : Addr) (fd : FuncData) (ps : List Str) (pr : PrX), s = .raw (.ref f) ∧ HoldsX P w K mg base j f fd ps pr ∧ PySem.W.keepIn K (.ref f) = true ∧ Binds K fd ps [] ∧ das Γ M1 fun ss M2 => pr ss M2 k kx
section
variable {X : Cx} {fe e : Expr} {es : List Expr} {df : DE} {das : DA} {pos : Pos} {P : Program} {w : World} {K : PySem.W.Frag} {mg : Str → Option Value} {base : Heap} {j i : Nat} {H0 : Hp} {G0 : Option Fm} {kx : DX} {W : WX}
theorem xe_callXV (hP : X.prog = P) (hw : X.w = w) (hK : X.K = K) (hmg : X.mg = mg) (hbs : X.base = base) (wi : Wish X W H0 G0 kx) (hr : Rm j X.A) (hf : XE X fe df) (ha : XA X (e :: es) das)
    (hev : eval (.Call fe (e :: es) [] pos) X.env = (do callWith pos (← eval fe X.env) [] (backTo pos (starEach (e :: es) X.env)) (backToKw pos (keywordEach [] X.env))) := by rfl)
    (he : starEach (e :: es) X.env = (false, eval e X.env) :: starEach es X.env := by rfl) (hpl : (backTo pos (starEach es X.env)).any (·.1) = false := by rfl) : XE X (.Call fe (e :: es) [] pos) (dCallXV P w K mg base j i H0 G0 kx df das) := by
  subst hP hw hK hmg hbs
  refine ⟨fun pins s σ Hc Q I ⟨Γ, M, H, q, ⟨hgh, hd⟩, F', O, on⟩ => ?_⟩
  refine PyProof.Rows.Call_ ?_ hev
  have hf' : PE X fe (LE df) := hf
  have here : LE df σ Hc fun v Hc1 => ∃ s0 M1 H1, Rp H1 s0 v ∧ DL.Own H1 Hc1 M1 ∧ Ex H H1 ∧ ∃ (f : Addr) (fd : FuncData) (ps : List Str) (pr : PrX), s0 = .raw (.ref f) ∧ HoldsX X.prog X.w X.K X.mg X.base j f fd ps pr ∧ PySem.W.keepIn X.K (.ref f) = true ∧ Binds X.K fd ps [] ∧ das Γ M1 fun ss M2 => pr ss M2 q kx :=
    ⟨Γ, M, H, _, hd, F', O, fun v s0 M1 H1 Hc1 e1 O1 r1 h1 => ⟨s0, M1, H1, r1, O1, e1, h1⟩⟩
  refine thn (hf'.run pins s σ Hc _ I here) fun u s1 z => ?_
  obtain ⟨v, Hc1, I1, rv, s0, M1, H1, r1, O1, e1, f, fd, ps, pr, rfl, Fh, hk, hb, hd2⟩ := z
  have ev : v = .ref f := r1
  subst ev
  cases rv
  refine PySem.W.callWith_K (h₀ := X.base) I1.ok.mod.kin hk (run_args ha I1 hd2 (F'.ex e1) O1 fun us s2 vs ss H2 H3 M2 I2 r z1 z2 z4 z3 => ?_) he hpl
  exact ⟨I2.kIn, callX_go wi.1 Fh hr hb I2 r z1 z2 z3 (on.ex (e1.trans z4)) fun cls d σ' Hc' z => wi.2 cls d σ Hc' (wof_at F' hgh (e1.trans z4) z)⟩
end
end DL
namespace DL
open PySem PySem.Spec PyProof.Rows L2
open Evl (Ex)
/-- x is None, x an exception or None -/
def fIsX (neg : Bool) : D2 := fun s t M k => match s, t with
  | .fix (.exc _ _), .dat .none => k (.dat (.bool neg)) M
  | .dat d, .dat .none => k (.dat (.bool (if neg = true then !isNoD d else isNoD d))) M
  | _, _ => False
theorem sim_isX : Sim2 rIsA (fIsX false) := by
  intro s t M k x y H Hc Q h rx ry O q
  unfold fIsX at h
  split at h
  · refine .inr ⟨dp_non_inv ry, ?_⟩
    obtain ⟨a, d, φ, rfl, _⟩ := rx
    rw [decide_eq_false (fun z => nomatch z)]
    exact q.dat O (.bl _) h
  · refine .inr ⟨dp_non_inv ry, ?_⟩
    rw [isNo_eq rx]
    exact q.dat O (.bl _) h
  · exact h.elim
theorem sim_isnotX : Sim2 rNotA (fIsX true) := by
  intro s t M k x y H Hc Q h rx ry O q
  unfold fIsX at h
  split at h
  · refine .inr ⟨dp_non_inv ry, ?_⟩
    obtain ⟨a, d, φ, rfl, _⟩ := rx
    rw [decide_eq_false (fun z => nomatch z)]
    exact q.dat O (.bl _) h
  · refine .inr ⟨dp_non_inv ry, ?_⟩
    rw [isNo_eq rx]
    exact q.dat O (.bl _) h
  · exact h.elim
section
variable {X : Cx} {fe e : Expr} {df : DE} {pos : Pos} {P : Program} {w : World} {K : PySem.W.Frag} {mg : Str → Option Value} {base : Heap} {j i : Nat} {H0 : Hp} {G0 : Option Fm} {kx : DX} {W : WX}
/-- g() -/
theorem xe_callXV0 (hP : X.prog = P) (hw : X.w = w) (hK : X.K = K) (hmg : X.mg = mg) (hbs : X.base = base) (wi : Wish X W H0 G0 kx) (hr : Rm j X.A) (hf : XE X fe df)
    (hev : eval (.Call fe [] [] pos) X.env = (do callWith pos (← eval fe X.env) [] (backTo pos (starEach [] X.env)) (backToKw pos (keywordEach [] X.env))) := by rfl) : XE X (.Call fe [] [] pos) (dCallXV P w K mg base j i H0 G0 kx df dNil) := by
  subst hP hw hK hmg hbs
  refine ⟨fun pins s σ Hc Q I ⟨Γ, M, H, q, ⟨hgh, hd⟩, F', O, on⟩ => ?_⟩
  refine PyProof.Rows.Call_ ?_ hev
  have hf' : PE X fe (LE df) := hf
  have here : LE df σ Hc fun v Hc1 => ∃ s0 M1 H1, Rp H1 s0 v ∧ DL.Own H1 Hc1 M1 ∧ Ex H H1 ∧ ∃ (f : Addr) (fd : FuncData) (ps : List Str) (pr : PrX), s0 = .raw (.ref f) ∧ HoldsX X.prog X.w X.K X.mg X.base j f fd ps pr ∧ PySem.W.keepIn X.K (.ref f) = true ∧ Binds X.K fd ps [] ∧ dNil Γ M1 fun ss M2 => pr ss M2 q kx :=
    ⟨Γ, M, H, _, hd, F', O, fun v s0 M1 H1 Hc1 e1 O1 r1 h1 => ⟨s0, M1, H1, r1, O1, e1, h1⟩⟩
  refine thn (hf'.run pins s σ Hc _ I here) fun u s1 z => ?_
  obtain ⟨v, Hc1, I1, rv, s0, M1, H1, r1, O1, e1, f, fd, ps, pr, rfl, Fh, hk, hb, hd2⟩ := z
  have ev : v = .ref f := r1
  subst ev
  cases rv
  refine PySem.W.callWith_K0 I1.kIn hk ?_
  exact callX_go wi.1 Fh hr hb I1 .nil .nil O1 hd2 (on.ex e1) fun cls d σ' Hc' z => wi.2 cls d σ Hc' (wof_at F' hgh e1 z)
end
end DL
/-! objects of the program's own classes: fields by places; methods; making them; while; x op= e -/
namespace DL
open PySem PySem.Spec PyProof.Rows L2
open Evl (Ex)
/-- the i-th field from now on -/
def setF {α : Type} : List α → Nat → α → List α
  | [], _, v => [v]
  | _ :: xs, 0, v => v :: xs
  | x :: xs, i + 1, v => x :: setF xs i v
theorem setF_len {α : Type} {v : α} : ∀ {xs : List α} {i : Nat}, i ≤ xs.length → (setF xs i v).length ≤ max xs.length (i + 1)
  | [], i, h => by show 1 ≤ _; omega
  | x :: xs, 0, _ => by show xs.length + 1 ≤ max (xs.length + 1) 1; omega
  | x :: xs, i + 1, h => by
    have := setF_len (v := v) (xs := xs) (i := i) (Nat.le_of_succ_le_succ h)
    show (setF xs i v).length + 1 ≤ max (xs.length + 1) (i + 1 + 1)
    omega
theorem lookup_zip {f : Str} {v : V} : ∀ {N : List Str} {vs : List V} {i : Nat}, N.Nodup → N[i]? = some f → vs[i]? = some v → (N.zip vs).lookup f = some v
  | [], _, i, _, h, _ => by cases h
  | n :: N, [], i, _, _, h => by cases h
  | n :: N, u :: vs, 0, _, h1, h2 => by
    cases h1
    cases h2
    show List.lookup f ((f, v) :: N.zip vs) = some v
    rw [List.lookup_cons_self]
  | n :: N, u :: vs, i + 1, hn, h1, h2 => by
    have hn' := List.nodup_cons.mp hn
    have ne : (f == n) = false := by
      rw [beq_eq_false_iff_ne]
      intro e
      subst e
      exact hn'.1 (List.mem_of_getElem? h1)
    show List.lookup f ((n, u) :: N.zip vs) = some v
    rw [List.lookup_cons, ne]
    exact lookup_zip hn'.2 h1 h2
theorem lookup_none {f : Str} : ∀ {N : List Str} {vs : List V}, f ∉ N → (N.zip vs).lookup f = none
  | [], _, _ => by simp
  | n :: N, [], _ => rfl
  | n :: N, u :: vs, h => by
    have ne : (f == n) = false := by
      rw [beq_eq_false_iff_ne]
      intro e
      exact h (by rw [e]; exact List.mem_cons_self)
    show List.lookup f ((n, u) :: N.zip vs) = none
    rw [List.lookup_cons, ne]
    exact lookup_none fun z => h (List.mem_cons_of_mem _ z)
theorem putF_zip {f : Str} {v : V} : ∀ {N : List Str} {vs : List V} {i : Nat}, N.Nodup → N[i]? = some f → i ≤ vs.length → putF f v (N.zip vs) = N.zip (setF vs i v)
  | [], _, i, _, h, _ => by cases h
  | n :: N, [], 0, _, h1, _ => by
    cases h1
    rw [List.zip_nil_right]
    show [(f, v)] = (f, v) :: N.zip []
    rw [List.zip_nil_right]
  | n :: N, [], i + 1, _, _, h => by cases h
  | n :: N, u :: vs, 0, _, h1, _ => by
    cases h1
    show (if f = f then (f, v) :: N.zip vs else _) = _
    rw [if_pos rfl]
    rfl
  | n :: N, u :: vs, i + 1, hn, h1, h2 => by
    have hn' := List.nodup_cons.mp hn
    have ne : n ≠ f := by
      intro e
      subst e
      exact hn'.1 (List.mem_of_getElem? h1)
    show (if n = f then _ else (n, u) :: putF f v (N.zip vs)) = (n, u) :: N.zip (setF vs i v)
    rw [if_neg ne, putF_zip hn'.2 h1 (Nat.le_of_succ_le_succ h2)]
theorem rps_setF {H : Hp} {s : Sl} {v : V} (r : Rp H s v) : ∀ {ss : List Sl} {vs : List V} {i : Nat}, Rps H ss vs → Rps H (setF ss i s) (setF vs i v)
  | [], _, i, .nil => .cons r .nil
  | _ :: _, _, 0, .cons _ t => .cons r t
  | _ :: _, _, i + 1, .cons a t => .cons a (rps_setF r t)
section
variable {X : Cx} {e a b c o : Expr} {es : List Expr} {de da db do_ : DE} {das : DA} {pos p apos tpos pos' : Pos} {st : Stmt} {rest body : List Stmt} {d1 d2 : DS} {x f m : Str} {C g : Addr} {N : List Str} {i : Nat}
/-! ### fields -/
def dFld (C : Addr) (N : List Str) (i : Nat) (de : DE) : DE := fun Γ M k => de Γ M fun s M1 => ∃ a vs v, s = .own a ∧ M1 a = some (.ins C N vs) ∧ vs[i]? = some v ∧ k v M1
theorem xe_fld (c : Cls X.K C) (n : NoAttr X.K C f) (hd : N.Nodup) (hf : N[i]? = some f) (he : XE X e de) (hb : attributeBase e f X.env (eval e X.env) = eval e X.env := by rfl) : XE X (.Attribute e f pos) (dFld C N i de) :=
  xe_of (pe_fld he hb) fun Γ M k σ H Hc Q hq F O q => by
    refine simLE Γ M _ σ H Hc _ hq F O fun v s M1 H1 Hc1 e1 O1 r1 h1 => ?_
    obtain ⟨a, vs, u, rfl, hm, hv, h1⟩ := h1
    cases r1
    obtain ⟨_, dx, ws, g1, g2⟩ := O1.ob _ _ hm
    obtain ⟨y, hy, ry⟩ := rps_get' g2 hv
    exact ⟨a, C, dx, _, y, rfl, g1, c, n, lookup_zip hd hf hy, q _ _ _ _ _ e1 O1 ry h1⟩
/-- o.f = e -/
def dSetF (C : Addr) (N : List Str) (i : Nat) (do_ de : DE) : DS := fun D Γ M => de Γ M fun s M1 => do_ Γ M1 fun o M2 => ∃ a vs, o = .own a ∧ M2 a = some (.ins C N vs) ∧ Nat.ble i vs.length = true ∧ D.nx Γ (put M2 a (.ins C N (setF vs i s)))
theorem xs_fld (c : Cls X.K C) (n : NoAttr X.K C f) (hd : N.Nodup) (hf : N[i]? = some f) (hz : N.length < 1000) (ho : XE X o do_) (he : XE X e de) (hs : swapsWith e (some (.Attribute o f pos')) pos.line X.env = pure false := by rfl) : XS X (.Assign [.Attribute o f pos'] e pos) (dSetF C N i do_ de) :=
  xs_of (ps_fld ho he hs) fun Γ M D σ H Hc E hq F O q => by
    refine simLE Γ M _ σ H Hc _ hq F O fun v s M1 H1 Hc1 e1 O1 r1 h1 => ?_
    refine simLE Γ M1 _ σ H1 Hc1 _ h1 (F.ex e1) O1 fun vo so M2 H2 Hc2 e2 O2 r2 h2 => ?_
    obtain ⟨a, vs, rfl, hm, hi, h2⟩ := h2
    cases r2
    obtain ⟨hl, dx, ws, g1, g2⟩ := O2.ob _ _ hm
    have hi' : i ≤ vs.length := Nat.le_of_ble_eq_true hi
    have hw : i ≤ ws.length := by rw [rps_len g2]; exact hi'
    have hN : i < N.length := (List.getElem?_eq_some_iff.mp hf).1
    refine ⟨a, C, dx, _, rfl, g1, c, n, by rw [List.length_zip]; omega, ?_⟩
    rw [putF_zip hd hf hw]
    refine q.nx σ Γ _ H2 _ (e1.trans e2) (F.ex (e1.trans e2)) (O2.turn (u := .ins C N _) hm ⟨?_, dx, _, rfl, rps_setF (rp_ex e2 r1) g2⟩) h2
    have := setF_len (v := s) hi'
    omega
/-- o.f op= e -/
def dAugF (C : Addr) (N : List Str) (i : Nat) (fo : D2) (do_ de : DE) : DS := fun D Γ M => do_ Γ M fun o M1 => ∃ a vs v, o = .own a ∧ M1 a = some (.ins C N vs) ∧ vs[i]? = some v ∧ de Γ M1 fun s M2 => fo v s M2 fun z M3 => ∃ vs', M3 a = some (.ins C N vs') ∧ Nat.ble i vs'.length = true ∧ D.nx Γ (put M3 a (.ins C N (setF vs' i z)))
theorem xs_augF {op : Operator} {rd : R2} {fo : D2} (c : Cls X.K C) (n : NoAttr X.K C f) (hd : N.Nodup) (hf : N[i]? = some f) (hz : N.length < 1000) (hop : InOp X op rd) (hs : Sim2 rd fo) (ho : XE X o do_) (he : XE X e de) : XS X (.AugAssign (.Attribute o f tpos) op e pos) (dAugF C N i fo do_ de) :=
  xs_of (ps_fldaug ho he hop) fun Γ M D σ H Hc E hq F O q => by
    refine simLE Γ M _ σ H Hc _ hq F O fun vo so M1 H1 Hc1 e1 O1 r1 h1 => ?_
    obtain ⟨a, vs, v, rfl, hm, hv, h1⟩ := h1
    cases r1
    obtain ⟨hl, dx, ws, g1, g2⟩ := O1.ob _ _ hm
    obtain ⟨y, hy, ry⟩ := rps_get' g2 hv
    refine ⟨a, C, dx, _, y, rfl, g1, c, n, lookup_zip hd hf hy, ?_⟩
    refine simLE Γ M1 _ σ H1 Hc1 _ h1 (F.ex e1) O1 fun w s M2 H2 Hc2 e2 O2 r2 h2 => ?_
    refine hs v s M2 _ y w H2 Hc2 _ h2 (rp_ex e2 ry) r2 O2 fun z u M3 H3 Hc3 e3 O3 r3 h3 => ?_
    obtain ⟨vs', hm', hi, h3⟩ := h3
    obtain ⟨hl', dx', ws', g1', g2'⟩ := O3.ob _ _ hm'
    have hi' : i ≤ vs'.length := Nat.le_of_ble_eq_true hi
    have hw : i ≤ ws'.length := by rw [rps_len g2']; exact hi'
    have hN : i < N.length := (List.getElem?_eq_some_iff.mp hf).1
    refine ⟨dx', _, g1', by rw [List.length_zip]; omega, ?_⟩
    rw [putF_zip hd hf hw]
    have ee := e1.trans (e2.trans e3)
    refine q.nx σ Γ _ H3 _ ee (F.ex ee) (O3.turn (u := .ins C N _) hm' ⟨?_, dx', _, rfl, rps_setF r3 g2'⟩) h3
    have := setF_len (v := u) hi'
    omega
/-! ### methods -/
def dMeth (C : Addr) (N : List Str) (pr : Pr) (do_ : DE) (das : DA) : DE := fun Γ M k => do_ Γ M fun o M1 => ∃ a vs, o = .own a ∧ M1 a = some (.ins C N vs) ∧ das Γ M1 fun ss M2 => pr (.own a :: ss) M2 k
section
variable {k : Nat} {fd : FuncData} {ps : List Str} {pr : Pr} {prx : PrX}
theorem xe_meth {pl : Sem Bool} (F : Holds X.prog X.w X.K X.mg X.base k g fd ps pr) (hr : Rm k X.A) (c : Cls X.K C) (hm : Meth X.K C m g) (hN : m ∉ N) (hb : Binds X.K fd ps []) (ho : XE X o do_) (ha : XA X (e :: es) das)
    (hst : starEach (e :: es) X.env = (false, eval e X.env) :: starEach es X.env := by rfl) (hpl : (backTo pos (starEach es X.env)).any (·.1) = false := by rfl)
    (ht : eval (.Call (.Attribute o m apos) (e :: es) [] pos) X.env = (do
      let ov ← eval o X.env
      standAt apos.atName
      let (f, first) ← holding [ov] (getMethod ov m pl)
      callWith pos f first (backTo pos (starEach (e :: es) X.env)) (backToKw pos (keywordEach [] X.env))) := by rfl) : XE X (.Call (.Attribute o m apos) (e :: es) [] pos) (dMeth C N pr do_ das) := by
  refine ⟨fun pins s σ Hc Q I ⟨Γ, M, H, q, hd, F', O, on⟩ => ?_⟩
  have ho' : PE X o (LE do_) := ho
  have ha' : PA X (e :: es) (LA das) := ha
  have hO : LE do_ σ Hc fun x H1 => ∃ a vs M1 H2, x = .ref a ∧ M1 a = some (.ins C N vs) ∧ Own H2 H1 M1 ∧ Ex H H2 ∧ das Γ M1 fun ss M2 => pr (.own a :: ss) M2 q :=
    ⟨Γ, M, H, _, hd, F', O, fun v sl M' H' Hc' e1 O1 r1 h1 => by
      obtain ⟨a, vs, rfl, h2, h3⟩ := h1
      cases r1
      exact ⟨a, vs, M', H', rfl, h2, O1, e1, h3⟩⟩
  refine PySem.W.methodCall_KW (pl := pl) (thn (ho'.run pins s σ Hc _ I hO) fun u s1 ⟨x, H1, I1, rx, a, vs, M1, H2, ex, hm2, O1, e1, hd2⟩ => ?_) ht
  subst ex
  obtain rfl : u = Value.ref a := rx
  obtain ⟨_, dx, ws, g1, g2⟩ := O1.ob _ _ hm2
  refine getmeth_ok I1 g1 c hm (lookup_none hN) ?_
  have hR : LA das σ H1 fun vs H3 => ∃ ss M3 H4, Rps H4 ss vs ∧ Own H4 H3 M3 ∧ pr (.own a :: ss) M3 q ∧ On H4 q Q :=
    ⟨Γ, M1, H2, _, hd2, F'.ex e1, O1, fun vs ss M' H' Hc' e2 O2 r2 h2 => ⟨ss, M', H', r2, O2, h2, on.ex (e1.trans e2)⟩⟩
  refine PySem.W.callWith_K (first := [.ref a]) (h₀ := X.base) I.ok.mod.kin hm.kp (thn (ha'.run pos pins s1 σ H1 _ I1 hR) fun us s2 z => ?_) hst hpl
  obtain ⟨vs, H3, I3, r, ss, M3, H4, z1, z2, z3, z4⟩ := z
  exact ⟨I3.kIn, call_go F hr hb (us := .ref a :: us) (vs := .ref a :: vs) (ss := .own a :: ss) I3 (.cons rfl r) (.cons rfl z1) z2 z3 z4⟩
theorem xe_meth0 {pl : Sem Bool} (F : Holds X.prog X.w X.K X.mg X.base k g fd ps pr) (hr : Rm k X.A) (c : Cls X.K C) (hm : Meth X.K C m g) (hN : m ∉ N) (hb : Binds X.K fd ps []) (ho : XE X o do_)
    (ht : eval (.Call (.Attribute o m apos) [] [] pos) X.env = (do
      let ov ← eval o X.env
      standAt apos.atName
      let (f, first) ← holding [ov] (getMethod ov m pl)
      callWith pos f first (backTo pos (starEach [] X.env)) (backToKw pos (keywordEach [] X.env))) := by rfl) : XE X (.Call (.Attribute o m apos) [] [] pos) (dMeth C N pr do_ dNil) := by
  refine ⟨fun pins s σ Hc Q I ⟨Γ, M, H, q, hd, F', O, on⟩ => ?_⟩
  have ho' : PE X o (LE do_) := ho
  have hO : LE do_ σ Hc fun x H1 => ∃ a vs M1 H2, x = .ref a ∧ M1 a = some (.ins C N vs) ∧ Own H2 H1 M1 ∧ Ex H H2 ∧ pr [.own a] M1 q :=
    ⟨Γ, M, H, _, hd, F', O, fun v sl M' H' Hc' e1 O1 r1 h1 => by
      obtain ⟨a, vs, rfl, h2, h3⟩ := h1
      cases r1
      exact ⟨a, vs, M', H', rfl, h2, O1, e1, h3⟩⟩
  refine PySem.W.methodCall_KW (pl := pl) (thn (ho'.run pins s σ Hc _ I hO) fun u s1 ⟨x, H1, I1, rx, a, vs, M1, H2, ex, hm2, O1, e1, hd2⟩ => ?_) ht
  subst ex
  obtain rfl : u = Value.ref a := rx
  obtain ⟨_, dx, ws, g1, g2⟩ := O1.ob _ _ hm2
  refine getmeth_ok I1 g1 c hm (lookup_none hN) ?_
  exact PySem.W.callWith_K0 (first := [.ref a]) I1.kIn hm.kp (call_go F hr hb (us := [.ref a]) (vs := [.ref a]) (ss := [.own a]) I1 (.cons rfl .nil) (.cons rfl .nil) O1 hd2 (on.ex e1))
/-! ### an object made: C(..) -/
def dMake (C : Addr) (N : List Str) (pr : Pr) (das : DA) : DE := fun Γ M k => das Γ M fun ss M1 => ∀ p, M1 p = none → pr (.own p :: ss) (put M1 p (.ins C N [])) fun v M2 => v = .dat .none ∧ k (.own p) M2
theorem make_guards {A : Around} {C : Addr} {us : List Value} {kw : List (Str × Value)} : (A.under (.builtin "type.__call__" ⟨.ref C :: us, kw⟩)).guards = A.guards := by
  first | rfl | simp [Around.under, Code.weight, Code.isCreation, Code.isGuard, Code.isCaller, Code.frames, Code.isFrame, guardIds]
theorem make_go {pins : List (Addr × Obj)} {σ : L2.St} {Hc H : Hp} {M : Mem} {s : Shared} {Q : VK} {q : DK} {us : List Value} {vs : List V} {ss : List Sl} (Mk_ : Mk X.K C g) (F : Holds X.prog X.w X.K X.mg X.base k g fd ps pr) (hr : Rm (k + 1) X.A) (hb : Binds X.K fd ps [])
    (I : Inv X pins σ Hc s) (r : Vals vs us) (rs : Rps H ss vs) (O : Own H Hc M) (h : ∀ p, M p = none → pr (.own p :: ss) (put M p (.ins C N [])) fun v M2 => v = .dat .none ∧ q (.own p) M2) (on : On H q Q) : wpAny (model X.prog X.w) X.A (call (.ref C) us) (EP X pins σ Q) X.xe s := by
  have n1 : Hc (s.heap.objs.size + 1) = none := I.hok.fresh (Nat.le_succ _)
  have n0 : Hc s.heap.objs.size = none := I.hok.fresh (Nat.le_refl _)
  have ne : s.heap.objs.size + 1 ≠ s.heap.objs.size := (Nat.ne_of_lt (Nat.lt_succ_self _)).symm
  have O1 : Own H (upd Hc s.heap.objs.size (.own (s.heap.objs.size + 1))) M := O.waste n0
  have n1' : (upd Hc s.heap.objs.size (.own (s.heap.objs.size + 1))) (s.heap.objs.size + 1) = none := by rw [upd_ne ne]; exact n1
  have O2 := O1.born (u := .ins C N []) (o := .ins C s.heap.objs.size []) n1' ⟨Nat.zero_le _, s.heap.objs.size, [], by rw [List.zip_nil_right], .nil⟩
  have hp := h _ (O.freeM n1)
  have I2 := Inv.made (C := C) I
  have r2 : Vals (V.ref (s.heap.objs.size + 1) :: vs) (Value.ref (s.heap.objs.size + 1) :: us) := .cons rfl r
  have rs2 : Rps H (.own (s.heap.objs.size + 1) :: ss) (V.ref (s.heap.objs.size + 1) :: vs) := .cons rfl rs
  have hl : (Value.ref (s.heap.objs.size + 1) :: us).length = ps.length := by rw [← r2.length, rps_len rs2]; exact F.len _ _ _ hp
  have e2 : BindsTo { s with heap := (s.heap.push PySem.W.emptyDict).push (PySem.W.instObj C s.heap.objs.size) } fd ⟨Value.ref (s.heap.objs.size + 1) :: us, []⟩ (ps.zip (Value.ref (s.heap.objs.size + 1) :: us)) := by
    have z := hb _ (Value.ref (s.heap.objs.size + 1) :: us) I2.kIn (by rw [List.append_nil]; exact hl)
    rw [List.append_nil] at z
    exact z
  refine wpAny_call (make_map (f := g) I.kIn Mk_.makes Mk_.init (beq_iff_eq.mp Mk_.fn) (codeAny_mono (F.go _ X.stack _ _ ⟨Value.ref (s.heap.objs.size + 1) :: us, []⟩ (Value.ref (s.heap.objs.size + 1) :: us) _ _ _ H _ (fun v H2 => v = .non ∧ Q (.ref (s.heap.objs.size + 1)) H2) ⟨hr.rm.make C us [], by rw [make_guards]; exact hr.gu⟩
    (I2.env0.make C us []) e2 r2 rs2 O2 hp (fun v sv M' H' Hc' e1 O' rv hq => ?_)) fun res s' hq' => ?_))
  · obtain ⟨rfl, hq⟩ := hq
    exact ⟨dp_non_inv rv, on _ (.own _) M' H' Hc' e1 O' rfl hq⟩
  · match res, hq' with
    | .ok (.ret u), hq' =>
      obtain ⟨v, H', I3, rv, ev, q3⟩ := I2.after hq'
      subst ev
      exact ⟨rv, ⟨V.ref (s.heap.objs.size + 1), H', I3, rfl, q3⟩⟩
theorem xe_make (Mk_ : Mk X.K C g) (F : Holds X.prog X.w X.K X.mg X.base k g fd ps pr) (hr : Rm (k + 1) X.A) (hm : X.mg x = some (.ref C)) (hb : Binds X.K fd ps []) (ha : XA X (e :: es) das) (hg : Gl X x := by rfl)
    (hdb : (x == ("__debug__" : Str)) = false := by decide) (he : starEach (e :: es) X.env = (false, eval e X.env) :: starEach es X.env := by rfl) (hpl : (backTo pos (starEach es X.env)).any (·.1) = false := by rfl) : XE X (.Call (.Name x p) (e :: es) [] pos) (dMake C N pr das) := by
  refine ⟨fun pins s σ Hc Q I ⟨Γ, M, H, q, hd, F', O, on⟩ => ?_⟩
  have ha' : PA X (e :: es) (LA das) := ha
  have hR : LA das σ Hc fun vs H1 => ∃ ss M1 H2, Rps H2 ss vs ∧ Own H2 H1 M1 ∧ (∀ p, M1 p = none → pr (.own p :: ss) (put M1 p (.ins C N [])) fun v M2 => v = .dat .none ∧ q (.own p) M2) ∧ On H2 q Q :=
    ⟨Γ, M, H, _, hd, F', O, fun vs ss M' H' Hc' e1 O1 r1 h1 => ⟨ss, M', H', r1, O1, h1, on.ex e1⟩⟩
  refine wpAny_Call_Name_kw (ld_glob I hg hm ?_ hdb)
  refine PySem.W.callWith_K (h₀ := X.base) I.ok.mod.kin Mk_.kp (thn (ha'.run pos pins s σ Hc _ I hR) fun us s1 z => ?_) he hpl
  obtain ⟨vs, H1, I1, r, ss, M1, H2, z1, z2, z3, z4⟩ := z
  exact ⟨I1.kIn, make_go Mk_ F hr hb I1 r z1 z2 z3 z4⟩
theorem xe_make0 (Mk_ : Mk X.K C g) (F : Holds X.prog X.w X.K X.mg X.base k g fd ps pr) (hr : Rm (k + 1) X.A) (hm : X.mg x = some (.ref C)) (hb : Binds X.K fd ps []) (hg : Gl X x := by rfl)
    (hdb : (x == ("__debug__" : Str)) = false := by decide) : XE X (.Call (.Name x p) [] [] pos) (dMake C N pr dNil) := by
  refine ⟨fun pins s σ Hc Q I ⟨Γ, M, H, q, hd, F', O, on⟩ => ?_⟩
  refine wpAny_Call_Name_kw (ld_glob I hg hm ?_ hdb)
  refine PySem.W.callWith_K0 I.kIn Mk_.kp ?_
  exact make_go Mk_ F hr hb (us := []) (vs := []) (ss := []) I .nil .nil O hd on
end
/-! ### while -/
def dWhile (t : DB) (tb : DS) : DS := fun D Γ M => ∃ W : Nat → Fm → Mem → Prop, (∃ m, W m Γ M) ∧ ∀ m Γ' M', W m Γ' M' → t Γ' M' fun b M1 =>
  (b = true → tb { D with nx := fun Γ2 M2 => ∃ m', m' < m ∧ W m' Γ2 M2, ct := fun Γ2 M2 => ∃ m', m' < m ∧ W m' Γ2 M2, bk := D.nx } Γ' M1) ∧ (b = false → D.nx Γ' M1)
theorem xs_while {t : DB} (h : PS X (.While c body [] pos) (tWhile (LB t) (LS d1))) : XS X (.While c body [] pos) (dWhile t d1) := xs_of h fun Γ M D σ H Hc E hd F O q => by
  obtain ⟨W, ⟨m, w0⟩, ws⟩ := hd
  refine ⟨fun m σ' Hc' => ∃ Γ' M' H', Ex H H' ∧ Fr H' σ' Γ' ∧ Own H' Hc' M' ∧ W m Γ' M', ⟨m, Γ, M, H, Evl.Ex.refl _, F, O, w0⟩, ?_⟩
  rintro m σ' Hc' ⟨Γ', M', H', e1, F1, O1, w⟩
  refine simLB Γ' M' _ σ' H' Hc' _ (ws m Γ' M' w) F1 O1 fun b M1 H1 Hc1 e2 O2 h1 => ?_
  cases b with
  | true =>
    rw [if_pos rfl]
    refine ⟨fun σ2 Hc2 => ∃ Γ2 M2 H2, Ex H H2 ∧ Fr H2 σ2 Γ2 ∧ Own H2 Hc2 M2 ∧ ∃ m', m' < m ∧ W m' Γ2 M2, fun σ2 Hc2 ⟨Γ2, M2, H2, a, b, c, m', d, e⟩ => ⟨m', d, Γ2, M2, H2, a, b, c, e⟩, ?_⟩
    refine simLS Γ' M1 _ σ' H1 Hc1 _ (h1.1 rfl) (F1.ex e2) O2 ((q.ex (e1.trans e2)).loop fun σ4 Γ4 M4 H4 Hc4 e4 F4 O4 h4 => ?_)
    exact ⟨Γ4, M4, H4, e1.trans (e2.trans e4), F4, O4, h4⟩
  | false =>
    rw [if_neg Bool.false_ne_true]
    exact q.nx σ' Γ' M1 H1 Hc1 (e1.trans e2) (F1.ex e2) O2 (h1.2 rfl)
/-! ### x op= e -/
def dAug (i : Nat) (fo : D2) (de : DE) : DS := fun D Γ M => ∃ s0, Γ[i]? = some (some s0) ∧ de Γ M fun s M1 => fo s0 s M1 fun z M2 => D.nx (Γ.set i (some z)) M2
theorem xs_aug {op : Operator} {r : R2} {fo : D2} (hs : Sim2 r fo) (h : PS X (.AugAssign (.Name x pos') op e pos) (tAug i (LE de) r)) (hi : X.N[i]? = some x) : XS X (.AugAssign (.Name x pos') op e pos) (dAug i fo de) := xs_len fun pins s σ Hc E I hl ⟨Γ, M, H, D, hd, F, O, q⟩ => by
  obtain ⟨s0, hs0, hd⟩ := hd
  obtain ⟨v, hv, rv⟩ := F.sl i s0 (by rw [hl]; exact (List.getElem?_eq_some_iff.mp hi).1) hs0
  refine ⟨_, h, v, hv, ?_⟩
  refine simLE Γ M _ σ H Hc _ hd F O fun y sy M1 H1 Hc1 e1 O1 r1 h1 => ?_
  refine hs s0 sy M1 _ v y H1 Hc1 _ h1 (rp_ex e1 rv) r1 O1 fun z sz M2 H2 Hc2 e2 O2 r2 h2 => ?_
  exact fun _ => q.nx _ _ M2 H2 Hc2 (e1.trans e2) ((F.ex (e1.trans e2)).set r2) O2 h2
theorem sim_ipI {g : Int → Int → Int} : Sim2 (ipI g) (fI0 fun i j => .int (g i j)) := sim_I0 fun _ _ _ => .int _
theorem sim_rAdd : Sim2 rAdd (fI0 fun i j => .int (i + j)) := sim_I0 fun _ _ _ => .int _
end
end DL
/-! ranges of numbers of any size -/
namespace DL
open PySem PySem.Spec PyProof.Rows L2
open Evl (Ex)
theorem turn_long {P : Program} {w : World} {K : PySem.W.Frag} {tg : Expr} (it : Addr) (lo : Int) (n : Nat) : Turn P w K tg (Itr lo n) [it] it (fun i h => IsLongIter h it (lo + (i : Nat) * 1) ((n : Int) - (i : Nat)) 1) where
  mem := by simp
  obj := fun i h st b hb => by
    have e : b = it := by simpa using hb
    subst e
    exact ⟨_, st, fun v z => by
      have z' : Data.fields _ = Data.cell v := z
      cases z'⟩
  keep := fun i h h' st k => k it (by simp) _ st
  item := by
    intro X hP hw hK hc i pins s σ H E I hf st hg
    subst hP hw hK
    obtain ⟨f0, f1, f2, f3, f4, f5⟩ := hf it (by simp)
    have W := Walks.longrange (prog := X.prog) (w := X.w) (I.ok.hd hc) it lo 1 n
    refine W.item i s _ _ hg st fun v h' tk hv st' kk => ?_
    obtain ⟨t, rfl⟩ := hv
    have I1 : L2.Inv X pins σ H { s with heap := h', toks := tk } := I.turned (fun b o hb e => kk b o (by simpa using hb) e) f0 f1 f3 f4 f5
    refine ⟨_, rfl, go_of (s := { s with heap := h', toks := tk }) (n := "longrange_iterator") st' rfl rfl (by decide) ⟨.int (lo + i), H, I1, ⟨t, ?_⟩, ⟨rfl, rfl⟩, st', fun b hb => (hf b hb).1⟩⟩
    rw [Int.mul_one]
  done := by
    intro X hP hw hK hc i pins s σ H E I hf st hg
    subst hP hw hK
    obtain ⟨f0, f1, f2, f3, f4, f5⟩ := hf it (by simp)
    exact wpAny_pyNext_long_end (I.ok.hd hc) st (by have : n ≤ i := hg; omega) fun h' eb => ⟨rfl, I.turned (t' := s.toks) (fun b o hb e => eb b o hb e) f0 f1 f3 f4 f5⟩
  self := fun _ _ _ _ _ st h => wpAny_pyIter_longiter st h
section
variable {X : Cx} {tg : Expr}
theorem range_itW {pins : List (Addr × Obj)} {σ : L2.St} {H : Hp} {s : Shared} {R : It → Hp → Prop} {E : Value → Shared → Prop} {lo hi : Int} {t u v : Tok} {tk : Nat} (I : L2.Inv X pins σ H s)
    (q : R (Itr lo (hi - lo).toNat) H) : wpAny (model X.prog X.w) X.A (pyIter (.ref s.heap.objs.size)) (PIE X pins σ tg R) E { s with heap := s.heap.push { cls := .type "range", data := .fields #[.int lo t, .int hi u, .int 1 v] }, toks := tk } := by
  have I1 : L2.Inv X pins σ H { s with heap := s.heap.push { cls := .type "range", data := .fields #[.int lo t, .int hi u, .int 1 v] }, toks := tk } := I.kept fun b o e => Heap.get?_push_of_some _ e
  have e1 : lo + ((0 : Nat) : Int) * 1 = lo := by simp
  have e2 : (((hi - lo).toNat : Nat) : Int) - ((0 : Nat) : Int) = Builtin.Range.rangeSize lo hi 1 := by rw [rangeSize_one]; split <;> omega
  cases hs : Builtin.Range.small lo hi 1 with
  | true =>
    refine wpAny_pyIter_range (IsRange.new ..) hs ?_
    refine ⟨(s.heap.push { cls := .type "range", data := .fields #[.int lo t, .int hi u, .int 1 v] }).objs.size, [(s.heap.push { cls := .type "range", data := .fields #[.int lo t, .int hi u, .int 1 v] }).objs.size], _, _, H, rfl,
      I1.kept (t' := tk) fun b o e => Heap.get?_push_of_some _ e, turn_range _ lo (hi - lo).toNat, ?_, fun b hb => ?_, q⟩
    · show IsRangeIter _ _ (lo + ((0 : Nat) : Int) * 1) ((((hi - lo).toNat : Nat) : Int) - ((0 : Nat) : Int)) 1
      rw [e1, e2]
      exact Heap.get?_push_size _ rfl
    · have e : b = (s.heap.push { cls := .type "range", data := .fields #[.int lo t, .int hi u, .int 1 v] }).objs.size := by simpa using hb
      subst e
      exact I1.fpOk (Nat.le_refl _) (I1.hok.fresh (Nat.le_refl _))
  | false =>
    refine wpAny_pyIter_longrange (IsRange.new ..) hs ?_
    refine ⟨(s.heap.push { cls := .type "range", data := .fields #[.int lo t, .int hi u, .int 1 v] }).objs.size, [(s.heap.push { cls := .type "range", data := .fields #[.int lo t, .int hi u, .int 1 v] }).objs.size], _, _, H, rfl,
      I1.kept (t' := tk) fun b o e => Heap.get?_push_of_some _ e, turn_long _ lo (hi - lo).toNat, ?_, fun b hb => ?_, q⟩
    · show IsLongIter _ _ (lo + ((0 : Nat) : Int) * 1) ((((hi - lo).toNat : Nat) : Int) - ((0 : Nat) : Int)) 1
      rw [e1, e2]
      exact Heap.get?_push_size _ rfl
    · have e : b = (s.heap.push { cls := .type "range", data := .fields #[.int lo t, .int hi u, .int 1 v] }).objs.size := by simpa using hb
      subst e
      exact I1.fpOk (Nat.le_refl _) (I1.hok.fresh (Nat.le_refl _))
def iRngW1 (ta : TA) : TI := fun σ H R => ta σ H fun vs H1 => ∃ j : Int, vs = [.int j] ∧ R (Itr 0 (j - 0).toNat) H1
def iRngW2 (ta : TA) : TI := fun σ H R => ta σ H fun vs H1 => ∃ i j : Int, vs = [.int i, .int j] ∧ R (Itr i (j - i).toNat) H1
theorem pi_rangeW1 {a : Expr} {ta : TA} {p pos : Pos} (hg : Gl X "range") (hm : X.mg "range" = none) (ha : PA X [a] ta) (hs : starEach [a] X.env = [(false, eval a X.env)] := by rfl) : PI X tg (.Call (.Name "range" p) [a] [] pos) (iRngW1 ta) := by
  refine ⟨fun pins s σ H R I h => ?_⟩
  refine Call_ (ld_blt I hg hm boot_range (PyProof.Rows.callWith_type1 (thn (ha.run pos pins s σ H _ I h) fun us s1 ⟨vs, H1, I1, r1, q1⟩ => ?_) hs rfl))
  obtain ⟨j, e, q⟩ := q1
  subst e
  cases r1 with
  | cons r rr =>
    cases rr
    obtain ⟨t, rfl⟩ := r
    exact call_range_1 (range_itW I1 q)
theorem pi_rangeW2 {a b : Expr} {ta : TA} {p pos : Pos} (hg : Gl X "range") (hm : X.mg "range" = none) (ha : PA X [a, b] ta) (hs : starEach [a, b] X.env = [(false, eval a X.env), (false, eval b X.env)] := by rfl) (hs2 : starEach [b] X.env = [(false, eval b X.env)] := by rfl) :
    PI X tg (.Call (.Name "range" p) [a, b] [] pos) (iRngW2 ta) := by
  refine ⟨fun pins s σ H R I h => ?_⟩
  refine Call_ (ld_blt I hg hm boot_range (PyProof.Rows.callWith_type1 (thn (ha.run pos pins s σ H _ I h) fun us s1 ⟨vs, H1, I1, r1, q1⟩ => ?_) (by rw [hs, hs2]) (by rw [hs2]; rfl)))
  obtain ⟨i, j, e, q⟩ := q1
  subst e
  cases r1 with
  | cons r rr =>
    cases rr with
    | cons r' rr =>
      cases rr
      obtain ⟨t, rfl⟩ := r
      obtain ⟨t', rfl⟩ := r'
      exact call_range_2 (range_itW I1 q)
end
/-! ### list(range(a, b)) -/
section
variable {prog : Program} {w : World} {A : Around} {E : Value → Shared → Prop} {s : Shared}
theorem extend_long {R : Result → Shared → Prop} {r : Addr} {a b c : Int} {t u v : Tok} {n : Nat} (hh : A.handled = none) (hr : IsRange s.heap r a b c t u v) (hsmall : Builtin.Range.small a b c = false)
    (hn : Builtin.Range.rangeSize a b c = n) (hlen : n ≤ 2 ^ 24) (S : Addr) (res : Value) (c₀ : Nat) (hS : s.heap.get? S = some { cls := .type "list", data := .seq #[] c₀ })
    (hR : ∀ h' tk acc' c', (∀ b o, b ≠ S → s.heap.get? b = some o → h'.get? b = some o) → h'.get? S = some { cls := .type "list", dict := none, data := .seq acc' c', slots := #[] } →
      ItemsOf (fun i v => ∃ t, v = .int (a + i * c) t) acc' n → R (.ok (.ret res)) { s with heap := h', toks := tk }) :
    wpAny (model prog w) A.in1 (Builtin.List.listExtendWith (.ref S) (.ref r) res)
      (fun fin s' => match fin with | .done f => R (.ok f) s' | .again c' => c'.quiet = true ∧ codeAny (model prog w) A c' R s') (fun e s' => R (.error e) s') s := by
  have hSr : S ≠ r := fun e => by rw [e, hr] at hS; simp at hS
  have hSlt : S < s.heap.objs.size := Heap.lt_size hS
  have hSI : S ≠ s.heap.objs.size := Nat.ne_of_lt hSlt
  have hSf : S ∉ [s.heap.objs.size] := fun hm => hSI (List.mem_singleton.mp hm)
  have W := (Walks.longrange (prog := prog) (w := w) (A := A.in1) hh s.heap.objs.size a c n).toS
  have key : ∀ (h : Heap) (c₁ tk : Nat), IsLongIter h s.heap.objs.size (a + ((0 : Nat) : Int) * c) ((n : Int) - ((0 : Nat) : Int)) c → (∀ b o, b ≠ S → s.heap.get? b = some o → h.get? b = some o) →
      h.get? S = some { cls := .type "list", data := .seq #[] c₁ } → codeAny (model prog w) A (.builtin "list.extend.loop" ⟨[.ref S, .ref s.heap.objs.size, res], []⟩) R { s with heap := h, toks := tk } := by
    intro h c₁ tk hit hk hS₁
    refine codeAny_extend_loopS W (by rw [sizeLine_eq]; omega) S hSf res n 0 _ #[] c₁ rfl (Nat.zero_le _) hit hS₁ (ItemsOf.nil _) fun s' acc' c' hm hS' hacc => ?_
    rw [Moved.eq_with hm]
    refine hR s'.heap s'.toks acc' c' (fun b o hb e => hm.heap b o (fun hmem => ?_) (hk b o hb e)) hS' hacc
    rcases List.mem_cons.mp hmem with e' | hmem
    · exact hb e'
    · exact absurd (Heap.lt_size e) (by rw [List.mem_singleton.mp hmem]; exact Nat.lt_irrefl _)
  unfold Builtin.List.listExtendWith
  refine wpAny_bind (wpAny_typeOf (T := "range") ⟨_, hr, rfl⟩ ?_)
  have h1 : Builtin.List.listSameRef (.ref S) (.ref r) = false := by simp [Builtin.List.listSameRef, hSr]
  have h2 : (Value.type "range" == Value.type "list") = false := by decide
  have h3 : (Value.type "range" == Value.type "tuple") = false := by decide
  simp only [h1, h2, h3, Bool.or_false, Bool.false_eq_true, if_false]
  refine wpAny_bind (wpAny_pyIter_longrange hr hsmall ?_)
  refine wpAny_bind (wpAny_holding (wpAny_hint_range (n := n) (Heap.get?_push_of_some _ hr) hn hlen ?_))
  have hit₁ : IsLongIter (s.heap.push { cls := .type "longrange_iterator", data := .fields #[rawInt a, rawInt (Builtin.Range.rangeSize a b c), rawInt c] }) s.heap.objs.size (a + ((0 : Nat) : Int) * c) ((n : Int) - ((0 : Nat) : Int)) c := by
    show IsLongIter _ _ _ _ _; rw [hn]; simpa using Heap.get?_push_size _ rfl
  have hS₁ := Heap.get?_push_of_some { cls := .type "longrange_iterator", data := .fields #[rawInt a, rawInt (Builtin.Range.rangeSize a b c), rawInt c] } hS
  refine wpAny_ite_split (fun _ => ?_) (fun _ => wpAny_pure ⟨plainId_quiet F.plain_extend_loop _, key _ c₀ _ hit₁ (fun b o _ e => Heap.get?_push_of_some _ e) hS₁⟩)
  refine wpAny_bind (wpAny_rule ?_)
  refine wpAny_bind ?_
  show wpAny _ _ (updateSeq S (·.push .none) >>= fun _ => updateSeq S (·.pop)) _ _ _
  refine wpAny_bind (wpAny_updateSeq hS₁ rfl ?_)
  have hS₂ := Heap.get?_update_self (Obj.mapSeq (·.push Value.none)) hS₁ rfl
  refine wpAny_updateSeq (hz := by seq_fits) hS₂ rfl ?_
  have hS₃ := Heap.get?_update_self (Obj.mapSeq (·.pop)) hS₂ rfl
  refine wpAny_pure ⟨plainId_quiet F.plain_extend_loop _, key _ _ _ ?_ (fun b o hb e => ?_) hS₃⟩
  · exact (Heap.get?_update_other _ _ hSI).trans ((Heap.get?_update_other _ _ hSI).trans hit₁)
  · exact (Heap.get?_update_other _ _ (Ne.symm hb)).trans ((Heap.get?_update_other _ _ (Ne.symm hb)).trans (Heap.get?_push_of_some _ e))
theorem list_init_long {R : Result → Shared → Prop} {r : Addr} {a b c : Int} {t u v : Tok} {n : Nat} (hh : A.handled = none) (hr : IsRange s.heap r a b c t u v) (hsmall : Builtin.Range.small a b c = false)
    (hn : Builtin.Range.rangeSize a b c = n) (hlen : n ≤ 2 ^ 24) (S : Addr) (hS : s.heap.get? S = some { cls := .type "list", data := .seq #[] })
    (hR : ∀ h' tk acc' c', (∀ b o, b ≠ S → s.heap.get? b = some o → h'.get? b = some o) → h'.get? S = some { cls := .type "list", dict := none, data := .seq acc' c', slots := #[] } →
      ItemsOf (fun i v => ∃ t, v = .int (a + i * c) t) acc' n → R (.ok (.ret .none)) { s with heap := h', toks := tk }) :
    wpAny (model prog w) A.in1 (Builtin.«list.__init__» ⟨[.ref S, .ref r], []⟩)
      (fun fin s' => match fin with | .done f => R (.ok f) s' | .again c' => c'.quiet = true ∧ codeAny (model prog w) A c' R s') (fun e s' => R (.error e) s') s := by
  have hSr : S ≠ r := fun e => by rw [e, hr] at hS; simp at hS
  show wpAny _ _ (do let old ← Builtin.List.listItems (.ref S); Builtin.List.listUpdate (.ref S) (fun _ => #[]); letGo old.toList.reverse; Builtin.List.listExtendWith (.ref S) (.ref r) .none) _ _ s
  refine wpAny_bind ?_
  unfold Builtin.List.listItems
  refine wpAny_bind (wpAny_seqItems hS rfl (wpAny_pure ?_))
  show wpAny _ _ (updateSeq S (fun _ => #[]) >>= fun _ => letGo (#[] : Array Value).toList.reverse >>= fun _ => Builtin.List.listExtendWith (.ref S) (.ref r) .none) _ _ s
  refine wpAny_bind (wpAny_updateSeq hS rfl ?_)
  have hS₂ := Heap.get?_update_self (Obj.mapSeq (fun _ => (#[] : Array Value))) hS rfl
  have oth : ∀ b o, b ≠ S → s.heap.get? b = some o → (s.heap.update S (Obj.mapSeq (fun _ => (#[] : Array Value)))).get? b = some o :=
    fun b o hb e => (Heap.get?_update_other _ _ (Ne.symm hb)).trans e
  refine wpAny_bind (wpAny_letGo ?_)
  refine extend_long hh (oth r _ (Ne.symm hSr) hr) hsmall hn hlen S .none _ hS₂ fun h' tk acc' c' hk hS' hacc => ?_
  exact hR h' tk acc' c' (fun b o hb e => hk b o hb (oth b o hb e)) hS' hacc
theorem call_list_rangeW {Q : Value → Shared → Prop} {r : Addr} {a b c : Int} {t u v : Tok} {n : Nat} (hh : A.handled = none) (hr : IsRange s.heap r a b c t u v)
    (hn : Builtin.Range.rangeSize a b c = n) (hlen : n ≤ 2 ^ 24)
    (hQ : ∀ h' tk acc' c', (∀ b o, s.heap.get? b = some o → h'.get? b = some o) →
      h'.get? s.heap.objs.size = some { cls := .type "list", dict := none, data := .seq acc' c', slots := #[] } → ItemsOf (fun i v => ∃ t, v = .int (a + i * c) t) acc' n → Q (.ref s.heap.objs.size) { s with heap := h', toks := tk }) :
    wpAny (model prog w) A (call (.type "list") [.ref r]) Q E s := by
  cases hsm : Builtin.Range.small a b c with
  | true => exact call_list_range hh hr hsm hn hlen hQ
  | false =>
    refine callType_codes (Q₁ := fun obj s₁ => obj = .ref s.heap.objs.size ∧ s₁ = { s with heap := s.heap.push { cls := .type "list", data := .seq #[] } }) F.called_list (F.typeCall_list_1 _) F.entry_list_init
      (code_list_new _ ⟨rfl, rfl⟩) fun obj s₁ h₁ => ?_
    obtain ⟨rfl, rfl⟩ := h₁
    have hS : (s.heap.push { cls := .type "list", data := .seq #[] }).get? s.heap.objs.size = some { cls := .type "list", data := .seq #[] } := Heap.get?_push_size _ rfl
    refine ⟨⟨_, hS, rfl⟩, F.args_list_init_2 _ _, list_init_long (A := A.in1) hh (Heap.get?_push_of_some _ hr) hsm hn hlen _ hS fun h' tk acc' c' hk hS' hacc => ?_⟩
    exact ⟨rfl, hQ h' tk acc' c' (fun b o e => hk b o (Nat.ne_of_lt (Heap.lt_size e)) (Heap.get?_push_of_some _ e)) hS' hacc⟩
end
section
variable {X : Cx} {e a b c : Expr} {es : List Expr} {de da db : DE} {das : DA} {pos p : Pos} {st : Stmt} {rest body : List Stmt} {d1 d2 : DS} {x : Str} {te : L2.St → Hp → (Int → Int → Hp → Prop) → Prop}
def tLstRgW (te : L2.St → Hp → (Int → Int → Hp → Prop) → Prop) : TE := fun σ H Q => te σ H fun a b H1 => (b - a).toNat ≤ 2 ^ 24 ∧ ∀ q, H1 q = none → Q (.ref q) (upd H1 q (.lst (rgV a b)))
theorem pe_listRgW {p pos : Pos} (hc : X.calm = true) (hg : Gl X "list") (hm : X.mg "list" = none) (he : PRg X e te) (na : starEach [e] X.env = (false, eval e X.env) :: starEach [] X.env := by rfl) : PE X (.Call (.Name "list" p) [e] [] pos) (tLstRgW te) := by
  refine ⟨fun pins s σ H Q I h => ?_⟩
  refine Call_ (ld_blt I hg hm boot_list (PyProof.Rows.callWith_type1 (args_cons (thn (he pins s σ H _ I h) fun x s1 ⟨r, a, b, t, u, v, H1, ex, hr, I1, b5, q⟩ => args_nil ?_) na) na))
  subst ex
  refine call_list_rangeW (n := (b - a).toNat) (I1.ok.hd hc) hr (rangeSize_nat a b) b5 fun h' tk acc c' hk e' hi => ?_
  refine ⟨.ref s1.heap.objs.size, upd H1 s1.heap.objs.size (.lst (rgV a b)), I1.laid hk (Nat.le_refl _) (show ObjOk X.prog X.w _ _ _ (.lst (rgV a b)) from ⟨?_, acc.toList, c', vals_rg hi, ?_⟩), rfl, q _ (I1.hok.fresh (Nat.le_refl _))⟩
  · rw [rgV_length, sizeLine_eq]; omega
  · rw [Array.toArray_toList]; exact e'
/-- lo .. hi - 1 -/
def rgI (lo hi : Int) : List Int := (List.range (hi - lo).toNat).map fun (i : Nat) => lo + (i : Int)
def dListRW (da db : DE) : DE := fun Γ M k => da Γ M fun s M1 => db Γ M1 fun t M2 => ∃ lo hi, s = .dat (.int lo) ∧ t = .dat (.int hi) ∧ (hi - lo).toNat ≤ 16777216 ∧ ∀ p, M2 p = none → k (.own p) (put M2 p (.lst ((rgI lo hi).map fun n => .dat (.int n))))
theorem rgI_rps {H : Hp} {lo hi : Int} : Rps H ((rgI lo hi).map fun n => .dat (.int n)) (rgV lo hi) := by
  unfold rgI rgV
  rw [List.map_map]
  generalize List.range (hi - lo).toNat = l
  induction l with
  | nil => exact .nil
  | cons a l ih => exact .cons (Dq.int _) ih
theorem xe_listRW (h : PE X e (tLstRgW (tRg2 (LE da) (LE db)))) : XE X e (dListRW da db) := xe_of h fun Γ M k σ H Hc Q hd F O q => by
  refine simLE Γ M _ σ H Hc _ hd F O fun v s M1 H1 Hc1 e1 O1 r1 h1 => ?_
  refine simLE Γ M1 _ σ H1 Hc1 _ h1 (F.ex e1) O1 fun v2 s2 M2 H2 Hc2 e2 O2 r2 h2 => ?_
  obtain ⟨lo, hi, rfl, rfl, hz, h2⟩ := h2
  refine ⟨lo, hi, dp_int_inv (rp_ex e2 r1), dp_int_inv r2, hz, fun p hp => ?_⟩
  refine (q.ex (e1.trans e2)).own O2 rgI_rps ?_ hp (h2 p (O2.freeM hp))
  unfold rgI
  rw [List.length_map, List.length_map, List.length_range, sizeLine_eq]
  omega
/-! ### for i in range(..), [.. for i in range(..)], of any size -/
def dForW (rgEnds : List Sl → Option (Int × Int)) (da : DA) (g : DG) (tb : DS) : DS := fun D Γ M => da Γ M fun ss M1 => ∃ lo hi, rgEnds ss = some (lo, hi) ∧ ∃ Inv : Nat → Fm → Mem → Prop, Inv 0 Γ M1 ∧
  (∀ (i : Nat) Γ' M', i < (hi - lo).toNat → Inv i Γ' M' → g (.dat (.int (lo + i))) Γ' M' fun Γ2 M2 => tb { D with nx := Inv (i + 1), ct := Inv (i + 1), bk := D.nx } Γ2 M2) ∧ ∀ Γ' M', Inv (hi - lo).toNat Γ' M' → D.nx Γ' M'
theorem xs_forW1 {tg a : Expr} {g : DG} {p1 p2 : Pos} (h : PS X (.For tg (.Call (.Name "range" p1) [a] [] p2) body [] pos) (tFor (iRngW1 (LA das)) (LG g) (LS d1))) : XS X (.For tg (.Call (.Name "range" p1) [a] [] p2) body [] pos) (dForW rg1 das g d1) := xs_of h fun Γ M D σ H Hc E hd F O q => by
  refine simLA Γ M _ σ H Hc _ hd F O fun vs ss M1 H1 Hc1 e1 O1 r1 h1 => ?_
  obtain ⟨lo, hi, er, W, w0, ws, wd⟩ := h1
  unfold rg1 at er
  split at er
  · cases er
    obtain ⟨v, rfl, rv⟩ := rps1 r1
    exact ⟨hi, by rw [dp_int_inv rv], loop_rng simLS (F.ex e1) O1 (q.ex e1) W w0 ws wd⟩
  · cases er
theorem xs_forW2 {tg a b : Expr} {g : DG} {p1 p2 : Pos} (h : PS X (.For tg (.Call (.Name "range" p1) [a, b] [] p2) body [] pos) (tFor (iRngW2 (LA das)) (LG g) (LS d1))) : XS X (.For tg (.Call (.Name "range" p1) [a, b] [] p2) body [] pos) (dForW rg2 das g d1) := xs_of h fun Γ M D σ H Hc E hd F O q => by
  refine simLA Γ M _ σ H Hc _ hd F O fun vs ss M1 H1 Hc1 e1 O1 r1 h1 => ?_
  obtain ⟨lo, hi, er, W, w0, ws, wd⟩ := h1
  unfold rg2 at er
  split at er
  · cases er
    obtain ⟨v, u, rfl, rv, ru⟩ := rps2 r1
    exact ⟨lo, hi, by rw [dp_int_inv rv, dp_int_inv ru], loop_rng simLS (F.ex e1) O1 (q.ex e1) W w0 ws wd⟩
  · cases er
def dLcW (rg : List Sl → Option (Int × Int)) (da : DA) (j : Nat) (t : DB) (el : DE) (vs : List Nat) : DE := fun Γ M k => da Γ M fun ss M1 => ∃ lo hi, rg ss = some (lo, hi) ∧
  ∀ p, M1 p = none → ∃ Inv : Nat → Mem → Prop, Inv 0 (put M1 p (.lst [])) ∧ (∀ (i : Nat) M', i < (hi - lo).toNat → Inv i M' → lcTurn p Γ vs j t el (Inv (i + 1)) (.dat (.int (lo + i))) M') ∧ ∀ M', Inv (hi - lo).toNat M' → k (.own p) M'
theorem sim_lcW1 {j : Nat} {t : DB} {el : DE} {tt : TT} {tel : TE} {vs : List Nat} {ta : TA} (h : SimA ta das) (ht : SimB tt t) (hel : SimE tel el) (hj : j ∈ vs) : SimE (tLc (iRngW1 ta) (gName j) tt tel vs) (dLcW rg1 das j t el vs) := fun Γ M k σ H Hc Q hd F O q => by
  refine h Γ M _ σ H Hc _ hd F O fun ws ss M1 H1 Hc1 e1 O1 r1 h1 => ?_
  obtain ⟨lo, hi, er, h1⟩ := h1
  unfold rg1 at er
  split at er
  · cases er
    obtain ⟨v, rfl, rv⟩ := rps1 r1
    refine ⟨hi, by rw [dp_int_inv rv], fun p hp => ?_⟩
    obtain ⟨W, w0, wt, wd⟩ := h1 p (O1.freeM hp)
    exact lc_rngD ht hel hj (F.ex e1) O1 (q.ex e1) hp W w0 wt wd
  · cases er
theorem sim_lcW2 {j : Nat} {t : DB} {el : DE} {tt : TT} {tel : TE} {vs : List Nat} {ta : TA} (h : SimA ta das) (ht : SimB tt t) (hel : SimE tel el) (hj : j ∈ vs) : SimE (tLc (iRngW2 ta) (gName j) tt tel vs) (dLcW rg2 das j t el vs) := fun Γ M k σ H Hc Q hd F O q => by
  refine h Γ M _ σ H Hc _ hd F O fun ws ss M1 H1 Hc1 e1 O1 r1 h1 => ?_
  obtain ⟨lo, hi, er, h1⟩ := h1
  unfold rg2 at er
  split at er
  · cases er
    obtain ⟨v, u, rfl, rv, ru⟩ := rps2 r1
    refine ⟨lo, hi, by rw [dp_int_inv rv, dp_int_inv ru], fun p hp => ?_⟩
    obtain ⟨W, w0, wt, wd⟩ := h1 p (O1.freeM hp)
    exact lc_rngD ht hel hj (F.ex e1) O1 (q.ex e1) hp W w0 wt wd
  · cases er
theorem xe_lcW1 {ex : Expr} {j : Nat} {t : DB} {el : DE} {vs : List Nat} (h : PE X ex (tLc (iRngW1 (LA das)) (gName j) (LB t) (LE el) vs)) (hj : j ∈ vs) : XE X ex (dLcW rg1 das j t el vs) := xe_of h (sim_lcW1 simLA simLB simLE hj)
theorem xe_lcW2 {ex : Expr} {j : Nat} {t : DB} {el : DE} {vs : List Nat} (h : PE X ex (tLc (iRngW2 (LA das)) (gName j) (LB t) (LE el) vs)) (hj : j ∈ vs) : XE X ex (dLcW rg2 das j t el vs) := xe_of h (sim_lcW2 simLA simLB simLE hj)
end
end DL
/-! isinstance of an exception and several classes; extend; int of a truth; sum of a tuple; min, max of two -/
namespace DL
open PySem PySem.Spec PyProof.Rows L2
open Evl (Ex)
section
variable {X : Cx}
/-- isinstance(an exception, (C1, C2, ..)) -/
def rIsXT (K : PySem.W.Frag) : List V → Hp → VK → Prop := fun xs H Q => ∃ (a C tp : Addr) (d : Option Addr) (φ : Heap → Prop) (Ds : List Addr) (b : Bool), xs = [.ref a, .ref tp] ∧ H a = some (.ext φ) ∧ (∀ h, φ h → Kx a C d h) ∧ (∀ dd, d = some dd → ∃ ws, H dd = some (.xd ws)) ∧ ErrC K C ∧
  H tp = some (.tup (Ds.map V.ref)) ∧ PySem.W.kitAny K (.ref C) (Ds.map Value.ref) = some b ∧ Q (.bl b) H
theorem vals_refs : ∀ {Ds : List Addr} {us : List Value}, Vals (Ds.map V.ref) us → us = Ds.map Value.ref
  | [], _, .nil => rfl
  | D :: Ds, _, .cons r t => by
    cases r
    rw [vals_refs t]
    rfl
theorem call_isXT : CallR X (.builtin "isinstance") (rIsXT X.K) := by
  intro pins s σ H xs us Q I r h
  obtain ⟨a, C, tp, d, φ, Ds, b, rfl, ha, hφ, hd, E, ht, e, q⟩ := h
  cases r with
  | cons rx rr =>
    cases rr with
    | cons rt rr =>
      cases rr
      cases rx
      cases rt
      obtain ⟨ox, od, J, _⟩ := exc_inst I ha hφ hd
      obtain ⟨_, its, rv, o, h1, h2, n, h3⟩ := (show ObjOk X.prog X.w H s.heap tp (.tup (Ds.map V.ref)) from I.hok tp _ ht)
      have e3 := vals_refs rv
      subst e3
      obtain ⟨oc, od, dt, sl⟩ := o
      simp only at h2 h3
      subst h2 h3
      exact PySem.W.kia_tup (PySem.W.kitx_exc E.cl E.hg E.hk E.hs E.ha E.hn E.ht E.hm) I.kIn J h1 e (fun z => nomatch z) fun tk => ⟨.bl b, H, I.kept (t' := tk) fun _ _ z => z, rfl, q⟩
def fIsiXT (K : PySem.W.Frag) : DC := fun ss M k => match ss with
  | [.fix (.exc C fs), .own a] => ErrC K C ∧ ∃ (Ds : List Addr) (b : Bool), M a = some (.tup (Ds.map fun D => .raw (.ref D))) ∧ PySem.W.kitAny K (.ref C) (Ds.map Value.ref) = some b ∧ k (.dat (.bool b)) M
  | _ => False
theorem rps_refs {H : Hp} : ∀ {Ds : List Addr} {vs : List V}, Rps H (Ds.map fun D => Sl.raw (.ref D)) vs → vs = Ds.map V.ref
  | [], _, .nil => rfl
  | D :: Ds, _, .cons r t => by
    rw [show _ = V.ref D from r, rps_refs t]
    rfl
theorem sim_isiXT {K : PySem.W.Frag} : SimC (rIsXT K) (fIsiXT K) := by
  intro ss M k xs H Hc Q h r O q
  unfold fIsiXT at h
  split at h
  · obtain ⟨x, y, rfl, rx, ry⟩ := rps2 r
    obtain ⟨a, d, φ, rfl, h1, h2, h3⟩ := rx
    cases ry
    obtain ⟨E, Ds, b, hm, e, h⟩ := h
    have fd := fs_dict h3
    obtain ⟨vs, g1, g2⟩ := O.ob _ _ hm
    rw [rps_refs g2] at g1
    exact ⟨a, _, _, d, φ, Ds, b, rfl, O.ex _ _ h1, h2, fun dd z => by obtain ⟨ws, e⟩ := fd dd z; exact ⟨ws, O.ex _ _ e⟩, E, g1, e, q.dat O (.bl _) h⟩
  · exact h.elim
/-- kinds, by a list of them -/
theorem Kinds.any {K : PySem.W.Frag} {B : Addr} {cs : List Addr} (Z : Kinds K B cs) {i : Nat} {c : Addr} (hc : cs[i]? = some c) : ∀ {js : List Nat} {Ds : List Addr}, js.map (fun j => cs[j]?) = Ds.map some → PySem.W.kitAny K (.ref c) (Ds.map Value.ref) = some (js.any fun j => decide (i = j))
  | [], [], _ => rfl
  | [], _ :: _, h => by cases h
  | _ :: _, [], h => by cases h
  | j :: js, D :: Ds, h => by
    have h1 : cs[j]? = some D := (List.cons.inj h).1
    have h2 := (List.cons.inj h).2
    show (match PySem.W.kitOne K (.ref c) (.ref D) with | some true => some true | some false => PySem.W.kitAny K (.ref c) (Ds.map Value.ref) | none => none) = _
    rw [Z.ee i j c D hc h1]
    cases e : decide (i = j) with
    | true => rw [List.any_cons, e, Bool.true_or]
    | false =>
      rw [List.any_cons, e, Bool.false_or]
      exact Z.any hc h2
/-- xs.extend(ys) -/
def fExt : Sl → List Sl → Mem → DK → Prop := fun o ss M k => match o, ss with
  | .own a, [s] => ∃ xs ys, M a = some (.lst xs) ∧ IsL M s ys ∧ xs.length + ys.length ≤ 16777216 ∧ k (.dat .none) (put M a (.lst (xs ++ ys)))
  | _, _ => False
theorem sim_ext {K : PySem.W.Frag} : SimM K "list" rExtend fExt := by
  intro s ss M k x xs H Hc Q h rx rs O q
  unfold fExt at h
  split at h
  · obtain ⟨ys, zs, hm, l, hz, h⟩ := h
    obtain ⟨y, rfl, ry⟩ := rps1 rs
    cases rx
    obtain ⟨b, ws, rfl, g3, g4⟩ := l.at_ O ry
    obtain ⟨z, vs, g1, g2⟩ := O.ob _ _ hm
    refine ⟨_, b, vs, ws, rfl, rfl, g1, g3, by rw [rps_len g2, rps_len g4, sizeLine_eq]; exact hz, ?_⟩
    exact q _ (.dat .none) _ H _ (Evl.Ex.refl H) (O.turn (u := .lst _) hm ⟨by rw [List.length_append, sizeLine_eq]; exact hz, _, rfl, rps_app g2 g4⟩) Dq.non h
  · exact h.elim
/-- int(x) of a whole number or a truth -/
def fInt1 : DC := fun ss M k => match ss with
  | [.dat (.int i)] => k (.dat (.int i)) M
  | [.dat (.bool b)] => k (.dat (.int (if b then 1 else 0))) M
  | _ => False
theorem sim_int1 : SimC (fun xs H Q => (∃ i, xs = [.int i] ∧ Q (.int i) H) ∨ ∃ k, xs = [.bl k] ∧ Q (.int (if k then 1 else 0)) H) fInt1 := by
  intro ss M k xs H Hc Q h r O q
  unfold fInt1 at h
  split at h
  · obtain ⟨x, rfl, rx⟩ := rps1 r
    exact .inl ⟨_, by rw [dp_int_inv rx], q.dat O (.int _) h⟩
  · obtain ⟨x, rfl, rx⟩ := rps1 r
    exact .inr ⟨_, by rw [dp_bl_inv rx], q.dat O (.int _) h⟩
  · exact h.elim
/-- sum of a tuple of whole numbers -/
def rSumT (K : PySem.W.Frag) : List V → Hp → VK → Prop := fun vs H Q => ∃ (a : Addr) (ns : List Int), vs = [V.ref a] ∧ SqT K H a (ns.map V.int) ∧ Q (.int ns.sum) H
theorem cr_sumT (hc : X.calm = true) : CallR X (.builtin "sum") (rSumT X.K) := by
  intro pins s σ H vs us Q I r h
  obtain ⟨a, ns, rfl, hs, q⟩ := h
  obtain ⟨its, rv, hl, _⟩ := I.tuple hs
  rw [Vals.ref1 r]
  obtain ⟨xs, e⟩ := rv.ints.allInts.items
  have hn : numsOf (intItems xs).toList = ns := by rw [← e]; exact rv.ints.numsOf
  rw [nums_intItems] at hn
  have hl' : s.heap.IsTuple a its.toArray := hl
  rw [e] at hl'
  refine PySem.W.ktm_sumG (I.ok.hd hc) hl' fun h' tk t' hk => ?_
  rw [preSum_eq, List.take_of_length_le (by simp), hn]
  exact ⟨.int _, H, I.kept hk, ⟨_, rfl⟩, q⟩
def fSumT : DC := fun ss M k => match ss with
  | [.dat (.tuple ds)] => ∃ ns : List Int, ds = ns.map .int ∧ k (.dat (.int ns.sum)) M
  | _ => False
theorem sim_sumT {K : PySem.W.Frag} : SimC (rSumT K) fSumT := by
  intro ss M k xs H Hc Q h r O q
  unfold fSumT at h
  split at h
  · obtain ⟨x, rfl, rx⟩ := rps1 r
    obtain ⟨ns, rfl, h⟩ := h
    obtain ⟨a, vs, rfl, g1, g2⟩ := dp_tup_inv rx
    have e : vs = ns.map V.int := by
      have := dat_rps g2
      rw [List.map_map] at this
      exact rps_ints this
    rw [e] at g1
    exact ⟨a, ns, rfl, SqT.of (O.ex _ _ g1), q.dat O (.int _) h⟩
  · exact h.elim
/-- min(a, b), max(a, b) of whole numbers -/
def fMin2 : DC := fun ss M k => match ss with
  | [.dat (.int i), .dat (.int j)] => k (.dat (.int (min i j))) M
  | _ => False
def fMax2 : DC := fun ss M k => match ss with
  | [.dat (.int i), .dat (.int j)] => k (.dat (.int (max i j))) M
  | _ => False
theorem sim_min2 : SimC (fun xs H Q => ∃ i j, xs = [.int i, .int j] ∧ Q (.int (if j < i then j else i)) H) fMin2 := by
  intro ss M k xs H Hc Q h r O q
  unfold fMin2 at h
  split at h
  · rename_i i j
    obtain ⟨x, y, rfl, rx, ry⟩ := rps2 r
    rw [dp_int_inv rx, dp_int_inv ry]
    have e : (if j < i then j else i) = min i j := by split <;> omega
    exact ⟨_, _, rfl, by rw [e]; exact q.dat O (.int _) h⟩
  · exact h.elim
theorem sim_max2 : SimC (fun xs H Q => ∃ i j, xs = [.int i, .int j] ∧ Q (.int (if j > i then j else i)) H) fMax2 := by
  intro ss M k xs H Hc Q h r O q
  unfold fMax2 at h
  split at h
  · rename_i i j
    obtain ⟨x, y, rfl, rx, ry⟩ := rps2 r
    rw [dp_int_inv rx, dp_int_inv ry]
    have e : (if j > i then j else i) = max i j := by split <;> omega
    exact ⟨_, _, rfl, by rw [e]; exact q.dat O (.int _) h⟩
  · exact h.elim
end
end DL
/-! xs[::-1], ours; isinstance of a list of ours -/
namespace DL
open PySem PySem.Spec PyProof.Rows L2
open Evl (Ex)
section
variable {X : Cx} {e : Expr} {de : DE} {pos : Pos}
theorem rps_rev {H : Hp} : ∀ {ss : List Sl} {vs : List V} {ss' : List Sl} {vs' : List V}, Rps H ss vs → Rps H ss' vs' → Rps H (ss.reverseAux ss') (vs.reverseAux vs')
  | [], _, _, _, .nil, h => h
  | _ :: ss, _ :: vs, ss', vs', .cons r t, h => rps_rev (ss := ss) (vs := vs) t (.cons r h)
theorem rps_reverse {H : Hp} {ss : List Sl} {vs : List V} (h : Rps H ss vs) : Rps H ss.reverse vs.reverse := rps_rev h .nil
def dRevO (de : DE) : DE := fun Γ M k => de Γ M fun s M1 => ∃ xs, IsL M1 s xs ∧ xs.length ≤ 16777216 ∧ ∀ p, M1 p = none → k (.own p) (put M1 p (.lst xs.reverse))
theorem xe_revO {k : Nat} {p1 p2 p3 pos : Pos} (he : XE X e de) : XE X (.Subscript e (.Slice none none (some (.UnaryOp .USub (.Constant (.int 1) k p1) p2)) p3) pos) (dRevO de) := xe_of (pe_back he) fun Γ M k σ H Hc Q hd F O q => simLE Γ M _ σ H Hc _ hd F O fun v s M1 H1 Hc1 e1 O1 r1 h1 => by
  obtain ⟨xs, l, hz, h1⟩ := h1
  obtain ⟨a, vs, rfl, g1, g2⟩ := l.at_ O1 r1
  exact ⟨a, vs, rfl, .inl ⟨SqL.of g1, fun p hp => (q.ex e1).own O1 (rps_reverse g2) (by rw [List.length_reverse, sizeLine_eq]; exact hz) hp (h1 p (O1.freeM hp))⟩⟩
/-- isinstance(a list of ours, list) -/
def fIsiL : DC := fun ss M k => match ss with
  | [.own a, .raw (.ty T)] => ∃ xs, M a = some (.lst xs) ∧ (T = "int" ∨ T = "bool" ∨ T = "tuple" ∨ T = "list" ∨ T = "str") ∧ k (.dat (.bool (T == "list"))) M
  | _ => False
theorem kit_list {K : PySem.W.Frag} {T : String} (hT : T = "int" ∨ T = "bool" ∨ T = "tuple" ∨ T = "list" ∨ T = "str") : PySem.W.kitOne K (.type "list") (.type T) = some (T == "list") := by
  refine (show PySem.W.kitOne K (.type (tyD (.list []))) (.type T) = some (isiD T (.list [])) from kit_all (.list []) (fun _ z => nomatch z) hT).trans ?_
  rcases hT with rfl | rfl | rfl | rfl | rfl <;> rfl
theorem sim_isiL {K : PySem.W.Frag} : SimC (rIsi K) fIsiL := by
  intro ss M k xs H Hc Q h r O q
  unfold fIsiL at h
  split at h
  · obtain ⟨x, y, rfl, rx, ry⟩ := rps2 r
    obtain ⟨ys, hm, hT, h⟩ := h
    cases rx
    have ry' : y = V.ty _ := ry
    subst ry'
    obtain ⟨_, vs, g1, g2⟩ := O.ob _ _ hm
    exact ⟨_, _, _, _, _, rfl, .ty _, .base (.lst g1), kit_list hT, q.dat O (.bl _) h⟩
  · exact h.elim
end
end DL
/-! comprehensions whose target is a tuple of names -/
namespace DL
open PySem PySem.Spec PyProof.Rows L2
open Evl (Ex)
/-- a tuple of names -/
def gNs : List Nat → TGs
  | [] => gNil
  | i :: is => gCons (gName i) (gNs is)
def setsF (Γ : Fm) : List Nat → List Dt → Fm
  | j :: js, d :: ds => setsF (Γ.set j (some (.dat d))) js ds
  | _, _ => Γ
def sets (σ : L2.St) : List Nat → List V → L2.St
  | j :: js, v :: vs => sets (σ.set j (some v)) js vs
  | _, _ => σ
theorem gNs_run : ∀ {js : List Nat} {vs : List V} {σ : L2.St} {H : Hp} {Q : L2.St → Hp → Prop}, vs.length = js.length → Q (sets σ js vs) H → gNs js vs σ H Q
  | [], [], _, _, _, _, q => ⟨rfl, q⟩
  | j :: js, v :: vs, _, _, _, h, q => ⟨v, vs, rfl, gNs_run (js := js) (by simpa using h) q⟩
  | [], _ :: _, _, _, _, h, _ => nomatch h
  | _ :: _, [], _, _, _, h, _ => nomatch h
theorem sets_length : ∀ {js : List Nat} {vs : List V} {σ : L2.St}, (sets σ js vs).length = σ.length
  | [], _, _ => rfl
  | _ :: _, [], _ => rfl
  | j :: js, v :: vs, σ => by
    show (sets (σ.set j (some v)) js vs).length = _
    rw [sets_length, List.length_set]
theorem sets_out {ws : List Nat} {i : Nat} (hi : i ∉ ws) : ∀ {js : List Nat} {vs : List V} {σ : L2.St}, (∀ j ∈ js, j ∈ ws) → (sets σ js vs)[i]? = σ[i]?
  | [], _, _, _ => rfl
  | _ :: _, [], _, _ => rfl
  | j :: js, v :: vs, σ, h => by
    show (sets (σ.set j (some v)) js vs)[i]? = _
    rw [sets_out hi fun k hk => h k (List.mem_cons_of_mem _ hk), List.getElem?_set_ne (show j ≠ i from fun z => hi (by rw [← z]; exact h j (List.mem_cons_self ..)))]
theorem sets_back {σ : L2.St} {ws js : List Nat} {vs : List V} (hj : ∀ j ∈ js, j ∈ ws) : wipe (sets (wipe σ ws) js vs) ws = wipe σ ws := by
  refine wipe_ext ws (by rw [sets_length, wipe_length]) fun i hi => ?_
  rw [sets_out hi hj, wipe_out hi]
theorem Fr.sets {H : Hp} : ∀ {js : List Nat} {ds : List Dt} {vs : List V} {σ : L2.St} {Γ : Fm}, DqAll H vs ds → Fr H σ Γ → Fr H (sets σ js vs) (setsF Γ js ds)
  | [], _, _, _, _, _, F => F
  | _ :: _, _, _, _, _, .nil, F => F
  | j :: js, _, _, _, _, .cons r rs, F => Fr.sets (js := js) rs (F.set (s := .dat _) r)
/-- one turn: the item falls into its parts -/
def lcTurnP (p : Addr) (Γ : Fm) (vs js : List Nat) (t : DB) (el : DE) (Nx : Mem → Prop) (x : Sl) (M : Mem) : Prop := ∃ ds : List Dt, x = .dat (.tuple ds) ∧ ds.length = js.length ∧ t (setsF (wipeF Γ vs) js ds) M fun b M3 =>
  (b = true → el (setsF (wipeF Γ vs) js ds) M3 fun y M4 => ∃ acc, M4 p = some (.lst acc) ∧ acc.length < 16777216 ∧ Nx (put M4 p (.lst (acc ++ [y])))) ∧ (b = false → Nx M3)
theorem lc_turnP {K : PySem.W.Frag} {p : Addr} {Γ : Fm} {vs js : List Nat} {t : DB} {el : DE} {tt : TT} {te : TE} (ht : SimB tt t) (hel : SimE te el) (hj : ∀ j ∈ js, j ∈ vs) {Nx : Mem → Prop} {sx : Sl} {x : V} {M' : Mem} {σ : L2.St} {H1 H' Hc' : Hp} (e2 : Ex H1 H') (rx : Rp H' sx x) (F : Fr H' σ Γ) (O2 : Own H' Hc' M') (h : lcTurnP p Γ vs js t el Nx sx M') :
    gTup K js.length (gNs js) x (wipe σ vs) Hc' fun σ2 H2 => wipe σ2 vs = wipe σ vs ∧ tt σ2 H2 fun b H3 => if b = true then te σ2 H3 fun y H4 => ∃ acc, H4 p = some (.lst acc) ∧ acc.length < sizeLine ∧ ∃ M5 H5, Ex H1 H5 ∧ Own H5 (upd H4 p (.lst (acc ++ [y]))) M5 ∧ Nx M5 else ∃ M5 H5, Ex H1 H5 ∧ Own H5 H3 M5 ∧ Nx M5 := by
  obtain ⟨ds, rfl, hl, h⟩ := h
  obtain ⟨a, ws, rfl, g1, g2⟩ := dp_tup_inv rx
  refine ⟨a, ws, rfl, SqT.of (O2.ex _ _ g1), by rw [dps_len g2]; exact hl, gNs_run (by rw [dps_len g2]; exact hl) ⟨sets_back hj, ?_⟩⟩
  have F2 : Fr H' (sets (wipe σ vs) js ws) (setsF (wipeF Γ vs) js ds) := (F.wipe vs).sets g2
  refine ht _ M' _ _ H' Hc' _ h F2 O2 fun b M3 H3 Hc3 e3 O3 h3 => ?_
  cases b with
  | true =>
    rw [if_pos rfl]
    refine hel _ M3 _ _ H3 Hc3 _ (h3.1 rfl) (F2.ex e3) O3 fun y sy M4 H4 Hc4 e4 O4 r4 h4 => ?_
    obtain ⟨acc, hm, hz, hn⟩ := h4
    obtain ⟨z, ws, g1, g2⟩ := O4.ob _ _ hm
    refine ⟨ws, g1, by rw [rps_len g2, sizeLine_eq]; exact hz, _, H4, e2.trans (e3.trans e4), O4.turn (u := .lst _) hm ⟨by rw [List.length_append, sizeLine_eq]; exact hz, _, rfl, rps_app g2 (.cons r4 .nil)⟩, hn⟩
  | false =>
    rw [if_neg Bool.false_ne_true]
    exact ⟨M3, H3, e2.trans e3, O3, h3.2 rfl⟩
def dLcLP (de : DE) (js : List Nat) (t : DB) (el : DE) (vs : List Nat) : DE := fun Γ M k => de Γ M fun s M1 => ∃ xs, IsL M1 s xs ∧ ∀ p, M1 p = none → ∃ Inv : Nat → Mem → Prop, Inv 0 (put M1 p (.lst [])) ∧ (∀ i M', i ≤ xs.length → Inv i M' → IsL M' s xs) ∧
  (∀ i x M', xs[i]? = some x → Inv i M' → lcTurnP p Γ vs js t el (Inv (i + 1)) x M') ∧ ∀ M', Inv xs.length M' → k (.own p) M'
section
variable {X : Cx} {de : DE}
theorem sim_lcLP {K : PySem.W.Frag} {te : TE} {js : List Nat} {t : DB} {el : DE} {tt : TT} {tel : TE} {vs : List Nat} (h : SimE te de) (ht : SimB tt t) (hel : SimE tel el) (hj : ∀ j ∈ js, j ∈ vs) : SimE (tLc (iList K te) (gTup K js.length (gNs js)) tt tel vs) (dLcLP de js t el vs) := fun Γ M k σ H Hc Q hd F O q => by
  refine h Γ M _ σ H Hc _ hd F O fun v s M1 H1 Hc1 e1 O1 r1 h1 => ?_
  obtain ⟨xs, l, h1⟩ := h1
  obtain ⟨a, ws, rfl, g1, g2⟩ := l.at_ O1 r1
  refine ⟨a, rfl, ⟨ws, SqL.of g1⟩, fun p hp => ?_⟩
  obtain ⟨W, w0, wl, wt, wd⟩ := h1 p (O1.freeM hp)
  refine ⟨fun i m Hc' => m = xs.length - i ∧ i ≤ xs.length ∧ ∃ M' H', Ex H1 H' ∧ Own H' Hc' M' ∧ W i M', ⟨_, rfl, Nat.zero_le _, _, H1, Evl.Ex.refl _, O1.born (u := .lst []) hp ⟨Nat.zero_le _, [], rfl, .nil⟩, w0⟩, ?_⟩
  rintro i m Hc' ⟨rfl, hi, M', H', e2, O2, w⟩
  obtain ⟨a', vs', e3, g3, g4⟩ := (wl i M' hi w).at_ O2 (rp_ex e2 r1)
  cases e3
  have hl := rps_len g4
  rcases Nat.lt_or_ge i xs.length with hlt | hge
  · obtain ⟨x0, hx0⟩ : ∃ x0, vs'[i]? = some x0 := ⟨vs'[i]'(by omega), List.getElem?_eq_getElem (by omega)⟩
    obtain ⟨sx, hs, rx⟩ := rps_get g4 hx0
    refine .inr ⟨⟨vs', x0, SqL.of g3, hx0⟩, fun Hc2 => ∃ M2 H2, Ex H1 H2 ∧ Own H2 Hc2 M2 ∧ W (i + 1) M2, fun Hc2 z => ⟨xs.length - (i + 1), by omega, rfl, by omega, z⟩, fun x Hy y => ?_⟩
    obtain ⟨rfl, y⟩ := y
    have ex : x = x0 := Option.some.inj ((y vs' (SqL.of g3)).symm.trans hx0)
    subst ex
    exact lc_turnP ht hel hj e2 rx (F.ex (e1.trans e2)) O2 (wt i sx M' hs w)
  · have ei : i = xs.length := Nat.le_antisymm hi hge
    subst ei
    exact .inl ⟨⟨vs', SqL.of g3, by omega⟩, q _ (.own p) M' H' Hc' (e1.trans e2) O2 rfl (wd M' w)⟩
theorem xe_lcLP {ex : Expr} {js : List Nat} {t : DB} {el : DE} {vs : List Nat} {n : Nat} (h : PE X ex (tLc (iList X.K (LE de)) (gTup X.K n (gNs js)) (LB t) (LE el) vs)) (hn : n = js.length) (hj : ∀ j ∈ js, j ∈ vs) : XE X ex (dLcLP de js t el vs) := by
  subst hn
  exact xe_of h (sim_lcLP simLE simLB simLE hj)
end
end DL
/-! comprehensions over zip of two lists of data -/
namespace DL
open PySem PySem.Spec PyProof.Rows L2
open Evl (Ex)
section
variable {X : Cx} {da : DA}
def dLcZ (da : DA) (js : List Nat) (t : DB) (el : DE) (vs : List Nat) : DE := fun Γ M k => da Γ M fun ss M1 => ∃ (ds es : List Dt) (s u : Sl), ss = [s, u] ∧ IsL M1 s (ds.map .dat) ∧ IsL M1 u (es.map .dat) ∧ ∀ p, M1 p = none → ∃ Inv : Nat → Mem → Prop, Inv 0 (put M1 p (.lst [])) ∧
  (∀ i M', Inv i M' → IsL M' s (ds.map .dat) ∧ IsL M' u (es.map .dat)) ∧
  (∀ i x y M', ds[i]? = some x → es[i]? = some y → Inv i M' → lcTurnP p Γ vs js t el (Inv (i + 1)) (.dat (.tuple [x, y])) M') ∧ ∀ M', Inv (min ds.length es.length) M' → k (.own p) M'
theorem sim_lcZ {K : PySem.W.Frag} {ta : TA} {js : List Nat} {t : DB} {el : DE} {tt : TT} {tel : TE} {vs : List Nat} (h : SimA ta da) (ht : SimB tt t) (hel : SimE tel el) (hj : ∀ j ∈ js, j ∈ vs) : SimE (tLc (iZip K ta) (gTup K js.length (gNs js)) tt tel vs) (dLcZ da js t el vs) := fun Γ M k σ H Hc Q hd F O q => by
  refine h Γ M _ σ H Hc _ hd F O fun ws ss M1 H1 Hc1 e1 O1 r1 h1 => ?_
  obtain ⟨ds, es, s, u, rfl, ls, lu, h1⟩ := h1
  obtain ⟨v, v2, rfl, rv, ru⟩ := rps2 r1
  obtain ⟨a, as, rfl, g1, g2⟩ := ls.at_ O1 rv
  obtain ⟨b, bs, rfl, g3, g4⟩ := lu.at_ O1 ru
  refine ⟨a, b, as, bs, rfl, SqL.of g1, SqL.of g3, fun p hp => ?_⟩
  obtain ⟨W, w0, wl, wt, wd⟩ := h1 p (O1.freeM hp)
  refine ⟨fun i m Hc' => m = min ds.length es.length - i ∧ i ≤ min ds.length es.length ∧ ∃ M' H', Ex H1 H' ∧ Own H' Hc' M' ∧ W i M', ⟨_, rfl, Nat.zero_le _, _, H1, Evl.Ex.refl _, O1.born (u := .lst []) hp ⟨Nat.zero_le _, [], rfl, .nil⟩, w0⟩, ?_⟩
  rintro i m Hc' ⟨rfl, hi, M', H', e2, O2, w⟩
  obtain ⟨a', as', e3, g5, g6⟩ := (wl i M' w).1.at_ O2 (rp_ex e2 rv)
  cases e3
  obtain ⟨b', bs', e4, g7, g8⟩ := (wl i M' w).2.at_ O2 (rp_ex e2 ru)
  cases e4
  have hl := rps_len g6
  have hl2 := rps_len g8
  rw [List.length_map] at hl hl2
  rcases Nat.lt_or_ge i (min ds.length es.length) with hlt | hge
  · obtain ⟨x0, hx0⟩ : ∃ x0, as'[i]? = some x0 := ⟨as'[i]'(by omega), List.getElem?_eq_getElem (by omega)⟩
    obtain ⟨y0, hy0⟩ : ∃ y0, bs'[i]? = some y0 := ⟨bs'[i]'(by omega), List.getElem?_eq_getElem (by omega)⟩
    obtain ⟨d, hd, rx⟩ := dps_get (rps_dat g6) hx0
    obtain ⟨f, hf, ry⟩ := dps_get (rps_dat g8) hy0
    refine .inr ⟨⟨as', bs', x0, y0, SqL.of g5, SqL.of g7, hx0, hy0⟩, fun Hc2 => ∃ M2 H2, Ex H1 H2 ∧ Own H2 Hc2 M2 ∧ W (i + 1) M2, fun Hc2 z => ⟨min ds.length es.length - (i + 1), by omega, rfl, by omega, z⟩, fun x Hy y => ?_⟩
    obtain ⟨T, x, y', rfl, hT, rfl, y1, y2⟩ := y
    have ex : x = x0 := Option.some.inj ((y1 as' (SqL.of g5)).symm.trans hx0)
    subst ex
    have ey : y' = y0 := Option.some.inj ((y2 bs' (SqL.of g7)).symm.trans hy0)
    subst ey
    obtain ⟨O3, e3⟩ := O2.grow (o := .tup [x, y']) hT
    exact lc_turnP ht hel hj (e2.trans e3) (sx := .dat (.tuple [d, f])) (.tup upd_same (.cons (dp_ex e3 rx) (.cons (dp_ex e3 ry) .nil))) (F.ex (e1.trans (e2.trans e3))) O3 (wt i d f M' hd hf w)
  · have ei : i = min ds.length es.length := Nat.le_antisymm hi hge
    subst ei
    exact .inl ⟨⟨as', bs', SqL.of g5, SqL.of g7, by omega⟩, q _ (.own p) M' H' Hc' (e1.trans e2) O2 rfl (wd M' w)⟩
theorem xe_lcZP {ex : Expr} {js : List Nat} {t : DB} {el : DE} {vs : List Nat} {n : Nat} (h : PE X ex (tLc (iZip X.K (LA da)) (gTup X.K n (gNs js)) (LB t) (LE el) vs)) (hn : n = js.length) (hj : ∀ j ∈ js, j ∈ vs) : XE X ex (dLcZ da js t el vs) := by
  subst hn
  exact xe_of h (sim_lcZ simLA simLB simLE hj)
end
end DL
/-! dicts of ours whose keys are tuples of whole numbers and texts -/
namespace DL
open PySem PySem.Spec PyProof.Rows L2
open Evl (Ex)
def keysD : List Dt → Option (List Key)
  | [] => some []
  | d :: ds => match keyD d, keysD ds with
    | some k, some ks => some (k :: ks)
    | _, _ => none
def keyT : Dt → Option (List Key)
  | .tuple ds => keysD ds
  | _ => none
theorem keys_rp {H : Hp} : ∀ {ds : List Dt} {ks : List Key} {vs : List V}, DqAll H vs ds → keysD ds = some ks → vs = ks.map kV
  | [], ks, _, .nil, h => by cases h; rfl
  | d :: ds, ks, _, .cons r rs, h => by
    unfold keysD at h
    split at h
    · rename_i k ks' h1 h2
      cases h
      rw [key_rp r h1, keys_rp rs h2]
      rfl
    · cases h
theorem keyT_rp {H : Hp} {d : Dt} {ks : List Key} {v : V} (r : Dq H v d) (h : keyT d = some ks) : ∃ b, v = .ref b ∧ H b = some (.tup (ks.map kV)) := by
  cases d with
  | tuple ds =>
    obtain ⟨b, vs, rfl, h1, h2⟩ := dp_tup_inv r
    exact ⟨b, rfl, by rw [h1, keys_rp h2 h]⟩
  | _ => cases h
abbrev Tvs := List (List Key × Sl)
def tval (kvs : Tvs) (k : List Key) : Option Sl := (kvs.find? fun kv => decide (kv.1 = k)).map (·.2)
def tput (kvs : Tvs) (k : List Key) (s : Sl) : Tvs := if (kvs.any fun kv => decide (kv.1 = k)) = true then kvs.map (fun kv => if kv.1 = k then (kv.1, s) else kv) else kvs ++ [(k, s)]
abbrev RpT (H : Hp) : Tvs → List (List Key × V) → Prop := Paired (fun (p : List Key × Sl) (q : List Key × V) => p.1 = q.1 ∧ Rp H p.2 q.2)
theorem rpt_len {H : Hp} : ∀ {kvs : Tvs} {ws : List (List Key × V)}, RpT H kvs ws → ws.length = kvs.length
  | [], _, .nil => rfl
  | _ :: _, _, .cons _ t => congrArg (· + 1) (rpt_len t)
theorem rpt_val {H : Hp} {k : List Key} : ∀ {kvs : Tvs} {ws : List (List Key × V)}, RpT H kvs ws → (tval kvs k = none ∧ valV ws k = none) ∨ ∃ s v, tval kvs k = some s ∧ valV ws k = some v ∧ Rp H s v
  | [], _, .nil => .inl ⟨rfl, rfl⟩
  | (a, s) :: kvs, _, .cons (b := (b, v)) r t => by
    obtain ⟨rfl, r2⟩ := r
    rename_i ws
    by_cases e : a = k
    · subst e
      refine .inr ⟨s, v, ?_, ?_, r2⟩
      · unfold tval
        rw [List.find?_cons, decide_eq_true rfl]
        rfl
      · unfold valV
        rw [List.find?_cons, decide_eq_true rfl]
        rfl
    · have e1 : tval ((a, s) :: kvs) k = tval kvs k := by
        unfold tval
        rw [List.find?_cons, decide_eq_false e]
      have e2 : valV ((a, v) :: ws) k = valV ws k := by
        unfold valV
        rw [List.find?_cons, decide_eq_false e]
      rw [e1, e2]
      exact rpt_val t
theorem rpt_map {H : Hp} {k : List Key} {s : Sl} {v : V} (r : Rp H s v) : ∀ {kvs : Tvs} {ws : List (List Key × V)}, RpT H kvs ws → RpT H (kvs.map (fun kv => if kv.1 = k then (kv.1, s) else kv)) (ws.map (fun kv => if kv.1 = k then (kv.1, v) else kv))
  | [], _, .nil => .nil
  | (a, x) :: kvs, _, .cons (b := (b, y)) q t => by
    obtain ⟨rfl, q2⟩ := q
    refine .cons ?_ (rpt_map r t)
    show ((if a = k then (a, s) else (a, x)) : List Key × Sl).1 = ((if a = k then (a, v) else (a, y)) : List Key × V).1 ∧ Rp H ((if a = k then (a, s) else (a, x)) : List Key × Sl).2 ((if a = k then (a, v) else (a, y)) : List Key × V).2
    by_cases e : a = k
    · rw [if_pos e, if_pos e]
      exact ⟨rfl, r⟩
    · rw [if_neg e, if_neg e]
      exact ⟨rfl, q2⟩
theorem rpt_any {H : Hp} {k : List Key} : ∀ {kvs : Tvs} {ws : List (List Key × V)}, RpT H kvs ws → (kvs.any fun kv => decide (kv.1 = k)) = (ws.any fun kv => decide (kv.1 = k))
  | [], _, .nil => rfl
  | (a, x) :: kvs, _, .cons (b := (b, y)) q t => by
    obtain ⟨rfl, q2⟩ := q
    rw [List.any_cons, List.any_cons, rpt_any t]
theorem rpt_app {H : Hp} : ∀ {kvs kvs2 : Tvs} {ws ws2 : List (List Key × V)}, RpT H kvs ws → RpT H kvs2 ws2 → RpT H (kvs ++ kvs2) (ws ++ ws2)
  | [], _, _, _, .nil, h => h
  | _ :: _, _, _, _, .cons r t, h => .cons r (rpt_app t h)
theorem rpt_put {H : Hp} {k : List Key} {s : Sl} {v : V} {kvs : Tvs} {ws : List (List Key × V)} (h : RpT H kvs ws) (r : Rp H s v) : RpT H (tput kvs k s) (putK ws k v) := by
  unfold tput putK
  rw [rpt_any h]
  by_cases e : (ws.any fun kv => decide (kv.1 = k)) = true
  · rw [if_pos e, if_pos e]
    exact rpt_map r h
  · rw [if_neg e, if_neg e]
    exact rpt_app h (.cons ⟨rfl, r⟩ .nil)
/-- at a: a dict of ours whose keys are tuples, walked just now or not -/
def IsDT (M : Mem) (a : Addr) (kvs : Tvs) : Prop := M a = some (.dtt kvs) ∨ ∃ od ws, M a = some (.fdt od ws kvs)
theorem IsDT.at_ {H Hc : Hp} {M : Mem} {a : Addr} {kvs : Tvs} (O : Own H Hc M) (h : IsDT M a kvs) : ∃ ws, Rd Hc a (.dT ws) ∧ RpT H kvs ws := by
  rcases h with h | ⟨od, ws, h⟩
  · obtain ⟨ws, g1, g2⟩ := O.ob _ _ h
    exact ⟨ws, .inl g1, g2⟩
  · obtain ⟨g1, g2⟩ := O.ob _ _ h
    exact ⟨ws, .inr ⟨od, g1⟩, g2⟩
section
variable {X : Cx} {e f o i : Expr} {de df do_ di : DE} {das : DA} {pos apos : Pos}
def dDctT0 : DE := fun _ M k => ∀ p, M p = none → k (.own p) (put M p (.dtt []))
theorem xe_dctT0 : XE X (.Dict [] [] pos) dDctT0 := xe_of pe_dnewT fun Γ M k σ H Hc Q hd F O q p hp => q (.ref p) (.own p) _ H _ (Ex.refl H) (O.born (u := .dtt []) hp ⟨[], rfl, .nil⟩) rfl (hd p (O.freeM hp))
/-- d.get(key, other) -/
def dGetT2 (do_ di de : DE) : DE := fun Γ M k => do_ Γ M fun o M1 => (∃ a kvs, o = .own a ∧ IsDT M1 a kvs) ∧ di Γ M1 fun i M2 => de Γ M2 fun z M3 => ∃ a kvs d key, o = .own a ∧ IsDT M3 a kvs ∧ i = .dat d ∧ keyT d = some key ∧ k ((tval kvs key).getD z) M3
theorem xe_getT2 (h : PE X e (tDGet2 (LE do_) (LE di) (LE de))) : XE X e (dGetT2 do_ di de) := xe_of h fun Γ M k σ H Hc Q hd F O q => by
  refine simLE Γ M _ σ H Hc _ hd F O fun vo so M1 H1 Hc1 e1 O1 r1 h1 => ?_
  obtain ⟨⟨a, kvs, rfl, hm⟩, h1⟩ := h1
  cases r1
  obtain ⟨ws, g1, _⟩ := hm.at_ O1
  refine ⟨a, rfl, .inr ⟨ws, g1⟩, ?_⟩
  refine simLE Γ M1 _ σ H1 Hc1 _ h1 (F.ex e1) O1 fun vi si M2 H2 Hc2 e2 O2 r2 h2 => ?_
  refine simLE Γ M2 _ σ H2 Hc2 _ h2 (F.ex (e1.trans e2)) O2 fun vz sz M3 H3 Hc3 e3 O3 r3 h3 => ?_
  obtain ⟨a', kvs', d, key, ea, hm3, rfl, hk, h3⟩ := h3
  cases ea
  obtain ⟨ws', g1', g2'⟩ := hm3.at_ O3
  have r2' : Dq H3 vi d := dp_ex e3 r2
  obtain ⟨b, rfl, hb⟩ := keyT_rp r2' hk
  refine ⟨valV ws' key, .inr ⟨ws', key, b, g1', rfl, O3.ex _ _ hb, rfl⟩, ?_⟩
  rcases rpt_val (k := key) g2' with ⟨z1, z2⟩ | ⟨s, v, z1, z2, z3⟩
  · rw [z2]
    rw [z1] at h3
    exact q vz sz M3 H3 Hc3 (e1.trans (e2.trans e3)) O3 r3 h3
  · rw [z2]
    rw [z1] at h3
    exact q v s M3 H3 Hc3 (e1.trans (e2.trans e3)) O3 z3 h3
/-- d.get(key) -/
def dGetT1 (do_ di : DE) : DE := fun Γ M k => do_ Γ M fun o M1 => (∃ a kvs, o = .own a ∧ IsDT M1 a kvs) ∧ di Γ M1 fun i M2 => ∃ a kvs d key, o = .own a ∧ IsDT M2 a kvs ∧ i = .dat d ∧ keyT d = some key ∧ k ((tval kvs key).getD (.dat .none)) M2
theorem xe_getT1 (h : PE X e (tDGet1 (LE do_) (LE di))) : XE X e (dGetT1 do_ di) := xe_of h fun Γ M k σ H Hc Q hd F O q => by
  refine simLE Γ M _ σ H Hc _ hd F O fun vo so M1 H1 Hc1 e1 O1 r1 h1 => ?_
  obtain ⟨⟨a, kvs, rfl, hm⟩, h1⟩ := h1
  cases r1
  obtain ⟨ws, g1, _⟩ := hm.at_ O1
  refine ⟨a, rfl, .inr ⟨ws, g1⟩, ?_⟩
  refine simLE Γ M1 _ σ H1 Hc1 _ h1 (F.ex e1) O1 fun vi si M2 H2 Hc2 e2 O2 r2 h2 => ?_
  obtain ⟨a', kvs', d, key, ea, hm3, rfl, hk, h3⟩ := h2
  cases ea
  obtain ⟨ws', g1', g2'⟩ := hm3.at_ O2
  obtain ⟨b, rfl, hb⟩ := keyT_rp (show Dq H2 vi d from r2) hk
  refine ⟨valV ws' key, .inr ⟨ws', key, b, g1', rfl, O2.ex _ _ hb, rfl⟩, ?_⟩
  rcases rpt_val (k := key) g2' with ⟨z1, z2⟩ | ⟨s, v, z1, z2, z3⟩
  · rw [z2]
    rw [z1] at h3
    exact q .non (.dat .none) M2 H2 Hc2 (e1.trans e2) O2 .non h3
  · rw [z2]
    rw [z1] at h3
    exact q v s M2 H2 Hc2 (e1.trans e2) O2 z3 h3
/-- d[key] -/
def fDIxT : D2 := fun o i M k => ∃ a kvs d key s, o = .own a ∧ IsDT M a kvs ∧ i = .dat d ∧ keyT d = some key ∧ tval kvs key = some s ∧ k s M
theorem xe_dixT (h : PE X e (tDGet (LE do_) (LE di))) : XE X e (dOp fDIxT do_ di) := xe_of h fun Γ M k σ H Hc Q hd F O q => by
  refine simLE Γ M _ σ H Hc _ hd F O fun vo so M1 H1 Hc1 e1 O1 r1 h1 => ?_
  refine simLE Γ M1 _ σ H1 Hc1 _ h1 (F.ex e1) O1 fun vi si M2 H2 Hc2 e2 O2 r2 h2 => ?_
  obtain ⟨a, kvs, d, key, s, rfl, hm, rfl, hk, hv, h2⟩ := h2
  cases r1
  obtain ⟨ws, g1, g2⟩ := hm.at_ O2
  obtain ⟨b, rfl, hb⟩ := keyT_rp (show Dq H2 vi d from r2) hk
  rcases rpt_val (k := key) g2 with ⟨z1, z2⟩ | ⟨s', v, z1, z2, z3⟩
  · rw [z1] at hv
    cases hv
  · rw [z1] at hv
    cases hv
    refine ⟨a, v, rfl, ?_, q v s M2 H2 Hc2 (e1.trans e2) O2 z3 h2⟩
    rw [← z2]
    exact .inr ⟨ws, key, b, g1, rfl, O2.ex _ _ hb, rfl⟩
/-- d[key] = e -/
def dSetT (de do_ di : DE) : DS := fun D Γ M => de Γ M fun s M1 => do_ Γ M1 fun o M2 => di Γ M2 fun i M3 => ∃ a kvs d key, o = .own a ∧ i = .dat d ∧ keyT d = some key ∧ M3 a = some (.dtt kvs) ∧ kvs.length < 16777216 ∧ D.nx Γ (put M3 a (.dtt (tput kvs key s)))
theorem xs_setT {st : Stmt} (h : PS X st (tAsg (LE de) (gSub (LE do_) (LE di) rSetD))) : XS X st (dSetT de do_ di) := xs_of h fun Γ M D σ H Hc E hd F O q => by
  refine simLE Γ M _ σ H Hc _ hd F O fun v s M1 H1 Hc1 e1 O1 r1 h1 => ?_
  refine simLE Γ M1 _ σ H1 Hc1 _ h1 (F.ex e1) O1 fun vo so M2 H2 Hc2 e2 O2 r2 h2 => ?_
  refine simLE Γ M2 _ σ H2 Hc2 _ h2 (F.ex (e1.trans e2)) O2 fun vi si M3 H3 Hc3 e3 O3 r3 h3 => ?_
  obtain ⟨a, kvs, d, key, rfl, rfl, hk, hm, hz, hn⟩ := h3
  cases r2
  obtain ⟨ws, g1, g2⟩ := O3.ob _ _ hm
  obtain ⟨b, rfl, hb⟩ := keyT_rp (show Dq H3 vi d from r3) hk
  refine ⟨a, _, rfl, DPut.t g1 (O3.ex _ _ hb) (by rw [rpt_len g2, sizeLine_eq]; exact hz), ?_⟩
  exact q.nx σ Γ _ H3 _ (e1.trans (e2.trans e3)) (F.ex (e1.trans (e2.trans e3))) (O3.turn (u := .dtt _) hm ⟨_, rfl, rpt_put g2 (rp_ex (e2.trans e3) r1)⟩) hn
end
end DL
/-! dict comprehensions, keys of either kind -/
namespace DL
open PySem PySem.Spec PyProof.Rows L2
open Evl (Ex)
section
variable {X : Cx}
/-- a key's value put by a comprehension -/
theorem put_in {pins : List (Addr × Obj)} {σ : L2.St} {H H' : Hp} {s : Shared} {E : Value → Shared → Prop} {D : Addr} {y v : V} {u r : Value} {Q : Unit → Shared → Prop} (hu : X.A.units + 1 < cLine) (I : Inv X pins σ H s) (g : DPut H D y v H') (ry : RelV y u) (rv : RelV v r)
    (h : ∀ s', Inv X pins σ H' s' → Q () s') : wpAny (model X.prog X.w) X.A (dictSet D u r) Q E s := by
  rcases g with ⟨kvs, k, e, rfl, l, rfl⟩ | ⟨kvs, k, b, e, rfl, eb, l, rfl⟩
  · exact d_dictSet I e l ry rv h
  · cases (show u = Value.ref b from ry)
    obtain ⟨z, hd, xs, rel, dd⟩ := dt_of I.hok e
    have more := length_putK kvs k v
    refine wpAny_dictSet_heap (show (tupleKind _).room X.A from Nat.lt_of_succ_lt hu) (key_of I.hok eb) dd (fun h' dd' hs => h _ ?_) (by rw [← Paired.length rel]; exact z)
    obtain ⟨q, es, ep, hq, h2, h3, h4, _, h5⟩ := dd'
    have stay : ∀ (c : Addr) (ys : List V), H c = some (.tup ys) → (upd H D (.dT (putK kvs k v))) c = some (.tup ys) := fun c ys ec => by rw [upd_ne (ne_of ec e (fun z => nomatch z))]; exact ec
    exact d_write I (by rw [e]; exact True.intro) hs ⟨q, hq⟩ ⟨by omega, hd, _, (rel.put k eb rv).keeps fun c ys ec => stay c ys ec, q, es, ep, hq, h2, h3, h4, h5⟩
/-- {k: v for .. in ..}: u0 the empty dict of one kind or the other -/
def tDcA (u0 : HO) (wi : TI) (g : TG) (tt : TT) (tk tv : TE) (vs : List Nat) : TE := fun σ H Q => wi σ H fun J H1 => ∀ D, H1 D = none → ∃ W : Nat → Nat → Hp → Prop, (∃ m, W 0 m (upd H1 D u0)) ∧ ∀ i m H, W i m H →
  (J.stop i H ∧ Q (.ref D) H) ∨ (J.go i H ∧ ∃ Nx : Hp → Prop, (∀ H', Nx H' → ∃ m', m' < m ∧ W (i + 1) m' H') ∧ ∀ x H', J.yld i H x H' → g x (wipe σ vs) H' fun σ2 H2 => wipe σ2 vs = wipe σ vs ∧ tt σ2 H2 fun b H3 =>
    if b = true then tk σ2 H3 fun y H4 => tv σ2 H4 fun z H5 => ∃ H6, DPut H5 D y z H6 ∧ Nx H6 else Nx H3)
variable {wi : TI} {g : TG} {tt : TT} {tk tv : TE} {scope : Scope} {own : List (Str × Nat)} {kx vx tg iter : Expr} {ifs : List Expr} {pos : Pos}
theorem born_any {u0 : HO} (h0 : u0 = .dK [] ∨ u0 = .dT []) {P : Program} {w : World} {H : Hp} (h : Heap) (hb : sysModules < h.objs.size) : ObjOk P w H (h.push { cls := .type "dict", data := .dict #[] }) h.objs.size u0 := by
  rcases h0 with rfl | rfl
  · exact dk_empty h hb
  · exact dt_empty h hb
theorem dc_any {u0 : HO} {pins : List (Addr × Obj)} {s : Shared} {σ : L2.St} {H : Hp} {Q : VK} {pos' : Pos} {use : Option (Value → Sem Unit)} {Qf : Value → Shared → Prop} (h0 : u0 = .dK [] ∨ u0 = .dT []) (hu : X.A.units + 1 < cLine) (hc : X.calm = true) (hN : X.N.Nodup) (hi : PI X tg iter wi) (ok : BlkOk X.N X.env.scope scope own)
    (hg : ∀ (s : Shared) (H : Hp) (C : Addr) (cl : List (Str × Addr)) (fp : List Addr), PG (X.blk s H scope (compEnvC scope cl C X.env) fp) tg g) (ht : ∀ (s : Shared) (H : Hp) (C : Addr) (cl : List (Str × Addr)) (fp : List Addr), PTs (X.blk s H scope (compEnvC scope cl C X.env) fp) ifs tt)
    (hk : ∀ (s : Shared) (H : Hp) (C : Addr) (cl : List (Str × Addr)) (fp : List Addr), PE (X.blk s H scope (compEnvC scope cl C X.env) fp) kx tk)
    (he : ∀ (s : Shared) (H : Hp) (C : Addr) (cl : List (Str × Addr)) (fp : List Addr), PE (X.blk s H scope (compEnvC scope cl C X.env) fp) vx tv) (hs : ∀ x, foldedSetIterable iter X.env x = pure x) (I : Inv X pins σ H s)
    (want : tDcA u0 wi g tt tk tv (own.map (·.2)) σ H Q) (post : ∀ D C s' m H', Inv X pins σ H' s' → Q (.ref D) H' → s'.heap.Ns C m → FpOk X pins H' C → compPost (model X.prog X.w) X.A X.xe use Qf (.ref D) C (.ok .next) s') :
    wpAny (model X.prog X.w) X.A (comprehension (.DictComp kx vx [⟨tg, iter, ifs, 0⟩] scope pos) scope X.env pos' newDict false (eval iter X.env) use) Qf X.xe s := by
  have cells : ∀ y ∈ scope.names, y.2 = .free → ∃ c, X.env.cells.lookup y.1 = some c := fun y hy e => (ok.free y hy e).elim (fun k => I.ok.has _ (.inl k)) fun k => I.ok.has _ (.inr k)
  refine wpAny_comprehension_free (use := use) rfl hs (closure_ok cells) ok.kind (fun y hy e => by rw [ok.uniq y hy, e]) (thn (hi.run pins s σ H _ I want) fun _ _ walk => thn walk fun _ s2 w2 => ?_)
  obtain ⟨it, fp, tn, J, H2, rfl, I2, T, st2, f2, plan⟩ := w2
  refine wpAny_newObj_type (newEnv_comp ?_)
  -- the dict that is born, at D
  obtain ⟨D, eD⟩ : ∃ D, s2.heap.objs.size = D := ⟨_, rfl⟩
  rw [eD]
  obtain ⟨W, ⟨m0, begin⟩, turn⟩ := plan D (I2.hok.fresh (Nat.le_of_eq eD))
  obtain ⟨s3, e3⟩ : ∃ s3 : Shared, ({ s2 with heap := s2.heap.push { cls := .type "dict", data := .dict #[] } } : Shared) = s3 := ⟨_, rfl⟩
  rw [e3]
  have heap3 : s3.heap = s2.heap.push { cls := .type "dict", data := .dict #[] } := by rw [← e3]
  have I3 : Inv X pins σ (upd H2 D u0) s3 := by
    rw [← e3]
    exact I2.laid (t' := s2.toks) (fun b o e => Heap.get?_push_of_some _ e) (Nat.le_of_eq eD) (eD ▸ born_any h0 s2.heap I2.big)
  have old : ∀ b ∈ fp, b < s2.heap.objs.size := fun b hb => (T.obj _ _ st2 b hb).elim fun _ e => Heap.lt_size e.1
  have f3 : ∀ b ∈ fp, FpOk X pins (upd H2 D u0) b ∧ b < s3.heap.objs.size := fun b hb =>
    ⟨⟨by rw [upd_ne (eD ▸ Nat.ne_of_lt (old b hb))]; exact (f2 b hb).1, (f2 b hb).2⟩, by rw [heap3, Heap.size_push]; exact Nat.lt_succ_of_lt (old b hb)⟩
  have st3 : tn 0 s3.heap := T.keep _ _ _ st2 fun b _ o e => by rw [heap3]; exact Heap.get?_push_of_some _ e
  have I4 := block_start I3 ok hN f3
  -- the block
  obtain ⟨cl, ecl⟩ : ∃ cl, cellsFrom (s3.heap.objs.size + 1) scope.names (cloFrom X.env.cells scope.names []) = cl := ⟨_, rfl⟩
  rw [ecl] at I4
  show codeAny _ _ (.compStart (.DictComp kx vx [⟨tg, iter, ifs, 0⟩] scope pos) 0 (.ref it) (.ref D) (compEnvC scope (cellsFrom (s3.heap.objs.size + 1) scope.names (cloFrom X.env.cells scope.names [])) s3.heap.objs.size X.env)) (compPost (model X.prog X.w) X.A X.xe use Qf (.ref D) s3.heap.objs.size) { s3 with heap := pushCells (s3.heap.push { cls := .type "dict", data := .dict #[] }) scope.names }
  rw [ecl]
  obtain ⟨H3, eH⟩ : ∃ H3, upd H2 D u0 = H3 := ⟨_, rfl⟩
  rw [eH] at I3 f3 begin
  rw [eH] at I4
  obtain ⟨ce, ece⟩ : ∃ ce, compEnvC scope cl s3.heap.objs.size X.env = ce := ⟨_, rfl⟩
  have loc : ce.locals = s3.heap.objs.size := by rw [← ece]; rfl
  have pg := hg s3 H3 s3.heap.objs.size cl fp
  have pt := ht s3 H3 s3.heap.objs.size cl fp
  have pk := hk s3 H3 s3.heap.objs.size cl fp
  have pv := he s3 H3 s3.heap.objs.size cl fp
  rw [ece] at I4 pg pt pk pv ⊢
  obtain ⟨s4, e4⟩ : ∃ s4 : Shared, ({ s3 with heap := pushCells (s3.heap.push { cls := .type "dict", data := .dict #[] }) scope.names } : Shared) = s4 := ⟨_, rfl⟩
  rw [e4] at I4 ⊢
  have st4 : tn 0 s4.heap := T.keep _ _ _ st3 fun b _ o e => by rw [← e4]; exact pushCells_keeps _ _ _ _ (Heap.get?_push_of_some _ e)
  -- the walk's own objects stand still
  have held : ∀ {σ' : L2.St} {H' : Hp} {s' : Shared}, Inv (X.blk s3 H3 scope ce fp) [] σ' H' s' → (∀ b ∈ fp, H' b = none) → ∀ b ∈ fp, FpOk (X.blk s3 H3 scope ce fp) [] H' b := fun {σ' H' s'} J' no b hb =>
    ⟨no b hb, (J'.ok.exf b hb).1, J'.ok.exfs b hb, .inl hb, fun x c e => (J'.ok.exf b hb).2 x c e, fun p hp => absurd (show p ∈ ([] : List (Addr × Obj)) ++ [] from hp) (by simp)⟩
  have loop : codeAny (model X.prog X.w) X.A (.compLoop (.DictComp kx vx [⟨tg, iter, ifs, 0⟩] scope pos) 0 (.ref it) (.ref D) ce) (compPost (model X.prog X.w) X.A X.xe use Qf (.ref D) s3.heap.objs.size) s4 := by
    refine compLoop_anyD (fun n s' => ∃ i H', Inv (X.blk s3 H3 scope ce fp) [] (wipe σ (own.map (·.2))) H' s' ∧ tn i s'.heap ∧ (∀ b ∈ fp, H' b = none) ∧ W i n H') ?_ m0 ⟨0, H3, I4, st4, fun b hb => (f3 b hb).1.1, begin⟩
    rintro n s5 ⟨i, H5, I5, st5, no5, w5⟩
    rcases turn i n H5 w5 with ⟨stop, fin⟩ | ⟨go, Nx, less, step⟩
    · refine thnF (T.done (X.blk s3 H3 scope ce fp) rfl rfl rfl hc i [] s5 _ H5 (fun _ _ => False) I5 (held I5 no5) st5 stop) fun r s6 ⟨hr, I6⟩ => ?_
      subst hr
      have I7 : Inv X pins σ H5 s6 := I3.call' (ch := fp) I6.os I6.base I6.hok I6.bare fun b hb => ⟨(f3 b hb).1.2.2.2.1, (f3 b hb).1.2.1, (f3 b hb).1.2.2.2.2.1, (f3 b hb).1.2.2.2.2.2⟩
      have nC : H5 s3.heap.objs.size = none := loc ▸ (I6.free : H5 ce.locals = none)
      obtain ⟨m, hn, _⟩ := I6.loc
      exact post D _ s6 m H5 I7 fin (loc ▸ (hn : s6.heap.Ns ce.locals m)) (I3.fpOk (Nat.le_refl _) nC)
    · refine thnF (T.item (X.blk s3 H3 scope ce fp) rfl rfl rfl hc i [] s5 _ H5 (fun _ _ => False) I5 (held I5 no5) st5 go) fun r s6 ⟨u, hr, h6⟩ => ?_
      subst hr
      refine thnF h6 fun _ s7 ⟨x, H7, I7, r7, y7, st7, no7⟩ => ?_
      have I8 := I7.pinned (held I7 no7) (T.obj _ _ st7)
      refine thnF (pg.run _ s7 _ H7 x u _ I8 r7 (step x H7 y7)) fun _ s8 ⟨σ8, H8, J8, same, q8⟩ => ?_
      refine thnF (pt.run _ s8 σ8 H8 _ J8 q8) fun b s9 ⟨H9, J9, q9⟩ => ?_
      have next : ∀ {s' : Shared} {H' : Hp}, Inv (X.blk s3 H3 scope ce fp) ([] ++ pinsAt fp s7.heap) σ8 H' s' → Nx H' → ∃ m, m < n ∧ ∃ i H', Inv (X.blk s3 H3 scope ce fp) [] (wipe σ (own.map (·.2))) H' s' ∧ tn i s'.heap ∧ (∀ b ∈ fp, H' b = none) ∧ W i m H' := fun {s' H'} J' nx => by
        obtain ⟨m', hm, w'⟩ := less H' nx
        have pin : ∀ b ∈ fp, ∀ o, s7.heap.get? b = some o → s'.heap.get? b = some o ∧ H' b = none := fun b hb o e => (J'.pin (b, o) (List.mem_append_right _ (List.mem_append_right _ (mem_pinsAt hb e)))).imp id And.left
        exact ⟨m', hm, i + 1, H', (J'.unpinned (pins := [])).weak (by rw [← same, wipe_length]) (fun j v e => (wipe_some (same ▸ e)).1), T.keep _ _ _ st7 fun b hb o e => (pin b hb o e).1, fun b hb => (T.obj _ _ st7 b hb).elim fun o e => (pin b hb o e.1).2, w'⟩
      cases b with
      | false =>
        simp only [Bool.false_eq_true, if_false] at q9 ⊢
        exact next J9 q9
      | true =>
        simp only [if_true] at q9 ⊢
        refine thnF (pk.run _ s9 σ8 H9 _ J9 q9) fun z s10 ⟨yk, H10, J10, r10, q10⟩ => ?_
        refine thnF (pv.run _ s10 σ8 H10 _ J10 q10) fun z2 s11 ⟨yv, H11, J11, r11, H12, g12, nx⟩ => ?_
        exact put_in (X := X.blk s3 H3 scope ce fp) hu J11 g12 r10 r11 fun s12 J12 => next J12 nx
  exact codeAny_compStart_dict loop (T.self X.A 0 _ _ _ st4 loop)
/-- as a value -/
theorem pe_dcA {u0 : HO} (h0 : u0 = .dK [] ∨ u0 = .dT []) (hu : X.A.units + 1 < cLine) (hc : X.calm = true) (hN : X.N.Nodup) (hi : PI X tg iter wi) (ok : BlkOk X.N X.env.scope scope own)
    (hg : ∀ (s : Shared) (H : Hp) (C : Addr) (cl : List (Str × Addr)) (fp : List Addr), PG (X.blk s H scope (compEnvC scope cl C X.env) fp) tg g) (ht : ∀ (s : Shared) (H : Hp) (C : Addr) (cl : List (Str × Addr)) (fp : List Addr), PTs (X.blk s H scope (compEnvC scope cl C X.env) fp) ifs tt)
    (hk : ∀ (s : Shared) (H : Hp) (C : Addr) (cl : List (Str × Addr)) (fp : List Addr), PE (X.blk s H scope (compEnvC scope cl C X.env) fp) kx tk)
    (he : ∀ (s : Shared) (H : Hp) (C : Addr) (cl : List (Str × Addr)) (fp : List Addr), PE (X.blk s H scope (compEnvC scope cl C X.env) fp) vx tv) (hs : ∀ x, foldedSetIterable iter X.env x = pure x := by intro _; rfl) :
    PE X (.DictComp kx vx [⟨tg, iter, ifs, 0⟩] scope pos) (tDcA u0 wi g tt tk tv (own.map (·.2))) := by
  refine ⟨fun pins s σ H Q I want => ?_⟩
  rw [arm_eval_DictComp]
  refine dc_any h0 hu hc hN hi ok hg ht hk he hs I want fun D C s' m H' J q hn f => ⟨m, hn, fun h'' sb => ?_⟩
  obtain ⟨q0, q1, q2, q3, q4, q5⟩ := f
  exact ⟨.ref D, H', J.turned (t' := s'.toks) (fun b o hb e => (sb.2 b hb).trans e) q0 q1 q3 q4 q5, rfl, q⟩
/-- y = {..} -/
theorem ps_setDcA {u0 : HO} {i : Nat} {y : Str} {py spos : Pos} (h0 : u0 = .dK [] ∨ u0 = .dT []) (hu : X.A.units + 1 < cLine) (hc : X.calm = true) (hN : X.N.Nodup) (hy : X.N[i]? = some y) (hyl : X.env.scope.names.lookup y = some .local)
    (hsw : swapsWith (.DictComp kx vx [⟨tg, iter, ifs, 0⟩] scope pos) (some (.Name y py)) spos.line X.env = pure true) (hi : PI X tg iter wi) (ok : BlkOk X.N X.env.scope scope own)
    (hg : ∀ (s : Shared) (H : Hp) (C : Addr) (cl : List (Str × Addr)) (fp : List Addr), PG (X.blk s H scope (compEnvC scope cl C X.env) fp) tg g) (ht : ∀ (s : Shared) (H : Hp) (C : Addr) (cl : List (Str × Addr)) (fp : List Addr), PTs (X.blk s H scope (compEnvC scope cl C X.env) fp) ifs tt)
    (hk : ∀ (s : Shared) (H : Hp) (C : Addr) (cl : List (Str × Addr)) (fp : List Addr), PE (X.blk s H scope (compEnvC scope cl C X.env) fp) kx tk)
    (he : ∀ (s : Shared) (H : Hp) (C : Addr) (cl : List (Str × Addr)) (fp : List Addr), PE (X.blk s H scope (compEnvC scope cl C X.env) fp) vx tv) (hs : ∀ x, foldedSetIterable iter X.env x = pure x := by intro _; rfl) :
    PS X (.Assign [.Name y py] (.DictComp kx vx [⟨tg, iter, ifs, 0⟩] scope pos) spos) (tAsg (tDcA u0 wi g tt tk tv (own.map (·.2))) (gName i)) := by
  refine ⟨fun pins s σ H D I want => ?_⟩
  rw [exec_Assign_Name_used _ _ _ _ hsw]
  refine wpAny_bind (wpAny_standAt (wpAny_bind ?_))
  show wpAny _ X.A (do let _ ← comprehension (.DictComp kx vx [⟨tg, iter, ifs, 0⟩] scope pos) scope X.env (firstIterPos [⟨tg, iter, ifs, 0⟩] pos) newDict false (eval iter X.env) (some (assign (.Name y py) X.env))) _ _ s
  have want : tDcA u0 wi g tt tk tv (own.map (·.2)) σ H (fun x H1 => gName i x σ H1 D.nx) := want
  refine wpAny_bind (thn (dc_any (Qf := fun _ s' => SP X pins D .next s') h0 hu hc hN hi ok hg ht hk he hs I want fun L C s' m H' J q hn f => ?_) fun _ s' hq => wpAny_pure (wpAny_pure hq))
  show wpAny _ _ (assign (.Name y py) X.env (.ref L)) _ _ _
  refine wpAny_assign_Name (store_ok2 (v := V.ref L) J hN hy (.inl hyl) rfl (fun s2 I2 ⟨a, sb, ha⟩ => ?_) (.inr hyl))
  obtain ⟨q0, q1, q2, q3, q4, q5⟩ := f
  have apart : C ≠ a := ha.elim (fun z => z ▸ q1) fun z e => q4 y a z e.symm
  exact ⟨m, hn.sameBut sb apart, fun h3 sb3 => ⟨_, H', I2.turned (t' := s2.toks) (fun b o hb e => (sb3.2 b hb).trans e) q0 q1 q3 q4 q5, q⟩⟩
end
end DL
/-! dict comprehensions over lists: what they say -/
namespace DL
open PySem PySem.Spec PyProof.Rows L2
open Evl (Ex)
theorem sw_trueD {kx vx : Expr} {gs : List Comprehension} {scope : Scope} {pos py : Pos} {y : Str} {l : Nat} {env : Env} (hk : env.scope.kind = .function) (hy : env.scope.names.lookup y = some .local) (hl : (py.line == pos.line) = true)
    (ha : (scope.names.any fun (n, k) => n == y && (k == .local || k == .cell)) = false) : swapsWith (.DictComp kx vx gs scope pos) (some (.Name y py)) l env = pure true := by
  have there : env.kindOf y = some .local := hy
  have body : env.blockKind = .function := by unfold Env.blockKind; rw [hk]; rfl
  unfold swapsWith
  simp only [body, there, ha, Expr.pos, hl]
  rfl
/-- a new dict: T says that its keys are tuples -/
def dct0 : Bool → MO
  | true => .dtt []
  | false => .dct []
def ho0 : Bool → HO
  | true => .dT []
  | false => .dK []
theorem ho0_or (T : Bool) : ho0 T = .dK [] ∨ ho0 T = .dT [] := by cases T <;> simp [ho0]
/-- a[i] = s -/
def dPutD (T : Bool) (a : Addr) (i s : Sl) (M : Mem) (Nx : Mem → Prop) : Prop := match T with
  | false => ∃ kvs d key, M a = some (.dct kvs) ∧ i = .dat d ∧ keyD d = some key ∧ kvs.length < 16777216 ∧ Nx (put M a (.dct (dput kvs key s)))
  | true => ∃ kvs d key, M a = some (.dtt kvs) ∧ i = .dat d ∧ keyT d = some key ∧ kvs.length < 16777216 ∧ Nx (put M a (.dtt (tput kvs key s)))
theorem dPutD_ok {T : Bool} {a : Addr} {i s : Sl} {M : Mem} {Nx : Mem → Prop} {H Hc : Hp} {y v : V} (O : Own H Hc M) (ri : Rp H i y) (rs : Rp H s v) (h : dPutD T a i s M Nx) : ∃ H6, DPut Hc a y v H6 ∧ ∃ M', Own H H6 M' ∧ Nx M' := by
  cases T with
  | false =>
    obtain ⟨kvs, d, key, hm, rfl, hk, hz, hn⟩ := h
    obtain ⟨ws, g1, g2⟩ := O.ob _ _ hm
    have ek := key_rp (show Dq H y d from ri) hk
    subst ek
    exact ⟨_, DPut.k g1 (by rw [rpk_len g2, sizeLine_eq]; exact hz), _, O.turn (u := .dct _) hm ⟨_, rfl, rpk_put g2 rs⟩, hn⟩
  | true =>
    obtain ⟨kvs, d, key, hm, rfl, hk, hz, hn⟩ := h
    obtain ⟨ws, g1, g2⟩ := O.ob _ _ hm
    obtain ⟨b, rfl, hb⟩ := keyT_rp (show Dq H y d from ri) hk
    exact ⟨_, DPut.t g1 (O.ex _ _ hb) (by rw [rpt_len g2, sizeLine_eq]; exact hz), _, O.turn (u := .dtt _) hm ⟨_, rfl, rpt_put g2 rs⟩, hn⟩
theorem Own.bornD {H Hc : Hp} {M : Mem} {p : Addr} (T : Bool) (O : Own H Hc M) (hp : Hc p = none) : Own H (upd Hc p (ho0 T)) (put M p (dct0 T)) := by
  cases T with
  | false => exact O.born (u := .dct []) hp ⟨[], rfl, .nil⟩
  | true => exact O.born (u := .dtt []) hp ⟨[], rfl, .nil⟩
/-- one turn -/
def dcTurn (T : Bool) (p : Addr) (Γ' : Fm) (t : DB) (dk dv : DE) (Nx : Mem → Prop) (M : Mem) : Prop := t Γ' M fun b M3 => (b = true → dk Γ' M3 fun y M4 => dv Γ' M4 fun z M5 => dPutD T p y z M5 Nx) ∧ (b = false → Nx M3)
def dDcL (T : Bool) (de : DE) (j : Nat) (t : DB) (dk dv : DE) (vs : List Nat) : DE := fun Γ M k => de Γ M fun s M1 => ∃ xs, IsL M1 s xs ∧ ∀ p, M1 p = none → ∃ Inv : Nat → Mem → Prop, Inv 0 (put M1 p (dct0 T)) ∧ (∀ i M', i ≤ xs.length → Inv i M' → IsL M' s xs) ∧
  (∀ i x M', xs[i]? = some x → Inv i M' → dcTurn T p ((wipeF Γ vs).set j (some x)) t dk dv (Inv (i + 1)) M') ∧ ∀ M', Inv xs.length M' → k (.own p) M'
section
variable {X : Cx} {de : DE}
theorem dc_end {T : Bool} {p : Addr} {Γ' : Fm} {t : DB} {dk dv : DE} {tt : TT} {tk tv : TE} (ht : SimB tt t) (hk : SimE tk dk) (hv : SimE tv dv) {Nx : Mem → Prop} {M' : Mem} {σ' : L2.St} {H1 H' Hc' : Hp} (e2 : Ex H1 H') (F2 : Fr H' σ' Γ') (O2 : Own H' Hc' M') (h : dcTurn T p Γ' t dk dv Nx M') :
    tt σ' Hc' fun b H3 => if b = true then tk σ' H3 fun y H4 => tv σ' H4 fun z H5 => ∃ H6, DPut H5 p y z H6 ∧ ∃ M5 H7, Ex H1 H7 ∧ Own H7 H6 M5 ∧ Nx M5 else ∃ M5 H7, Ex H1 H7 ∧ Own H7 H3 M5 ∧ Nx M5 := by
  refine ht _ M' _ _ H' Hc' _ h F2 O2 fun b M3 H3 Hc3 e3 O3 h3 => ?_
  cases b with
  | true =>
    rw [if_pos rfl]
    refine hk _ M3 _ _ H3 Hc3 _ (h3.1 rfl) (F2.ex e3) O3 fun y sy M4 H4 Hc4 e4 O4 r4 h4 => ?_
    refine hv _ M4 _ _ H4 Hc4 _ h4 (F2.ex (e3.trans e4)) O4 fun z sz M5 H5 Hc5 e5 O5 r5 h5 => ?_
    obtain ⟨H6, g, M6, O6, n6⟩ := dPutD_ok O5 (rp_ex e5 r4) r5 h5
    exact ⟨H6, g, M6, H5, e2.trans (e3.trans (e4.trans e5)), O6, n6⟩
  | false =>
    rw [if_neg Bool.false_ne_true]
    exact ⟨M3, H3, e2.trans e3, O3, h3.2 rfl⟩
theorem sim_dcL {T : Bool} {K : PySem.W.Frag} {te : TE} {j : Nat} {t : DB} {dk dv : DE} {tt : TT} {tk tv : TE} {vs : List Nat} (h : SimE te de) (ht : SimB tt t) (hk : SimE tk dk) (hv : SimE tv dv) (hj : j ∈ vs) : SimE (tDcA (ho0 T) (iList K te) (gName j) tt tk tv vs) (dDcL T de j t dk dv vs) := fun Γ M k σ H Hc Q hd F O q => by
  refine h Γ M _ σ H Hc _ hd F O fun v s M1 H1 Hc1 e1 O1 r1 h1 => ?_
  obtain ⟨xs, l, h1⟩ := h1
  obtain ⟨a, ws, rfl, g1, g2⟩ := l.at_ O1 r1
  refine ⟨a, rfl, ⟨ws, SqL.of g1⟩, fun p hp => ?_⟩
  obtain ⟨W, w0, wl, wt, wd⟩ := h1 p (O1.freeM hp)
  refine ⟨fun i m Hc' => m = xs.length - i ∧ i ≤ xs.length ∧ ∃ M' H', Ex H1 H' ∧ Own H' Hc' M' ∧ W i M', ⟨_, rfl, Nat.zero_le _, _, H1, Evl.Ex.refl _, O1.bornD T hp, w0⟩, ?_⟩
  rintro i m Hc' ⟨rfl, hi, M', H', e2, O2, w⟩
  obtain ⟨a', vs', e3, g3, g4⟩ := (wl i M' hi w).at_ O2 (rp_ex e2 r1)
  cases e3
  have hl := rps_len g4
  rcases Nat.lt_or_ge i xs.length with hlt | hge
  · obtain ⟨x0, hx0⟩ : ∃ x0, vs'[i]? = some x0 := ⟨vs'[i]'(by omega), List.getElem?_eq_getElem (by omega)⟩
    obtain ⟨sx, hs, rx⟩ := rps_get g4 hx0
    refine .inr ⟨⟨vs', x0, SqL.of g3, hx0⟩, fun Hc2 => ∃ M2 H2, Ex H1 H2 ∧ Own H2 Hc2 M2 ∧ W (i + 1) M2, fun Hc2 z => ⟨xs.length - (i + 1), by omega, rfl, by omega, z⟩, fun x Hy y => ?_⟩
    obtain ⟨rfl, y⟩ := y
    have ex : x = x0 := Option.some.inj ((y vs' (SqL.of g3)).symm.trans hx0)
    subst ex
    exact ⟨wipe_back hj _, dc_end ht hk hv e2 (((F.ex (e1.trans e2)).wipe vs).set rx) O2 (wt i sx M' hs w)⟩
  · have ei : i = xs.length := Nat.le_antisymm hi hge
    subst ei
    exact .inl ⟨⟨vs', SqL.of g3, by omega⟩, q _ (.own p) M' H' Hc' (e1.trans e2) O2 rfl (wd M' w)⟩
theorem xe_dcL {T : Bool} {ex : Expr} {j : Nat} {t : DB} {dk dv : DE} {vs : List Nat} (h : PE X ex (tDcA (ho0 T) (iList X.K (LE de)) (gName j) (LB t) (LE dk) (LE dv) vs)) (hj : j ∈ vs) : XE X ex (dDcL T de j t dk dv vs) := xe_of h (sim_dcL simLE simLB simLE simLE hj)
end
end DL
/-! dict(pairs), the keys whole numbers or texts -/
namespace DL
open PySem PySem.Spec PyProof.Rows L2
open Evl (Ex)
def kD : Key → Dt
  | .inl i => .int i
  | .inr x => .str x
theorem keyD_kD (k : Key) : keyD (kD k) = some k := by cases k <;> rfl
def mergeD : Kvs → Kvs → Kvs
  | d, [] => d
  | d, q :: l => mergeD (dput d q.1 q.2) l
theorem rpk_merge {H : Hp} : ∀ {l d : Kvs} {l' d' : List (Key × V)}, RpK H d d' → RpK H l l' → RpK H (mergeD d l) (mergeK d' l')
  | [], _, _, _, h, .nil => h
  | q :: l, d, _, d', h, .cons (b := b) r t => by
    obtain ⟨e, r2⟩ := r
    obtain ⟨k, v⟩ := b
    have e' : q.1 = k := e
    subst e'
    rename_i l'
    show RpK H (mergeD (dput d q.1 q.2) l) (mergeK (putK d' q.1 v) l')
    exact rpk_merge (l := l) (rpk_put h r2) t
def fDictP : DC := fun ss M k => match ss with
  | [s] => ∃ prs : List (Key × Dt), IsL M s (prs.map fun q => .dat (.tuple [kD q.1, q.2])) ∧ ∀ p, M p = none → k (.own p) (put M p (.dct (mergeD [] (prs.map fun q => (q.1, .dat q.2)))))
  | _ => False
theorem pairs_rp {K : PySem.W.Frag} {H Hc : Hp} {M : Mem} (O : Own H Hc M) : ∀ {prs : List (Key × Dt)} {vs : List V}, Rps H (prs.map fun q => .dat (.tuple [kD q.1, q.2])) vs →
    ∃ (ps : List Addr) (kvs : List (Key × V)), vs = ps.map V.ref ∧ Paired (fun p kv => SqT K Hc p [kV kv.1, kv.2]) ps kvs ∧ RpK H (prs.map fun q => (q.1, .dat q.2)) kvs
  | [], _, .nil => ⟨[], [], rfl, .nil, .nil⟩
  | q :: prs, _, .cons r t => by
    obtain ⟨ps, kvs, rfl, h1, h2⟩ := pairs_rp (K := K) O t
    obtain ⟨b, ws, rfl, hb, hw⟩ := dp_tup_inv (show Dq H _ (.tuple [kD q.1, q.2]) from r)
    cases hw with
    | cons rk hw =>
    cases hw with
    | cons rv hw =>
    cases hw
    have ek := key_rp rk (keyD_kD q.1)
    subst ek
    exact ⟨b :: ps, (q.1, _) :: kvs, rfl, .cons (SqT.of (O.ex _ _ hb)) h1, .cons ⟨rfl, rv⟩ h2⟩
theorem sim_dictP {K : PySem.W.Frag} : SimC (fun xs H Q => ∃ (a : Addr) (ps : List Addr) (kvs : List (Key × V)), xs = [.ref a] ∧ SqL K H a (ps.map V.ref) ∧ Paired (fun p kv => SqT K H p [kV kv.1, kv.2]) ps kvs ∧
    ∀ p, H p = none → Q (.ref p) (upd H p (.dK (mergeK [] kvs)))) fDictP := by
  intro ss M k xs H Hc Q h r O q
  unfold fDictP at h
  split at h
  · obtain ⟨x, rfl, rx⟩ := rps1 r
    obtain ⟨prs, l, h⟩ := h
    obtain ⟨a, vs, rfl, g1, g2⟩ := l.at_ O rx
    obtain ⟨ps, kvs, rfl, h1, h2⟩ := pairs_rp (K := K) O g2
    refine ⟨a, ps, kvs, rfl, SqL.of g1, h1, fun p hp => ?_⟩
    exact q (.ref p) (.own p) _ H _ (Evl.Ex.refl H) (O.born (u := .dct _) hp ⟨_, rfl, rpk_merge .nil h2⟩) rfl (h p (O.freeM hp))
  · exact h.elim
end DL
/-! dict(pairs), the keys tuples -/
namespace DL
open PySem PySem.Spec PyProof.Rows L2
open Evl (Ex)
def mergeT (d more : List (List Key × V)) : List (List Key × V) := more.foldl (fun acc kv => putK acc kv.1 kv.2) d
theorem kt_merge {H : Hp} : ∀ {more : List (List Key × V)} {rs : List (List Key × Addr × Value)} {d : List (List Key × V)} {xs : List (List Key × Addr × Value)}, KT H more rs → KT H d xs → KT H (mergeT d more) (storedAllH xs rs)
  | [], _, _, _, .nil, h => h
  | kv :: more, _, d, xs, .cons (b := b) r t, h => by
    obtain ⟨e1, e2, e3⟩ := r
    obtain ⟨ks, c, u⟩ := b
    have e1 : kv.1 = ks := e1
    subst e1
    rename_i rs
    show KT H (mergeT (putK d kv.1 kv.2) more) (storedAllH (storedH xs kv.1 c u) rs)
    exact kt_merge t (h.put kv.1 e2 e3)
theorem mergeT_len : ∀ (more d : List (List Key × V)), (mergeT d more).length ≤ d.length + more.length
  | [], d => by simp [mergeT]
  | kv :: more, d => by
    have h1 := mergeT_len more (putK d kv.1 kv.2)
    have h2 := length_putK d kv.1 kv.2
    show (mergeT (putK d kv.1 kv.2) more).length ≤ _
    rw [List.length_cons]
    omega
section
variable {X : Cx}
theorem pairsT_of {pins : List (Addr × Obj)} {σ : L2.St} {H : Hp} {s : Shared} (I : Inv X pins σ H s) : ∀ {ps : List Addr} {kvs : List (List Key × V)}, Paired (fun p kv => ∃ b, SqT X.K H p [.ref b, kv.2] ∧ H b = some (.tup (kv.1.map kV))) ps kvs →
    ∃ rs : List (List Key × Addr × Value), KT H kvs rs ∧ rs.length = ps.length ∧ ∀ (j : Nat) (q : List Key × Addr × Value), rs[j]? = some q → ∃ c, ps[j]? = some c ∧ IsTup s.heap c #[.ref q.2.1, q.2.2]
  | _, _, .nil => ⟨[], .nil, rfl, fun j q e => by simp at e⟩
  | _, _, .cons (a := p) (b := kv) h t => by
    obtain ⟨rs, r, hl, hp⟩ := pairsT_of I t
    obtain ⟨b, hq, hb⟩ := h
    obtain ⟨its, rv, ht, _⟩ := I.tuple hq
    obtain ⟨u, y, rfl, ru, ry⟩ := vals2 rv
    cases (show u = Value.ref b from ru)
    refine ⟨(kv.1, b, y) :: rs, .cons ⟨rfl, hb, ry⟩ r, by rw [List.length_cons, List.length_cons, hl], fun j q e => ?_⟩
    cases j with
    | zero =>
      cases e
      exact ⟨p, rfl, ht⟩
    | succ j => exact hp j q (by simpa using e)
/-- dict(xs) of a list of pairs (key, value), the keys tuples -/
theorem call_dictPT (hcalm : X.calm = true) (hu : X.A.units + 2 < cLine) : CallR X (.type "dict") (fun xs H Q => ∃ (a : Addr) (ps : List Addr) (kvs : List (List Key × V)), xs = [.ref a] ∧ SqL X.K H a (ps.map V.ref) ∧ Paired (fun p kv => ∃ b, SqT X.K H p [.ref b, kv.2] ∧ H b = some (.tup (kv.1.map kV))) ps kvs ∧
    ∀ p, H p = none → Q (.ref p) (upd H p (.dT (mergeT [] kvs)))) := by
  intro pins s σ H xs us Q I r q
  obtain ⟨a, ps, kvs, rfl, hq, hp, q⟩ := q
  obtain ⟨u, rfl, rx⟩ := vals1 r
  cases rx
  obtain ⟨its, rv, pl, hz⟩ := I.list hq
  have ei := refs_at rv
  subst ei
  rw [List.length_map] at hz
  obtain ⟨rs, rel, hl, hpr⟩ := pairsT_of I hp
  obtain ⟨o, n, ho, hc, hd, hdat⟩ := pl
  have keys : ∀ x ∈ rs, (tupleKind (mixKind X.prog X.w)).is s.heap x.1 x.2.1 := by
    have all : ∀ {l : List (List Key × V)} {m : List (List Key × Addr × Value)}, KT H l m → ∀ x ∈ m, (tupleKind (mixKind X.prog X.w)).is s.heap x.1 x.2.1 := by
      intro l m z
      induction z with
      | nil => intro x hx; exact nomatch hx
      | @cons p q ps qs hq t ih =>
        intro x hx
        rcases List.mem_cons.mp hx with rfl | hx
        · exact key_of I.hok (by rw [← hq.1]; exact hq.2.1)
        · exact ih x hx
    exact all rel
  have len : (rs.map fun x => (Value.ref x.2.1, x.2.2)).length = ps.length := by rw [List.length_map, hl]
  refine call_dict_pairsH (knd := tupleKind (mixKind X.prog X.w)) (ps := rs) (PairArg.list a (ps.map Value.ref).toArray (fun j => ps.getD j 0) (rs.map fun x => (Value.ref x.2.1, x.2.2))) (I.ok.hd hcalm) (show _ < cLine from hu) ⟨⟨o, n, ho, hc, hd, hdat⟩, by rw [List.size_toArray, List.length_map, len], fun j k v e => ?_⟩
    ⟨by rw [len, hl], fun i key v e => ?_⟩ (fun h' keep x hx => ?_) (by rw [len]; exact hz) fun h' tk hd' keep => ?_
  · rw [List.getElem?_map] at e
    cases hx : rs[j]? with
    | none => rw [hx] at e; cases e
    | some x =>
    rw [hx] at e
    cases e
    obtain ⟨c, h1, h2⟩ := hpr j x hx
    have eg : ps.getD j 0 = c := by rw [List.getD_eq_getElem?_getD, h1]; rfl
    dsimp only
    rw [eg]
    exact ⟨by simp [h1], .inl h2⟩
  · have e : (rs.map fun x => (Value.ref x.2.1, x.2.2))[i]? = some (key, v) := e
    rw [List.getElem?_map] at e
    cases hx : rs[i]? with
    | none => rw [hx] at e; cases e
    | some x =>
    rw [hx] at e
    cases e
    exact ⟨x.1, x.2.1, rfl, rfl⟩
  · exact (tupleKind_stays (knd := mixKind X.prog X.w)).stays (fun b ob _ _ e _ => keep b ob (Nat.ne_of_lt (Heap.lt_size e)) (fun z => nomatch z) e) (keys x hx)
  · have big : (s.heap.objs.size == sysModules) = false := beq_eq_false_iff_ne.mpr (Nat.ne_of_gt I.big)
    have fresh : H s.heap.objs.size = none := I.hok.fresh (Nat.le_refl _)
    have short : (mergeT [] kvs).length ≤ sizeLine := by
      refine Nat.le_trans (mergeT_len kvs []) ?_
      rw [List.length_nil, Nat.zero_add, Paired.length rel, hl]
      exact hz
    obtain ⟨q1, es, ep, g1, g2, g3, g4, _, g5⟩ := hd'
    refine ⟨.ref s.heap.objs.size, upd H s.heap.objs.size (.dT (mergeT [] kvs)), I.laid (t' := tk) (fun b ob e => keep b ob (fun z => nomatch z) e) (Nat.le_refl _) (show ObjOk X.prog X.w _ _ _ (.dT (mergeT [] kvs)) from ⟨short, big, storedAllH [] rs, (kt_merge rel .nil).keeps fun c ys ec => ?_, q1, es, ep, g1, g2, g3, g4, g5⟩), rfl, q _ fresh⟩
    rw [upd_ne (fun z => by rw [z, fresh] at ec; cases ec)]
    exact ec
end
theorem keysD_kD : ∀ ks : List Key, keysD (ks.map kD) = some ks
  | [] => rfl
  | k :: ks => by
    show (match keyD (kD k), keysD (ks.map kD) with
      | some k, some ks => some (k :: ks)
      | _, _ => none) = _
    rw [keyD_kD, keysD_kD ks]
def mergeTD : Tvs → Tvs → Tvs
  | d, [] => d
  | d, q :: l => mergeTD (tput d q.1 q.2) l
theorem rpt_merge {H : Hp} : ∀ {l d : Tvs} {l' d' : List (List Key × V)}, RpT H d d' → RpT H l l' → RpT H (mergeTD d l) (mergeT d' l')
  | [], _, _, _, h, .nil => h
  | q :: l, d, _, d', h, .cons (b := b) r t => by
    obtain ⟨e, r2⟩ := r
    obtain ⟨k, v⟩ := b
    have e' : q.1 = k := e
    subst e'
    rename_i l'
    show RpT H (mergeTD (tput d q.1 q.2) l) (mergeT (putK d' q.1 v) l')
    exact rpt_merge (l := l) (rpt_put h r2) t
def fDictPT : DC := fun ss M k => match ss with
  | [s] => ∃ prs : List (List Key × Dt), IsL M s (prs.map fun q => .dat (.tuple [.tuple (q.1.map kD), q.2])) ∧ ∀ p, M p = none → k (.own p) (put M p (.dtt (mergeTD [] (prs.map fun q => (q.1, .dat q.2)))))
  | _ => False
theorem pairsT_rp {K : PySem.W.Frag} {H Hc : Hp} {M : Mem} (O : Own H Hc M) : ∀ {prs : List (List Key × Dt)} {vs : List V}, Rps H (prs.map fun q => .dat (.tuple [.tuple (q.1.map kD), q.2])) vs →
    ∃ (ps : List Addr) (kvs : List (List Key × V)), vs = ps.map V.ref ∧ Paired (fun p kv => ∃ b, SqT K Hc p [.ref b, kv.2] ∧ Hc b = some (.tup (kv.1.map kV))) ps kvs ∧ RpT H (prs.map fun q => (q.1, .dat q.2)) kvs
  | [], _, .nil => ⟨[], [], rfl, .nil, .nil⟩
  | q :: prs, _, .cons r t => by
    obtain ⟨ps, kvs, rfl, h1, h2⟩ := pairsT_rp (K := K) O t
    obtain ⟨b, ws, rfl, hb, hw⟩ := dp_tup_inv (show Dq H _ (.tuple [.tuple (q.1.map kD), q.2]) from r)
    cases hw with
    | cons rk hw =>
    cases hw with
    | cons rv hw =>
    cases hw
    obtain ⟨c, rfl, hc⟩ := keyT_rp rk (show keyT (.tuple (q.1.map kD)) = some q.1 from keysD_kD q.1)
    exact ⟨b :: ps, (q.1, _) :: kvs, rfl, .cons ⟨c, SqT.of (O.ex _ _ hb), O.ex _ _ hc⟩ h1, .cons ⟨rfl, rv⟩ h2⟩
theorem sim_dictPT {K : PySem.W.Frag} : SimC (fun xs H Q => ∃ (a : Addr) (ps : List Addr) (kvs : List (List Key × V)), xs = [.ref a] ∧ SqL K H a (ps.map V.ref) ∧ Paired (fun p kv => ∃ b, SqT K H p [.ref b, kv.2] ∧ H b = some (.tup (kv.1.map kV))) ps kvs ∧
    ∀ p, H p = none → Q (.ref p) (upd H p (.dT (mergeT [] kvs)))) fDictPT := by
  intro ss M k xs H Hc Q h r O q
  unfold fDictPT at h
  split at h
  · obtain ⟨x, rfl, rx⟩ := rps1 r
    obtain ⟨prs, l, h⟩ := h
    obtain ⟨a, vs, rfl, g1, g2⟩ := l.at_ O rx
    obtain ⟨ps, kvs, rfl, h1, h2⟩ := pairsT_rp (K := K) O g2
    refine ⟨a, ps, kvs, rfl, SqL.of g1, h1, fun p hp => ?_⟩
    exact q (.ref p) (.own p) _ H _ (Evl.Ex.refl H) (O.born (u := .dtt _) hp ⟨_, rfl, rpt_merge .nil h2⟩) rfl (h p (O.freeM hp))
  · exact h.elim
end DL
/-! sorted(a dict whose keys are tuples) -/
namespace DL
open PySem PySem.Spec PyProof.Rows L2
open Evl (Ex)
abbrev tD (ks : List Key) : Dt := .tuple (ks.map kD)
theorem reads_key {h : Heap} {k : Key} {u : Value} (r : RelV (kV k) u) : PySem.Reads h u (kD k) [] := by
  cases k with
  | inl i => obtain ⟨t, rfl⟩ := r; exact .int i t
  | inr x => obtain ⟨t, rfl⟩ := r; exact .str x t
theorem reads_keys {h : Heap} : ∀ {ks : List Key} {us : List Value}, Vals (ks.map kV) us → PySem.ReadsAll h us (ks.map kD) []
  | [], _, .nil => .nil
  | k :: ks, _, .cons r t => .cons (as := []) (bs := []) (reads_key r) (reads_keys t)
theorem depth_keys : ∀ ks : List Key, PyData.depthAll (ks.map kD) = 0
  | [] => rfl
  | k :: ks => by
    have ih := depth_keys ks
    cases k <;> simp [kD, PyData.depthAll, PyData.depth, ih]
theorem depth_tD (ks : List Key) : (tD ks).depth ≤ 1 := by
  show (PyData.tuple (ks.map kD)).depth ≤ 1
  simp [PyData.depth, depth_keys]
def rSortT : List V → Hp → VK → Prop := fun vs H Q => ∃ (a : Addr) (kvs : List (List Key × V)), vs = [V.ref a] ∧ H a = some (.dT kvs) ∧ PySem.W.AllAlike (kvs.map fun q => tD q.1) ∧ PySem.W.Sortable (kvs.map fun q => tD q.1) ∧
  ∀ (qs : List (List Key × Addr)) (p : Addr), (∀ x ∈ qs, H x.2 = some (.tup (x.1.map kV))) → (qs.map fun x => tD x.1) = sortD (kvs.map fun q => tD q.1) → H p = none → Q (.ref p) (upd H p (.lst (qs.map fun x => V.ref x.2)))
section
variable {X : Cx}
theorem cr_sortT (hc : X.calm = true) (hu : X.A.units + 64 < cLine) : CallR X (.builtin "sorted") rSortT := by
  intro pins s σ H vs us Q I r h
  obtain ⟨a, kvs, rfl, ha, hal, hks, q⟩ := h
  rw [Vals.ref1 r]
  obtain ⟨hz, lo, xs, rel, o, es, ep, ho, hx, hdt, he, nd⟩ := I.hok a _ ha
  have hes : es.size = xs.length := size_of_entries he
  have lx : kvs.length = xs.length := Paired.length rel
  have raw : s.heap.DictRaw a es ep := ⟨o, ho, hx, hdt⟩
  rw [sizeLine_eq] at hz
  refine Calls.call_function_entry kind_sorted plain_sorted entry_sorted (args_sorted1 _) ?_
  unfold Builtin.«sorted»
  refine wpAny_bind (m := checkCount "sorted" 1 1 _) (wpAny_pure ?_)
  refine wpAny_bind (PySem.W.kdu_collect (A := X.A.in1) (PySem.KdlSrc.rawDict lo) (I.ok.hd hc) raw (by rw [sizeLine_eq]; omega) fun h' tk acc k1 hacc => ?_)
  have hsz : acc.toList.length = xs.length := by rw [Array.length_toList, hacc.1, hes]
  refine wpAny_bind (wpAny_newList ?_ (by rw [sizeLine_eq]; omega))
  obtain ⟨bs, ebs⟩ : ∃ bs : List (List Key × Addr), bs = xs.map fun x => (x.1, x.2.1) := ⟨_, rfl⟩
  have tups : ∀ b ∈ bs, H b.2 = some (.tup (b.1.map kV)) := by
    have go : ∀ {l : List (List Key × V)} {m : List (List Key × Addr × Value)}, Paired (fun (p : List Key × V) (q : List Key × Addr × Value) => p.1 = q.1 ∧ H q.2.1 = some (.tup (p.1.map kV)) ∧ RelV p.2 q.2.2) l m → ∀ b ∈ m.map (fun x => (x.1, x.2.1)), H b.2 = some (.tup (b.1.map kV)) := by
      intro l m z
      induction z with
      | nil => intro b hb; exact nomatch hb
      | cons r t ih =>
        intro b hb
        rcases List.mem_cons.mp hb with rfl | hb
        · exact r.1 ▸ r.2.1
        · exact ih b hb
    rw [ebs]
    exact go rel
  have keys : bs.map (fun b => tD b.1) = kvs.map fun q => tD q.1 := by
    have go : ∀ {l : List (List Key × V)} {m : List (List Key × Addr × Value)}, Paired (fun (p : List Key × V) (q : List Key × Addr × Value) => p.1 = q.1 ∧ H q.2.1 = some (.tup (p.1.map kV)) ∧ RelV p.2 q.2.2) l m → (m.map fun x => (x.1, x.2.1)).map (fun b => tD b.1) = l.map fun q => tD q.1 := by
      intro l m z
      induction z with
      | nil => rfl
      | cons r t ih => rw [List.map_cons, List.map_cons, List.map_cons, ih, r.1]
    rw [ebs]
    exact go rel
  have each : PySem.W.EachIs (fun v (b : List Key × Addr) => v = Value.ref b.2 ∧ H b.2 = some (.tup (b.1.map kV))) acc.toList bs := by
    have go : ∀ (us : List Value) (ns : List (List Key × Addr)), us.length = ns.length → (∀ (i : Nat) (u : Value) (n : List Key × Addr), us[i]? = some u → ns[i]? = some n → u = Value.ref n.2) → (∀ b ∈ ns, H b.2 = some (.tup (b.1.map kV))) → PySem.W.EachIs (fun v (b : List Key × Addr) => v = Value.ref b.2 ∧ H b.2 = some (.tup (b.1.map kV))) us ns := by
      intro us
      induction us with
      | nil => intro ns e _ _; cases ns with
        | nil => exact .nil
        | cons _ _ => cases e
      | cons u us ih => intro ns e h hb; cases ns with
        | nil => cases e
        | cons n ns => exact .cons ⟨h 0 u n rfl rfl, hb _ (List.mem_cons_self ..)⟩ (ih ns (Nat.succ.inj e) (fun i u' n' h1 h2 => h (i + 1) u' n' h1 h2) fun b z => hb b (List.mem_cons_of_mem _ z))
    refine go _ _ (by rw [hsz, ebs, List.length_map]) (fun i u n h1 h2 => ?_) tups
    obtain ⟨hi, e⟩ := hacc.2 i u (by rw [← Array.getElem?_toList]; exact h1)
    have q1 := entry_at he i
    rw [Array.getElem?_eq_getElem hi] at q1
    rw [ebs, List.getElem?_map] at h2
    cases hxi : xs[i]? with
    | none => rw [hxi] at h2; cases h2
    | some x =>
      rw [hxi] at h2 q1
      cases h2
      rw [e, Option.some.inj q1]
      rfl
  generalize acc.toList = vs at each hsz ⊢
  have hoL : (h'.push (seqObj "list" vs.toArray 0)).get? h'.objs.size = some (seqObj "list" vs.toArray 0) := Heap.get?_push_size _ rfl
  have I2 : Inv X pins σ H { s with heap := h'.push (seqObj "list" vs.toArray 0), toks := tk } := I.kept (t' := tk) fun b ob z => Heap.get?_push_of_some _ (k1 b ob z)
  have er : PySem.W.EachIs (fun v (b : List Key × Addr) => ∃ as, PySem.Reads (h'.push (seqObj "list" vs.toArray 0)) v (tD b.1) as ∧ h'.objs.size ∉ as) vs bs := each.mono fun v b ⟨e, hb⟩ => by
    subst e
    obtain ⟨_, its, rv, ob, hob, hc1, n, hd1⟩ := I2.hok _ _ hb
    exact ⟨[], .tuple hob hc1 hd1 (reads_keys rv), fun z => (nomatch z)⟩
  have hlb : bs.length = xs.length := by rw [ebs, List.length_map]
  refine wpAny_bind (wpAny_holding (PySem.W.list_sort_data (enc := fun b : List Key × Addr => tD b.1) (s := { s with heap := h'.push (seqObj "list" vs.toArray 0), toks := tk }) hoL each er (by rw [keys]; exact hal) (by rw [keys]; exact hks) (by rw [sizeLine_eq]; omega) (fun b _ => by
    have := depth_tD b.1
    show _ + 1 + 1 + _ < _
    omega) fun out a1 a2 => ?_))
  obtain ⟨c, hc2⟩ := sortedHeap_at (vs := vs) (out := List.toArray out) hoL
  have k2 : ∀ b u, h'.get? b = some u → (sortedHeap (h'.push (seqObj "list" vs.toArray 0)) h'.objs.size vs (List.toArray out)).get? b = some u := fun b u q => by
    have hlt := Heap.lt_size q
    rw [sortedHeap_old (Nat.ne_of_lt hlt) (by rw [size_push']; exact Nat.lt_succ_of_lt hlt)]
    exact Heap.get?_push_of_some _ q
  have I3 : Inv X pins σ H { s with heap := h', toks := tk } := I.kept (t' := tk) k1
  have hn : H h'.objs.size = none := I3.hok.fresh (Nat.le_refl _)
  obtain ⟨qs, eqs⟩ : ∃ qs, qs = bs.mergeSort (PySem.W.dataLe false fun b : List Key × Addr => tD b.1) := ⟨_, rfl⟩
  rw [← eqs] at a2
  have pq : qs.Perm bs := by rw [eqs]; exact List.mergeSort_perm _ _
  have hv : Vals (qs.map fun x => V.ref x.2) out := by
    have go : ∀ {us : List Value} {ns : List (List Key × Addr)}, PySem.W.EachIs (fun v (b : List Key × Addr) => v = Value.ref b.2 ∧ H b.2 = some (.tup (b.1.map kV))) us ns → Vals (ns.map fun x => V.ref x.2) us := by
      intro us ns h
      induction h with
      | nil => exact .nil
      | cons h _ ih => exact .cons h.1 ih
    exact go a2
  refine wpAny_pure ⟨_, rfl, .ref _, upd H h'.objs.size (.lst (qs.map fun x => V.ref x.2)), I3.laid (t' := tk) k2 (Nat.le_refl _) ⟨?_, out, c, hv, hc2⟩, rfl, q qs _ (fun x hx => tups x (pq.mem_iff.mp hx)) ?_ hn⟩
  · rw [List.length_map, pq.length_eq, sizeLine_eq]; omega
  · rw [eqs, ← keys]
    exact List.map_mergeSort (fun a _ b _ => rfl)
end
/-- the tuples qs stand still -/
theorem Own.keyeds {H Hc : Hp} {M : Mem} : ∀ (qs : List (List Key × Addr)), Own H Hc M → (∀ x ∈ qs, Hc x.2 = some (.tup (x.1.map kV))) → ∃ H', Ex H H' ∧ Own H' Hc M ∧ ∀ x ∈ qs, H' x.2 = some (.tup (x.1.map kV))
  | [], O, _ => ⟨H, Ex.refl H, O, fun x hx => nomatch hx⟩
  | x :: qs, O, h => by
    obtain ⟨H1, e1, O1, h1⟩ := O.keyed (h x (List.mem_cons_self ..))
    obtain ⟨H2, e2, O2, h2⟩ := Own.keyeds qs O1 fun y hy => h y (List.mem_cons_of_mem _ hy)
    refine ⟨H2, e1.trans e2, O2, fun y hy => ?_⟩
    rcases List.mem_cons.mp hy with rfl | hy
    · exact e2 _ _ h1
    · exact h2 y hy
theorem dq_keys {H : Hp} : ∀ ks : List Key, DqAll H (ks.map kV) (ks.map kD)
  | [] => .nil
  | .inl i :: ks => .cons (.int i) (dq_keys ks)
  | .inr x :: ks => .cons (.str x) (dq_keys ks)
theorem dq_tD {H : Hp} {ks : List Key} {q : Addr} (h : H q = some (.tup (ks.map kV))) : Dq H (.ref q) (tD ks) := .tup h (dq_keys ks)
def fSortT : DC := fun ss M k => match ss with
  | [.own a] => ∃ kvs : Tvs, M a = some (.dtt kvs) ∧ kvs.length ≤ 16777216 ∧ PySem.W.AllAlike (kvs.map fun q => tD q.1) ∧ PySem.W.Sortable (kvs.map fun q => tD q.1) ∧ ∀ p, M p = none → k (.own p) (put M p (.lst ((sortD (kvs.map fun q => tD q.1)).map .dat)))
  | _ => False
theorem rpt_keys {H : Hp} : ∀ {kvs : Tvs} {ws : List (List Key × V)}, RpT H kvs ws → (ws.map fun q => tD q.1) = kvs.map fun q => tD q.1
  | [], _, .nil => rfl
  | _ :: _, _, .cons r t => by rw [List.map_cons, List.map_cons, rpt_keys t, r.1]
theorem rps_keyeds {H : Hp} : ∀ {qs : List (List Key × Addr)}, (∀ x ∈ qs, H x.2 = some (.tup (x.1.map kV))) → Rps H ((qs.map fun x => tD x.1).map .dat) (qs.map fun x => V.ref x.2)
  | [], _ => .nil
  | x :: qs, h => .cons (dq_tD (h x (List.mem_cons_self ..))) (rps_keyeds fun y hy => h y (List.mem_cons_of_mem _ hy))
theorem sim_sortT : SimC rSortT fSortT := by
  intro ss M k xs H Hc Q h r O q
  unfold fSortT at h
  split at h
  · obtain ⟨x, rfl, rx⟩ := rps1 r
    obtain ⟨kvs, hm, hz, hal, hks, h⟩ := h
    cases rx
    obtain ⟨ws, g1, g2⟩ := O.ob _ _ hm
    have ek := rpt_keys (H := H) g2
    refine ⟨_, ws, rfl, g1, by rw [ek]; exact hal, by rw [ek]; exact hks, fun qs p hq es hp => ?_⟩
    obtain ⟨H1, e1, O1, h1⟩ := O.keyeds qs hq
    have := rps_keyeds h1
    rw [es, ek] at this
    refine (q.ex e1).own O1 this ?_ hp (h p (O.freeM hp))
    rw [List.length_map, sortD_len, List.length_map, sizeLine_eq]; exact hz
  · exact h.elim
end DL
/-! a dict of ours walked: comprehensions and loops over its keys -/
namespace DL
open PySem PySem.Spec PyProof.Rows L2
open Evl (Ex)
def keysOf : MO → Option (List Dt)
  | .dct kvs => some (kvs.map fun q => kD q.1)
  | .dtt kvs => some (kvs.map fun q => tD q.1)
  | _ => none
/-- u while it is walked -/
def Lock (u L : MO) : Prop := match u with
  | .dct kvs => ∃ od ws, L = .fdk od ws kvs
  | .dtt kvs => ∃ od ws, L = .fdt od ws kvs
  | _ => False
structure KeyIt (a : Addr) (od : Obj) (hu : HO) (ks : List Dt) (J : It) : Prop where
  run : ∀ (R : It → Hp → Prop) (Hc : Hp), Hc a = some (.frz od hu) → R J Hc → ∃ d o, V.ref a = .ref d ∧ ((∃ kvs, Hc d = some (.frz o (.dK kvs)) ∧ R (Itk d o kvs) Hc) ∨ ∃ kvs, Hc d = some (.frz o (.dT kvs)) ∧ R (Itkt d o kvs) Hc)
  go : ∀ (i : Nat) (Hc : Hp), Hc a = some (.frz od hu) → i < ks.length → J.go i Hc
  stop : ∀ (i : Nat) (Hc : Hp), Hc a = some (.frz od hu) → ks.length ≤ i → J.stop i Hc
  yld : ∀ (i : Nat) (Hc : Hp) (x : V) (Hy : Hp) (d : Dt), ks[i]? = some d → J.yld i Hc x Hy → Hy = Hc ∧ ∀ (H : Hp) (M : Mem), Own H Hc M → ∃ H2, Ex H H2 ∧ Own H2 Hc M ∧ Dq H2 x d
theorem dq_kD {H : Hp} (k : Key) : Dq H (kV k) (kD k) := by cases k with
  | inl i => exact .int i
  | inr x => exact .str x
theorem keyIt_k {a : Addr} {od : Obj} {ws : List (Key × V)} : KeyIt a od (.dK ws) (ws.map fun q => kD q.1) (Itk a od ws) := by
  refine ⟨fun R Hc h r => ⟨a, od, rfl, .inl ⟨ws, h, r⟩⟩, fun i Hc h hi => ⟨h, by rw [List.length_map] at hi; exact hi⟩, fun i Hc h hi => ⟨h, by rw [List.length_map] at hi; exact hi⟩, fun i Hc x Hy d hd y => ?_⟩
  obtain ⟨rfl, k, v, h1, rfl⟩ := y
  rw [List.getElem?_map, h1] at hd
  cases hd
  exact ⟨rfl, fun H M O => ⟨H, Ex.refl H, O, dq_kD k⟩⟩
theorem keyIt_t {a : Addr} {od : Obj} {ws : List (List Key × V)} : KeyIt a od (.dT ws) (ws.map fun q => tD q.1) (Itkt a od ws) := by
  refine ⟨fun R Hc h r => ⟨a, od, rfl, .inr ⟨ws, h, r⟩⟩, fun i Hc h hi => ⟨h, by rw [List.length_map] at hi; exact hi⟩, fun i Hc h hi => ⟨h, by rw [List.length_map] at hi; exact hi⟩, fun i Hc x Hy d hd y => ?_⟩
  obtain ⟨rfl, k, v, q, h1, rfl, hq⟩ := y
  rw [List.getElem?_map, h1] at hd
  cases hd
  refine ⟨rfl, fun H M O => ?_⟩
  obtain ⟨H2, e2, O2, h2⟩ := O.keyed hq
  exact ⟨H2, e2, O2, dq_tD h2⟩
theorem rpk_keys {H : Hp} : ∀ {kvs : Kvs} {ws : List (Key × V)}, RpK H kvs ws → (ws.map fun q => kD q.1) = kvs.map fun q => kD q.1
  | [], _, .nil => rfl
  | _ :: _, _, .cons r t => by rw [List.map_cons, List.map_cons, rpk_keys t, r.1]
theorem lock_own {H Hc : Hp} {M : Mem} {a : Addr} {u : MO} {ks : List Dt} (O : Own H Hc M) (hm : M a = some u) (hk : keysOf u = some ks) : ∃ hu, Hc a = some hu ∧ Mut (some hu) ∧ ∀ od, ∃ J L, Lock u L ∧ KeyIt a od hu ks J ∧ Own H (upd Hc a (.frz od hu)) (put M a L) ∧
    ∀ H' Hc' M', Own H' Hc' M' → M' a = some L → Hc' a = some (.frz od hu) ∧ Own H' (upd Hc' a hu) (put M' a u) := by
  cases u with
  | dct kvs =>
    cases hk
    obtain ⟨ws, g1, g2⟩ := O.ob _ _ hm
    refine ⟨.dK ws, g1, True.intro, fun od => ⟨Itk a od ws, .fdk od ws kvs, ⟨od, ws, rfl⟩, ?_, O.turn (u := .fdk od ws kvs) hm ⟨rfl, g2⟩, fun H' Hc' M' O' h => ?_⟩⟩
    · rw [← rpk_keys g2]; exact keyIt_k
    · obtain ⟨h1, h2⟩ := O'.ob _ _ h
      exact ⟨h1, O'.turn (u := .dct kvs) h ⟨ws, rfl, h2⟩⟩
  | dtt kvs =>
    cases hk
    obtain ⟨ws, g1, g2⟩ := O.ob _ _ hm
    refine ⟨.dT ws, g1, True.intro, fun od => ⟨Itkt a od ws, .fdt od ws kvs, ⟨od, ws, rfl⟩, ?_, O.turn (u := .fdt od ws kvs) hm ⟨rfl, g2⟩, fun H' Hc' M' O' h => ?_⟩⟩
    · rw [← rpt_keys g2]; exact keyIt_t
    · obtain ⟨h1, h2⟩ := O'.ob _ _ h
      exact ⟨h1, O'.turn (u := .dtt kvs) h ⟨ws, rfl, h2⟩⟩
  | _ => cases hk
theorem iKeys_of {te : TE} {de : DE} {a : Addr} {od : Obj} {hu : HO} {ks : List Dt} {J : It} {L : MO} {H Hc : Hp} {M : Mem} {Γ : Fm} {σ : L2.St} {R : It → Hp → Prop} {Z : Mem → Prop} (h : SimE te de) (KI : KeyIt a od hu ks J) (F : Fr H σ Γ) (O : Own H Hc M)
    (fz : ∀ H' Hc' M', Own H' Hc' M' → M' a = some L → Hc' a = some (.frz od hu)) (hd : de Γ M fun s M1 => s = .own a ∧ M1 a = some L ∧ Z M1) (k : ∀ M1 H1 Hc1, Ex H H1 → Own H1 Hc1 M1 → Z M1 → R J Hc1) : iKeys te σ Hc R := by
  refine h Γ M _ σ H Hc _ hd F O fun v s M1 H1 Hc1 e1 O1 r1 h1 => ?_
  obtain ⟨rfl, hm1, h1⟩ := h1
  cases r1
  exact KI.run R Hc1 (fz H1 Hc1 M1 O1 hm1) (k M1 H1 Hc1 e1 O1 h1)
/-! ### list comprehensions -/
abbrev Tn := Addr → Fm → (Mem → Prop) → Sl → Mem → Prop
def dLcKg (de : DE) (tn : Tn) : DE := fun Γ M k => ∃ a u ks, M a = some u ∧ keysOf u = some ks ∧ ∀ L, Lock u L → de Γ (put M a L) fun s M1 => s = .own a ∧ M1 a = some L ∧ ∀ p, M1 p = none → ∃ Inv : Nat → Mem → Prop, Inv 0 (put M1 p (.lst [])) ∧
  (∀ i M', i ≤ ks.length → Inv i M' → M' a = some L) ∧ (∀ i d M', ks[i]? = some d → Inv i M' → tn p Γ (Inv (i + 1)) (.dat d) M') ∧ ∀ M', Inv ks.length M' → k (.own p) (put M' a u)
/-- the turn's word, as the layer reads it -/
def TnOk (tn : Tn) (g : TG) (tt : TT) (te : TE) (vs : List Nat) : Prop := ∀ {p : Addr} {Γ : Fm} {Nx : Mem → Prop} {sx : Sl} {x : V} {M' : Mem} {σ : L2.St} {H1 H' Hc' : Hp}, Ex H1 H' → Rp H' sx x → Fr H' σ Γ → Own H' Hc' M' → tn p Γ Nx sx M' →
  g x (wipe σ vs) Hc' fun σ2 H2 => wipe σ2 vs = wipe σ vs ∧ tt σ2 H2 fun b H3 => if b = true then te σ2 H3 fun y H4 => ∃ acc, H4 p = some (.lst acc) ∧ acc.length < sizeLine ∧ ∃ M5 H5, Ex H1 H5 ∧ Own H5 (upd H4 p (.lst (acc ++ [y]))) M5 ∧ Nx M5 else ∃ M5 H5, Ex H1 H5 ∧ Own H5 H3 M5 ∧ Nx M5
theorem sim_lcKg {de : DE} {te : TE} {g : TG} {tt : TT} {tel : TE} {vs : List Nat} {tn : Tn} (h : SimE te de) (hT : TnOk tn g tt tel vs) : SimE (tLockE (tLc (iKeys te) g tt tel vs)) (dLcKg de tn) := fun Γ M k σ H Hc Q hd F O q => by
  obtain ⟨a, u, ks, hm, hk, hd⟩ := hd
  obtain ⟨hu, hca, mu, lk⟩ := lock_own O hm hk
  refine ⟨a, hu, hca, mu, fun od => ?_⟩
  obtain ⟨J, L, hL, KI, O0, un⟩ := lk od
  unfold tLc
  refine iKeys_of h KI F O0 (fun H' Hc' M' O' h' => (un H' Hc' M' O' h').1) (hd L hL) fun M1 H1 Hc1 e1 O1 h1 p hp => ?_
  obtain ⟨W, w0, wl, wt, wd⟩ := h1 p (O1.freeM hp)
  refine ⟨fun i m Hc' => m = ks.length - i ∧ i ≤ ks.length ∧ ∃ M' H', Ex H1 H' ∧ Own H' Hc' M' ∧ W i M', ⟨_, rfl, Nat.zero_le _, _, H1, Evl.Ex.refl _, O1.born (u := .lst []) hp ⟨Nat.zero_le _, [], rfl, .nil⟩, w0⟩, ?_⟩
  rintro i m Hc' ⟨rfl, hi, M', H', e2, O2, w⟩
  have hfr := un H' Hc' M' O2 (wl i M' hi w)
  rcases Nat.lt_or_ge i ks.length with hlt | hge
  · refine .inr ⟨KI.go i Hc' hfr.1 hlt, fun Hc2 => ∃ M2 H2, Ex H1 H2 ∧ Own H2 Hc2 M2 ∧ W (i + 1) M2, fun Hc2 z => ⟨ks.length - (i + 1), by omega, rfl, by omega, z⟩, fun x Hy y => ?_⟩
    have hx : ks[i]? = some ks[i] := List.getElem?_eq_getElem hlt
    obtain ⟨rfl, y⟩ := KI.yld i Hc' x Hy _ hx y
    obtain ⟨H3, e3, O3, rx⟩ := y H' M' O2
    exact hT (e2.trans e3) (sx := .dat _) rx (F.ex (e1.trans (e2.trans e3))) O3 (wt i _ M' hx w)
  · have ei : i = ks.length := Nat.le_antisymm hi hge
    subst ei
    exact .inl ⟨KI.stop _ Hc' hfr.1 (Nat.le_refl _), hfr.1, q _ (.own p) _ H' _ (e1.trans e2) hfr.2 rfl (wd M' w)⟩
abbrev dLcK (de : DE) (j : Nat) (t : DB) (el : DE) (vs : List Nat) : DE := dLcKg de fun p Γ Nx x M => lcTurn p Γ vs j t el Nx x M
abbrev dLcKP (de : DE) (js : List Nat) (t : DB) (el : DE) (vs : List Nat) : DE := dLcKg de fun p Γ Nx x M => lcTurnP p Γ vs js t el Nx x M
section
variable {X : Cx} {de : DE}
theorem sim_lcK {te : TE} {j : Nat} {t : DB} {el : DE} {tt : TT} {tel : TE} {vs : List Nat} (h : SimE te de) (ht : SimB tt t) (hel : SimE tel el) (hj : j ∈ vs) : SimE (tLockE (tLc (iKeys te) (gName j) tt tel vs)) (dLcK de j t el vs) :=
  sim_lcKg h fun e2 rx F O2 h => lc_turn ht hel hj e2 rx F O2 h
theorem sim_lcKP {K : PySem.W.Frag} {te : TE} {js : List Nat} {t : DB} {el : DE} {tt : TT} {tel : TE} {vs : List Nat} (h : SimE te de) (ht : SimB tt t) (hel : SimE tel el) (hj : ∀ j ∈ js, j ∈ vs) : SimE (tLockE (tLc (iKeys te) (gTup K js.length (gNs js)) tt tel vs)) (dLcKP de js t el vs) :=
  sim_lcKg h fun e2 rx F O2 h => lc_turnP ht hel hj e2 rx F O2 h
theorem xe_lcK {ex : Expr} {j : Nat} {t : DB} {el : DE} {vs : List Nat} (h : PE X ex (tLc (iKeys (LE de)) (gName j) (LB t) (LE el) vs)) (hj : j ∈ vs) : XE X ex (dLcK de j t el vs) := xe_of (pe_lock h) (sim_lcK simLE simLB simLE hj)
theorem xe_lcKP {ex : Expr} {js : List Nat} {t : DB} {el : DE} {vs : List Nat} {n : Nat} (h : PE X ex (tLc (iKeys (LE de)) (gTup X.K n (gNs js)) (LB t) (LE el) vs)) (hn : n = js.length) (hj : ∀ j ∈ js, j ∈ vs) : XE X ex (dLcKP de js t el vs) := by
  subst hn
  exact xe_of (pe_lock h) (sim_lcKP simLE simLB simLE hj)
/-- y = [.. for .. in d] -/
theorem xs_asgNL {st : Stmt} {te : TE} {i : Nat} (h : PS X st (tAsg te (gName i))) (s : SimE (tLockE te) de) : XS X st (dAsg de (gN i)) := xs_of (ps_lock h) fun Γ M D σ H Hc E hd F O q =>
  s Γ M _ σ H Hc (fun x H1 => E.nx (σ.set i (some x)) H1) hd F O fun v s M1 H1 Hc1 e1 O1 r1 h1 => q.nx _ _ M1 H1 Hc1 e1 ((F.ex e1).set r1) O1 h1
/-! ### dict comprehensions -/
def dDcK (T : Bool) (de : DE) (j : Nat) (t : DB) (dk dv : DE) (vs : List Nat) : DE := fun Γ M k => ∃ a u ks, M a = some u ∧ keysOf u = some ks ∧ ∀ L, Lock u L → de Γ (put M a L) fun s M1 => s = .own a ∧ M1 a = some L ∧ ∀ p, M1 p = none → ∃ Inv : Nat → Mem → Prop, Inv 0 (put M1 p (dct0 T)) ∧
  (∀ i M', i ≤ ks.length → Inv i M' → M' a = some L) ∧ (∀ i d M', ks[i]? = some d → Inv i M' → dcTurn T p ((wipeF Γ vs).set j (some (.dat d))) t dk dv (Inv (i + 1)) M') ∧ ∀ M', Inv ks.length M' → k (.own p) (put M' a u)
theorem sim_dcK {T : Bool} {te : TE} {j : Nat} {t : DB} {dk dv : DE} {tt : TT} {tk tv : TE} {vs : List Nat} (h : SimE te de) (ht : SimB tt t) (hk : SimE tk dk) (hv : SimE tv dv) (hj : j ∈ vs) : SimE (tLockE (tDcA (ho0 T) (iKeys te) (gName j) tt tk tv vs)) (dDcK T de j t dk dv vs) := fun Γ M k σ H Hc Q hd F O q => by
  obtain ⟨a, u, ks, hm, hks, hd⟩ := hd
  obtain ⟨hu, hca, mu, lk⟩ := lock_own O hm hks
  refine ⟨a, hu, hca, mu, fun od => ?_⟩
  obtain ⟨J, L, hL, KI, O0, un⟩ := lk od
  unfold tDcA
  refine iKeys_of h KI F O0 (fun H' Hc' M' O' h' => (un H' Hc' M' O' h').1) (hd L hL) fun M1 H1 Hc1 e1 O1 h1 p hp => ?_
  obtain ⟨W, w0, wl, wt, wd⟩ := h1 p (O1.freeM hp)
  refine ⟨fun i m Hc' => m = ks.length - i ∧ i ≤ ks.length ∧ ∃ M' H', Ex H1 H' ∧ Own H' Hc' M' ∧ W i M', ⟨_, rfl, Nat.zero_le _, _, H1, Evl.Ex.refl _, O1.bornD T hp, w0⟩, ?_⟩
  rintro i m Hc' ⟨rfl, hi, M', H', e2, O2, w⟩
  have hfr := un H' Hc' M' O2 (wl i M' hi w)
  rcases Nat.lt_or_ge i ks.length with hlt | hge
  · refine .inr ⟨KI.go i Hc' hfr.1 hlt, fun Hc2 => ∃ M2 H2, Ex H1 H2 ∧ Own H2 Hc2 M2 ∧ W (i + 1) M2, fun Hc2 z => ⟨ks.length - (i + 1), by omega, rfl, by omega, z⟩, fun x Hy y => ?_⟩
    have hx : ks[i]? = some ks[i] := List.getElem?_eq_getElem hlt
    obtain ⟨rfl, y⟩ := KI.yld i Hc' x Hy _ hx y
    obtain ⟨H3, e3, O3, rx⟩ := y H' M' O2
    exact ⟨wipe_back hj _, dc_end ht hk hv (e2.trans e3) (((F.ex (e1.trans (e2.trans e3))).wipe vs).set (s := .dat _) rx) O3 (wt i _ M' hx w)⟩
  · have ei : i = ks.length := Nat.le_antisymm hi hge
    subst ei
    exact .inl ⟨KI.stop _ Hc' hfr.1 (Nat.le_refl _), hfr.1, q _ (.own p) _ H' _ (e1.trans e2) hfr.2 rfl (wd M' w)⟩
theorem xe_dcK {T : Bool} {ex : Expr} {j : Nat} {t : DB} {dk dv : DE} {vs : List Nat} (h : PE X ex (tDcA (ho0 T) (iKeys (LE de)) (gName j) (LB t) (LE dk) (LE dv) vs)) (hj : j ∈ vs) : XE X ex (dDcK T de j t dk dv vs) := xe_of (pe_lock h) (sim_dcK simLE simLB simLE simLE hj)
/-! ### loops -/
def DEnds.lock (D : DEnds) (a : Addr) (L u : MO) : DEnds :=
  ⟨fun Γ M => M a = some L ∧ D.nx Γ (put M a u), fun s M => M a = some L ∧ D.rt s (put M a u), fun Γ M => M a = some L ∧ D.bk Γ (put M a u), fun Γ M => M a = some L ∧ D.ct Γ (put M a u)⟩
def dForK (de : DE) (g : DG) (tb : DS) : DS := fun D Γ M => ∃ a u ks, M a = some u ∧ keysOf u = some ks ∧ ∀ L, Lock u L → de Γ (put M a L) fun s M1 => s = .own a ∧ M1 a = some L ∧ ∃ Inv : Nat → Fm → Mem → Prop, Inv 0 Γ M1 ∧ (∀ i Γ' M', i ≤ ks.length → Inv i Γ' M' → M' a = some L) ∧
  (∀ i d Γ' M', ks[i]? = some d → Inv i Γ' M' → g (.dat d) Γ' M' fun Γ2 M2 => tb { D.lock a L u with nx := Inv (i + 1), ct := Inv (i + 1), bk := (D.lock a L u).nx } Γ2 M2) ∧ ∀ Γ' M', Inv ks.length Γ' M' → (D.lock a L u).nx Γ' M'
theorem sim_forK {te : TE} {g : DG} {d1 : DS} {tb : TS} (h : SimE te de) (hb : SimS tb d1) : SimS (tLock (tFor (iKeys te) (LG g) tb)) (dForK de g d1) := fun Γ M D σ H Hc E hd F O q => by
  obtain ⟨a, u, ks, hm, hk, hd⟩ := hd
  obtain ⟨hu, hca, mu, lk⟩ := lock_own O hm hk
  refine ⟨a, hu, hca, mu, fun od => ?_⟩
  obtain ⟨J, L, hL, KI, O0, un⟩ := lk od
  have q' : OnD H (D.lock a L u) ⟨fun σ' H' => H' a = some (.frz od hu) ∧ E.nx σ' (upd H' a hu), fun v H' => H' a = some (.frz od hu) ∧ E.rt v (upd H' a hu), fun σ' H' => H' a = some (.frz od hu) ∧ E.bk σ' (upd H' a hu), fun σ' H' => H' a = some (.frz od hu) ∧ E.ct σ' (upd H' a hu)⟩ :=
    ⟨fun σ' Γ' M' H' Hc' e F' O' h' => ⟨(un H' Hc' M' O' h'.1).1, q.nx σ' Γ' _ H' _ e F' (un H' Hc' M' O' h'.1).2 h'.2⟩,
     fun v s M' H' Hc' e O' r h' => ⟨(un H' Hc' M' O' h'.1).1, q.rt v s _ H' _ e (un H' Hc' M' O' h'.1).2 r h'.2⟩,
     fun σ' Γ' M' H' Hc' e F' O' h' => ⟨(un H' Hc' M' O' h'.1).1, q.bk σ' Γ' _ H' _ e F' (un H' Hc' M' O' h'.1).2 h'.2⟩,
     fun σ' Γ' M' H' Hc' e F' O' h' => ⟨(un H' Hc' M' O' h'.1).1, q.ct σ' Γ' _ H' _ e F' (un H' Hc' M' O' h'.1).2 h'.2⟩⟩
  unfold tFor
  refine iKeys_of h KI F O0 (fun H' Hc' M' O' h' => (un H' Hc' M' O' h').1) (hd L hL) fun M1 H1 Hc1 e1 O1 h1 => ?_
  obtain ⟨W, w0, wl, ws, wd⟩ := h1
  refine ⟨fun i m σ' Hc' => m = ks.length - i ∧ i ≤ ks.length ∧ ∃ Γ' M' H', Ex H1 H' ∧ Fr H' σ' Γ' ∧ Own H' Hc' M' ∧ W i Γ' M', ⟨_, rfl, Nat.zero_le _, Γ, M1, H1, Evl.Ex.refl _, F.ex e1, O1, w0⟩, ?_⟩
  rintro i m σ' Hc' ⟨rfl, hi, Γ', M', H', e2, F2, O2, w⟩
  have hfr := un H' Hc' M' O2 (wl i Γ' M' hi w)
  rcases Nat.lt_or_ge i ks.length with hlt | hge
  · refine .inr ⟨KI.go i Hc' hfr.1 hlt, fun σ2 Hc2 => ∃ Γ2 M2 H2, Ex H1 H2 ∧ Fr H2 σ2 Γ2 ∧ Own H2 Hc2 M2 ∧ W (i + 1) Γ2 M2, fun σ2 Hc2 z => ⟨ks.length - (i + 1), by omega, rfl, by omega, z⟩, fun x Hy y => ?_⟩
    have hx : ks[i]? = some ks[i] := List.getElem?_eq_getElem hlt
    obtain ⟨rfl, y⟩ := KI.yld i Hc' x Hy _ hx y
    obtain ⟨H3, e3, O3, rx⟩ := y H' M' O2
    refine ⟨.dat ks[i], Γ', M', H3, _, ws i _ Γ' M' hx w, rx, F2.ex e3, O3, fun σ2 Γ2 M2 H2 Hc2 e4 F3 O4 h3 => ?_⟩
    refine hb Γ2 M2 _ σ2 H2 Hc2 _ h3 F3 O4 ((q'.ex (e1.trans (e2.trans (e3.trans e4)))).loop fun σ4 Γ4 M4 H4 Hc4 e5 F4 O5 h4 => ?_)
    exact ⟨Γ4, M4, H4, e2.trans (e3.trans (e4.trans e5)), F4, O5, h4⟩
  · have ei : i = ks.length := Nat.le_antisymm hi hge
    subst ei
    exact .inl ⟨KI.stop _ Hc' hfr.1 (Nat.le_refl _), q'.nx σ' Γ' M' H' Hc' (e1.trans e2) F2 O2 (wd Γ' M' w)⟩
theorem xs_forK {tg e : Expr} {g : DG} {d1 : DS} {body : List Stmt} {pos : Pos} (h : PS X (.For tg e body [] pos) (tFor (iKeys (LE de)) (LG g) (LS d1))) : XS X (.For tg e body [] pos) (dForK de g d1) := xs_of (ps_lock h) (sim_forK simLE simLS)
end
end DL
/-! in, not in, of a dict of ours -/
namespace DL
open PySem PySem.Spec PyProof.Rows L2
open Evl (Ex)
def IsDK (M : Mem) (a : Addr) (kvs : Kvs) : Prop := M a = some (.dct kvs) ∨ ∃ od ws, M a = some (.fdk od ws kvs)
theorem IsDK.at_ {H Hc : Hp} {M : Mem} {a : Addr} {kvs : Kvs} (O : Own H Hc M) (h : IsDK M a kvs) : ∃ ws, Rd Hc a (.dK ws) ∧ RpK H kvs ws := by
  rcases h with h | ⟨od, ws, h⟩
  · obtain ⟨ws, g1, g2⟩ := O.ob _ _ h
    exact ⟨ws, .inl g1, g2⟩
  · obtain ⟨g1, g2⟩ := O.ob _ _ h
    exact ⟨ws, .inr ⟨od, g1⟩, g2⟩
def inB : Bool → Bool → Bool
  | true, b => !b
  | false, b => b
def inD (T : Bool) (M : Mem) (o i : Sl) (k : Bool → Prop) : Prop := match T with
  | false => ∃ a kvs d key, o = .own a ∧ IsDK M a kvs ∧ i = .dat d ∧ keyD d = some key ∧ k (dval kvs key).isSome
  | true => ∃ a kvs d key, o = .own a ∧ IsDT M a kvs ∧ i = .dat d ∧ keyT d = some key ∧ k (tval kvs key).isSome
theorem inD_ok {T : Bool} {H Hc : Hp} {M : Mem} {o i : Sl} {vo vi : V} {k : Bool → Prop} (O : Own H Hc M) (ro : Rp H o vo) (ri : Rp H i vi) (h : inD T M o i k) : ∃ a ov, vo = .ref a ∧ DGet Hc a vi ov ∧ k ov.isSome := by
  cases T with
  | false =>
    obtain ⟨a, kvs, d, key, rfl, hm, rfl, hk, h⟩ := h
    cases ro
    obtain ⟨ws, g1, g2⟩ := hm.at_ O
    have ek := key_rp (show Dq H vi d from ri) hk
    subst ek
    refine ⟨a, valV ws key, rfl, .inl ⟨ws, key, g1, rfl, rfl⟩, ?_⟩
    rcases rpk_val (k := key) g2 with ⟨z1, z2⟩ | ⟨s, v, z1, z2, z3⟩
    · rw [z2]; rw [z1] at h; exact h
    · rw [z2]; rw [z1] at h; exact h
  | true =>
    obtain ⟨a, kvs, d, key, rfl, hm, rfl, hk, h⟩ := h
    cases ro
    obtain ⟨ws, g1, g2⟩ := hm.at_ O
    obtain ⟨b, rfl, hb⟩ := keyT_rp (show Dq H vi d from ri) hk
    refine ⟨a, valV ws key, rfl, .inr ⟨ws, key, b, g1, rfl, O.ex _ _ hb, rfl⟩, ?_⟩
    rcases rpt_val (k := key) g2 with ⟨z1, z2⟩ | ⟨s, v, z1, z2, z3⟩
    · rw [z2]; rw [z1] at h; exact h
    · rw [z2]; rw [z1] at h; exact h
def dIn (T neg : Bool) (di do_ : DE) : DB := fun Γ M k => di Γ M fun i M1 => do_ Γ M1 fun o M2 => inD T M2 o i fun b => k (inB neg b) M2
section
variable {X : Cx} {e : Expr} {di do_ : DE}
theorem xb_inD {T : Bool} (h : PT X e (tB (tDIn (LE di) (LE do_)))) : XB X e (dIn T false di do_) := xb_of h fun Γ M k σ H Hc Q hd F O q => by
  refine simLE Γ M _ σ H Hc _ hd F O fun vi si M1 H1 Hc1 e1 O1 r1 h1 => ?_
  refine simLE Γ M1 _ σ H1 Hc1 _ h1 (F.ex e1) O1 fun vo so M2 H2 Hc2 e2 O2 r2 h2 => ?_
  obtain ⟨a, ov, rfl, g, h2⟩ := inD_ok O2 r2 (rp_ex e2 r1) h2
  exact ⟨a, ov, rfl, g, _, rfl, q _ M2 H2 Hc2 (e1.trans e2) O2 h2⟩
theorem xb_ninD {T : Bool} (h : PT X e (tB (tDNotIn (LE di) (LE do_)))) : XB X e (dIn T true di do_) := xb_of h fun Γ M k σ H Hc Q hd F O q => by
  refine simLE Γ M _ σ H Hc _ hd F O fun vi si M1 H1 Hc1 e1 O1 r1 h1 => ?_
  refine simLE Γ M1 _ σ H1 Hc1 _ h1 (F.ex e1) O1 fun vo so M2 H2 Hc2 e2 O2 r2 h2 => ?_
  obtain ⟨a, ov, rfl, g, h2⟩ := inD_ok O2 r2 (rp_ex e2 r1) h2
  exact ⟨a, ov, rfl, g, _, rfl, q _ M2 H2 Hc2 (e1.trans e2) O2 h2⟩
/-- as a value -/
def dInE (T neg : Bool) (di do_ : DE) : DE := fun Γ M k => dIn T neg di do_ Γ M fun b M' => k (.dat (.bool b)) M'
theorem xe_inD {T : Bool} (h : PE X e (tDIn (LE di) (LE do_))) : XE X e (dInE T false di do_) := xe_of h fun Γ M k σ H Hc Q hd F O q => by
  refine simLE Γ M _ σ H Hc _ hd F O fun vi si M1 H1 Hc1 e1 O1 r1 h1 => ?_
  refine simLE Γ M1 _ σ H1 Hc1 _ h1 (F.ex e1) O1 fun vo so M2 H2 Hc2 e2 O2 r2 h2 => ?_
  obtain ⟨a, ov, rfl, g, h2⟩ := inD_ok O2 r2 (rp_ex e2 r1) h2
  exact ⟨a, ov, rfl, g, q (.bl _) (.dat (.bool _)) M2 H2 Hc2 (e1.trans e2) O2 (.bl _) h2⟩
theorem xe_ninD {T : Bool} (h : PE X e (tDNotIn (LE di) (LE do_))) : XE X e (dInE T true di do_) := xe_of h fun Γ M k σ H Hc Q hd F O q => by
  refine simLE Γ M _ σ H Hc _ hd F O fun vi si M1 H1 Hc1 e1 O1 r1 h1 => ?_
  refine simLE Γ M1 _ σ H1 Hc1 _ h1 (F.ex e1) O1 fun vo so M2 H2 Hc2 e2 O2 r2 h2 => ?_
  obtain ⟨a, ov, rfl, g, h2⟩ := inD_ok O2 r2 (rp_ex e2 r1) h2
  exact ⟨a, ov, rfl, g, q (.bl _) (.dat (.bool _)) M2 H2 Hc2 (e1.trans e2) O2 (.bl _) h2⟩
end
end DL
/-! set(a list of whole numbers): its members in their order, how many; tuple(a list); list(a dict) -/
namespace DS
open PySem PySem.Spec PyProof.Rows
section
variable {P : Program} {w : World} {A : Around} {E : Value → Shared → Prop} {s : Shared}
/-- set(a list of whole numbers) -/
theorem set_ofI {l : Addr} {items : Array Value} (ns : List Int) {Q : Value → Shared → Prop} (hh : A.handled = none) (hl : s.heap.IsList l items) (hit : IntsAre items.toList ns) (hb : ns.length + 1 < scanBound)
    (h : ∀ (h' : Heap) (tk c : Nat), L2.SetR w h' s.heap.objs.size (fun j => decide (j ∈ ns)) c → (∀ b o, s.heap.get? b = some o → h'.get? b = some o) → Q (.ref s.heap.objs.size) { s with heap := h', toks := tk }) :
    wpAny (model P w) A (call (.type "set") [.ref l]) Q E s := by
  have isz : items.size = ns.length := by rw [← Array.length_toList]; exact IntsAre.length hit
  obtain ⟨c, tl, hmro⟩ := F.called_set.mro
  have hmade := F.called_set.made
  have hsub := F.called_set.sub
  refine wpAny_call (codeAny_of_tree ?_)
  show wpAny _ _ (callAny (.type "set") _) _ _ _
  refine wpAny_pure ⟨Code.quiet_builtin _ (by decide +kernel), codeAny_builtin F.entry_type_call ?_⟩
  rw [Around.under_plain (weight_type_call_type "set" [.ref l] []) rfl]
  have f1 := F.called_set.notType
  have f2 := F.called_set.canCreate
  have f3 := F.typeCall_set_1 (.ref l)
  repeat (any_goals (first | assumption | wp_step))
  refine codeAny_mono (L2.code_set_led1 (.ref l) (E := E) (Q₁ := fun obj s₁ => obj = .ref s.heap.objs.size ∧ s₁ = { s with heap := s.heap.push (bare w) }) ⟨rfl, rfl⟩) fun r s₁ hr => ?_
  match r, hr with
  | .error e, hr => exact hr
  | .ok (.ret obj), hr =>
    obtain ⟨rfl, rfl⟩ := hr
    have hS : (s.heap.push (bare w)).get? s.heap.objs.size = some (bare w) := Heap.get?_push_size _ rfl
    have hT : Shared.TypeIs { s with heap := s.heap.push (bare w) } (.ref s.heap.objs.size) "set" := ⟨_, hS, rfl⟩
    have g1 := F.called_set.init.lookup
    have g2 := F.called_set.init.bind (.ref s.heap.objs.size)
    repeat (any_goals (first | assumption | wp_step))
    refine codeAny_mono (codeAny_call_builtin (R := wants (fun r s₂ => r = .none ∧ ∃ h' tk c, s₂ = { s with heap := h', toks := tk } ∧ L2.SetR w h' s.heap.objs.size (fun j => decide (j ∈ ns)) c ∧ (∀ b o, s.heap.get? b = some o → h'.get? b = some o)) E)
      F.called_set.init.plain F.entry_set_init (check_set_init_1 hT ?_)) fun r₂ s₂ hr₂ => ?_
    · obtain ⟨ol, hol, hcl, nl, hdl⟩ := hl
      obtain ⟨ocls, odict, odata, oslots⟩ := ol
      simp only at hcl hdl
      subst hcl; subst hdl
      have hol' : (s.heap.push (bare w)).get? l = some { cls := .type "list", dict := odict, data := .seq items nl, slots := oslots } := Heap.get?_push_of_some _ hol
      have e1 := F.sub_list_set
      have e2 := F.sub_list_frozenset
      have e3 : (Value.type "list" == Value.type "dict") = false := by decide
      have hl1 : (s.heap.push (bare w)).IsList l items := ⟨_, hol', rfl, nl, rfl⟩
      unfold Builtin.«set.__init__» noKeywords Builtin.Frozenset.updateFrom
      generalize hPI : pyIter = PI
      wp_walk
      subst hPI
      refine wpAny_pyIter_list hl1 (wpAny_bind (wpAny_runValue ?_))
      have lS : l < s.heap.objs.size := Heap.lt_size hol
      have hh3 : A.in1.in1.in1.handled = none := by simp [hh]
      have psz : (s.heap.push (bare w)).objs.size = s.heap.objs.size + 1 := Heap.size_push ..
      have neI : l ≠ (s.heap.push (bare w)).objs.size := by rw [psz]; exact Nat.ne_of_lt (Nat.lt_succ_of_lt lS)
      have nofp : s.heap.objs.size ∉ [(s.heap.push (bare w)).objs.size, l] := by
        rw [psz]
        simp only [List.mem_cons, List.not_mem_nil, or_false, not_or]
        exact ⟨Nat.ne_of_lt (Nat.lt_succ_self _), Nat.ne_of_gt lS⟩
      have vals : ∀ (i : Nat) (v : Value), items[i]? = some v → ∃ k t, ns[i]? = some k ∧ v = .int k t := fun i v hv => by
        have q : items.toList[i]? = some v := by rw [Array.getElem?_toList]; exact hv
        have go : ∀ {us : List Value} {ms : List Int}, IntsAre us ms → ∀ (i : Nat) (v : Value), us[i]? = some v → ∃ k t, ms[i]? = some k ∧ v = .int k t := by
          intro us ms hi
          induction hi with
          | nil => intro i v e; simp at e
          | cons n t _ ih =>
            intro i v e
            cases i with
            | zero => cases e; exact ⟨n, t, rfl, rfl⟩
            | succ i => exact ih i v (by simpa using e)
        exact go hit i v q
      have beyond : ∀ b, s.heap.objs.size ≤ b → s.heap.get? b = none := fun b hb => by
        cases q : s.heap.get? b with
        | none => rfl
        | some o => exact absurd (Nat.lt_of_lt_of_le (Heap.lt_size q) hb) (Nat.lt_irrefl _)
      refine L2.set_update_ints ((Walks.list hh3 _ l neI items).toS) s.heap.objs.size nofp ns isz hb vals (items.size - 0) 0 _ (by omega) (Nat.zero_le _)
        ⟨⟨_, Heap.get?_push_size _ rfl, rfl, rfl⟩, (hl1.push _)⟩ ⟨0, Nat.le_refl _, L2.setR_new_at (Heap.get?_push_of_some _ hS)⟩ fun s' c hm hc' hS' => ?_
      have kp : ∀ b o, s.heap.get? b = some o → s'.heap.get? b = some o := fun b o e => by
        have hlt := Heap.lt_size e
        refine hm.heap b o (fun z => ?_) (Heap.get?_push_of_some _ (Heap.get?_push_of_some _ e))
        rcases List.mem_cons.mp z with z | z
        · exact Nat.lt_irrefl _ (z ▸ hlt)
        · have e9 := List.mem_singleton.mp z
          have psz2 : (s.heap.push (bare w)).objs.size = s.heap.objs.size + 1 := psz
          have h9 : (s.heap.push (bare w)).objs.size < s.heap.objs.size := e9 ▸ hlt
          rw [psz2] at h9
          exact Nat.not_succ_lt_self h9
      obtain ⟨h', g3, d', tk', os'⟩ := s'
      have eg : g3 = s.gens := hm.gens
      have ed : d' = s.drawn := hm.drawn
      have eo : os' = s.os := hm.os
      subst eg; subst ed; subst eo
      show wpAny _ _ _ _ _ _
      refine wpAny_pure ?_
      show wpAny _ _ (ret Value.none) _ _ _
      exact wpAny_pure ⟨rfl, h', tk', c, rfl, hS', kp⟩
    · match r₂, hr₂ with
      | .error e, hr₂ => exact hr₂
      | .ok (.ret r), hr₂ =>
        obtain ⟨rfl, h', tk, c, rfl, hS', hk'⟩ := hr₂
        repeat (any_goals (first | assumption | wp_step))
        exact h _ _ _ hS' hk'
end
end DS
namespace DL
open PySem PySem.Spec PyProof.Rows L2
open Evl (Ex)
/-- set(xs) of whole numbers: ms are its members -/
def rSetI (K : PySem.W.Frag) (w : World) : List V → Hp → VK → Prop := fun xs H Q => ∃ (l : Addr) (ns : List Int), xs = [V.ref l] ∧ SqL K H l (ns.map V.int) ∧ ns.length < 4000 ∧
  ∀ (D : Addr) (ms : List Int), H D = none → ms.Nodup → (∀ v, v ∈ ms ↔ v ∈ ns) → Q (.ref D) (upd H D (SetO w D (fun j => decide (j ∈ ns)) ms.length))
theorem ints_of_valsI : ∀ {ns : List Int} {us : List Value}, Vals (ns.map V.int) us → IntsAre us ns
  | [], _, .nil => .nil
  | n :: ns, _, .cons r t => by
    obtain ⟨k, rfl⟩ := r
    exact .cons n k (ints_of_valsI t)
section
variable {X : Cx}
theorem cr_setI (hc : X.calm = true) : CallR X (.type "set") (rSetI X.K X.w) := by
  intro pins s σ H xs us Q I r h
  obtain ⟨l, ns, rfl, hl, hz, q⟩ := h
  rw [Vals.ref1 r]
  obtain ⟨its, rv, pl, _⟩ := I.list hl
  refine DS.set_ofI (P := X.prog) (w := X.w) ns (I.ok.hd hc) pl.isList (by simpa using ints_of_valsI rv) (by unfold scanBound; omega) fun h' tk c R k => ?_
  have hn : H s.heap.objs.size = none := I.hok.fresh (Nat.le_refl _)
  have R' := R
  obtain ⟨o, es, ep, t, ho, hex, hd, g, nd, hm, hb, hf, hsz, hr, hld⟩ := R
  have hl2 : (es.toList.map keyOf).length = c := by rw [List.length_map, Array.length_toList, hsz]
  refine ⟨.ref s.heap.objs.size, upd H s.heap.objs.size (SetO X.w s.heap.objs.size (fun j => decide (j ∈ ns)) c), I.laid (t' := tk) k (Nat.le_refl _) (setO_new R'), rfl, ?_⟩
  have := q s.heap.objs.size (es.toList.map keyOf) hn nd fun v => by rw [← hm v, decide_eq_true_eq]
  rw [hl2] at this
  exact this
/-- len(a set of whole numbers) -/
def rLenS (w : World) : List V → Hp → VK → Prop := fun xs H Q => ∃ (a : Addr) (S : Int → Bool) (n : Nat), xs = [V.ref a] ∧ H a = some (SetO w a S n) ∧ Q (.int n) H
theorem cr_lenS : CallR X (.builtin "len") (rLenS X.w) := by
  intro pins s σ H xs us Q I r h
  obtain ⟨a, S, n, rfl, ha, q⟩ := h
  rw [Vals.ref1 r]
  obtain ⟨o, es, ep, t, ho, hex, hd, g, nd, hm, hb, hf, hsz, hr, hld⟩ := setO_get I ha
  refine call_len_set ho hex hd hf (by unfold scanBound at hb; omega) ⟨.int n, H, I.tok _, ⟨_, by rw [hsz]⟩, q⟩
end
theorem li_rps {H : Hp} : ∀ {ns : List Int} {vs : List V}, Rps H (ns.map fun n => .dat (.int n)) vs → vs = ns.map V.int
  | [], _, .nil => rfl
  | n :: ns, _, .cons r t => by rw [List.map_cons, li_rps t, dp_int_inv r]
/-- sorted(set(xs)) -/
def fSSI : DC := fun ss M k => match ss with
  | [s] => ∃ ns D : List Int, IsL M s (ns.map fun n => .dat (.int n)) ∧ ns.length < 4000 ∧ D.length < 64 ∧ (∀ n ∈ ns, n ∈ D) ∧ ∀ (ms : List Int) p, ms.Pairwise (· < ·) → (∀ v, v ∈ ms ↔ v ∈ ns) → M p = none → k (.own p) (put M p (.lst (ms.map fun n => .dat (.int n))))
  | _ => False
theorem sim_ssI {K : PySem.W.Frag} {w : World} : SimC (fun xs H Q => rSetI K w xs H fun v H1 => rSortedSet w [v] H1 Q) fSSI := by
  intro ss M k xs H Hc Q h r O q
  unfold fSSI at h
  split at h
  · obtain ⟨x, rfl, rx⟩ := rps1 r
    obtain ⟨ns, D, l, hz, hD, hin, h⟩ := h
    obtain ⟨a, vs, rfl, g1, g2⟩ := l.at_ O rx
    obtain rfl := li_rps g2
    refine ⟨a, ns, rfl, SqL.of g1, hz, fun b ms hb hnd hmem => ?_⟩
    have O2 := O.waste (o := SetO w b (fun j => decide (j ∈ ns)) ms.length) hb
    have l64 : ms.length < 64 := by
      have := DS.nodup_le ms D hnd fun v hv => hin v ((hmem v).mp hv)
      omega
    refine ⟨b, _, _, rfl, upd_same, l64, fun os p hp hos hl2 hpn => ?_⟩
    refine q.own O2 (ints_rps os) (by rw [List.length_map, sizeLine_eq]; omega) hpn (h os p hp (fun v => ?_) (O2.freeM hpn))
    rw [hos v, decide_eq_true_eq]
  · exact h.elim
/-- len(set(xs)) -/
def fLenSI : DC := fun ss M k => match ss with
  | [s] => ∃ ns : List Int, IsL M s (ns.map fun n => .dat (.int n)) ∧ ns.length < 4000 ∧ ∀ ms : List Int, ms.Nodup → (∀ v, v ∈ ms ↔ v ∈ ns) → k (.dat (.int ms.length)) M
  | _ => False
theorem sim_lenSI {K : PySem.W.Frag} {w : World} : SimC (fun xs H Q => rSetI K w xs H fun v H1 => rLenS w [v] H1 Q) fLenSI := by
  intro ss M k xs H Hc Q h r O q
  unfold fLenSI at h
  split at h
  · obtain ⟨x, rfl, rx⟩ := rps1 r
    obtain ⟨ns, l, hz, h⟩ := h
    obtain ⟨a, vs, rfl, g1, g2⟩ := l.at_ O rx
    obtain rfl := li_rps g2
    refine ⟨a, ns, rfl, SqL.of g1, hz, fun b ms hb hnd hmem => ⟨b, _, _, rfl, upd_same, ?_⟩⟩
    have O2 := O.waste (o := SetO w b (fun j => decide (j ∈ ns)) ms.length) hb
    exact q _ (.dat (.int _)) M H _ (Evl.Ex.refl H) O2 (.int _) (h ms hnd hmem)
  · exact h.elim
/-- tuple(a list of data) -/
def fTupOf : DC := fun ss M k => match ss with
  | [s] => ∃ ds : List Dt, IsL M s (ds.map .dat) ∧ k (.dat (.tuple ds)) M
  | _ => False
theorem sim_tupOf {K : PySem.W.Frag} : SimC (fun xs H Q => ∃ p ys, xs = [V.ref p] ∧ ((SqL K H p ys ∧ ∀ l, H l = none → Q (.ref l) (upd H l (.tup ys))) ∨ (SqT K H p ys ∧ Q (.ref p) H))) fTupOf := by
  intro ss M k xs H Hc Q h r O q
  unfold fTupOf at h
  split at h
  · obtain ⟨x, rfl, rx⟩ := rps1 r
    obtain ⟨ds, l, h⟩ := h
    obtain ⟨a, vs, rfl, g1, g2⟩ := l.at_ O rx
    exact ⟨a, vs, rfl, .inl ⟨SqL.of g1, fun p hp => q.tup O (rps_dat g2) hp h⟩⟩
  · exact h.elim
/-- list(a dict of ours, keys numbers or texts) -/
def fListK : DC := fun ss M k => match ss with
  | [.own a] => ∃ kvs : Kvs, M a = some (.dct kvs) ∧ kvs.length ≤ 16777216 ∧ ∀ p, M p = none → k (.own p) (put M p (.lst (kvs.map fun q => .dat (kD q.1))))
  | _ => False
theorem rps_kd {H : Hp} : ∀ {kvs : Kvs} {ws : List (Key × V)}, RpK H kvs ws → Rps H (kvs.map fun q => .dat (kD q.1)) (ws.map fun q => kV q.1)
  | [], _, .nil => .nil
  | _ :: _, _, .cons r t => by
    rw [List.map_cons, List.map_cons, ← r.1]
    exact .cons (dq_kD _) (rps_kd t)
theorem sim_listK : SimC rListD fListK := by
  intro ss M k xs H Hc Q h r O q
  unfold fListK at h
  split at h
  · obtain ⟨x, rfl, rx⟩ := rps1 r
    obtain ⟨kvs, hm, hz, h⟩ := h
    cases rx
    obtain ⟨ws, g1, g2⟩ := O.ob _ _ hm
    exact ⟨_, ws, rfl, g1, fun p hp => q.own O (rps_kd g2) (by rw [List.length_map, sizeLine_eq]; exact hz) hp (h p (O.freeM hp))⟩
  · exact h.elim
end DL
/-! sorted({el for x in d.values()}) -/
namespace DL
open PySem PySem.Spec PyProof.Rows L2
open Evl (Ex)
theorem rpk_get {H : Hp} : ∀ {kvs : Kvs} {ws : List (Key × V)}, RpK H kvs ws → ∀ {i : Nat} {x : Key × V}, ws[i]? = some x → ∃ q, kvs[i]? = some q ∧ q.1 = x.1 ∧ Rp H q.2 x.2
  | [], _, .nil, i, x, h => by simp at h
  | q :: _, _, .cons r t, 0, x, h => by cases h; exact ⟨q, rfl, r⟩
  | _ :: kvs, _, .cons r t, i + 1, x, h => rpk_get t (i := i) (by simpa using h)
def dSortScV (de : DE) (j : Nat) (t : DB) (el : DE) (vs : List Nat) : DE := fun Γ M k => ∃ a kvs, M a = some (.dct kvs) ∧ kvs.length < 4000 ∧ ∀ od ws, de Γ (put M a (.fdk od ws kvs)) fun s M1 => s = .own a ∧ M1 a = some (.fdk od ws kvs) ∧ ∀ D : Addr, M1 D = none → ∃ Inv : Nat → List Int → Mem → Prop, (∀ o, Inv 0 [] (put M1 D o)) ∧
  (∀ i ms M', i ≤ kvs.length → Inv i ms M' → M' a = some (.fdk od ws kvs)) ∧
  (∀ i ms q M', kvs[i]? = some q → Inv i ms M' → t ((wipeF Γ vs).set j (some q.2)) M' fun b M2 => (b = true → el ((wipeF Γ vs).set j (some q.2)) M2 fun y M3 => ∃ c : Int, y = .dat (.int c) ∧ M3 D = M' D ∧ ∀ o, Inv (i + 1) (if c ∈ ms then ms else ms ++ [c]) (put M3 D o)) ∧ (b = false → M2 D = M' D ∧ Inv (i + 1) ms M2)) ∧
  ∀ ms M', ms.Nodup → Inv kvs.length ms M' → ms.length < 64 ∧ ∀ (ns : List Int) p, ns.Pairwise (· < ·) → (∀ c, c ∈ ns ↔ c ∈ ms) → M' p = none → k (.own p) (put (put M' p (.lst (ns.map fun n => .dat (.int n)))) a (.dct kvs))
theorem sim_sortScV {w : World} {de : DE} {te : TE} {j : Nat} {t : DB} {el : DE} {tt : TT} {tel : TE} {vs : List Nat} (h : SimE te de) (ht : SimB tt t) (hel : SimE tel el) (hj : j ∈ vs) :
    SimE (tLockE (tCB (rSortedSet w) (tCons (DS.tScG (L2.SetO w) V.int (iVals te) (gName j) tt tel vs) tNil))) (dSortScV de j t el vs) := fun Γ M k σ H Hc Q hd F O q => by
  obtain ⟨a, kvs, hm, hz, hd⟩ := hd
  obtain ⟨ws, g1, g2⟩ := O.ob _ _ hm
  refine ⟨a, .dK ws, g1, True.intro, fun od => ?_⟩
  have O0 : Own H (upd Hc a (.frz od (.dK ws))) (put M a (.fdk od ws kvs)) := O.turn (u := .fdk od ws kvs) hm ⟨rfl, g2⟩
  refine h Γ _ _ σ H _ _ (hd od ws) F O0 fun v s M1 H1 Hc1 e1 O1 r1 h1 => ?_
  obtain ⟨rfl, hm1, h1⟩ := h1
  cases r1
  refine ⟨a, od, ws, rfl, (O1.ob _ _ hm1).1, fun D hD => ?_⟩
  obtain ⟨Inv, i0, il, step, fin⟩ := h1 D (O1.freeM hD)
  refine ⟨fun i m Hc' => m = kvs.length - i ∧ i ≤ kvs.length ∧ ∃ (M' : Mem) (H' : Hp) (ms : List Int) (S : Int → Bool), Ex H1 H' ∧ DL.Own H' Hc' M' ∧ M' D = some (.raw (L2.SetO w D S ms.length)) ∧ (∀ v, S v = decide (v ∈ ms)) ∧ ms.Nodup ∧ ms.length ≤ i ∧ Inv i ms M',
    ⟨_, rfl, Nat.zero_le _, _, H1, [], fun _ => false, Evl.Ex.refl _, O1.born (u := .raw _) hD rfl, put_at, fun v => rfl, List.nodup_nil, Nat.zero_le _, i0 _⟩, ?_⟩
  rintro i m Hc' ⟨rfl, hi, M', H', ms, S, e2, O2, hM2, hms, hnd, hl, w'⟩
  have hma := il i ms M' hi w'
  obtain ⟨f1, f2⟩ := O2.ob _ _ hma
  have hlen : ws.length = kvs.length := rpk_len f2
  rcases Nat.lt_or_ge i kvs.length with hlt | hge
  · refine .inr ⟨⟨f1, by omega⟩, fun Hc2 => ∃ (M' : Mem) (H' : Hp) (ms : List Int) (S : Int → Bool), Ex H1 H' ∧ DL.Own H' Hc2 M' ∧ M' D = some (.raw (L2.SetO w D S ms.length)) ∧ (∀ v, S v = decide (v ∈ ms)) ∧ ms.Nodup ∧ ms.length ≤ i + 1 ∧ Inv (i + 1) ms M', fun Hc2 z => ⟨kvs.length - (i + 1), by omega, rfl, by omega, z⟩, fun x Hy y => ?_⟩
    obtain ⟨rfl, key, hx0⟩ := y
    obtain ⟨sq, hs, _, rx⟩ := rpk_get f2 hx0
    refine ⟨wipe_back hj _, ?_⟩
    have F2 : DL.Fr H' ((wipe σ vs).set j (some x)) ((wipeF Γ vs).set j (some sq.2)) := (((F.ex e1).ex e2).wipe vs).set rx
    refine ht _ M' _ _ H' _ _ (step i ms sq M' hs w') F2 O2 fun b M3 H3 Hc3 e3 O3 h3 => ?_
    cases b with
    | true =>
      rw [if_pos rfl]
      refine hel _ M3 _ _ H3 Hc3 _ (h3.1 rfl) (F2.ex e3) O3 fun yv sy M4 H4 Hc4 e4 O4 r4 h4 => ?_
      obtain ⟨c, rfl, hD4, hin⟩ := h4
      rw [hM2] at hD4
      obtain ⟨m1, m2, m3⟩ := DS.met (c := c) hms hnd
      refine ⟨c, S, ms.length, dp_int_inv r4, O4.ob D _ hD4, ?_, _, H4, _, _, e2.trans (e3.trans e4), O4.turn (u := .raw _) hD4 rfl, ?_, m1, m3, ?_, hin _⟩
      · unfold scanBound; omega
      · rw [put_at, m2]
      · split
        · omega
        · rw [List.length_append]; show _ + 1 ≤ _; omega
    | false =>
      rw [if_neg Bool.false_ne_true]
      obtain ⟨f1, f2⟩ := h3.2 rfl
      exact ⟨M3, H3, ms, S, e2.trans e3, O3, f1.trans hM2, hms, hnd, by omega, f2⟩
  · have ei : i = kvs.length := Nat.le_antisymm hi hge
    subst ei
    obtain ⟨h64, fin⟩ := fin ms M' hnd w'
    refine .inl ⟨⟨f1, by omega⟩, D, S, ms.length, rfl, O2.ob D _ hM2, h64, fun ns p hp hmem hl2 hpn => ?_⟩
    have nap : a ≠ p := fun e => by rw [← e, f1] at hpn; cases hpn
    have O3 := O2.born (o := .lst (ns.map V.int)) (u := .lst (ns.map fun n => .dat (.int n))) hpn ⟨by rw [List.length_map, sizeLine_eq]; omega, _, rfl, ints_rps ns⟩
    have hma3 : put M' p (.lst (ns.map fun n => .dat (.int n))) a = some (.fdk od ws kvs) := (put_ne nap).trans hma
    refine ⟨(upd_ne nap).trans f1, ?_⟩
    exact q _ (.own p) _ H' _ (e1.trans e2) (O3.turn (u := .dct kvs) hma3 ⟨ws, rfl, f2⟩) rfl (fin ns p hp (fun c => by rw [hmem c, hms c, decide_eq_true_eq]) (O2.freeM hpn))
theorem xe_sortScV {X : Cx} {w : World} {ex : Expr} {de : DE} {j : Nat} {t : DB} {el : DE} {vs : List Nat} (h : PE X ex (tCB (rSortedSet w) (tCons (DS.tScG (L2.SetO w) V.int (iVals (LE de)) (gName j) (LB t) (LE el) vs) tNil))) (hj : j ∈ vs) : XE X ex (dSortScV de j t el vs) := xe_of (pe_lock h) (sim_sortScV simLE simLB simLE hj)
end DL
/-! d[key], d walked just now or not -/
namespace DL
open PySem PySem.Spec PyProof.Rows L2
open Evl (Ex)
section
variable {X : Cx} {e : Expr} {do_ di : DE}
def fDIxK : D2 := fun o i M k => ∃ a kvs d key s, o = .own a ∧ IsDK M a kvs ∧ i = .dat d ∧ keyD d = some key ∧ dval kvs key = some s ∧ k s M
theorem xe_dixK (h : PE X e (tDGet (LE do_) (LE di))) : XE X e (dOp fDIxK do_ di) := xe_of h fun Γ M k σ H Hc Q hd F O q => by
  refine simLE Γ M _ σ H Hc _ hd F O fun vo so M1 H1 Hc1 e1 O1 r1 h1 => ?_
  refine simLE Γ M1 _ σ H1 Hc1 _ h1 (F.ex e1) O1 fun vi si M2 H2 Hc2 e2 O2 r2 h2 => ?_
  obtain ⟨a, kvs, d, key, s, rfl, hm, rfl, hk, hv, h2⟩ := h2
  cases r1
  obtain ⟨ws, g1, g2⟩ := hm.at_ O2
  have ek := key_rp (show Dq H2 vi d from r2) hk
  subst ek
  rcases rpk_val (k := key) g2 with ⟨z1, z2⟩ | ⟨s', v, z1, z2, z3⟩
  · rw [z1] at hv
    cases hv
  · rw [z1] at hv
    cases hv
    refine ⟨a, v, rfl, ?_, q v s M2 H2 Hc2 (e1.trans e2) O2 z3 h2⟩
    rw [← z2]
    exact .inl ⟨ws, key, g1, rfl, rfl⟩
end
end DL
/-! not, of a list -/
namespace DL
open PySem PySem.Spec PyProof.Rows L2
open Evl (Ex)
theorem rps_empty {H : Hp} : ∀ {xs : List Sl} {vs : List V}, Rps H xs vs → vs.isEmpty = xs.isEmpty
  | [], [], _ => rfl
  | _ :: _, _ :: _, _ => rfl
  | [], _ :: _, h => nomatch h
  | _ :: _, [], h => nomatch h
def dNotL (da : DE) : DE := fun Γ M k => da Γ M fun s M1 => ∃ xs, IsL M1 s xs ∧ k (.dat (.bool xs.isEmpty)) M1
theorem xe_notL {X : Cx} {e : Expr} {da : DE} (h : PE X e (tNotT X.K (LE da))) : XE X e (dNotL da) := xe_of h fun Γ M k σ H Hc Q hd F O q => by
  refine simLE Γ M _ σ H Hc _ hd F O fun v s M1 H1 Hc1 e1 O1 r1 h1 => ?_
  obtain ⟨xs, l, hk⟩ := h1
  obtain ⟨a, vs, rfl, g, rs⟩ := l.at_ O1 r1
  refine ⟨!vs.isEmpty, .inl ⟨vs, SqL.of g, rfl⟩, ?_⟩
  rw [Bool.not_not, rps_empty rs]
  exact q (.bl _) (.dat (.bool _)) M1 H1 Hc1 e1 O1 (.bl _) hk
end DL
/-! a dict's values walked: list comprehensions, loops -/
namespace DL
open PySem PySem.Spec PyProof.Rows L2
open Evl (Ex)
def dLcV (de : DE) (j : Nat) (t : DB) (el : DE) (vs : List Nat) : DE := fun Γ M k => ∃ a kvs, M a = some (.dct kvs) ∧ ∀ od ws, de Γ (put M a (.fdk od ws kvs)) fun s M1 => s = .own a ∧ M1 a = some (.fdk od ws kvs) ∧ ∀ p, M1 p = none → ∃ Inv : Nat → Mem → Prop, Inv 0 (put M1 p (.lst [])) ∧
  (∀ i M', i ≤ kvs.length → Inv i M' → M' a = some (.fdk od ws kvs)) ∧ (∀ i q M', kvs[i]? = some q → Inv i M' → lcTurn p Γ vs j t el (Inv (i + 1)) q.2 M') ∧ ∀ M', Inv kvs.length M' → k (.own p) (put M' a (.dct kvs))
theorem sim_lcV {de : DE} {te : TE} {j : Nat} {t : DB} {el : DE} {tt : TT} {tel : TE} {vs : List Nat} (h : SimE te de) (ht : SimB tt t) (hel : SimE tel el) (hj : j ∈ vs) : SimE (tLockE (tLc (iVals te) (gName j) tt tel vs)) (dLcV de j t el vs) := fun Γ M k σ H Hc Q hd F O q => by
  obtain ⟨a, kvs, hm, hd⟩ := hd
  obtain ⟨ws, g1, g2⟩ := O.ob _ _ hm
  refine ⟨a, .dK ws, g1, True.intro, fun od => ?_⟩
  have O0 : Own H (upd Hc a (.frz od (.dK ws))) (put M a (.fdk od ws kvs)) := O.turn (u := .fdk od ws kvs) hm ⟨rfl, g2⟩
  unfold tLc
  refine h Γ _ _ σ H _ _ (hd od ws) F O0 fun v s M1 H1 Hc1 e1 O1 r1 h1 => ?_
  obtain ⟨rfl, hm1, h1⟩ := h1
  cases r1
  refine ⟨a, od, ws, rfl, (O1.ob _ _ hm1).1, fun p hp => ?_⟩
  obtain ⟨W, w0, wl, wt, wd⟩ := h1 p (O1.freeM hp)
  refine ⟨fun i m Hc' => m = kvs.length - i ∧ i ≤ kvs.length ∧ ∃ M' H', Ex H1 H' ∧ Own H' Hc' M' ∧ W i M', ⟨_, rfl, Nat.zero_le _, _, H1, Evl.Ex.refl _, O1.born (u := .lst []) hp ⟨Nat.zero_le _, [], rfl, .nil⟩, w0⟩, ?_⟩
  rintro i m Hc' ⟨rfl, hi, M', H', e2, O2, w⟩
  have hma := wl i M' hi w
  obtain ⟨f1, f2⟩ := O2.ob _ _ hma
  have hlen : ws.length = kvs.length := rpk_len f2
  rcases Nat.lt_or_ge i kvs.length with hlt | hge
  · refine .inr ⟨⟨f1, by omega⟩, fun Hc2 => ∃ M2 H2, Ex H1 H2 ∧ Own H2 Hc2 M2 ∧ W (i + 1) M2, fun Hc2 z => ⟨kvs.length - (i + 1), by omega, rfl, by omega, z⟩, fun x Hy y => ?_⟩
    obtain ⟨rfl, key, hx0⟩ := y
    obtain ⟨sq, hs, _, rx⟩ := rpk_get f2 hx0
    exact lc_turn ht hel hj e2 rx (F.ex (e1.trans e2)) O2 (wt i sq M' hs w)
  · have ei : i = kvs.length := Nat.le_antisymm hi hge
    subst ei
    exact .inl ⟨⟨f1, by omega⟩, f1, q _ (.own p) _ H' _ (e1.trans e2) (O2.turn (u := .dct kvs) hma ⟨ws, rfl, f2⟩) rfl (wd M' w)⟩
section
variable {X : Cx} {de : DE}
theorem xe_lcV {ex : Expr} {j : Nat} {t : DB} {el : DE} {vs : List Nat} (h : PE X ex (tLc (iVals (LE de)) (gName j) (LB t) (LE el) vs)) (hj : j ∈ vs) : XE X ex (dLcV de j t el vs) := xe_of (pe_lock h) (sim_lcV simLE simLB simLE hj)
/-- for x in d.values() -/
def dForV (de : DE) (g : DG) (tb : DS) : DS := fun D Γ M => ∃ a kvs, M a = some (.dct kvs) ∧ ∀ od ws, de Γ (put M a (.fdk od ws kvs)) fun s M1 => s = .own a ∧ M1 a = some (.fdk od ws kvs) ∧ ∃ Inv : Nat → Fm → Mem → Prop, Inv 0 Γ M1 ∧ (∀ i Γ' M', i ≤ kvs.length → Inv i Γ' M' → M' a = some (.fdk od ws kvs)) ∧
  (∀ i q Γ' M', kvs[i]? = some q → Inv i Γ' M' → g q.2 Γ' M' fun Γ2 M2 => tb { D.lock a (.fdk od ws kvs) (.dct kvs) with nx := Inv (i + 1), ct := Inv (i + 1), bk := (D.lock a (.fdk od ws kvs) (.dct kvs)).nx } Γ2 M2) ∧ ∀ Γ' M', Inv kvs.length Γ' M' → (D.lock a (.fdk od ws kvs) (.dct kvs)).nx Γ' M'
theorem sim_forV {te : TE} {g : DG} {d1 : DS} {tb : TS} (h : SimE te de) (hb : SimS tb d1) : SimS (tLock (tFor (iVals te) (LG g) tb)) (dForV de g d1) := fun Γ M D σ H Hc E hd F O q => by
  obtain ⟨a, kvs, hm, hd⟩ := hd
  obtain ⟨ws, g1, g2⟩ := O.ob _ _ hm
  refine ⟨a, .dK ws, g1, True.intro, fun od => ?_⟩
  have O0 : Own H (upd Hc a (.frz od (.dK ws))) (put M a (.fdk od ws kvs)) := O.turn (u := .fdk od ws kvs) hm ⟨rfl, g2⟩
  have un : ∀ H' Hc' M', Own H' Hc' M' → M' a = some (.fdk od ws kvs) → Hc' a = some (.frz od (.dK ws)) ∧ Own H' (upd Hc' a (.dK ws)) (put M' a (.dct kvs)) := fun H' Hc' M' O' h => by
    obtain ⟨h1, h2⟩ := O'.ob _ _ h
    exact ⟨h1, O'.turn (u := .dct kvs) h ⟨ws, rfl, h2⟩⟩
  have q' : OnD H (D.lock a (.fdk od ws kvs) (.dct kvs)) ⟨fun σ' H' => H' a = some (.frz od (.dK ws)) ∧ E.nx σ' (upd H' a (.dK ws)), fun v H' => H' a = some (.frz od (.dK ws)) ∧ E.rt v (upd H' a (.dK ws)), fun σ' H' => H' a = some (.frz od (.dK ws)) ∧ E.bk σ' (upd H' a (.dK ws)), fun σ' H' => H' a = some (.frz od (.dK ws)) ∧ E.ct σ' (upd H' a (.dK ws))⟩ :=
    ⟨fun σ' Γ' M' H' Hc' e F' O' h' => ⟨(un H' Hc' M' O' h'.1).1, q.nx σ' Γ' _ H' _ e F' (un H' Hc' M' O' h'.1).2 h'.2⟩,
     fun v s M' H' Hc' e O' r h' => ⟨(un H' Hc' M' O' h'.1).1, q.rt v s _ H' _ e (un H' Hc' M' O' h'.1).2 r h'.2⟩,
     fun σ' Γ' M' H' Hc' e F' O' h' => ⟨(un H' Hc' M' O' h'.1).1, q.bk σ' Γ' _ H' _ e F' (un H' Hc' M' O' h'.1).2 h'.2⟩,
     fun σ' Γ' M' H' Hc' e F' O' h' => ⟨(un H' Hc' M' O' h'.1).1, q.ct σ' Γ' _ H' _ e F' (un H' Hc' M' O' h'.1).2 h'.2⟩⟩
  unfold tFor
  refine h Γ _ _ σ H _ _ (hd od ws) F O0 fun v s M1 H1 Hc1 e1 O1 r1 h1 => ?_
  obtain ⟨rfl, hm1, W, w0, wl, wt, wd⟩ := h1
  cases r1
  refine ⟨a, od, ws, rfl, (O1.ob _ _ hm1).1, ?_⟩
  refine ⟨fun i m σ' Hc' => m = kvs.length - i ∧ i ≤ kvs.length ∧ ∃ Γ' M' H', Ex H1 H' ∧ Fr H' σ' Γ' ∧ Own H' Hc' M' ∧ W i Γ' M', ⟨_, rfl, Nat.zero_le _, Γ, M1, H1, Evl.Ex.refl _, F.ex e1, O1, w0⟩, ?_⟩
  rintro i m σ' Hc' ⟨rfl, hi, Γ', M', H', e2, F2, O2, w⟩
  have hma := wl i Γ' M' hi w
  obtain ⟨f1, f2⟩ := O2.ob _ _ hma
  have hlen : ws.length = kvs.length := rpk_len f2
  rcases Nat.lt_or_ge i kvs.length with hlt | hge
  · refine .inr ⟨⟨f1, by omega⟩, fun σ2 Hc2 => ∃ Γ2 M2 H2, Ex H1 H2 ∧ Fr H2 σ2 Γ2 ∧ Own H2 Hc2 M2 ∧ W (i + 1) Γ2 M2, fun σ2 Hc2 z => ⟨kvs.length - (i + 1), by omega, rfl, by omega, z⟩, fun x Hy y => ?_⟩
    obtain ⟨rfl, key, hx0⟩ := y
    obtain ⟨sq, hs, _, rx⟩ := rpk_get f2 hx0
    refine ⟨sq.2, Γ', M', H', _, wt i sq Γ' M' hs w, rx, F2, O2, fun σ2 Γ2 M2 H2 Hc2 e4 F3 O4 h3 => ?_⟩
    refine hb Γ2 M2 _ σ2 H2 Hc2 _ h3 F3 O4 ((q'.ex (e1.trans (e2.trans e4))).loop fun σ4 Γ4 M4 H4 Hc4 e5 F4 O5 h4 => ?_)
    exact ⟨Γ4, M4, H4, e2.trans (e4.trans e5), F4, O5, h4⟩
  · have ei : i = kvs.length := Nat.le_antisymm hi hge
    subst ei
    exact .inl ⟨⟨f1, by omega⟩, q'.nx σ' Γ' M' H' Hc' (e1.trans e2) F2 O2 (wd Γ' M' w)⟩
theorem xs_forV {tg e : Expr} {g : DG} {d1 : DS} {body : List Stmt} {pos : Pos} (h : PS X (.For tg e body [] pos) (tFor (iVals (LE de)) (LG g) (LS d1))) : XS X (.For tg e body [] pos) (dForV de g d1) := xs_of (ps_lock h) (sim_forV simLE simLS)
end
end DL
/-! a tuple of ours falls into names; xs[::c] -/
namespace DL
open PySem PySem.Spec PyProof.Rows L2
open Evl (Ex)
section
variable {X : Cx}
abbrev DGo := List Sl → Fm → Mem → (Fm → Mem → Prop) → Prop
def LGo (g : DGo) : TGs := fun vs σ Hc Q => ∃ ss Γ M H k, g ss Γ M k ∧ Rps H ss vs ∧ Fr H σ Γ ∧ Own H Hc M ∧ OnF H k Q
def gTO (n : Nat) (g : DGo) : DG := fun s Γ M k => ∃ xs, IsT M s xs ∧ xs.length = n ∧ g xs Γ M k
def goN : DGo := fun ss Γ M k => match ss with
  | [] => k Γ M
  | _ => False
def goC (g : DG) (gs : DGo) : DGo := fun ss Γ M k => match ss with
  | [] => False
  | s :: ss => g s Γ M fun Γ1 M1 => gs ss Γ1 M1 k
abbrev XGo (X : Cx) (tg : List Expr) (g : DGo) : Prop := PGs X tg (LGo g)
theorem xgo_nil : XGo X [] goN := pgs_of pgs_nil fun v σ Hc Q ⟨ds, Γ, M, H, k, h1, r, F, O, q⟩ => by
  cases r with
  | nil => exact ⟨rfl, q _ _ M H Hc (Evl.Ex.refl H) F O h1⟩
  | cons _ _ => exact h1.elim
theorem xgo_cons {t : Expr} {ts : List Expr} {g : DG} {gs : DGo} (h : PGs X (t :: ts) (gCons (LG g) (LGo gs))) : XGo X (t :: ts) (goC g gs) := pgs_of h fun v σ Hc Q ⟨ds, Γ, M, H, k, h1, r, F, O, q⟩ => by
  cases r with
  | nil => exact h1.elim
  | @cons d v ds vs r1 r2 =>
    refine ⟨v, vs, rfl, d, Γ, M, H, _, h1, r1, F, O, fun σ' Γ' M' H' Hc' e1 F1 O1 h2 => ?_⟩
    exact ⟨ds, Γ', M', H', k, h2, rps_ex e1 r2, F1, O1, q.ex e1⟩
theorem xg_tupO {n : Nat} {t : Expr} {gs : DGo} (h : PG X t (gTup X.K n (LGo gs))) : XG X t (gTO n gs) := pg_of h fun v σ Hc Q ⟨s, Γ, M, H, k, h1, r, F, O, q⟩ => by
  obtain ⟨xs, l, hn, h1⟩ := h1
  obtain ⟨a, vs, rfl, g1, g2⟩ := l.at_ O r
  exact ⟨a, vs, rfl, SqT.of g1, by rw [rps_len g2]; exact hn, xs, Γ, M, H, k, h1, g2, F, O, q⟩
/-! ### xs[::c] -/
def pickL {α : Type} (xs : List α) (c : Int) : List α := (sliceRange (sliceBounds none none (some c) xs.length).1 (sliceBounds none none (some c) xs.length).2.1 (sliceBounds none none (some c) xs.length).2.2).filterMap (xs[·]?)
theorem paired_get {α β : Type} {F : α → β → Prop} : ∀ {l₁ : List α} {l₂ : List β}, Paired F l₁ l₂ → ∀ (i : Nat), (l₁[i]? = none ∧ l₂[i]? = none) ∨ ∃ a b, l₁[i]? = some a ∧ l₂[i]? = some b ∧ F a b
  | _, _, .nil, i => .inl ⟨by simp, by simp⟩
  | _, _, .cons r t, 0 => .inr ⟨_, _, rfl, rfl, r⟩
  | _, _, .cons r t, i + 1 => by
    rw [List.getElem?_cons_succ, List.getElem?_cons_succ]
    exact paired_get t i
theorem paired_pick {α β : Type} {F : α → β → Prop} {l₁ : List α} {l₂ : List β} (h : Paired F l₁ l₂) : ∀ (js : List Nat), Paired F (js.filterMap (l₁[·]?)) (js.filterMap (l₂[·]?))
  | [] => .nil
  | j :: js => by
    rw [List.filterMap_cons, List.filterMap_cons]
    rcases paired_get h j with ⟨h1, h2⟩ | ⟨a, b, h1, h2, r⟩
    · rw [h1, h2]
      exact paired_pick h js
    · rw [h1, h2]
      exact .cons r (paired_pick h js)
theorem paired_len {α β : Type} {F : α → β → Prop} : ∀ {l₁ : List α} {l₂ : List β}, Paired F l₁ l₂ → l₁.length = l₂.length
  | _, _, .nil => rfl
  | _, _, .cons r t => congrArg (· + 1) (paired_len t)
theorem paired_pickL {α β : Type} {F : α → β → Prop} {l₁ : List α} {l₂ : List β} (h : Paired F l₁ l₂) (c : Int) : Paired F (pickL l₁ c) (pickL l₂ c) := by
  unfold pickL
  rw [paired_len h]
  exact paired_pick h _
theorem pickL_mem {α : Type} {xs : List α} {c : Int} {x : α} (h : x ∈ pickL xs c) : x ∈ xs := by
  obtain ⟨j, _, e⟩ := List.mem_filterMap.mp h
  exact List.mem_of_getElem? e
theorem pickL_len {α : Type} (xs : List α) (c : Int) (hc : 0 < c) : (pickL xs c).length ≤ xs.length := by
  refine Nat.le_trans (List.length_filterMap_le _ _) (sliceRange_length_le _ _ _ _ (fun _ => ?_) fun h => ?_)
  · simp only [sliceBounds, Option.getD_some, if_pos hc]
    exact ⟨Int.le_refl _, Int.le_refl _⟩
  · simp only [sliceBounds, Option.getD_some] at h
    omega
def tStepL (K : PySem.W.Frag) (c : Int) (te : TE) : TE := fun σ H Q => te σ H fun x H1 => ∃ a xs, x = .ref a ∧ SqL K H1 a xs ∧ ∀ p, H1 p = none → Q (.ref p) (upd H1 p (.lst (pickL xs c)))
theorem pe_stepL {e : Expr} {te : TE} {c : Int} {k : Nat} {p1 p3 pos : Pos} (he : PE X e te) (hc : 0 < c) : PE X (.Subscript e (.Slice none none (some (.Constant (.int c) k p1)) p3) pos) (tStepL X.K c te) := by
  refine ⟨fun pins s σ H Q I h => ?_⟩
  refine Subscript_ (thn (he.run pins s σ H _ I h) fun v s1 ⟨x, H1, I1, r1, q1⟩ => ?_)
  obtain ⟨a, xs, ex, hx, q⟩ := q1
  subst ex
  cases r1
  have hst : PO X (some (.Constant (.int c) k p1)) (tPart (tC (.int c))) := po_some pe_int
  refine wpAny_Slice (thn (po_none.run pins s1 σ H1 (fun o H2 => o = none ∧ H2 = H1) I1 ⟨rfl, rfl⟩) fun vl s2 ⟨l, H2, I2, pl, el, e2⟩ => ?_)
  subst el e2
  refine thn (po_none.run pins s2 σ H2 (fun o H3 => o = none ∧ H3 = H2) I2 ⟨rfl, rfl⟩) fun vu s3 ⟨u, H3, I3, pu, eu, e3⟩ => ?_
  subst eu e3
  refine thn (hst.run pins s3 σ H3 (fun o H4 => o = some c ∧ H4 = H3) I3 ⟨c, rfl, rfl, rfl⟩) fun vs s4 ⟨o, H4, I4, ps, eo, e4⟩ => ?_
  subst eo e4
  have I5 : Inv X pins σ H4 { s4 with heap := s4.heap.push { cls := .type "slice", data := .fields #[vl, vu, vs] } } := I4.kept (t' := s4.toks) fun b ob q => Heap.get?_push_of_some _ q
  obtain ⟨its, r, ht, hz⟩ := I5.list hx
  have hlen := r.length
  show wpAny (model X.prog X.w) X.A (subscriptTail e (.Slice none none (some (.Constant (.int c) k p1)) p3) (.ref a) (.ref s4.heap.objs.size)) (EP X pins σ Q) X.xe { s4 with heap := s4.heap.push { cls := .type "slice", data := .fields #[vl, vu, vs] } }
  refine tail_any (ops := [.ref a, .ref s4.heap.objs.size]) ht.isList.typeIs (PySem.slot_list_getitem.lookup) ?_ (by with_unfolding_all rfl)
  refine wpAny_getItem_list_slice ht.isList (Heap.IsSliceOf.new _ vl vu vs) pl pu ps (by intro e; injection e with e; omega) ?_ (by rw [List.size_toArray]; omega)
  have ep : slicePick its.toArray none none (some c) = (pickL its c).toArray := by
    unfold slicePick pickL
    rw [List.size_toArray]
    congr 1
    refine congrArg (fun f => List.filterMap f _) ?_
    funext j
    exact List.getElem?_toArray ..
  rw [ep]
  refine ⟨.ref _, _, I5.laid (t' := s4.toks) (o := .lst (pickL xs c)) (fun b ob q => Heap.get?_push_of_some _ q) (Nat.le_refl _) ?_, rfl, q _ (I5.hok.fresh (Nat.le_refl _))⟩
  exact ⟨Nat.le_trans (pickL_len xs c hc) hz, _, 0, paired_pickL r c, Heap.get?_push_size _ rfl⟩
def dStepL (c : Int) (de : DE) : DE := fun Γ M k => de Γ M fun s M1 => ∃ xs, IsL M1 s xs ∧ xs.length ≤ 16777216 ∧ ∀ p, M1 p = none → k (.own p) (put M1 p (.lst (pickL xs c)))
theorem rps_paired {H : Hp} {ss : List Sl} {vs : List V} (h : Rps H ss vs) : Paired (Rp H) ss vs := h
theorem xe_stepL {e : Expr} {de : DE} {c : Int} {k : Nat} {p1 p3 pos : Pos} (hc : 0 < c) (he : XE X e de) : XE X (.Subscript e (.Slice none none (some (.Constant (.int c) k p1)) p3) pos) (dStepL c de) := xe_of (pe_stepL he hc) fun Γ M k σ H Hc Q hd F O q => simLE Γ M _ σ H Hc _ hd F O fun v s M1 H1 Hc1 e1 O1 r1 h1 => by
  obtain ⟨xs, l, hz, h1⟩ := h1
  obtain ⟨a, vs, rfl, g1, g2⟩ := l.at_ O1 r1
  exact ⟨a, vs, rfl, SqL.of g1, fun p hp => (q.ex e1).own O1 (paired_pickL g2 c) (Nat.le_trans (pickL_len xs c hc) (by rw [sizeLine_eq]; exact hz)) hp (h1 p (O1.freeM hp))⟩
end
end DL
/-! the truth of lists, texts, None, whole numbers as a test -/
namespace DL
open PySem PySem.Spec PyProof.Rows L2
open Evl (Ex)
def TruS (M : Mem) (s : Sl) (b : Bool) : Prop := (∃ xs, IsL M s xs ∧ b = !xs.isEmpty) ∨ (∃ x : Str, s = .dat (.str x) ∧ x.length ≤ 16777216 ∧ b = ((x.length : Int) != 0)) ∨ (s = .dat .none ∧ b = false) ∨ ∃ i, s = .dat (.int i) ∧ b = (i != 0)
theorem TruS.at_ {K : PySem.W.Frag} {H Hc : Hp} {M : Mem} {s : Sl} {b : Bool} {x : V} (h : TruS M s b) (O : Own H Hc M) (r : Rp H s x) : TruV K x Hc b := by
  rcases h with ⟨xs, l, e⟩ | ⟨y, rfl, hz, e⟩ | ⟨rfl, e⟩ | ⟨i, rfl, e⟩
  · obtain ⟨a, vs, rfl, g, rs⟩ := l.at_ O r
    exact .inl ⟨vs, SqL.of g, by rw [e, rps_empty rs]⟩
  · rw [dp_str_inv r]
    exact ⟨by rw [sizeLine_eq]; exact hz, e⟩
  · rw [dp_non_inv r]
    exact e
  · rw [dp_int_inv r]
    exact e
def dTru (de : DE) : DB := fun Γ M k => de Γ M fun s M1 => ∃ b, TruS M1 s b ∧ k b M1
theorem xb_tru {X : Cx} {e : Expr} {de : DE} (h : XE X e de) (he : ∀ whole, isTrue e X.env whole = (do let v ← whole; standAt e.pos; holding [v] (truthy v)) := by intro _; rfl) : XB X e (dTru de) := xb_of (pt_truth h he) fun Γ M k σ H Hc Q hd F O q => by
  refine simLE Γ M _ σ H Hc _ hd F O fun v s M1 H1 Hc1 e1 O1 r1 h1 => ?_
  obtain ⟨b, hb, hk⟩ := h1
  exact ⟨b, hb.at_ O1 r1, q b M1 H1 Hc1 e1 O1 hk⟩
end DL
/-! comprehensions over lists, told by a function: with tests, frozen or not -/
namespace DL
open PySem PySem.Spec PyProof.Rows L2
open Evl (Ex)
theorem lc_filtG {α : Type} {s : Sl} {M1 : Mem} {Γ : Fm} {vs : List Nat} {j : Nat} {t : DB} {el : DE} {K : Addr → Mem → Prop} (i f : α → Sl) (p : α → Bool) {zs : List α} (l : IsL M1 s (zs.map i)) (hz : zs.length < 16777216)
    (ht : ∀ z ∈ zs, ∀ (M' : Mem) (k' : Bool → Mem → Prop), (∀ a o, M1 a = some o → M' a = some o) → k' (p z) M' → t ((wipeF Γ vs).set j (some (i z))) M' k')
    (he : ∀ z ∈ zs, ∀ (M' : Mem) (k' : DK), (∀ a o, M1 a = some o → M' a = some o) → p z = true → k' (f z) M' → el ((wipeF Γ vs).set j (some (i z))) M' k') (hk : ∀ p', M1 p' = none → K p' (put M1 p' (.lst ((zs.filter p).map f)))) :
    ∃ xs, IsL M1 s xs ∧ ∀ p, M1 p = none → ∃ Inv : Nat → Mem → Prop, Inv 0 (put M1 p (.lst [])) ∧ (∀ i M', i ≤ xs.length → Inv i M' → IsL M' s xs) ∧
      (∀ i x M', xs[i]? = some x → Inv i M' → lcTurn p Γ vs j t el (Inv (i + 1)) x M') ∧ ∀ M', Inv xs.length M' → K p M' := by
  refine ⟨zs.map i, l, fun q hp => ⟨fun n M' => M' = put M1 q (.lst (((zs.take n).filter p).map f)), rfl, fun i M' _ e => by rw [e]; exact l.put hp, fun n x M' hx e => ?_, fun M' e => by rw [e, List.length_map, List.take_length]; exact hk q hp⟩⟩
  subst e
  rw [List.getElem?_map] at hx
  cases hn : zs[n]? with
  | none => rw [hn] at hx; cases hx
  | some z =>
  rw [hn] at hx
  cases hx
  have hm := List.mem_of_getElem? hn
  have hi : n < zs.length := (List.getElem?_eq_some_iff.mp hn).1
  have et : zs.take (n + 1) = zs.take n ++ [z] := by rw [List.take_add_one, hn]; rfl
  have lf := List.length_filter_le p (zs.take n)
  rw [List.length_take] at lf
  have kp : ∀ {o' : MO} (a : Addr) (o : MO), M1 a = some o → put M1 q o' a = some o := fun a o h => (put_ne (ne_mem h hp)).trans h
  refine ht z hm _ _ kp ⟨fun hf => he z hm _ _ kp hf ⟨_, put_at, by rw [List.length_map]; omega, ?_⟩, fun hf => ?_⟩
  · show put (put M1 q _) q _ = put M1 q (.lst (((zs.take (n + 1)).filter p).map f))
    rw [put_put, et, List.filter_append, List.filter_cons, if_pos hf, List.filter_nil, List.map_append]
    rfl
  · show put M1 q _ = put M1 q (.lst (((zs.take (n + 1)).filter p).map f))
    rw [et, List.filter_append, List.filter_cons, if_neg (by rw [hf]; exact Bool.false_ne_true), List.filter_nil, List.append_nil]
theorem lc_mapG {α : Type} {s : Sl} {M1 : Mem} {Γ : Fm} {vs : List Nat} {j : Nat} {el : DE} {K : Addr → Mem → Prop} (i f : α → Sl) {zs : List α} (l : IsL M1 s (zs.map i)) (hz : zs.length < 16777216)
    (he : ∀ z ∈ zs, ∀ (M' : Mem) (k' : DK), (∀ a o, M1 a = some o → M' a = some o) → k' (f z) M' → el ((wipeF Γ vs).set j (some (i z))) M' k') (hk : ∀ p, M1 p = none → K p (put M1 p (.lst (zs.map f)))) :
    ∃ xs, IsL M1 s xs ∧ ∀ p, M1 p = none → ∃ Inv : Nat → Mem → Prop, Inv 0 (put M1 p (.lst [])) ∧ (∀ i M', i ≤ xs.length → Inv i M' → IsL M' s xs) ∧
      (∀ i x M', xs[i]? = some x → Inv i M' → lcTurn p Γ vs j dYes el (Inv (i + 1)) x M') ∧ ∀ M', Inv xs.length M' → K p M' :=
  lc_filtG (t := dYes) i f (fun _ => true) l hz (fun z hz M' k' _ h => h) (fun z hz M' k' h _ hk => he z hz M' k' h hk) fun p hp => by
    rw [List.filter_eq_self.mpr fun _ _ => rfl]
    exact hk p hp
/-- .. frozen -/
theorem lc_filtD {α : Type} {s : Sl} {M1 : Mem} {Γ : Fm} {vs : List Nat} {j : Nat} {t : DB} {el : DE} {k : DK} (i : α → Sl) (f : α → Dt) (p : α → Bool) {zs : List α} (l : IsL M1 s (zs.map i)) (hz : zs.length < 16777216)
    (ht : ∀ z ∈ zs, ∀ (M' : Mem) (k' : Bool → Mem → Prop), (∀ a o, M1 a = some o → M' a = some o) → k' (p z) M' → t ((wipeF Γ vs).set j (some (i z))) M' k')
    (he : ∀ z ∈ zs, ∀ (M' : Mem) (k' : DK), (∀ a o, M1 a = some o → M' a = some o) → p z = true → k' (.dat (f z)) M' → el ((wipeF Γ vs).set j (some (i z))) M' k') (hk : k (.dat (.list ((zs.filter p).map f))) M1) :
    ∃ xs, IsL M1 s xs ∧ ∀ p, M1 p = none → ∃ Inv : Nat → Mem → Prop, Inv 0 (put M1 p (.lst [])) ∧ (∀ i M', i ≤ xs.length → Inv i M' → IsL M' s xs) ∧
      (∀ i x M', xs[i]? = some x → Inv i M' → lcTurn p Γ vs j t el (Inv (i + 1)) x M') ∧ ∀ M', Inv xs.length M' → ∃ ds, M' p = some (.lst (ds.map .dat)) ∧ k (.dat (.list ds)) (del M' p) :=
  lc_filtG (K := fun p M' => ∃ ds, M' p = some (.lst (ds.map .dat)) ∧ k (.dat (.list ds)) (del M' p)) i (fun z => .dat (f z)) p l hz ht he fun p' hp => ⟨(zs.filter p).map f, by rw [put_at, List.map_map]; rfl, by rw [del_put hp]; exact hk⟩
theorem lc_mapD {α : Type} {s : Sl} {M1 : Mem} {Γ : Fm} {vs : List Nat} {j : Nat} {el : DE} {k : DK} (i : α → Sl) (f : α → Dt) {zs : List α} (l : IsL M1 s (zs.map i)) (hz : zs.length < 16777216)
    (he : ∀ z ∈ zs, ∀ (M' : Mem) (k' : DK), (∀ a o, M1 a = some o → M' a = some o) → k' (.dat (f z)) M' → el ((wipeF Γ vs).set j (some (i z))) M' k') (hk : k (.dat (.list (zs.map f))) M1) :
    ∃ xs, IsL M1 s xs ∧ ∀ p, M1 p = none → ∃ Inv : Nat → Mem → Prop, Inv 0 (put M1 p (.lst [])) ∧ (∀ i M', i ≤ xs.length → Inv i M' → IsL M' s xs) ∧
      (∀ i x M', xs[i]? = some x → Inv i M' → lcTurn p Γ vs j dYes el (Inv (i + 1)) x M') ∧ ∀ M', Inv xs.length M' → ∃ ds, M' p = some (.lst (ds.map .dat)) ∧ k (.dat (.list ds)) (del M' p) :=
  lc_mapG (K := fun p M' => ∃ ds, M' p = some (.lst (ds.map .dat)) ∧ k (.dat (.list ds)) (del M' p)) i (fun z => .dat (f z)) l hz he fun p' hp => ⟨zs.map f, by rw [put_at, List.map_map]; rfl, by rw [del_put hp]; exact hk⟩
/-- .. assigned to the slot n, frozen -/
theorem lc_filtS {α : Type} {s : Sl} {M1 : Mem} {Γ : Fm} {vs : List Nat} {j n : Nat} {t : DB} {el : DE} {G : Addr → Fm} {nx : Fm → Mem → Prop} (i : α → Sl) (f : α → Dt) (p : α → Bool) {zs : List α} (l : IsL M1 s (zs.map i)) (hz : zs.length < 16777216)
    (ht : ∀ z ∈ zs, ∀ (M' : Mem) (k' : Bool → Mem → Prop), (∀ a o, M1 a = some o → M' a = some o) → k' (p z) M' → t ((wipeF Γ vs).set j (some (i z))) M' k')
    (he : ∀ z ∈ zs, ∀ (M' : Mem) (k' : DK), (∀ a o, M1 a = some o → M' a = some o) → p z = true → k' (.dat (f z)) M' → el ((wipeF Γ vs).set j (some (i z))) M' k') (hG : ∀ p, (G p)[n]? = some (some (.own p))) (hk : ∀ q, nx ((G q).set n (some (.dat (.list ((zs.filter p).map f))))) M1) :
    ∃ xs, IsL M1 s xs ∧ ∀ p, M1 p = none → ∃ Inv : Nat → Mem → Prop, Inv 0 (put M1 p (.lst [])) ∧ (∀ i M', i ≤ xs.length → Inv i M' → IsL M' s xs) ∧
      (∀ i x M', xs[i]? = some x → Inv i M' → lcTurn p Γ vs j t el (Inv (i + 1)) x M') ∧ ∀ M', Inv xs.length M' → ∃ a ds, (G p)[n]? = some (some (.own a)) ∧ M' a = some (.lst (ds.map .dat)) ∧ nx ((G p).set n (some (.dat (.list ds)))) (del M' a) :=
  lc_filtG (K := fun p M' => ∃ a ds, (G p)[n]? = some (some (.own a)) ∧ M' a = some (.lst (ds.map .dat)) ∧ nx ((G p).set n (some (.dat (.list ds)))) (del M' a)) i (fun z => .dat (f z)) p l hz ht he fun p' hp => ⟨p', (zs.filter p).map f, hG p', by rw [put_at, List.map_map]; rfl, by rw [del_put hp]; exact hk p'⟩
theorem lc_mapS {α : Type} {s : Sl} {M1 : Mem} {Γ : Fm} {vs : List Nat} {j n : Nat} {el : DE} {G : Addr → Fm} {nx : Fm → Mem → Prop} (i : α → Sl) (f : α → Dt) {zs : List α} (l : IsL M1 s (zs.map i)) (hz : zs.length < 16777216)
    (he : ∀ z ∈ zs, ∀ (M' : Mem) (k' : DK), (∀ a o, M1 a = some o → M' a = some o) → k' (.dat (f z)) M' → el ((wipeF Γ vs).set j (some (i z))) M' k') (hG : ∀ p, (G p)[n]? = some (some (.own p))) (hk : ∀ q, nx ((G q).set n (some (.dat (.list (zs.map f))))) M1) :
    ∃ xs, IsL M1 s xs ∧ ∀ p, M1 p = none → ∃ Inv : Nat → Mem → Prop, Inv 0 (put M1 p (.lst [])) ∧ (∀ i M', i ≤ xs.length → Inv i M' → IsL M' s xs) ∧
      (∀ i x M', xs[i]? = some x → Inv i M' → lcTurn p Γ vs j dYes el (Inv (i + 1)) x M') ∧ ∀ M', Inv xs.length M' → ∃ a ds, (G p)[n]? = some (some (.own a)) ∧ M' a = some (.lst (ds.map .dat)) ∧ nx ((G p).set n (some (.dat (.list ds)))) (del M' a) :=
  lc_mapG (K := fun p M' => ∃ a ds, (G p)[n]? = some (some (.own a)) ∧ M' a = some (.lst (ds.map .dat)) ∧ nx ((G p).set n (some (.dat (.list ds)))) (del M' a)) i (fun z => .dat (f z)) l hz he fun p' hp => ⟨p', zs.map f, hG p', by rw [put_at, List.map_map]; rfl, by rw [del_put hp]; exact hk p'⟩
end DL
/-! in, of a whole number and a tuple of such -/
namespace DL
open PySem PySem.Spec PyProof.Rows L2
open Evl (Ex)
def fInT (neg : Bool) : D2 := fun s t M k => ∃ (i : Int) (ns : List Int), s = .dat (.int i) ∧ IsT M t (ns.map fun n => .dat (.int n)) ∧ k (.dat (.bool (if neg = true then !decide (i ∈ ns) else decide (i ∈ ns)))) M
theorem sim_inT {K : PySem.W.Frag} (neg : Bool) : Sim2 (rIn K neg) (fInT neg) := by
  intro s t M k x y H Hc Q h rx ry O q
  obtain ⟨i, ns, rfl, l, h⟩ := h
  obtain ⟨a, vs, rfl, g1, g2⟩ := l.at_ O ry
  rw [rps_ints g2] at g1
  refine ⟨a, _, rfl, .inr (SqT.of g1), by rw [dp_int_inv rx] <;> rfl, flat_ints ns, ?_⟩
  rw [dp_int_inv rx, inV_ints]
  exact q _ (.dat (.bool _)) M H Hc (Ex.refl H) O (Dq.bl _) h
end DL
namespace LW
open PySem PySem.Spec PyProof.Rows DL
open L2 hiding del del_ne del_same
def top (i : Nat) : Stmt := PySem.Challenge.pw_latewood_k46_gaps_told.main.body.getD i (.Pass ⟨0, 0, 0, 0⟩)
abbrev s_is_whole : Stmt := top 29
abbrev N_is_whole : List Str := ["thing"]
theorem sc_is_whole : FnScope N_is_whole ["thing"] (defScope s_is_whole) := ⟨rfl, rfl, rfl, by decide +kernel, rfl, by decide +kernel, by decide +kernel⟩
abbrev s_is_clash : Stmt := top 30
abbrev N_is_clash : List Str := ["one", "other"]
theorem sc_is_clash : FnScope N_is_clash ["one", "other"] (defScope s_is_clash) := ⟨rfl, rfl, rfl, by decide +kernel, rfl, by decide +kernel, by decide +kernel⟩
abbrev s_held_till : Stmt := top 31
abbrev N_held_till : List Str := ["piece"]
theorem sc_held_till : FnScope N_held_till ["piece"] (defScope s_held_till) := ⟨rfl, rfl, rfl, by decide +kernel, rfl, by decide +kernel, by decide +kernel⟩
abbrev s_cleared : Stmt := top 33
abbrev N_cleared : List Str := ["heap", "pieces", "pair"]
theorem sc_cleared : FnScope N_cleared ["heap"] (defScope s_cleared) := ⟨rfl, rfl, rfl, by decide +kernel, rfl, by decide +kernel, by decide +kernel⟩
abbrev s_least_clash : Stmt := top 34
abbrev N_least_clash : List Str := ["pieces", "at", "piece", "other"]
theorem sc_least_clash : FnScope N_least_clash ["pieces"] (defScope s_least_clash) := ⟨rfl, rfl, rfl, by decide +kernel, rfl, by decide +kernel, by decide +kernel⟩
abbrev s_wood_of : Stmt := top 36
abbrev N_wood_of : List Str := ["heap", "run", "pieces", "ring", "kids", "gaps", "asker"]
theorem sc_wood_of : FnScope N_wood_of ["heap", "run"] (defScope s_wood_of) := ⟨rfl, rfl, rfl, by decide +kernel, rfl, by decide +kernel, by decide +kernel⟩
abbrev s_pieces_of : Stmt := top 37
abbrev N_pieces_of : List Str := ["heap", "run", "pieces", "piece"]
theorem sc_pieces_of : FnScope N_pieces_of ["heap", "run"] (defScope s_pieces_of) := ⟨rfl, rfl, rfl, by decide +kernel, rfl, by decide +kernel, by decide +kernel⟩
abbrev s_tops_of : Stmt := top 38
abbrev N_tops_of : List Str := ["pieces", "number"]
theorem sc_tops_of : FnScope N_tops_of ["pieces"] (defScope s_tops_of) := ⟨rfl, rfl, rfl, by decide +kernel, rfl, by decide +kernel, by decide +kernel⟩
abbrev s_kids_of : Stmt := top 39
abbrev N_kids_of : List Str := ["pieces", "kids", "asker", "piece", "number"]
theorem sc_kids_of : FnScope N_kids_of ["pieces"] (defScope s_kids_of) := ⟨rfl, rfl, rfl, by decide +kernel, rfl, by decide +kernel, by decide +kernel⟩
abbrev s_asker_of : Stmt := top 40
abbrev N_asker_of : List Str := ["pieces", "number"]
theorem sc_asker_of : FnScope N_asker_of ["pieces", "number"] (defScope s_asker_of) := ⟨rfl, rfl, rfl, by decide +kernel, rfl, by decide +kernel, by decide +kernel⟩
abbrev s_numbers_up : Stmt := top 41
abbrev N_numbers_up : List Str := ["pieces", "number", "way"]
theorem sc_numbers_up : FnScope N_numbers_up ["pieces", "number"] (defScope s_numbers_up) := ⟨rfl, rfl, rfl, by decide +kernel, rfl, by decide +kernel, by decide +kernel⟩
abbrev s_least_ring : Stmt := top 42
abbrev N_least_ring : List Str := ["pieces", "number", "way"]
theorem sc_least_ring : FnScope N_least_ring ["pieces"] (defScope s_least_ring) := ⟨rfl, rfl, rfl, by decide +kernel, rfl, by decide +kernel, by decide +kernel⟩
abbrev s_gap_of : Stmt := top 44
abbrev N_gap_of : List Str := ["heap", "run", "number", "wood", "pieces", "asked", "first", "last", "_", "tops", "gaps", "kids", "kid", "top"]
theorem sc_gap_of : FnScope N_gap_of ["heap", "run", "number"] (defScope s_gap_of) := ⟨rfl, rfl, rfl, by decide +kernel, rfl, by decide +kernel, by decide +kernel⟩
abbrev s_llmixed : Stmt := top 46
abbrev N_llmixed : List Str := ["cell", "at", "one", "two", "three"]
theorem sc_llmixed : FnScope N_llmixed ["cell", "at"] (defScope s_llmixed) := ⟨rfl, rfl, rfl, by decide +kernel, rfl, by decide +kernel, by decide +kernel⟩
abbrev s_llopen : Stmt := top 47
abbrev N_llopen : List Str := ["script"]
theorem sc_llopen : FnScope N_llopen ["script"] (defScope s_llopen) := ⟨rfl, rfl, rfl, by decide +kernel, rfl, by decide +kernel, by decide +kernel⟩
abbrev s_lldraw : Stmt := top 48
abbrev N_lldraw : List Str := ["feed", "many", "drawn", "at", "cell"]
theorem sc_lldraw : FnScope N_lldraw ["feed", "many"] (defScope s_lldraw) := ⟨rfl, rfl, rfl, by decide +kernel, rfl, by decide +kernel, by decide +kernel⟩
abbrev s_llorder : Stmt := top 49
abbrev N_llorder : List Str := ["feed", "many", "left", "turn"]
theorem sc_llorder : FnScope N_llorder ["feed", "many"] (defScope s_llorder) := ⟨rfl, rfl, rfl, by decide +kernel, rfl, by decide +kernel, by decide +kernel⟩
abbrev s_llpiece : Stmt := top 50
abbrev N_llpiece : List Str := ["feed", "counts", "ids", "place", "times", "joined", "count"]
theorem sc_llpiece : FnScope N_llpiece ["feed", "counts", "ids", "place", "times", "joined"] (defScope s_llpiece) := ⟨rfl, rfl, rfl, by decide +kernel, rfl, by decide +kernel, by decide +kernel⟩
abbrev s_llrun : Stmt := top 51
abbrev N_llrun : List Str := ["feed", "counts", "run", "many", "houses", "low", "far", "names", "wide", "first", "times", "place", "rows", "name", "elder", "joined", "room", "ids", "k"]
theorem sc_llrun : FnScope N_llrun ["feed", "counts", "run", "many", "houses"] (defScope s_llrun) := ⟨rfl, rfl, rfl, by decide +kernel, rfl, by decide +kernel, by decide +kernel⟩
abbrev s_llbent_one : Stmt := top 52
abbrev N_llbent_one : List Str := ["feed", "pieces", "at", "piece", "way", "more", "asker"]
theorem sc_llbent_one : FnScope N_llbent_one ["feed", "pieces", "at"] (defScope s_llbent_one) := ⟨rfl, rfl, rfl, by decide +kernel, rfl, by decide +kernel, by decide +kernel⟩
abbrev s_lltold : Stmt := top 53
abbrev N_lltold : List Str := ["feed", "pieces", "found", "turn", "at", "again"]
theorem sc_lltold : FnScope N_lltold ["feed", "pieces"] (defScope s_lltold) := ⟨rfl, rfl, rfl, by decide +kernel, rfl, by decide +kernel, by decide +kernel⟩
abbrev s_llcaught : Stmt := top 54
abbrev N_llcaught : List Str := ["call", "caught", "e"]
theorem sc_llcaught : FnScope N_llcaught ["call"] (defScope s_llcaught) := ⟨rfl, rfl, rfl, by decide +kernel, rfl, by decide +kernel, by decide +kernel⟩
abbrev s_llkind : Stmt := top 55
abbrev N_llkind : List Str := ["caught", "kinds", "words"]
theorem sc_llkind : FnScope N_llkind ["caught"] (defScope s_llkind) := ⟨rfl, rfl, rfl, by decide +kernel, rfl, by decide +kernel, by decide +kernel⟩
abbrev s_llof : Stmt := top 56
abbrev N_llof : List Str := ["pieces", "run", "piece"]
theorem sc_llof : FnScope N_llof ["pieces", "run"] (defScope s_llof) := ⟨rfl, rfl, rfl, by decide +kernel, rfl, by decide +kernel, by decide +kernel⟩
abbrev s_llup : Stmt := top 57
abbrev N_llup : List Str := ["own", "number", "found"]
theorem sc_llup : FnScope N_llup ["own", "number"] (defScope s_llup) := ⟨rfl, rfl, rfl, by decide +kernel, rfl, by decide +kernel, by decide +kernel⟩
abbrev s_llring : Stmt := top 58
abbrev N_llring : List Str := ["own", "number", "walk"]
theorem sc_llring : FnScope N_llring ["own"] (defScope s_llring) := ⟨rfl, rfl, rfl, by decide +kernel, rfl, by decide +kernel, by decide +kernel⟩
abbrev s_llwood : Stmt := top 59
abbrev N_llwood : List Str := ["own", "ring", "kids", "every", "asker", "tops", "gaps", "some", "number"]
theorem sc_llwood : FnScope N_llwood ["own"] (defScope s_llwood) := ⟨rfl, rfl, rfl, by decide +kernel, rfl, by decide +kernel, by decide +kernel⟩
abbrev s_llringed : Stmt := top 60
abbrev N_llringed : List Str := ["feed", "pieces", "at", "own", "walk", "top", "found", "piece", "number"]
theorem sc_llringed : FnScope N_llringed ["feed", "pieces"] (defScope s_llringed) := ⟨rfl, rfl, rfl, by decide +kernel, rfl, by decide +kernel, by decide +kernel⟩
abbrev s_llone_run : Stmt := top 61
abbrev N_llone_run : List Str := ["feed", "most", "run", "many"]
theorem sc_llone_run : FnScope N_llone_run ["feed", "most"] (defScope s_llone_run) := ⟨rfl, rfl, rfl, by decide +kernel, rfl, by decide +kernel, by decide +kernel⟩
abbrev s_llgapped : Stmt := top 62
abbrev N_llgapped : List Str := ["feed", "most", "turn", "way", "pieces", "run", "at"]
theorem sc_llgapped : FnScope N_llgapped ["feed", "most"] (defScope s_llgapped) := ⟨rfl, rfl, rfl, by decide +kernel, rfl, by decide +kernel, by decide +kernel⟩
abbrev s_llbounds : Stmt := top 63
abbrev N_llbounds : List Str := ["own", "number", "wood", "kids", "last", "until", "top", "kid"]
theorem sc_llbounds : FnScope N_llbounds ["own", "number"] (defScope s_llbounds) := ⟨rfl, rfl, rfl, by decide +kernel, rfl, by decide +kernel, by decide +kernel⟩
abbrev s_llbeside : Stmt := top 64
abbrev N_llbeside : List Str := ["feed", "pieces", "run", "found", "piece", "other", "way"]
theorem sc_llbeside : FnScope N_llbeside ["feed", "pieces", "run"] (defScope s_llbeside) := ⟨rfl, rfl, rfl, by decide +kernel, rfl, by decide +kernel, by decide +kernel⟩
abbrev s_ll_right : Stmt := top 65
abbrev N_ll_right : List Str := ["told", "own", "run", "odd", "wood", "due", "some", "number", "again", "handed", "found"]
theorem sc_ll_right : FnScope N_ll_right ["told", "own", "run", "odd"] (defScope s_ll_right) := ⟨rfl, rfl, rfl, by decide +kernel, rfl, by decide +kernel, by decide +kernel⟩
abbrev s_law : Stmt := top 66
abbrev N_law : List Str := ["script", "feed", "turn", "told", "own", "askers", "none", "odd", "other", "piece", "bad", "pieces", "run", "number"]
theorem sc_law : FnScope N_law ["script"] (defScope s_law) := ⟨rfl, rfl, rfl, by decide +kernel, rfl, by decide +kernel, by decide +kernel⟩
structure Tx (P : Program) (K : PySem.W.Frag) (mg : Str → Option Value) where
  f_is_whole : Addr
  fd_is_whole : FuncData
  F_is_whole : FunV K "is_whole" "is_whole" s_is_whole f_is_whole fd_is_whole
  g_is_whole : mg "is_whole" = some (.ref f_is_whole)
  b_is_whole : Binds K fd_is_whole ["thing"] []
  f_is_clash : Addr
  fd_is_clash : FuncData
  F_is_clash : FunV K "is_clash" "is_clash" s_is_clash f_is_clash fd_is_clash
  g_is_clash : mg "is_clash" = some (.ref f_is_clash)
  b_is_clash : Binds K fd_is_clash ["one", "other"] []
  f_held_till : Addr
  fd_held_till : FuncData
  F_held_till : FunV K "held_till" "held_till" s_held_till f_held_till fd_held_till
  g_held_till : mg "held_till" = some (.ref f_held_till)
  b_held_till : Binds K fd_held_till ["piece"] []
  f_cleared : Addr
  fd_cleared : FuncData
  F_cleared : FunV K "cleared" "cleared" s_cleared f_cleared fd_cleared
  g_cleared : mg "cleared" = some (.ref f_cleared)
  b_cleared : Binds K fd_cleared ["heap"] []
  f_least_clash : Addr
  fd_least_clash : FuncData
  F_least_clash : FunV K "least_clash" "least_clash" s_least_clash f_least_clash fd_least_clash
  g_least_clash : mg "least_clash" = some (.ref f_least_clash)
  b_least_clash : Binds K fd_least_clash ["pieces"] []
  f_wood_of : Addr
  fd_wood_of : FuncData
  F_wood_of : FunV K "wood_of" "wood_of" s_wood_of f_wood_of fd_wood_of
  g_wood_of : mg "wood_of" = some (.ref f_wood_of)
  b_wood_of : Binds K fd_wood_of ["heap", "run"] []
  f_pieces_of : Addr
  fd_pieces_of : FuncData
  F_pieces_of : FunV K "pieces_of" "pieces_of" s_pieces_of f_pieces_of fd_pieces_of
  g_pieces_of : mg "pieces_of" = some (.ref f_pieces_of)
  b_pieces_of : Binds K fd_pieces_of ["heap", "run"] []
  f_tops_of : Addr
  fd_tops_of : FuncData
  F_tops_of : FunV K "tops_of" "tops_of" s_tops_of f_tops_of fd_tops_of
  g_tops_of : mg "tops_of" = some (.ref f_tops_of)
  b_tops_of : Binds K fd_tops_of ["pieces"] []
  f_kids_of : Addr
  fd_kids_of : FuncData
  F_kids_of : FunV K "kids_of" "kids_of" s_kids_of f_kids_of fd_kids_of
  g_kids_of : mg "kids_of" = some (.ref f_kids_of)
  b_kids_of : Binds K fd_kids_of ["pieces"] []
  f_asker_of : Addr
  fd_asker_of : FuncData
  F_asker_of : FunV K "asker_of" "asker_of" s_asker_of f_asker_of fd_asker_of
  g_asker_of : mg "asker_of" = some (.ref f_asker_of)
  b_asker_of : Binds K fd_asker_of ["pieces", "number"] []
  f_numbers_up : Addr
  fd_numbers_up : FuncData
  F_numbers_up : FunV K "numbers_up" "numbers_up" s_numbers_up f_numbers_up fd_numbers_up
  g_numbers_up : mg "numbers_up" = some (.ref f_numbers_up)
  b_numbers_up : Binds K fd_numbers_up ["pieces", "number"] []
  f_least_ring : Addr
  fd_least_ring : FuncData
  F_least_ring : FunV K "least_ring" "least_ring" s_least_ring f_least_ring fd_least_ring
  g_least_ring : mg "least_ring" = some (.ref f_least_ring)
  b_least_ring : Binds K fd_least_ring ["pieces"] []
  f_gap_of : Addr
  fd_gap_of : FuncData
  F_gap_of : FunV K "gap_of" "gap_of" s_gap_of f_gap_of fd_gap_of
  g_gap_of : mg "gap_of" = some (.ref f_gap_of)
  b_gap_of : Binds K fd_gap_of ["heap", "run", "number"] []
  f_llmixed : Addr
  fd_llmixed : FuncData
  F_llmixed : FunV K "_law_lmixed" "_law_lmixed" s_llmixed f_llmixed fd_llmixed
  g_llmixed : mg "_law_lmixed" = some (.ref f_llmixed)
  b_llmixed : Binds K fd_llmixed ["cell", "at"] []
  f_llopen : Addr
  fd_llopen : FuncData
  F_llopen : FunV K "_law_lopen" "_law_lopen" s_llopen f_llopen fd_llopen
  g_llopen : mg "_law_lopen" = some (.ref f_llopen)
  b_llopen : Binds K fd_llopen ["script"] []
  f_lldraw : Addr
  fd_lldraw : FuncData
  F_lldraw : FunV K "_law_ldraw" "_law_ldraw" s_lldraw f_lldraw fd_lldraw
  g_lldraw : mg "_law_ldraw" = some (.ref f_lldraw)
  b_lldraw : Binds K fd_lldraw ["feed", "many"] []
  f_llorder : Addr
  fd_llorder : FuncData
  F_llorder : FunV K "_law_lorder" "_law_lorder" s_llorder f_llorder fd_llorder
  g_llorder : mg "_law_lorder" = some (.ref f_llorder)
  b_llorder : Binds K fd_llorder ["feed", "many"] []
  f_llpiece : Addr
  fd_llpiece : FuncData
  F_llpiece : FunV K "_law_lpiece" "_law_lpiece" s_llpiece f_llpiece fd_llpiece
  g_llpiece : mg "_law_lpiece" = some (.ref f_llpiece)
  b_llpiece : Binds K fd_llpiece ["feed", "counts", "ids", "place", "times", "joined"] []
  f_llrun : Addr
  fd_llrun : FuncData
  F_llrun : FunV K "_law_lrun" "_law_lrun" s_llrun f_llrun fd_llrun
  g_llrun : mg "_law_lrun" = some (.ref f_llrun)
  b_llrun : Binds K fd_llrun ["feed", "counts", "run", "many", "houses"] []
  f_llbent_one : Addr
  fd_llbent_one : FuncData
  F_llbent_one : FunV K "_law_lbent_one" "_law_lbent_one" s_llbent_one f_llbent_one fd_llbent_one
  g_llbent_one : mg "_law_lbent_one" = some (.ref f_llbent_one)
  b_llbent_one : Binds K fd_llbent_one ["feed", "pieces", "at"] []
  f_lltold : Addr
  fd_lltold : FuncData
  F_lltold : FunV K "_law_ltold" "_law_ltold" s_lltold f_lltold fd_lltold
  g_lltold : mg "_law_ltold" = some (.ref f_lltold)
  b_lltold : Binds K fd_lltold ["feed", "pieces"] []
  f_llcaught : Addr
  fd_llcaught : FuncData
  F_llcaught : FunV K "_law_lcaught" "_law_lcaught" s_llcaught f_llcaught fd_llcaught
  g_llcaught : mg "_law_lcaught" = some (.ref f_llcaught)
  b_llcaught : Binds K fd_llcaught ["call"] []
  f_llkind : Addr
  fd_llkind : FuncData
  F_llkind : FunV K "_law_lkind" "_law_lkind" s_llkind f_llkind fd_llkind
  g_llkind : mg "_law_lkind" = some (.ref f_llkind)
  b_llkind : Binds K fd_llkind ["caught"] []
  f_llof : Addr
  fd_llof : FuncData
  F_llof : FunV K "_law_lof" "_law_lof" s_llof f_llof fd_llof
  g_llof : mg "_law_lof" = some (.ref f_llof)
  b_llof : Binds K fd_llof ["pieces", "run"] []
  f_llup : Addr
  fd_llup : FuncData
  F_llup : FunV K "_law_lup" "_law_lup" s_llup f_llup fd_llup
  g_llup : mg "_law_lup" = some (.ref f_llup)
  b_llup : Binds K fd_llup ["own", "number"] []
  f_llring : Addr
  fd_llring : FuncData
  F_llring : FunV K "_law_lring" "_law_lring" s_llring f_llring fd_llring
  g_llring : mg "_law_lring" = some (.ref f_llring)
  b_llring : Binds K fd_llring ["own"] []
  f_llwood : Addr
  fd_llwood : FuncData
  F_llwood : FunV K "_law_lwood" "_law_lwood" s_llwood f_llwood fd_llwood
  g_llwood : mg "_law_lwood" = some (.ref f_llwood)
  b_llwood : Binds K fd_llwood ["own"] []
  f_llringed : Addr
  fd_llringed : FuncData
  F_llringed : FunV K "_law_lringed" "_law_lringed" s_llringed f_llringed fd_llringed
  g_llringed : mg "_law_lringed" = some (.ref f_llringed)
  b_llringed : Binds K fd_llringed ["feed", "pieces"] []
  f_llone_run : Addr
  fd_llone_run : FuncData
  F_llone_run : FunV K "_law_lone_run" "_law_lone_run" s_llone_run f_llone_run fd_llone_run
  g_llone_run : mg "_law_lone_run" = some (.ref f_llone_run)
  b_llone_run : Binds K fd_llone_run ["feed", "most"] []
  f_llgapped : Addr
  fd_llgapped : FuncData
  F_llgapped : FunV K "_law_lgapped" "_law_lgapped" s_llgapped f_llgapped fd_llgapped
  g_llgapped : mg "_law_lgapped" = some (.ref f_llgapped)
  b_llgapped : Binds K fd_llgapped ["feed", "most"] []
  f_llbounds : Addr
  fd_llbounds : FuncData
  F_llbounds : FunV K "_law_lbounds" "_law_lbounds" s_llbounds f_llbounds fd_llbounds
  g_llbounds : mg "_law_lbounds" = some (.ref f_llbounds)
  b_llbounds : Binds K fd_llbounds ["own", "number"] []
  f_llbeside : Addr
  fd_llbeside : FuncData
  F_llbeside : FunV K "_law_lbeside" "_law_lbeside" s_llbeside f_llbeside fd_llbeside
  g_llbeside : mg "_law_lbeside" = some (.ref f_llbeside)
  b_llbeside : Binds K fd_llbeside ["feed", "pieces", "run"] []
  f_ll_right : Addr
  fd_ll_right : FuncData
  F_ll_right : FunV K "_law_l_right" "_law_l_right" s_ll_right f_ll_right fd_ll_right
  g_ll_right : mg "_law_l_right" = some (.ref f_ll_right)
  b_ll_right : Binds K fd_ll_right ["told", "own", "run", "odd"] []
  f_law : Addr
  fd_law : FuncData
  F_law : FunV K "law" "law" s_law f_law fd_law
  g_law : mg "law" = some (.ref f_law)
  b_law : Binds K fd_law ["script"] []
  C_WoodError : Addr
  gC_WoodError : mg "WoodError" = some (.ref C_WoodError)
  E_WoodError : ErrC K C_WoodError
  q_WoodError : PySem.W.excIn K C_WoodError PySem.HandSPX.veTail "ValueError.__new__" = true
  C_NoPiece : Addr
  gC_NoPiece : mg "NoPiece" = some (.ref C_NoPiece)
  E_NoPiece : ErrC K C_NoPiece
  q_NoPiece : PySem.W.excIn K C_NoPiece PySem.HandSPX.veTail "ValueError.__new__" = true
  C_TooMany : Addr
  gC_TooMany : mg "TooMany" = some (.ref C_TooMany)
  E_TooMany : ErrC K C_TooMany
  q_TooMany : PySem.W.excIn K C_TooMany PySem.HandSPX.veTail "ValueError.__new__" = true
  C_NoRun : Addr
  gC_NoRun : mg "NoRun" = some (.ref C_NoRun)
  E_NoRun : ErrC K C_NoRun
  q_NoRun : PySem.W.excIn K C_NoRun PySem.HandSPX.veTail "ValueError.__new__" = true
  C_NoWood : Addr
  gC_NoWood : mg "NoWood" = some (.ref C_NoWood)
  E_NoWood : ErrC K C_NoWood
  q_NoWood : PySem.W.excIn K C_NoWood PySem.HandSPX.veTail "ValueError.__new__" = true
  C_NoHouse : Addr
  gC_NoHouse : mg "NoHouse" = some (.ref C_NoHouse)
  E_NoHouse : ErrC K C_NoHouse
  q_NoHouse : PySem.W.excIn K C_NoHouse PySem.HandSPX.veTail "ValueError.__new__" = true
  C_NoShifts : Addr
  gC_NoShifts : mg "NoShifts" = some (.ref C_NoShifts)
  E_NoShifts : ErrC K C_NoShifts
  q_NoShifts : PySem.W.excIn K C_NoShifts PySem.HandSPX.veTail "ValueError.__new__" = true
  C_NotRight : Addr
  gC_NotRight : mg "NotRight" = some (.ref C_NotRight)
  E_NotRight : ErrC K C_NotRight
  q_NotRight : PySem.W.excIn K C_NotRight PySem.HandSPX.veTail "ValueError.__new__" = true
  C_NoMore : Addr
  gC_NoMore : mg "NoMore" = some (.ref C_NoMore)
  E_NoMore : ErrC K C_NoMore
  q_NoMore : PySem.W.excIn K C_NoMore PySem.HandSPX.veTail "ValueError.__new__" = true
  C_NotOne : Addr
  gC_NotOne : mg "NotOne" = some (.ref C_NotOne)
  E_NotOne : ErrC K C_NotOne
  q_NotOne : PySem.W.excIn K C_NotOne PySem.HandSPX.veTail "ValueError.__new__" = true
  C_NoGap : Addr
  gC_NoGap : mg "NoGap" = some (.ref C_NoGap)
  E_NoGap : ErrC K C_NoGap
  q_NoGap : PySem.W.excIn K C_NoGap PySem.HandSPX.veTail "ValueError.__new__" = true
  C_NoDealing : Addr
  gC_NoDealing : mg "NoDealing" = some (.ref C_NoDealing)
  E_NoDealing : ErrC K C_NoDealing
  q_NoDealing : PySem.W.excIn K C_NoDealing PySem.HandSPX.veTail "ValueError.__new__" = true
  C_NoPlace : Addr
  gC_NoPlace : mg "NoPlace" = some (.ref C_NoPlace)
  E_NoPlace : ErrC K C_NoPlace
  q_NoPlace : PySem.W.excIn K C_NoPlace PySem.HandSPX.veTail "ValueError.__new__" = true
  C_NotWhole : Addr
  gC_NotWhole : mg "NotWhole" = some (.ref C_NotWhole)
  E_NotWhole : ErrC K C_NotWhole
  q_NotWhole : PySem.W.excIn K C_NotWhole PySem.HandSPX.veTail "ValueError.__new__" = true
  C_NoBack : Addr
  gC_NoBack : mg "NoBack" = some (.ref C_NoBack)
  E_NoBack : ErrC K C_NoBack
  q_NoBack : PySem.W.excIn K C_NoBack PySem.HandSPX.veTail "ValueError.__new__" = true
  C_NoRow : Addr
  gC_NoRow : mg "NoRow" = some (.ref C_NoRow)
  E_NoRow : ErrC K C_NoRow
  q_NoRow : PySem.W.excIn K C_NoRow PySem.HandSPX.veTail "ValueError.__new__" = true
  C_Clash : Addr
  gC_Clash : mg "Clash" = some (.ref C_Clash)
  E_Clash : ErrC K C_Clash
  S_Clash : SupC P K mg C_Clash "pair"
  C_NoText : Addr
  gC_NoText : mg "NoText" = some (.ref C_NoText)
  E_NoText : ErrC K C_NoText
  S_NoText : SupC P K mg C_NoText "at"
  kinds : Kinds K C_WoodError [C_NoPiece, C_TooMany, C_NoRun, C_NoWood, C_NoHouse, C_NoShifts, C_NotRight, C_NoMore, C_NotOne, C_NoGap, C_NoDealing, C_NoPlace, C_NotWhole, C_NoBack, C_NoRow, C_Clash, C_NoText]
  t_RUN : Tok
  c_RUN : mg "RUN" = some (.int (0) t_RUN)
  t_NUMBER : Tok
  c_NUMBER : mg "NUMBER" = some (.int (1) t_NUMBER)
  t_ASKER : Tok
  c_ASKER : mg "ASKER" = some (.int (2) t_ASKER)
  t_HOUSE : Tok
  c_HOUSE : mg "HOUSE" = some (.int (3) t_HOUSE)
  t_COUNT : Tok
  c_COUNT : mg "COUNT" = some (.int (4) t_COUNT)
  t_BEGIN : Tok
  c_BEGIN : mg "BEGIN" = some (.int (5) t_BEGIN)
  t_END : Tok
  c_END : mg "END" = some (.int (6) t_END)
  t_JOINED : Tok
  c_JOINED : mg "JOINED" = some (.int (7) t_JOINED)
  t_NO_ASKER : Tok
  c_NO_ASKER : mg "NO_ASKER" = some (.int (-1) t_NO_ASKER)
  m_ValueError : mg "ValueError" = none
  m_abs : mg "abs" = none
  m_bool : mg "bool" = none
  m_dict : mg "dict" = none
  m_enumerate : mg "enumerate" = none
  m_int : mg "int" = none
  m_isinstance : mg "isinstance" = none
  m_len : mg "len" = none
  m_list : mg "list" = none
  m_max : mg "max" = none
  m_min : mg "min" = none
  m_range : mg "range" = none
  m_repr : mg "repr" = none
  m_set : mg "set" = none
  m_sorted : mg "sorted" = none
  m_super : mg "super" = none
  m_tuple : mg "tuple" = none
end LW
namespace LW
open PySem PySem.Spec PyProof.Rows DL
open L2 hiding del del_ne del_same
/-- feed: its cells, how often it was filled, what is left -/
def Feed (M : Mem) (f : Addr) (n : Int) : Prop := ∃ (cs : List Int) (at_ left : Int), M f = some (.lst [.dat (.list (cs.map .int)), .dat (.int at_), .dat (.int left)]) ∧ cs.length ≤ 60 ∧ 0 ≤ at_ ∧ at_ ≤ n
theorem cut60 {ns : List Int} (h : ns.length ≤ 63) : (cut ns none (some 60)).length ≤ 60 := by
  unfold cut
  rw [List.length_take]
  have : HT.sIx ns.length ns.length (some 60) ≤ 60 := by
    unfold HT.sIx
    simp
    omega
  omega
def pr_llmixed : Pr := fun ss M q => ∃ c a : Int, ss = [.dat (.int c), .dat (.int a)] ∧ 0 ≤ a ∧ a ≤ 2 ^ 40 ∧ ∀ r : Int, q (.dat (.int r)) M
def pr_llopen (K : PySem.W.Frag) : Pr := fun ss M q => ∃ ns, ss = [.scr K ns] ∧ ns.length ≤ 63 ∧ ∀ f M', M f = none → Feed M' f 0 → (∀ a, a ≠ f → M' a = M a) → q (.own f) M'
def pr_lldraw : Pr := fun ss M q => ∃ (f : Addr) (many n : Int), ss = [.own f, .dat (.int many)] ∧ 0 < many ∧ many < 2 ^ 200 ∧ Feed M f n ∧ n ≤ 2 ^ 39 ∧ ∀ (r : Int) M', 0 ≤ r → r < many → Feed M' f (n + 1) → (∀ a, a ≠ f → M' a = M a) → q (.dat (.int r)) M'
theorem feed_put {M : Mem} {f : Addr} {cs : List Int} {at_ left n : Int} (h1 : cs.length ≤ 60) (h2 : 0 ≤ at_) (h3 : at_ ≤ n) : Feed (put M f (.lst [.dat (.list (cs.map .int)), .dat (.int at_), .dat (.int left)])) f n := ⟨cs, at_, left, put_at, h1, h2, h3⟩
theorem eqv_nil {cs : List Int} : PyData.eqv (.list (cs.map .int)) (.list []) = cs.isEmpty := by
  cases cs with
  | nil => rfl
  | cons c cs => rfl
theorem canLay_ints : ∀ cs : List Int, PyData.canLayAll0 (cs.map .int) = true
  | [] => rfl
  | c :: cs => by
    show (PyData.canLay0 (.int c) && PyData.canLayAll0 (cs.map .int)) = true
    rw [canLay_ints cs] <;> rfl
theorem depth_ints : ∀ cs : List Int, PyData.depthAll (cs.map .int) ≤ 1
  | [] => by decide
  | c :: cs => by
    show max (PyData.depth (.int c)) (PyData.depthAll (cs.map .int)) ≤ 1
    have := depth_ints cs
    have e : PyData.depth (.int c) = 0 := rfl
    omega
theorem shaped_ints (cs : List Int) : SeqAt.shaped (.list (cs.map .int)) = true := by
  unfold SeqAt.shaped
  rw [Bool.and_eq_true]
  refine ⟨canLay_ints cs, decide_eq_true ?_⟩
  have := depth_ints cs
  show PyData.depthAll (cs.map .int) + 1 ≤ 64
  omega
theorem Feed.up {M : Mem} {f : Addr} {n m : Int} (h : Feed M f n) (le : n ≤ m) : Feed M f m := by
  obtain ⟨cs, a, l, h1, h2, h3, h4⟩ := h
  exact ⟨cs, a, l, h1, h2, h3, by omega⟩
theorem Feed.put {M : Mem} {f p : Addr} {n : Int} {o : MO} (h : Feed M f n) (ne : f ≠ p) : Feed (put M p o) f n := by
  obtain ⟨cs, a, l, h1, h2⟩ := h
  exact ⟨cs, a, l, (put_ne ne).trans h1, h2⟩
theorem Feed.del {M : Mem} {f p : Addr} {n : Int} (h : Feed M f n) (ne : f ≠ p) : Feed (del M p) f n := by
  obtain ⟨cs, a, l, h1, h2⟩ := h
  exact ⟨cs, a, l, (del_ne ne).trans h1, h2⟩
theorem Feed.ne {M : Mem} {f p : Addr} {n : Int} (h : Feed M f n) (hp : M p = none) : f ≠ p := by
  obtain ⟨cs, a, l, h1, h2⟩ := h
  exact ne_mem h1 hp
/-- what was ours stays, but the feed -/
def Keep (f : Addr) (M M' : Mem) : Prop := ∀ x, x ≠ f → M x ≠ none → M' x = M x
theorem Keep.refl {f : Addr} {M : Mem} : Keep f M M := fun _ _ _ => rfl
theorem Keep.trans {f : Addr} {M M1 M2 : Mem} (a : Keep f M M1) (b : Keep f M1 M2) : Keep f M M2 := fun x h1 h2 => (b x h1 (by rw [a x h1 h2]; exact h2)).trans (a x h1 h2)
theorem Keep.of {f : Addr} {M M' : Mem} (h : ∀ x, x ≠ f → M' x = M x) : Keep f M M' := fun x h1 _ => h x h1
theorem Keep.born {f p : Addr} {M : Mem} {o : MO} (h : M p = none) : Keep f M (put M p o) := fun x _ h2 => put_ne fun z => h2 (z ▸ h)
theorem Keep.to {f p : Addr} {M M' : Mem} {o : MO} (k : Keep f M M') (h : M p = none) : Keep f M (put M' p o) := fun x h1 h2 => by
  have n1 : x ≠ p := fun z => h2 (z ▸ h)
  rw [put_ne n1]
  exact k x h1 h2
theorem Keep.un {f p : Addr} {M M' : Mem} (k : Keep f M M') (h : M p = none) : Keep f M (del M' p) := fun x h1 h2 => by
  have n1 : x ≠ p := fun z => h2 (z ▸ h)
  rw [del_ne n1]
  exact k x h1 h2
theorem Keep.at {f p : Addr} {M M' : Mem} {o : MO} (k : Keep f M M') (ne : p ≠ f) (h : M p = some o) : M' p = some o := (k p ne (by rw [h]; exact nofun)).trans h
theorem Keep.no {f p : Addr} {M M' : Mem} (k : Keep f M M') (ne : p ≠ f) (h : M' p = none) : M p = none := by
  cases e : M p with
  | none => rfl
  | some o =>
    rw [k.at ne e] at h
    cases h
theorem erase_map {α β : Type} (g : α → β) : ∀ (l : List α) (j : Nat), (l.map g).eraseIdx j = (l.eraseIdx j).map g
  | [], _ => rfl
  | _ :: _, 0 => rfl
  | a :: l, j + 1 => congrArg (g a :: ·) (erase_map g l j)
theorem erase_perm {α : Type} : ∀ {l : List α} {j : Nat} (h : j < l.length), (l[j] :: l.eraseIdx j).Perm l
  | a :: l, 0, _ => List.Perm.refl _
  | a :: l, j + 1, h => (List.Perm.swap a _ _).trans ((erase_perm (l := l) (j := j) (Nat.lt_of_succ_lt_succ h)).cons a)
/-- whole numbers as slots -/
abbrev li (ns : List Int) : List Sl := ns.map fun n => .dat (.int n)
def upto (many : Int) : List Int := (List.range many.toNat).map fun (i : Nat) => (i : Int)
def pr_llorder : Pr := fun ss M q => ∃ (f : Addr) (many n : Int), ss = [.own f, .dat (.int many)] ∧ 0 ≤ many ∧ many ≤ 1000 ∧ Feed M f n ∧ n ≤ 2 ^ 38 ∧ ∀ (p : Addr) (ns : List Int) M', M p = none → M' p = some (.lst (li ns)) → ns.Perm (upto many) → Feed M' f (n + 1000) → Keep f M M' → q (.own p) M'
section
variable {P : Program} {w : World} {K : PySem.W.Frag} {mg : Str → Option Value} {base : Heap}
theorem ok_llmixed (T : Tx P K mg) : Holds P w K mg base 1 T.f_llmixed T.fd_llmixed ["cell", "at"] pr_llmixed := by
  refine holds_of T.F_llmixed sc_llmixed (fun ss M q h => ?len) (fun cdv A outer s H hr => (xss_cons (xs_asgN (ps_set (i := 2) sc_llmixed.nd rfl (by first | exact .inl rfl | exact .inr rfl) (xe_mod (xe_addD (xe_addD (xe_mul (xe_mod (xv 0) xe_int) xe_int) (xe_mul (xv 1) xe_int)) xe_int) xe_int)) simLE)
      (xss_cons (xs_asgN (ps_set (i := 3) sc_llmixed.nd rfl (by first | exact .inl rfl | exact .inr rfl) (xe_mod (xe_addD (xe_addD (xe_mul (xv 2) (xv 2)) (xe_mul (xe_mul (xv 1) (xv 1)) xe_int)) xe_int) xe_int)) simLE)
      (xss_cons (xs_asgN (ps_set (i := 4) sc_llmixed.nd rfl (by first | exact .inl rfl | exact .inr rfl) (xe_mod (xe_addD (xe_addD (xe_mul (xv 3) (xv 3)) (xv 2)) (xv 1)) xe_int)) simLE)
      (xss_one (xs_ret (xe_addD (xe_mul (xe_addD (xe_mul (xv 4) xe_int) (xv 3)) xe_int) (xv 2)))))))) (fun ss M q h => ?read)
  case len =>
    obtain ⟨c, a, rfl, _⟩ := h
    rfl
  case read =>
    obtain ⟨c, a, rfl, h0, h1, k⟩ := h
    refine ⟨_, rfl, (show (0 : Int) < 2147483647 by decide), ?_⟩
    have e0 := Int.emod_nonneg c (show (2147483647 : Int) ≠ 0 by decide)
    have e1 := Int.emod_lt_of_pos c (show (0 : Int) < 2147483647 by decide)
    refine ⟨.inl ⟨by omega, by omega⟩, ?_⟩
    refine ⟨_, rfl, ⟨.inl ⟨by omega, by omega⟩, ?_⟩⟩
    refine ⟨(show (0 : Int) < 2147483629 by decide), ?_⟩
    generalize hone : (c % 2147483647 * 48271 + a * 7919 + 11) % 2147483629 = one
    have f0 : 0 ≤ one := by rw [← hone]; exact Int.emod_nonneg _ (by decide)
    have f1 : one < 2147483629 := by rw [← hone]; exact Int.emod_lt_of_pos _ (by decide)
    refine ⟨_, rfl, _, rfl, ⟨.inl ⟨by omega, by omega⟩, ?_⟩⟩
    refine ⟨_, rfl, _, rfl, ⟨.inl ⟨by omega, by omega⟩, ?_⟩⟩
    refine ⟨.inr ⟨by decide, by decide⟩, ?_⟩
    refine ⟨(show (0 : Int) < 2147483587 by decide), ?_⟩
    generalize htwo : (one * one + a * a * 31 + 5) % 2147483587 = two
    have g0 : 0 ≤ two := by rw [← htwo]; exact Int.emod_nonneg _ (by decide)
    have g1 : two < 2147483587 := by rw [← htwo]; exact Int.emod_lt_of_pos _ (by decide)
    refine ⟨_, rfl, _, rfl, ⟨.inl ⟨by omega, by omega⟩, ?_⟩⟩
    refine ⟨_, rfl, ?_⟩
    refine ⟨_, rfl, ?_⟩
    refine ⟨(show (0 : Int) < 2147483563 by decide), ?_⟩
    generalize hthree : (two * two + one + a) % 2147483563 = three
    have j0 : 0 ≤ three := by rw [← hthree]; exact Int.emod_nonneg _ (by decide)
    have j1 : three < 2147483563 := by rw [← hthree]; exact Int.emod_lt_of_pos _ (by decide)
    refine ⟨_, rfl, ⟨.inl ⟨by omega, by omega⟩, ?_⟩⟩
    refine ⟨_, rfl, ?_⟩
    refine ⟨.inl ⟨by omega, by omega⟩, ?_⟩
    refine ⟨_, rfl, ?_⟩
    exact k _
theorem ok_llopen (T : Tx P K mg) : Holds P w K mg base 1 T.f_llopen T.fd_llopen ["script"] (pr_llopen K) := by
  refine holds_of T.F_llopen sc_llopen (fun ss M q h => ?len) (fun cdv A outer s H hr => (xss_one (xs_ret (xe_lst (xa_cons (xe_fz (xe_callB sim_list (pe_callTy call_list_of rfl T.m_list (by decide +kernel) (xa_cons (xe_slS (K := K) rfl (xv 0) xo_none (xo_some xe_int)) xa_nil)))) (xa_cons xe_int (xa_cons xe_int xa_nil))))))) (fun ss M q h => ?read)
  case len =>
    obtain ⟨c, rfl, _⟩ := h
    rfl
  case read =>
    obtain ⟨ns, rfl, hn, k⟩ := h
    refine ⟨_, rfl, rfl, ?_⟩
    have hz := cut60 hn
    refine ⟨by rw [List.length_map]; omega, fun p hp => ?_⟩
    refine ⟨_, put_at, ?_⟩
    rw [del_put hp]
    refine ⟨rfl, fun f hf => ?_⟩
    exact k f _ hf ⟨_, 0, 0, put_at, hz, by decide, by decide⟩ fun a ha => put_ne ha
theorem ok_lldraw (T : Tx P K mg) : Holds P w K mg base 2 T.f_lldraw T.fd_lldraw ["feed", "many"] pr_lldraw := by
  refine holds_of T.F_lldraw sc_lldraw (fun ss M q h => ?len) (fun cdv A outer s H hr => (xss_cut (xs_if (xb_cmp (sim_I0 fun _ _ _ => .bl _) (pt_cmpR op_lt (xe_ix (xv 0) xe_int) (xv 1) (nomark _))) (xss_cons (xs_asgN (ps_set (i := 3) sc_lldraw.nd rfl (by first | exact .inl rfl | exact .inr rfl) (xe_ix (xv 0) xe_int)) simLE)
      (xss_cons (xs_asgN (ps_set (i := 4) sc_lldraw.nd rfl (by first | exact .inl rfl | exact .inr rfl) (xe_mul (xv 3) xe_int)) simLE)
      (xss_cut (xs_if (xb_cmp sim_ne (pt_cmpR (op_neAll hr.rm.units) (xe_ix (xv 0) xe_int) (xe_lstD xa_nil) (nomark _))) (xss_one (xs_asgN (ps_set (i := 4) sc_lldraw.nd rfl (by first | exact .inl rfl | exact .inr rfl) (xe_ix (xe_ix (xv 0) xe_int) (xe_mod (xv 3) (xe_callB sim_len (pe_callB call_lenA rfl T.m_len (by decide +kernel) (xa_cons (xe_ix (xv 0) xe_int) xa_nil)))))) simLE)) xss_nil)
      (xss_cons (xs_setL (ps_asg (xe_addD (xv 3) xe_int) (pg_sub (xv 0) xe_int set_list)))
      (xss_cons (xs_setL (ps_asg (xv 4) (pg_sub (xv 0) xe_int set_list)))
      (xss_one (xs_if (xb_w (xw_or (xb_cmp (sim_I0 fun _ _ _ => .bl _) (pt_cmpR op_lt (xv 4) (xe_pow xe_int xe_int) (nomark _))) (xw_or1 (xb_cmp (sim_I0 fun _ _ _ => .bl _) (pt_cmpR op_ge (xv 3) (xe_callB sim_len (pe_callB call_lenA rfl T.m_len (by decide +kernel) (xa_cons (xe_ix (xv 0) xe_int) xa_nil))) (nomark _)))))) (xss_one (xs_setL (ps_asg (xe_call (ok_llmixed T) (hr.mono (by decide)) T.g_llmixed T.F_llmixed.kp T.b_llmixed (xa_cons (xv 4) (xa_cons (xv 3) xa_nil))) (pg_sub (xv 0) xe_int set_list)))) xss_nil))))))) xss_nil)
      (xss_cons (xs_asgN (ps_set (i := 2) sc_lldraw.nd rfl (by first | exact .inl rfl | exact .inr rfl) (xe_mod (xe_ix (xv 0) xe_int) (xv 1))) simLE)
      (xss_cons (xs_setL (ps_asg (xe_fdiv (xe_ix (xv 0) xe_int) (xv 1)) (pg_sub (xv 0) xe_int set_list)))
      (xss_one (xs_ret (xv 2))))))) (fun ss M q h => ?read)
  case len =>
    obtain ⟨f, many, n, rfl, _⟩ := h
    rfl
  case read =>
    obtain ⟨f, many, n, rfl, hm0, hm1, ⟨cs, at_, left, hM, hc, ha0, ha1⟩, hn, k⟩ := h
    refine ⟨fun Γ' M' => ∃ (at2 left2 : Int) (x y z : Option Sl), Γ' = [some (.own f), some (.dat (.int many)), x, y, z] ∧ M' f = some (.lst [.dat (.list (cs.map .int)), .dat (.int at2), .dat (.int left2)]) ∧ 0 ≤ at2 ∧ at2 ≤ n + 1 ∧ ∀ a, a ≠ f → M' a = M a, ?_, ?_⟩
    · refine ⟨_, rfl, _, _, hM, rfl, _, rfl, fun hlt => ?_, fun hlt => ?_⟩
      · refine ⟨_, rfl, _, _, hM, rfl, ?_⟩
        refine ⟨_, rfl, .inr ⟨by decide, by decide⟩, ?_⟩
        refine ⟨fun Γ' M' => ∃ c : Int, Γ' = [some (.own f), some (.dat (.int many)), none, some (.dat (.int at_)), some (.dat (.int c))] ∧ M' = M, ?_, ?_⟩
        · refine ⟨_, rfl, _, _, hM, rfl, rfl, _, rfl, _, _, .inl rfl, .inl rfl, shaped_ints cs, rfl, ?_⟩
          refine ⟨fun hne => ?_, fun _ => ⟨_, rfl, rfl⟩⟩
          refine ⟨_, rfl, _, _, hM, rfl, _, rfl, _, rfl, _, _, hM, rfl, ?_⟩
          have hpos : 0 < cs.length := by
            cases cs with
            | nil => cases hne
            | cons _ _ => exact Nat.succ_pos _
          have hL : (cs.map PyData.int).length = cs.length := List.length_map ..
          have e0 := Int.emod_nonneg at_ (show ((cs.map PyData.int).length : Int) ≠ 0 by omega)
          have e1 := Int.emod_lt_of_pos at_ (show (0 : Int) < ((cs.map PyData.int).length : Int) by omega)
          refine ⟨(show (0 : Int) < ((cs.map PyData.int).length : Int) by omega), ?_⟩
          obtain ⟨j, ej⟩ : ∃ j : Nat, at_ % ((cs.map PyData.int).length : Int) = (j : Int) := ⟨(at_ % ((cs.map PyData.int).length : Int)).toNat, by omega⟩
          have hj : j < cs.length := by omega
          refine ⟨.int cs[j], (congrArg (atI _) ej).trans (atI_nat (by rw [List.getElem?_map, List.getElem?_eq_getElem hj] <;> rfl)), ?_⟩
          exact ⟨_, rfl, rfl⟩
        · rintro Γ' M' ⟨c, rfl, eM⟩
          have eM' := eM.symm
          subst eM'
          refine ⟨_, rfl, _, rfl, f, 1, _, 1, rfl, rfl, hM, rfl, ?_⟩
          refine ⟨_, rfl, _, rfl, f, 2, _, 2, rfl, rfl, put_at, rfl, ?_⟩
          rw [put_put]
          have wrap : ∀ (left2 : Int) (M' : Mem), M' f = some (.lst [.dat (.list (cs.map .int)), .dat (.int (at_ + 1)), .dat (.int left2)]) → (∀ a, a ≠ f → M' a = M a) → ∀ x y z : Option Sl, ∃ (at2 left2 : Int) (x' y' z' : Option Sl), ([some (.own f), some (.dat (.int many)), x, y, z] : Fm) = [some (.own f), some (.dat (.int many)), x', y', z'] ∧ M' f = some (.lst [.dat (.list (cs.map .int)), .dat (.int at2), .dat (.int left2)]) ∧ 0 ≤ at2 ∧ at2 ≤ n + 1 ∧ ∀ a, a ≠ f → M' a = M a :=
            fun left2 M' h1 h2 x y z => ⟨at_ + 1, left2, x, y, z, rfl, h1, by omega, by omega, h2⟩
          have mixed : ∀ r : Int, ∃ (at2 left2 : Int) (x y z : Option Sl), ([some (.own f), some (.dat (.int many)), none, some (.dat (.int at_)), some (.dat (.int c))] : Fm) = [some (.own f), some (.dat (.int many)), x, y, z] ∧ (put (put M f (.lst [.dat (.list (cs.map .int)), .dat (.int (at_ + 1)), .dat (.int c)])) f (.lst [.dat (.list (cs.map .int)), .dat (.int (at_ + 1)), .dat (.int r)])) f = some (.lst [.dat (.list (cs.map .int)), .dat (.int at2), .dat (.int left2)]) ∧ 0 ≤ at2 ∧ at2 ≤ n + 1 ∧ ∀ a, a ≠ f → (put (put M f (.lst [.dat (.list (cs.map .int)), .dat (.int (at_ + 1)), .dat (.int c)])) f (.lst [.dat (.list (cs.map .int)), .dat (.int (at_ + 1)), .dat (.int r)])) a = M a :=
            fun r => ⟨at_ + 1, r, _, _, _, rfl, put_at, by omega, by omega, fun a ha => by rw [put_ne ha, put_ne ha]⟩
          refine ⟨_, rfl, ⟨by decide, by decide, by decide⟩, ?_⟩
          refine ⟨fun hlt => ?_, fun hge => ?_⟩
          · refine ⟨fun _ => ?_, fun z => nomatch z⟩
            refine ⟨_, rfl, _, rfl, c, at_, rfl, ha0, by omega, fun r => ?_⟩
            exact ⟨_, rfl, f, 2, _, 2, rfl, rfl, put_at, rfl, mixed r⟩
          · refine ⟨_, rfl, _, rfl, _, _, put_at, rfl, ?_⟩
            refine ⟨fun hge2 => ?_, fun hlt2 => ?_⟩
            · refine ⟨_, rfl, _, rfl, c, at_, rfl, ha0, by omega, fun r => ?_⟩
              exact ⟨_, rfl, f, 2, _, 2, rfl, rfl, put_at, rfl, mixed r⟩
            · exact wrap c _ put_at (fun a ha => put_ne ha) _ _ _
      · exact ⟨at_, left, _, _, _, rfl, hM, ha0, by omega, fun _ _ => rfl⟩
    · rintro Γ' M' ⟨at2, left2, x, y, z, rfl, hM2, h20, h21, hoth⟩
      refine ⟨_, rfl, _, _, hM2, rfl, _, rfl, hm0, ?_⟩
      have e0 := Int.emod_nonneg left2 (show many ≠ 0 by omega)
      have e1 := Int.emod_lt_of_pos left2 hm0
      refine ⟨_, rfl, _, _, hM2, rfl, _, rfl, wide_div (b := 200) hm0 (by omega) (by decide) (by decide), ?_⟩
      refine ⟨_, rfl, f, 2, _, 2, rfl, rfl, hM2, rfl, ?_⟩
      refine ⟨_, rfl, ?_⟩
      exact k _ _ e0 e1 ⟨cs, at2, _, put_at, hc, h20, h21⟩ fun a ha => by rw [put_ne ha]; exact hoth a ha
theorem ok_llorder (T : Tx P K mg) : Holds P w K mg base 3 T.f_llorder T.fd_llorder ["feed", "many"] pr_llorder := by
  refine holds_of T.F_llorder sc_llorder (fun ss M q h => ?len) (fun cdv A outer s H hr => (xss_cons (xs_asgN (ps_set (i := 2) sc_llorder.nd rfl (by first | exact .inl rfl | exact .inr rfl) (xe_listR (pe_listRg rfl rfl T.m_list (prg_1 rfl T.m_range (xv 1))))) simLE)
      (xss_one (xs_ret (xe_lcR1 (pe_lc (own := [("turn", 3)]) (g := gName 3) (tt := LB _) rfl sc_llorder.nd (pi_range1 rfl T.m_range (xa_cons (xv 1) xa_nil)) (blkOk_by (own := [("turn", 3)]) (N := N_llorder) (sc := defScope s_llorder) (by decide +kernel)) (fun _ _ _ _ _ => pg_name (i := 3) sc_llorder.nd rfl (.inl rfl)) (fun _ _ _ _ _ => xts_nil) (fun _ _ _ _ _ => (xe_bmL sim_popAt (pe_bm PySem.F.plainAttrs_list PySem.F.slot_list_pop PySem.F.type_list_pop mt_popAt (xv 2) (xa_cons (xe_call (ok_lldraw T) (hr.mono (by decide)) T.g_lldraw T.F_lldraw.kp T.b_lldraw (xa_cons (xv 0) (xa_cons (xe_callB sim_len (pe_callB call_lenA rfl T.m_len (by decide +kernel) (xa_cons (xv 2) xa_nil))) xa_nil))) xa_nil))))) (by decide)))))) (fun ss M q h => ?read)
  case len =>
    obtain ⟨f, many, n, rfl, _⟩ := h
    rfl
  case read =>
    obtain ⟨f, many, n, rfl, h0, h1, F0, hn, k⟩ := h
    refine ⟨_, rfl, many, rfl, h0, by omega, fun l hl => ?_⟩
    have nl : f ≠ l := F0.ne hl
    refine ⟨_, rfl, 0, many, rfl, ⟨by decide, by decide, by omega, by omega⟩, fun p hp => ?_⟩
    have npl : p ≠ l := by
      intro z
      rw [z, put_at] at hp
      cases hp
    have hpM : M p = none := by
      rw [put_ne npl] at hp
      exact hp
    have np : f ≠ p := F0.ne hpM
    have eN : (many - 0).toNat = many.toNat := by rw [Int.sub_zero]
    refine ⟨fun i M' => ∃ done left : List Int, M' p = some (.lst (li done)) ∧ M' l = some (.lst (li left)) ∧ done.length = i ∧ left.length + i = many.toNat ∧ (done ++ left).Perm (upto many) ∧ Feed M' f (n + i) ∧ Keep f M M', ⟨[], upto many, put_at, ?_, rfl, ?_, List.Perm.refl _, ?_, (Keep.born hl).to hpM⟩, ?_, ?_⟩
    · rw [put_ne npl.symm, put_at]
      show _ = some (MO.lst (((List.range many.toNat).map fun (i : Nat) => (i : Int)).map fun n => Sl.dat (.int n)))
      rw [List.map_map]
      rfl
    · unfold upto
      rw [List.length_map, List.length_range]
      rfl
    · exact ((F0.up (by omega)).put nl).put np
    · rintro i M' hi ⟨done, left, hp', hl', hd, hlen, hperm, FF, KK⟩
      have hi' : i < many.toNat := by rw [← eN]; exact hi
      refine ⟨fun _ => ?_, fun z => nomatch z⟩
      refine ⟨_, rfl, ⟨_, IsL.own hl'⟩, ?_⟩
      have ell : (li left).length = left.length := List.length_map ..
      refine ⟨_, rfl, _, rfl, _, hl', f, ((li left).length : Int), _, rfl, by rw [ell]; omega, by rw [ell]; omega, FF, by omega, fun r M2 p2 q2 F2 o2 => ?_⟩
      obtain ⟨j, ej⟩ : ∃ j : Nat, r = (j : Int) := ⟨r.toNat, by omega⟩
      subst ej
      have hj : j < left.length := by rw [ell] at q2; omega
      refine ⟨li left, j, .dat (.int left[j]), (o2 l nl.symm).trans hl', rfl, ?_, by omega, ?_⟩
      · rw [List.getElem?_map, List.getElem?_eq_getElem hj]
        rfl
      · refine ⟨li done, ?_, by rw [List.length_map]; omega, done ++ [left[j]], left.eraseIdx j, ?_, ?_, ?_, ?_, ?_, ?_, ?_⟩
        · rw [put_ne npl, o2 p np.symm]
          exact hp'
        · rw [put_at]
          exact congrArg (fun z => some (MO.lst z)) (List.map_append (f := fun n : Int => Sl.dat (.int n)) (l₁ := done) (l₂ := [left[j]])).symm
        · rw [put_ne npl.symm, put_at]
          exact congrArg (fun z => some (MO.lst z)) (erase_map _ left j)
        · rw [List.length_append, hd]
          rfl
        · rw [List.length_eraseIdx_of_lt hj]
          omega
        · refine List.Perm.trans ?_ hperm
          rw [List.append_assoc]
          exact List.Perm.append_left _ (erase_perm hj)
        · exact ((F2.up (by omega)).put nl).put np
        · exact ((KK.trans (Keep.of o2)).to hl).to hpM
    · rintro M' ⟨done, left, hp', hl', hd, hlen, hperm, FF, KK⟩
      have e0 : left = [] := by
        apply List.eq_nil_of_length_eq_zero
        rw [eN] at hlen
        omega
      subst e0
      rw [List.append_nil] at hperm
      exact k p done M' hpM hp' hperm (FF.up (by rw [eN]; omega)) KK
end
end LW
namespace LW
open PySem PySem.Spec PyProof.Rows DL
open L2 hiding del del_ne del_same
abbrev pc (r n a h c b e : Int) (j : Bool) : List Dt := [.int r, .int n, .int a, .int h, .int c, .int b, .int e, .bool j]
theorem dval_cons {a : Key} {s : Sl} {kvs : Kvs} {k : Key} : dval ((a, s) :: kvs) k = if a = k then some s else dval kvs k := by
  unfold dval
  rw [List.find?_cons]
  by_cases e : a = k
  · rw [if_pos e, decide_eq_true e]
    rfl
  · rw [if_neg e, decide_eq_false e]
theorem dval_map {k k' : Key} {s : Sl} : ∀ kvs : Kvs, (kvs.any fun kv => decide (kv.1 = k)) = true → dval (kvs.map (fun kv => if kv.1 = k then (kv.1, s) else kv)) k' = if k' = k then some s else dval kvs k'
  | [], h => nomatch h
  | (a, x) :: kvs, h => by
    rw [List.map_cons]
    by_cases e : a = k
    · subst e
      rw [if_pos rfl, dval_cons, dval_cons]
      by_cases e2 : a = k'
      · rw [if_pos e2, if_pos e2.symm]
      · rw [if_neg e2, if_neg fun z => e2 z.symm, if_neg e2]
        by_cases h2 : (kvs.any fun kv => decide (kv.1 = a)) = true
        · rw [dval_map kvs h2, if_neg fun z => e2 z.symm]
        · have h3 : kvs.map (fun kv => if kv.1 = a then (kv.1, s) else kv) = kvs := by
            refine (List.map_congr_left fun kv hm => ?_).trans (List.map_id' kvs)
            refine if_neg fun z => h2 ?_
            exact List.any_eq_true.mpr ⟨kv, hm, decide_eq_true z⟩
          rw [h3]
    · rw [if_neg e, dval_cons, dval_cons]
      rw [List.any_cons, decide_eq_false e, Bool.false_or] at h
      rw [dval_map kvs h]
      by_cases e2 : a = k'
      · subst e2
        rw [if_pos rfl, if_neg e, if_pos rfl]
      · rw [if_neg e2, if_neg e2]
theorem dval_app {k' : Key} {s : Sl} {k : Key} : ∀ kvs : Kvs, (kvs.any fun kv => decide (kv.1 = k)) = false → dval (kvs ++ [(k, s)]) k' = if k' = k then some s else dval kvs k'
  | [], _ => by
    rw [List.nil_append, dval_cons]
    by_cases e : k = k'
    · rw [if_pos e, if_pos e.symm]
    · rw [if_neg e, if_neg fun z => e z.symm]
  | (a, x) :: kvs, h => by
    rw [List.any_cons, Bool.or_eq_false_iff] at h
    have e := of_decide_eq_false h.1
    rw [List.cons_append, dval_cons, dval_cons, dval_app kvs h.2]
    by_cases e2 : a = k'
    · subst e2
      rw [if_pos rfl, if_neg e, if_pos rfl]
    · rw [if_neg e2, if_neg e2]
theorem dval_put {kvs : Kvs} {k k' : Key} {s : Sl} : dval (dput kvs k s) k' = if k' = k then some s else dval kvs k' := by
  unfold dput
  by_cases h : (kvs.any fun kv => decide (kv.1 = k)) = true
  · rw [if_pos h]
    exact dval_map kvs h
  · rw [if_neg h]
    exact dval_app kvs (Bool.eq_false_iff.mpr h)
theorem dput_len {kvs : Kvs} {k : Key} {s : Sl} : (dput kvs k s).length ≤ kvs.length + 1 := by
  unfold dput
  by_cases h : (kvs.any fun kv => decide (kv.1 = k)) = true
  · rw [if_pos h, List.length_map]
    exact Nat.le_succ _
  · rw [if_neg h, List.length_append]
    exact Nat.le_refl _
/-- how many a house has, by a dict of whole numbers -/
def cnt (kvs : Kvs) (h : Int) : Int := match dval kvs (.inl h) with
  | some (.dat (.int v)) => v
  | _ => 0
def IntK (kvs : Kvs) : Prop := ∀ h s, dval kvs (.inl h) = some s → ∃ v, s = .dat (.int v)
theorem getD_cnt {kvs : Kvs} (I : IntK kvs) (h : Int) : (dval kvs (.inl h)).getD (.dat (.int 0)) = .dat (.int (cnt kvs h)) := by
  unfold cnt
  cases e : dval kvs (.inl h) with
  | none => rfl
  | some s =>
    obtain ⟨v, rfl⟩ := I h s e
    rfl
theorem cnt_put {kvs : Kvs} {h h' v : Int} : cnt (dput kvs (.inl h) (.dat (.int v))) h' = if h' = h then v else cnt kvs h' := by
  unfold cnt
  rw [dval_put]
  by_cases e : h' = h
  · subst e
    rw [if_pos rfl, if_pos rfl]
  · rw [if_neg e, if_neg (show ¬ (Sum.inl h' : Key) = Sum.inl h from fun z => e (Sum.inl.inj z))]
theorem IntK.put {kvs : Kvs} {h v : Int} (I : IntK kvs) : IntK (dput kvs (.inl h) (.dat (.int v))) := fun h' s e => by
  rw [dval_put] at e
  by_cases z : (Sum.inl h' : Key) = Sum.inl h
  · rw [if_pos z] at e
    cases e
    exact ⟨v, rfl⟩
  · rw [if_neg z] at e
    exact I h' s e
def pr_llpiece : Pr := fun ss M q => ∃ (f c : Addr) (kvs : Kvs) (n r m a place b e : Int) (j : Bool), ss = [.own f, .own c, .dat (.tuple [.int r, .int m, .int a]), .dat (.int place), .dat (.tuple [.int b, .int e]), .dat (.bool j)] ∧ Feed M f n ∧ n ≤ 2 ^ 38 ∧ M c = some (.dct kvs) ∧ IntK kvs ∧ kvs.length < 10000 ∧
  ∀ count M', cnt kvs place ≤ count → count ≤ cnt kvs place + 2 → Feed M' f (n + 1) → M' c = some (.dct (dput kvs (.inl place) (.dat (.int (count + 1))))) → (∀ x, x ≠ f → x ≠ c → M' x = M x) → q (.dat (.tuple (pc r m a place count b e j))) M'
section
variable {P : Program} {w : World} {K : PySem.W.Frag} {mg : Str → Option Value} {base : Heap}
theorem ok_llpiece (T : Tx P K mg) : Holds P w K mg base 3 T.f_llpiece T.fd_llpiece ["feed", "counts", "ids", "place", "times", "joined"] pr_llpiece := by
  refine holds_of T.F_llpiece sc_llpiece (fun ss M q h => ?len) (fun cdv A outer s H hr => (xss_cons (xs_asgN (ps_set (i := 6) sc_llpiece.nd rfl (by first | exact .inl rfl | exact .inr rfl) (xe_addD (xe_get2 (pe_dget2 (Nat.lt_of_le_of_lt (Nat.add_le_add_left (by decide : 1 ≤ 64) _) hr.rm.units) (xv 1) (xv 3) xe_int ⟨rfl, rfl, rfl, rfl⟩)) (xe_ix (xe_lstD (xa_cons xe_int (xa_cons xe_int (xa_cons xe_int (xa_cons xe_int (xa_cons xe_int xa_nil)))))) (xe_call (ok_lldraw T) (hr.mono (by decide)) T.g_lldraw T.F_lldraw.kp T.b_lldraw (xa_cons (xv 0) (xa_cons xe_int xa_nil)))))) simLE)
      (xss_cons (xs_setD (ps_asg (xe_add (xv 6) xe_int) (pg_sub (xv 1) (xv 3) (set_dict (Nat.lt_of_le_of_lt (Nat.add_le_add_left (by decide : 1 ≤ 64) _) hr.rm.units)))))
      (xss_one (xs_ret (xe_addD (xe_addD (xe_addD (xv 2) (xe_tup (xa_cons (xv 3) (xa_cons (xv 6) xa_nil)))) (xv 4)) (xe_tup (xa_cons (xv 5) xa_nil)))))))) (fun ss M q h => ?read)
  case len =>
    obtain ⟨f, c, kvs, n, r, m, a, place, b, e, j, rfl, _⟩ := h
    rfl
  case read =>
    obtain ⟨f, c, kvs, n, r, m, a, place, b, e, j, rfl, F0, hn, hc, I, hz, k⟩ := h
    have nfc : f ≠ c := by
      obtain ⟨cs, at_, left, h1, _⟩ := F0
      intro z
      rw [z, hc] at h1
      cases h1
    refine ⟨_, rfl, ⟨c, kvs, rfl, hc⟩, _, rfl, c, kvs, _, .inl place, rfl, hc, rfl, rfl, ?_⟩
    rw [getD_cnt I]
    refine ⟨rfl, _, rfl, ?_⟩
    refine ⟨_, rfl, f, 5, _, rfl, by decide, by decide, F0, by omega, fun r1 M1 p1 q1 F1 o1 => ?_⟩
    obtain ⟨w2, ew, hw⟩ := pickI (P := fun v => 0 ≤ v ∧ v ≤ 2) (xs := [0, 0, 0, 1, 2]) (by simp) p1 q1
    refine ⟨_, ew, ?_⟩
    refine ⟨_, rfl, ?_⟩
    refine ⟨_, rfl, _, rfl, c, kvs, _, .inl place, rfl, rfl, rfl, (o1 c nfc.symm).trans hc, by omega, ?_⟩
    refine ⟨_, rfl, _, rfl, _, rfl, rfl, _, rfl, (show 3 + 2 ≤ 16777216 by decide), ?_⟩
    refine ⟨_, rfl, (show 5 + 2 ≤ 16777216 by decide), ?_⟩
    refine ⟨_, rfl, rfl, _, rfl, (show 7 + 1 ≤ 16777216 by decide), ?_⟩
    exact k (cnt kvs place + w2) _ (by omega) (by omega) (F1.put nfc) put_at fun x h1 h2 => by rw [put_ne h2]; exact o1 x h1
end
end LW
namespace LW
open PySem PySem.Spec PyProof.Rows DL
open L2 hiding del del_ne del_same
structure Pc where
  r : Int
  n : Int
  a : Int
  h : Int
  c : Int
  b : Int
  e : Int
  j : Bool
abbrev Pc.d (p : Pc) : Dt := .tuple (pc p.r p.n p.a p.h p.c p.b p.e p.j)
abbrev lp (ps : List Pc) : List Sl := ps.map fun p => .dat p.d
/-- a run as it is drawn: first its top, each further piece asked by one that is there, begun within it, ended within it if joined -/
inductive Grown : List Pc → Prop
  | top {p : Pc} : p.a = -1 → p.j = false → p.b ≤ p.e → Grown [p]
  | kid {ps : List Pc} {p q : Pc} : Grown ps → q ∈ ps → p.a = q.n → p.r = q.r → q.b ≤ p.b → p.b ≤ q.e → p.b ≤ p.e → (p.j = true → p.e ≤ q.e) → (∀ x ∈ ps, p.n ≠ x.n) → Grown (ps ++ [p])
theorem Grown.be {ps : List Pc} (g : Grown ps) : ∀ p ∈ ps, p.b ≤ p.e := by
  induction g with
  | top _ _ h => intro p hp; cases List.mem_singleton.mp hp; exact h
  | kid _ _ _ _ _ _ h _ _ ih =>
    intro p hp
    rcases List.mem_append.mp hp with z | z
    · exact ih p z
    · cases List.mem_singleton.mp z
      exact h
structure Run (run houses B : Int) (kvs kvs' : Kvs) (ps : List Pc) : Prop where
  grown : Grown ps
  run : ∀ p ∈ ps, p.r = run
  num : ∀ p ∈ ps, 0 ≤ p.n ∧ p.n ≤ 99
  place : ∀ p ∈ ps, 0 ≤ p.h ∧ p.h < houses
  tim : ∀ p ∈ ps, -B ≤ p.b ∧ p.e ≤ (ps.length + 1) * B
  low : ∀ p ∈ ps, cnt kvs p.h ≤ p.c ∧ p.c < cnt kvs' p.h
  ris : ps.Pairwise fun p q => p.h = q.h → p.c < q.c
  mono : ∀ h, cnt kvs h ≤ cnt kvs' h ∧ cnt kvs' h ≤ cnt kvs h + 3 * ps.length
  ik : IntK kvs'
  len : kvs'.length ≤ kvs.length + ps.length
theorem Run.one {run houses B : Int} {kvs : Kvs} {p : Pc} (ik : IntK kvs) (g : Grown [p]) (h1 : p.r = run) (h2 : 0 ≤ p.n ∧ p.n ≤ 99) (h3 : 0 ≤ p.h ∧ p.h < houses) (h4 : -B ≤ p.b ∧ p.e ≤ 2 * B) (h5 : cnt kvs p.h ≤ p.c ∧ p.c ≤ cnt kvs p.h + 2) :
    Run run houses B kvs (dput kvs (.inl p.h) (.dat (.int (p.c + 1)))) [p] := by
  have one : ∀ {P : Pc → Prop}, P p → ∀ q ∈ [p], P q := fun h q hq => by cases List.mem_singleton.mp hq; exact h
  refine ⟨g, one h1, one h2, one h3, one ⟨h4.1, ?_⟩, one ⟨h5.1, ?_⟩, List.pairwise_singleton _ _, fun h => ?_, ik.put, dput_len⟩
  · have : ((([p] : List Pc).length : Nat) : Int) + 1 = 2 := rfl
    rw [this]
    exact h4.2
  · rw [cnt_put, if_pos rfl]
    omega
  · rw [cnt_put]
    show _ ∧ _ ≤ _ + 3 * (1 : Int)
    by_cases e : h = p.h
    · subst e
      rw [if_pos rfl]
      omega
    · rw [if_neg e]
      omega
theorem Run.add {run houses B : Int} {kvs kvs' : Kvs} {ps : List Pc} {p : Pc} (R : Run run houses B kvs kvs' ps) (hB : 0 ≤ B) (g : Grown (ps ++ [p])) (h1 : p.r = run) (h2 : 0 ≤ p.n ∧ p.n ≤ 99) (h3 : 0 ≤ p.h ∧ p.h < houses) (h4 : -B ≤ p.b ∧ p.e ≤ (ps.length + 2) * B) (h5 : cnt kvs' p.h ≤ p.c ∧ p.c ≤ cnt kvs' p.h + 2) :
    Run run houses B kvs (dput kvs' (.inl p.h) (.dat (.int (p.c + 1)))) (ps ++ [p]) := by
  have all : ∀ {P : Pc → Prop}, (∀ q ∈ ps, P q) → P p → ∀ q ∈ ps ++ [p], P q := fun h h' q hq => by
    rcases List.mem_append.mp hq with z | z
    · exact h q z
    · cases List.mem_singleton.mp z
      exact h'
  have el : (((ps ++ [p]).length : Nat) : Int) = ps.length + 1 := by rw [List.length_append]; rfl
  have hm := R.mono
  refine ⟨g, all R.run h1, all R.num h2, all R.place h3, ?_, ?_, ?_, fun h => ?_, R.ik.put, ?_⟩
  · rw [el]
    have e2 : ((ps.length : Int) + 1 + 1) * B = ((ps.length : Int) + 1) * B + B := by rw [Int.add_mul _ 1, Int.one_mul]
    have e3 : ((ps.length : Int) + 2) * B = ((ps.length : Int) + 1) * B + B := by
      rw [show ((ps.length : Int) + 2) = ps.length + 1 + 1 by omega]
      exact e2
    refine all (fun q hq => ⟨(R.tim q hq).1, ?_⟩) ⟨h4.1, ?_⟩
    · have := (R.tim q hq).2
      rw [e2]
      omega
    · rw [e2, ← e3]
      exact h4.2
  · refine all (fun q hq => ⟨(R.low q hq).1, ?_⟩) ⟨?_, ?_⟩
    · rw [cnt_put]
      have := (R.low q hq).2
      by_cases e : q.h = p.h
      · rw [if_pos e]
        rw [e] at this
        omega
      · rw [if_neg e]
        exact this
    · have := (hm p.h).1
      omega
    · rw [cnt_put, if_pos rfl]
      omega
  · refine List.pairwise_append.mpr ⟨R.ris, List.pairwise_singleton _ _, fun q hq x hx e => ?_⟩
    cases List.mem_singleton.mp hx
    have := (R.low q hq).2
    rw [e] at this
    omega
  · rw [cnt_put, el]
    have := hm h
    by_cases e : h = p.h
    · subst e
      rw [if_pos rfl]
      omega
    · rw [if_neg e]
      omega
  · have := R.len
    have d := dput_len (kvs := kvs') (k := .inl p.h) (s := .dat (.int (p.c + 1)))
    rw [List.length_append]
    show _ ≤ _ + (_ + 1)
    omega
theorem mem_map_dat {ds : List Dt} {i : Nat} {x : Sl} (h : (ds.map Sl.dat)[i]? = some x) : ∃ d, d ∈ ds ∧ x = .dat d := by
  rw [List.getElem?_map] at h
  cases z : ds[i]? with
  | none =>
    rw [z] at h
    cases h
  | some d =>
    rw [z] at h
    cases h
    exact ⟨d, List.mem_of_getElem? z, rfl⟩
theorem upto_nodup (many : Int) : (upto many).Nodup := by
  unfold upto
  refine List.Pairwise.map _ (fun a b (h : a ≠ b) => ?_) List.nodup_range
  intro e
  exact h (Int.ofNat.inj e)
theorem upto_mem {many x : Int} (h : x ∈ upto many) : 0 ≤ x ∧ x < many := by
  unfold upto at h
  obtain ⟨i, hi, rfl⟩ := List.mem_map.mp h
  have := List.mem_range.mp hi
  omega
theorem upto_len (many : Int) : (upto many).length = many.toNat := by
  unfold upto
  rw [List.length_map, List.length_range]
theorem names_ok {low far many : Int} {ns : List Int} (hf : far = 1 ∨ far = 3 ∨ far = 99 ∨ far = 37) (hp : ns.Perm (upto many)) (hm : many ≤ 100) : (ns.map fun k => (low + far * k) % 100).Nodup := by
  have hn : ns.Nodup := hp.nodup_iff.mpr (upto_nodup many)
  refine List.Pairwise.map _ (fun a b h => h) ?_
  refine List.Pairwise.imp_of_mem (fun {a b} ha hb ne => ?_) hn
  have h1 := upto_mem (hp.mem_iff.mp ha)
  have h2 := upto_mem (hp.mem_iff.mp hb)
  rcases hf with rfl | rfl | rfl | rfl <;> omega
theorem cut_tail {α : Type} {x : α} {xs : List α} : cut (x :: xs) (some 1) none = xs := by
  unfold cut HT.sIx
  simp
def pr_llrun : Pr := fun ss M q => ∃ (f c : Addr) (kvs : Kvs) (n run many houses : Int), ss = [.own f, .own c, .dat (.int run), .dat (.int many), .dat (.int houses)] ∧ Feed M f n ∧ n ≤ 2 ^ 37 ∧ M c = some (.dct kvs) ∧ IntK kvs ∧ kvs.length < 5000 ∧ 1 ≤ many ∧ many ≤ 100 ∧ 1 ≤ houses ∧ houses ≤ 8 ∧
  ∀ (p : Addr) (ps : List Pc) kvs' B M', M p = none → M' p = some (.lst (lp ps)) → ps.length = many.toNat → 4 ≤ B → B ≤ 10 ^ 28 → Run run houses B kvs kvs' ps → M' c = some (.dct kvs') → Feed M' f (n + 5000) → (∀ x, x ≠ f → x ≠ c → M x ≠ none → M' x = M x) → q (.own p) M'
section
variable {P : Program} {w : World} {K : PySem.W.Frag} {mg : Str → Option Value} {base : Heap}
theorem ok_llrun (T : Tx P K mg) : Holds P w K mg base 4 T.f_llrun T.fd_llrun ["feed", "counts", "run", "many", "houses"] pr_llrun := by
  refine holds_of T.F_llrun sc_llrun (fun ss M q h => ?len) (fun cdv A outer s H hr => (xss_cons (xs_asgN (ps_set (i := 5) sc_llrun.nd rfl (by first | exact .inl rfl | exact .inr rfl) (xe_call (ok_lldraw T) (hr.mono (by decide)) T.g_lldraw T.F_lldraw.kp T.b_lldraw (xa_cons (xv 0) (xa_cons xe_int xa_nil)))) simLE)
      (xss_cons (xs_asgN (ps_set (i := 6) sc_llrun.nd rfl (by first | exact .inl rfl | exact .inr rfl) (xe_ix (xe_lstD (xa_cons xe_int (xa_cons xe_int (xa_cons xe_int (xa_cons xe_int xa_nil))))) (xe_call (ok_lldraw T) (hr.mono (by decide)) T.g_lldraw T.F_lldraw.kp T.b_lldraw (xa_cons (xv 0) (xa_cons xe_int xa_nil))))) simLE)
      (xss_cons (xs_fz (i := 7) (xs_asgN (ps_setLc (i := 7) (own := [("k", 18)]) (g := gName 18) (tt := LB _) rfl sc_llrun.nd rfl rfl (sw_true rfl rfl rfl (by decide +kernel)) (pi_list (xe_call (ok_llorder T) (hr.mono (by decide)) T.g_llorder T.F_llorder.kp T.b_llorder (xa_cons (xv 0) (xa_cons (xv 3) xa_nil)))) (blkOk_by (own := [("k", 18)]) (N := N_llrun) (sc := defScope s_llrun) (by decide +kernel)) (fun _ _ _ _ _ => pg_name (i := 18) sc_llrun.nd rfl (.inl rfl)) (fun _ _ _ _ _ => xts_nil) (fun _ _ _ _ _ => (xe_mod (xe_addD (xv 5) (xe_mul (xv 6) (xv 18))) xe_int))) (sim_lcL simLE simLB simLE (by decide))))
      (xss_cons (xs_asgN (ps_set (i := 8) sc_llrun.nd rfl (by first | exact .inl rfl | exact .inr rfl) (xe_ix (xe_lstD (xa_cons xe_int (xa_cons xe_int (xa_cons xe_int (xa_cons (xe_pow xe_int xe_int) (xa_cons (xe_pow xe_int xe_int) xa_nil)))))) (xe_call (ok_lldraw T) (hr.mono (by decide)) T.g_lldraw T.F_lldraw.kp T.b_lldraw (xa_cons (xv 0) (xa_cons xe_int xa_nil))))) simLE)
      (xss_cons (xs_asgN (ps_set (i := 9) sc_llrun.nd rfl (by first | exact .inl rfl | exact .inr rfl) (xe_sub (xe_call (ok_lldraw T) (hr.mono (by decide)) T.g_lldraw T.F_lldraw.kp T.b_lldraw (xa_cons (xv 0) (xa_cons (xe_addD (xe_mul xe_int (xv 8)) xe_int) xa_nil))) (xv 8))) simLE)
      (xss_cons (xs_asgN (ps_set (i := 10) sc_llrun.nd rfl (by first | exact .inl rfl | exact .inr rfl) (xe_tup (xa_cons (xv 9) (xa_cons (xe_addD (xv 9) (xe_call (ok_lldraw T) (hr.mono (by decide)) T.g_lldraw T.F_lldraw.kp T.b_lldraw (xa_cons (xv 0) (xa_cons (xe_addD (xv 8) xe_int) xa_nil)))) xa_nil)))) simLE)
      (xss_cons (xs_asgN (ps_set (i := 11) sc_llrun.nd rfl (by first | exact .inl rfl | exact .inr rfl) (xe_call (ok_lldraw T) (hr.mono (by decide)) T.g_lldraw T.F_lldraw.kp T.b_lldraw (xa_cons (xv 0) (xa_cons (xv 4) xa_nil)))) simLE)
      (xss_cons (xs_asgN (ps_set (i := 12) sc_llrun.nd rfl (by first | exact .inl rfl | exact .inr rfl) (xe_lst (xa_cons (xe_call (ok_llpiece T) (hr.mono (by decide)) T.g_llpiece T.F_llpiece.kp T.b_llpiece (xa_cons (xv 0) (xa_cons (xv 1) (xa_cons (xe_tup (xa_cons (xv 2) (xa_cons (xe_ix (xv 7) xe_int) (xa_cons (xe_neg xe_int) xa_nil)))) (xa_cons (xv 11) (xa_cons (xv 10) (xa_cons xe_bl xa_nil))))))) xa_nil))) simLE)
      (xss_cons (xs_forL (ps_for PassesOwn.never rfl (pi_list (xe_slD (xv 7) (xo_some xe_int) xo_none)) (xg_name (pg_name (i := 13) sc_llrun.nd rfl (by first | exact .inl rfl | exact .inr rfl))) (xss_cons (xs_asgN (ps_set (i := 14) sc_llrun.nd rfl (by first | exact .inl rfl | exact .inr rfl) (xe_ix (xv 12) (xe_call (ok_lldraw T) (hr.mono (by decide)) T.g_lldraw T.F_lldraw.kp T.b_lldraw (xa_cons (xv 0) (xa_cons (xe_callB sim_len (pe_callB call_lenA rfl T.m_len (by decide +kernel) (xa_cons (xv 12) xa_nil))) xa_nil))))) simLE)
      (xss_cons (xs_asgN (ps_set (i := 15) sc_llrun.nd rfl (by first | exact .inl rfl | exact .inr rfl) (xe_gt (xe_call (ok_lldraw T) (hr.mono (by decide)) T.g_lldraw T.F_lldraw.kp T.b_lldraw (xa_cons (xv 0) (xa_cons xe_int xa_nil))) xe_int)) simLE)
      (xss_cons (xs_asgN (ps_set (i := 9) sc_llrun.nd rfl (by first | exact .inl rfl | exact .inr rfl) (xe_addD (xe_ix (xv 14) xe_int) (xe_call (ok_lldraw T) (hr.mono (by decide)) T.g_lldraw T.F_lldraw.kp T.b_lldraw (xa_cons (xv 0) (xa_cons (xe_addD (xe_sub (xe_ix (xv 14) xe_int) (xe_ix (xv 14) xe_int)) xe_int) xa_nil))))) simLE)
      (xss_cut (xs_asgN (ps_set (i := 16) sc_llrun.nd rfl (by first | exact .inl rfl | exact .inr rfl) (xe_if (xb_val (xv 15)) (xe_sub (xe_ix (xv 14) xe_int) (xv 9)) (xv 8))) simLE)
      (xss_cons (xs_asgN (ps_set (i := 10) sc_llrun.nd rfl (by first | exact .inl rfl | exact .inr rfl) (xe_tup (xa_cons (xv 9) (xa_cons (xe_addD (xv 9) (xe_call (ok_lldraw T) (hr.mono (by decide)) T.g_lldraw T.F_lldraw.kp T.b_lldraw (xa_cons (xv 0) (xa_cons (xe_addD (xv 16) xe_int) xa_nil)))) xa_nil)))) simLE)
      (xss_cons (xs_asgN (ps_set (i := 11) sc_llrun.nd rfl (by first | exact .inl rfl | exact .inr rfl) (xe_ix (xe_lstD (xa_cons (xe_ix (xv 14) xe_int) (xa_cons (xe_call (ok_lldraw T) (hr.mono (by decide)) T.g_lldraw T.F_lldraw.kp T.b_lldraw (xa_cons (xv 0) (xa_cons (xv 4) xa_nil))) xa_nil))) (xe_call (ok_lldraw T) (hr.mono (by decide)) T.g_lldraw T.F_lldraw.kp T.b_lldraw (xa_cons (xv 0) (xa_cons xe_int xa_nil))))) simLE)
      (xss_cons (xs_asgN (ps_set (i := 17) sc_llrun.nd rfl (by first | exact .inl rfl | exact .inr rfl) (xe_tup (xa_cons (xv 2) (xa_cons (xv 13) (xa_cons (xe_ix (xv 14) xe_int) xa_nil))))) simLE)
      (xss_one (xs_expr (xe_bmL sim_app (pe_bm PySem.F.plainAttrs_list PySem.F.slot_list_append PySem.F.type_list_append mt_append (xv 12) (xa_cons (xe_call (ok_llpiece T) (hr.mono (by decide)) T.g_llpiece T.F_llpiece.kp T.b_llpiece (xa_cons (xv 0) (xa_cons (xv 1) (xa_cons (xv 17) (xa_cons (xv 11) (xa_cons (xv 10) (xa_cons (xv 15) xa_nil))))))) xa_nil))))))))))))))
      (xss_one (xs_ret (xv 12))))))))))))) (fun ss M q h => ?read)
  case len =>
    obtain ⟨f, c, kvs, n, run, many, houses, rfl, _⟩ := h
    rfl
  case read =>
    obtain ⟨f, c, kvs, n, run, many, houses, rfl, F0, hn, hc, I, hz, hm1, hm2, hh1, hh2, k⟩ := h
    have nfc : f ≠ c := by
      obtain ⟨cs, at_, left, h1, _⟩ := F0
      intro z
      rw [z, hc] at h1
      cases h1
    refine ⟨_, rfl, f, 100, _, rfl, by decide, by decide, F0, by omega, fun low M1 p1 q1 F1 o1 => ?_⟩
    refine ⟨rfl, _, rfl, _, rfl, f, 4, _, rfl, by decide, by decide, F1, by omega, fun r2 M2 p2 q2 F2 o2 => ?_⟩
    obtain ⟨far, ef, hf⟩ := pickI (P := fun v => v = 1 ∨ v = 3 ∨ v = 99 ∨ v = 37) (xs := [1, 3, 99, 37]) (by simp) p2 q2
    refine ⟨_, ef, ?_⟩
    refine ⟨_, rfl, _, rfl, f, many, _, rfl, by omega, by omega, F2, by omega, fun pl ns M3 hpl hM3 hperm F3 k3 => ?_⟩
    have hns : ns.length = many.toNat := by rw [hperm.length_eq, upto_len]
    refine lc_map (fun x => match x with | .dat (.int k) => .dat (.int ((low + far * k) % 100)) | s => s) (IsL.own hM3) (by rw [List.length_map]; omega) (fun x hx M' k' hk => ?_) fun p2 hp2 => ?_
    · obtain ⟨kk, hkk, rfl⟩ := List.mem_map.mp hx
      exact ⟨_, rfl, _, rfl, _, rfl, .inl ⟨by omega, by omega⟩, (show (0 : Int) < 100 by decide), hk⟩
    have nodup := names_ok (low := low) hf hperm hm2
    obtain ⟨nms, enms⟩ : ∃ nms : List Int, nms = ns.map fun k => (low + far * k) % 100 := ⟨_, rfl⟩
    rw [← enms] at nodup
    have lnms : nms.length = many.toNat := by rw [enms, List.length_map, hns]
    have rnms : ∀ x ∈ nms, 0 ≤ x ∧ x ≤ 99 := fun x hx => by
      rw [enms] at hx
      obtain ⟨kk, _, rfl⟩ := List.mem_map.mp hx
      have e0 := Int.emod_nonneg (low + far * kk) (show (100 : Int) ≠ 0 by decide)
      have e1 := Int.emod_lt_of_pos (low + far * kk) (show (0 : Int) < 100 by decide)
      omega
    refine ⟨_, nms.map .int, rfl, ?_, ?_⟩
    · rw [put_at, enms, List.map_map, List.map_map, List.map_map]
      rfl
    rw [del_put hp2]
    clear enms
    obtain ⟨x0, rest, rfl⟩ : ∃ x0 rest, nms = x0 :: rest := by
      cases nms with
      | nil =>
        have : (0 : Nat) = many.toNat := lnms
        omega
      | cons a b => exact ⟨a, b, rfl⟩
    refine ⟨⟨by decide, by decide, by decide⟩, ⟨by decide, by decide, by decide⟩, ?_⟩
    refine ⟨rfl, _, rfl, _, rfl, f, 5, _, rfl, by decide, by decide, F3, by omega, fun r4 M4 p4 q4 F4 o4 => ?_⟩
    obtain ⟨wide, ew, hw⟩ := pickI (P := fun v => 4 ≤ v ∧ v ≤ 10 ^ 28) (xs := [4, 12, 60, 10 ^ (9 : Int).toNat, 10 ^ (28 : Int).toNat]) (by intro x hx; simp at hx; rcases hx with rfl | rfl | rfl | rfl | rfl <;> decide) p4 q4
    refine ⟨_, ew, ?_⟩
    refine ⟨_, rfl, _, rfl, .inl ⟨by decide, by decide⟩, f, 2 * wide + 1, _, rfl, by omega, by omega, F4, by omega, fun r5 M5 p5 q5 F5 o5 => ?_⟩
    refine ⟨_, rfl, ?_⟩
    refine ⟨_, rfl, _, rfl, _, rfl, _, rfl, f, wide + 1, _, rfl, by omega, by omega, F5, by omega, fun r6 M6 p6 q6 F6 o6 => ?_⟩
    refine ⟨rfl, _, rfl, ?_⟩
    refine ⟨_, rfl, _, rfl, f, houses, _, rfl, by omega, by omega, F6, by omega, fun pl7 M7 p7 q7 F7 o7 => ?_⟩
    have kp7 : ∀ x, x ≠ f → M x ≠ none → M7 x = M x := fun x h1 h2 => by
      rw [o7 x h1, o6 x h1, o5 x h1, o4 x h1, k3 x h1 (by rw [o2 x h1, o1 x h1]; exact h2), o2 x h1, o1 x h1]
    refine ⟨_, rfl, _, rfl, _, rfl, _, rfl, _, atI_nat (j := 0) rfl, ?_⟩
    refine ⟨rfl, _, rfl, _, rfl, _, rfl, f, c, kvs, _, run, x0, -1, pl7, _, _, false, rfl, F7, by omega, (kp7 c nfc.symm (by rw [hc]; exact nofun)).trans hc, I, by omega, fun c0 M8 lo8 hi8 F8 hc8 o8 => ?_⟩
    refine ⟨rfl, fun p hp => ?_⟩
    have npf : p ≠ f := (F8.ne hp).symm
    have npc : p ≠ c := by
      intro z
      rw [z, hc8] at hp
      cases hp
    have pM : M p = none := by
      cases e : M p with
      | none => rfl
      | some o =>
        have e8 := o8 p npf npc
        rw [kp7 p npf (by rw [e]; exact nofun), e, hp] at e8
        cases e8
    have R0 := Run.one (run := run) (houses := houses) (B := wide) (p := ⟨run, x0, -1, pl7, c0, r5 - wide, r5 - wide + r6, false⟩) I (.top rfl rfl (show r5 - wide ≤ r5 - wide + r6 by omega)) rfl (rnms x0 List.mem_cons_self) ⟨p7, q7⟩ ⟨show -wide ≤ r5 - wide by omega, show r5 - wide + r6 ≤ 2 * wide by omega⟩ ⟨lo8, hi8⟩
    refine ⟨_, rfl, _, IsL.dat, ?_⟩
    have ec : cut ((x0 :: rest).map PyData.int) (some 1) none = rest.map .int := cut_tail
    rw [ec]
    have lrest : rest.length + 1 = many.toNat := lnms
    refine ⟨_, IsL.dat, fun i Γ' M' => ∃ (ps : List Pc) (kvs' : Kvs) (x9 x10 x11 x13 x14 x15 x16 x17 : Option Sl), Γ' = [some (.own f), some (.own c), some (.dat (.int run)), some (.dat (.int many)), some (.dat (.int houses)), some (.dat (.int low)), some (.dat (.int far)), some (.dat (.list ((x0 :: rest).map .int))), some (.dat (.int wide)), x9, x10, x11, some (.own p), x13, x14, x15, x16, x17, none] ∧ M' p = some (.lst (lp ps)) ∧ M' c = some (.dct kvs') ∧ Run run houses wide kvs kvs' ps ∧ ps.map Pc.n = x0 :: rest.take i ∧ Feed M' f (n + 2000 + 8 * i) ∧ ∀ x, x ≠ f → x ≠ c → M x ≠ none → M' x = M x, ?_, fun _ _ _ _ _ => IsL.dat, ?_, ?_⟩
    · refine ⟨[⟨run, x0, -1, pl7, c0, r5 - wide, r5 - wide + r6, false⟩], _, _, _, _, _, _, _, _, _, rfl, put_at, (put_ne npc.symm).trans hc8, R0, rfl, (F8.up (by omega)).put npf.symm, fun x h1 h2 h3 => ?_⟩
      have n1 : x ≠ p := fun z => h3 (z ▸ pM)
      rw [put_ne n1, o8 x h1 h2, kp7 x h1 h3]
    · rintro i x Γ' Mi hx ⟨ps, kvs', x9, x10, x11, x13, x14, x15, x16, x17, rfl, hrows, hc', R, hnm, FF, KK⟩
      obtain ⟨y, hy, rfl⟩ := mem_map_dat hx
      obtain ⟨y, hy', rfl⟩ := List.mem_map.mp hy
      have hry : rest[i]? = some y := by
        rw [List.getElem?_map, List.getElem?_map] at hx
        cases z : rest[i]? with
        | none =>
          rw [z] at hx
          cases hx
        | some v =>
          rw [z] at hx
          cases hx
          rfl
      have hi : i < rest.length := (List.getElem?_eq_some_iff.mp hry).1
      have lps : ps.length = i + 1 := by
        have := congrArg List.length hnm
        rw [List.length_map, List.length_cons, List.length_take] at this
        omega
      have ell : (lp ps).length = ps.length := List.length_map ..
      have hB0 : ((ps.length : Int) + 1) * wide ≤ 101 * 10 ^ 28 := Int.mul_le_mul (by omega) hw.2 (by omega) (by decide)
      refine ⟨_, rfl, _, rfl, _, rfl, _, hrows, f, ((lp ps).length : Int), _, rfl, by rw [ell]; omega, by rw [ell]; omega, FF, by omega, fun r9 M9 p9 q9 F9 o9 => ?_⟩
      obtain ⟨sq, eq_, z, hz, rfl⟩ := pick (P := fun s => ∃ q ∈ ps, s = Sl.dat (Pc.d q)) (fun s hs => by
        obtain ⟨z, hz, rfl⟩ := List.mem_map.mp hs
        exact ⟨z, hz, rfl⟩) p9 q9
      obtain ⟨zb1, ze1⟩ := R.tim z hz
      have zbe := R.grown.be z hz
      have zpl := R.place z hz
      refine ⟨_, _, (o9 p npf).trans hrows, eq_, ?_⟩
      refine ⟨_, rfl, f, 4, _, rfl, by decide, by decide, F9, by omega, fun r10 M10 p10 q10 F10 o10 => ?_⟩
      refine ⟨_, rfl, _, rfl, _, rfl, _, rfl, _, rfl, _, rfl, _, rfl, f, z.e - z.b + 1, _, rfl, by omega, by omega, F10, by omega, fun r11 M11 p11 q11 F11 o11 => ?_⟩
      refine ⟨fun Γ' M' => ∃ room : Int, Γ' = [some (.own f), some (.own c), some (.dat (.int run)), some (.dat (.int many)), some (.dat (.int houses)), some (.dat (.int low)), some (.dat (.int far)), some (.dat (.list ((x0 :: rest).map .int))), some (.dat (.int wide)), some (.dat (.int (z.b + r11))), x10, x11, some (.own p), some (.dat (.int y)), some (.dat z.d), some (.dat (.bool (decide (0 < r10)))), some (.dat (.int room)), x17, none] ∧ M' = M11 ∧ 0 ≤ room ∧ room ≤ 10 ^ 31 ∧ (0 < r10 → z.b + r11 + room = z.e) ∧ (¬ 0 < r10 → room = wide), ?_, ?_⟩
      · refine ⟨_, rfl, And.intro (fun hj => ?_) (fun hj => ?_)⟩
        · have hj' : 0 < r10 := of_decide_eq_true hj
          exact ⟨_, rfl, _, rfl, _, rfl, _, rfl, rfl, by omega, by omega, fun _ => by omega, fun h => absurd hj' h⟩
        · have hj' : ¬ 0 < r10 := of_decide_eq_false hj
          exact ⟨_, rfl, _, rfl, rfl, by omega, by omega, fun h => absurd h hj', fun _ => rfl⟩
      · rintro Γ' M' ⟨room, rfl, eM, hr0, hr1, hr2, hr3⟩
        have eM' := eM.symm
        subst eM'
        refine ⟨_, rfl, _, rfl, _, rfl, _, rfl, f, room + 1, _, rfl, by omega, by omega, F11, by omega, fun r12 M12 p12 q12 F12 o12 => ?_⟩
        refine ⟨rfl, _, rfl, ?_⟩
        refine ⟨_, rfl, _, rfl, _, rfl, _, rfl, f, houses, _, rfl, by omega, by omega, F12, by omega, fun r13 M13 p13 q13 F13 o13 => ?_⟩
        refine ⟨rfl, _, rfl, ?_⟩
        refine ⟨_, rfl, f, 2, _, rfl, by decide, by decide, F13, by omega, fun r14 M14 p14 q14 F14 o14 => ?_⟩
        obtain ⟨pl, epl, hpl'⟩ := pickI (P := fun v => 0 ≤ v ∧ v < houses) (xs := [z.h, r13]) (by intro v hv; simp at hv; rcases hv with rfl | rfl <;> omega) p14 q14
        refine ⟨_, epl, ?_⟩
        refine ⟨_, rfl, _, rfl, _, rfl, _, rfl, ?_⟩
        refine ⟨rfl, _, rfl, ?_⟩
        have e14 : ∀ x, x ≠ f → M14 x = Mi x := fun x h1 => by rw [o14 x h1, o13 x h1, o12 x h1, o11 x h1, o10 x h1, o9 x h1]
        have R_len := R.len
        refine ⟨_, rfl, ⟨_, IsL.own ((e14 p npf).trans hrows)⟩, _, rfl, _, rfl, _, rfl, _, rfl, _, rfl, _, rfl, f, c, kvs', _, run, y, z.n, pl, _, _, _, rfl, F14, by omega, (e14 c nfc.symm).trans hc', R.ik, by omega, fun c1 M15 lo15 hi15 F15 hc15 o15 => ?_⟩
        have e15 := (o15 p npf npc).trans ((e14 p npf).trans hrows)
        refine ⟨_, e15, by rw [ell]; omega, ?_⟩
        have hnew : ∀ x ∈ ps, y ≠ x.n := fun x hx e => by
          have h1 : x.n ∈ ps.map Pc.n := List.mem_map.mpr ⟨x, hx, rfl⟩
          rw [hnm, ← e] at h1
          rcases List.mem_cons.mp h1 with h2 | h2
          · exact (List.nodup_cons.mp nodup).1 (h2 ▸ hy')
          · have h3 := (List.nodup_cons.mp nodup).2
            obtain ⟨j, hj, ej⟩ := List.getElem_of_mem h2
            rw [List.length_take] at hj
            rw [List.getElem_take] at ej
            have h4 : rest[i] = y := (List.getElem?_eq_some_iff.mp hry).2
            exact List.pairwise_iff_getElem.mp h3 j i (by omega) hi (by omega) (ej.trans h4.symm)
        have grown := Grown.kid (p := ⟨run, y, z.n, pl, c1, z.b + r11, z.b + r11 + r12, decide (0 < r10)⟩) R.grown hz rfl (R.run z hz).symm (show z.b ≤ z.b + r11 by omega) (show z.b + r11 ≤ z.e by omega) (show z.b + r11 ≤ z.b + r11 + r12 by omega) (fun hj => by
          have hj' : 0 < r10 := of_decide_eq_true hj
          have := hr2 hj'
          show z.b + r11 + r12 ≤ z.e
          omega) hnew
        have tm : z.b + r11 + r12 ≤ ((ps.length : Int) + 2) * wide := by
          have e2 : ((ps.length : Int) + 2) * wide = ((ps.length : Int) + 1) * wide + wide := by
            rw [show ((ps.length : Int) + 2) = ps.length + 1 + 1 by omega, Int.add_mul _ 1, Int.one_mul]
          rw [e2]
          by_cases hj : 0 < r10
          · have := hr2 hj
            omega
          · have := hr3 hj
            omega
        have R2 := R.add (by omega) grown rfl (rnms y (List.mem_cons_of_mem _ hy')) ⟨hpl'.1, hpl'.2⟩ ⟨show -wide ≤ z.b + r11 by omega, tm⟩ ⟨lo15, hi15⟩
        refine ⟨_, _, _, _, _, _, _, _, _, _, rfl, ?_, (put_ne npc.symm).trans hc15, R2, ?_, (F15.up (by omega)).put npf.symm, fun x h1 h2 h3 => ?_⟩
        · rw [put_at]
          exact congrArg (fun z => some (MO.lst z)) (List.map_append (f := fun p : Pc => Sl.dat p.d) (l₁ := ps) (l₂ := [⟨run, y, z.n, pl, c1, z.b + r11, z.b + r11 + r12, decide (0 < r10)⟩])).symm
        · rw [List.map_append, hnm, List.take_add_one, hry]
          rfl
        · have n1 : x ≠ p := fun z => h3 (z ▸ pM)
          rw [put_ne n1, o15 x h1 h2, e14 x h1]
          exact KK x h1 h2 h3
    · rintro Γ' M' ⟨ps, kvs', x9, x10, x11, x13, x14, x15, x16, x17, rfl, hrows, hc', R, hnm, FF, KK⟩
      have el : (List.map Sl.dat (List.map PyData.int rest)).length = rest.length := by rw [List.length_map, List.length_map]
      rw [el, List.take_length] at hnm
      rw [el] at FF
      have lps : ps.length = many.toNat := by
        have := congrArg List.length hnm
        rw [List.length_map] at this
        rw [this]
        exact lrest
      exact ⟨_, rfl, k p ps kvs' wide M' pM hrows lps hw.1 hw.2 R hc' (FF.up (by omega)) KK⟩
end
end LW
namespace LW
open PySem PySem.Spec PyProof.Rows DL
open L2 hiding del del_ne del_same
theorem isl_keep {M M' : Mem} {f : Addr} {n : Int} {s : Sl} {ps : List Pc} (l : IsL M s (lp ps)) (F : Feed M f n) (K : Keep f M M') : IsL M' s (lp ps) := by
  rcases l with ⟨ds, h1, h2⟩ | ⟨a, h1, h2⟩
  · exact .inl ⟨ds, h1, h2⟩
  · refine .inr ⟨a, h1, K.at (fun z => ?_) h2⟩
    subst z
    obtain ⟨cs, at_, left, h3, _⟩ := F
    rw [h2] at h3
    cases ps with
    | nil => cases h3
    | cons p ps => cases h3
theorem li_dat (ns : List Int) : li ns = (ns.map PyData.int).map Sl.dat := by
  rw [List.map_map] <;> rfl
theorem lp_mem {ps : List Pc} {i : Nat} {x : Sl} (h : (lp ps)[i]? = some x) : ∃ p, ps[i]? = some p ∧ x = .dat p.d := by
  rw [List.getElem?_map] at h
  cases z : ps[i]? with
  | none =>
    rw [z] at h
    cases h
  | some d =>
    rw [z] at h
    cases h
    exact ⟨d, rfl, rfl⟩
abbrev Pc.less (p : Pc) (x : Int) : Pc := ⟨p.r, p.n, p.a, p.h, p.c, p.b - x, p.e - x, p.j⟩
def pr_llapart : Pr := fun ss M q => ∃ (f : Addr) (s : Sl) (n : Int) (ps : List Pc), ss = [.own f, s] ∧ IsL M s (lp ps) ∧ ps.length ≤ 5000 ∧ (∀ p ∈ ps, 0 ≤ p.h ∧ p.h < 8) ∧ Feed M f n ∧ n ≤ 2 ^ 38 ∧
  ∀ (p : Addr) (by_ : Int → Int) M', M p = none → (∀ h, 0 ≤ h → h < 8 → -(10 ^ 20) ≤ by_ h ∧ by_ h ≤ 10 ^ 20) → M' p = some (.lst (lp (ps.map fun p => p.less (by_ p.h)))) → Feed M' f (n + 9) → Keep f M M' → q (.own p) M'
section
variable {P : Program} {w : World} {K : PySem.W.Frag} {mg : Str → Option Value} {base : Heap}
end
end LW
namespace LW
open PySem PySem.Spec PyProof.Rows DL
open L2 hiding del del_ne del_same
def askok (z : Pc) : Prop := (z.a = -1 ∧ z.j = false) ∨ (0 ≤ z.a ∧ z.a ≤ 99 ∧ z.a ≠ z.n)
/-- bent: its run, number, house and count stay -/
structure Bent (z y : Pc) : Prop where
  r : y.r = z.r
  n : y.n = z.n
  h : y.h = z.h
  c : y.c = z.c
  be : z.b ≤ z.e → y.b ≤ y.e
  b : z.b - 6 ≤ y.b ∧ y.b ≤ z.b + 6
  e : z.e - 6 ≤ y.e ∧ y.e ≤ z.e + 6
  ask : askok z → askok y
def pr_llbent_one : Pr := fun ss M q => ∃ (f a : Addr) (n : Int) (ps : List Pc) (i : Nat) (z : Pc), ss = [.own f, .own a, .dat (.int (i : Int))] ∧ M a = some (.lst (lp ps)) ∧ ps[i]? = some z ∧ (∀ p ∈ ps, 0 ≤ p.n ∧ p.n ≤ 99) ∧ ps.length ≤ 5000 ∧ Feed M f n ∧ n ≤ 2 ^ 38 ∧
  ∀ (y : Pc) M', Bent z y → Feed M' f (n + 4) → (∀ x, x ≠ f → M' x = M x) → q (.dat y.d) M'
section
variable {P : Program} {w : World} {K : PySem.W.Frag} {mg : Str → Option Value} {base : Heap}
theorem ok_llbent_one (T : Tx P K mg) : Holds P w K mg base 3 T.f_llbent_one T.fd_llbent_one ["feed", "pieces", "at"] pr_llbent_one := by
  refine holds_of T.F_llbent_one sc_llbent_one (fun ss M q h => ?len) (fun cdv A outer s H hr => (xss_cons (xs_asgN (ps_set (i := 3) sc_llbent_one.nd rfl (by first | exact .inl rfl | exact .inr rfl) (xe_ix (xv 1) (xv 2))) simLE)
      (xss_cons (xs_asgN (ps_set (i := 4) sc_llbent_one.nd rfl (by first | exact .inl rfl | exact .inr rfl) (xe_call (ok_lldraw T) (hr.mono (by decide)) T.g_lldraw T.F_lldraw.kp T.b_lldraw (xa_cons (xv 0) (xa_cons xe_int xa_nil)))) simLE)
      (xss_cons (xs_asgN (ps_set (i := 5) sc_llbent_one.nd rfl (by first | exact .inl rfl | exact .inr rfl) (xe_sub (xe_call (ok_lldraw T) (hr.mono (by decide)) T.g_lldraw T.F_lldraw.kp T.b_lldraw (xa_cons (xv 0) (xa_cons xe_int xa_nil))) xe_int)) simLE)
      (xss_cons (xs_if (xb_cmp sim_eq (pt_cmpR (op_eqAll hr.rm.units) (xv 4) xe_int (nomark _))) (xss_one (xs_ret (xe_addD (xe_slD (xv 3) xo_none (xo_some xe_int)) (xe_tup (xa_cons (xe_addD (xe_ix (xv 3) xe_int) (xv 5)) (xa_cons (xe_addD (xe_ix (xv 3) xe_int) (xv 5)) (xa_cons (xe_ix (xv 3) xe_int) xa_nil))))))) xss_nil)
      (xss_cons (xs_if (xb_cmp sim_eq (pt_cmpR (op_eqAll hr.rm.units) (xv 4) xe_int (nomark _))) (xss_one (xs_ret (xe_addD (xe_slD (xv 3) xo_none (xo_some xe_int)) (xe_tup (xa_cons (xe_addD (xe_ix (xv 3) xe_int) (xe_callB sim_abs (pe_callB call_abs rfl T.m_abs (by decide +kernel) (xa_cons (xv 5) xa_nil)))) (xa_cons (xe_ix (xv 3) xe_int) xa_nil)))))) xss_nil)
      (xss_cons (xs_if (xb_cmp sim_eq (pt_cmpR (op_eqAll hr.rm.units) (xv 4) xe_int (nomark _))) (xss_one (xs_ret (xe_addD (xe_addD (xe_slD (xv 3) xo_none (xo_some xe_int)) (xe_tup (xa_cons (xe_sub (xe_ix (xv 3) xe_int) (xe_callB sim_abs (pe_callB call_abs rfl T.m_abs (by decide +kernel) (xa_cons (xv 5) xa_nil)))) xa_nil))) (xe_slD (xv 3) (xo_some xe_int) xo_none)))) xss_nil)
      (xss_cut (xs_if (xb_w (xw_and (xb_cmp sim_eq (pt_cmpR (op_eqAll hr.rm.units) (xv 4) xe_int (nomark _))) (xw_and1 (xb_cmp (sim_I0 fun _ _ _ => .bl _) (pt_cmpR op_ge (xe_ix (xv 3) xe_int) xe_int (nomark _)))))) (xss_one (xs_ret (xe_addD (xe_slD (xv 3) xo_none (xo_some xe_int)) (xe_tup (xa_cons (xe_not (xe_ix (xv 3) xe_int)) xa_nil))))) xss_nil)
      (xss_cons (xs_if (xb_cmp sim_eq (pt_cmpR (op_eqAll hr.rm.units) (xv 4) xe_int (nomark _))) (xss_one (xs_ret (xe_addD (xe_addD (xe_addD (xe_slD (xv 3) xo_none (xo_some xe_int)) (xe_tup (xa_cons (xe_neg xe_int) xa_nil))) (xe_slD (xv 3) (xo_some xe_int) (xo_some xe_int))) (xe_tup (xa_cons xe_bl xa_nil))))) xss_nil)
      (xss_cons (xs_asgN (ps_set (i := 6) sc_llbent_one.nd rfl (by first | exact .inl rfl | exact .inr rfl) (xe_ix (xe_lstD (xa_cons (xe_ix (xe_ix (xv 1) (xe_call (ok_lldraw T) (hr.mono (by decide)) T.g_lldraw T.F_lldraw.kp T.b_lldraw (xa_cons (xv 0) (xa_cons (xe_callB sim_len (pe_callB call_lenA rfl T.m_len (by decide +kernel) (xa_cons (xv 1) xa_nil))) xa_nil)))) xe_int) (xa_cons (xe_call (ok_lldraw T) (hr.mono (by decide)) T.g_lldraw T.F_lldraw.kp T.b_lldraw (xa_cons (xv 0) (xa_cons xe_int xa_nil))) xa_nil))) (xe_mod (xv 4) xe_int))) simLE)
      (xss_cons (xs_if (xb_cmp sim_eq (pt_cmpR (op_eqAll hr.rm.units) (xv 6) (xe_ix (xv 3) xe_int) (nomark _))) (xss_one (xs_ret (xv 3))) xss_nil)
      (xss_one (xs_ret (xe_addD (xe_addD (xe_slD (xv 3) xo_none (xo_some xe_int)) (xe_tup (xa_cons (xv 6) xa_nil))) (xe_slD (xv 3) (xo_some xe_int) xo_none))))))))))))))) (fun ss M q h => ?read)
  case len =>
    obtain ⟨f, a, n, ps, i, z, rfl, _⟩ := h
    rfl
  case read =>
    obtain ⟨f, a, n, ps, i, z, rfl, hs, hz, hnn, hlen, F0, hn, k⟩ := h
    have naf : a ≠ f := by
      intro e
      subst e
      obtain ⟨cs, at_, left, h3, _⟩ := F0
      rw [hs] at h3
      cases ps with
      | nil => cases h3
      | cons p ps => cases h3
    have hzm := List.mem_of_getElem? hz
    have zn := hnn z hzm
    have hlp : (lp ps)[i]? = some (.dat z.d) := by rw [List.getElem?_map, hz] <;> rfl
    refine ⟨_, rfl, _, rfl, lp ps, .dat z.d, hs, atI_nat hlp, ?_⟩
    refine ⟨_, rfl, f, 7, _, rfl, by decide, by decide, F0, by omega, fun w M1 p1 q1 F1 o1 => ?_⟩
    refine ⟨_, rfl, f, 13, _, rfl, by decide, by decide, F1, by omega, fun r2 M2 p2 q2 F2 o2 => ?_⟩
    have F3 := F2.up (show n + 1 + 1 ≤ n + 4 by omega)
    have oo : ∀ x, x ≠ f → M2 x = M x := fun x hx => by rw [o2 x hx, o1 x hx]
    refine ⟨_, rfl, And.intro (fun _ => ?_) (fun _ => ?_)⟩
    · refine ⟨_, rfl, _, rfl, _, rfl, _, rfl, _, rfl, _, rfl, _, rfl, _, rfl, _, rfl, ?_⟩
      refine ⟨rfl, _, rfl, Nat.le_trans (Nat.add_le_add_right (cut_len _ _ _) _) (show 8 + 3 ≤ 16777216 by decide), ?_⟩
      exact k ⟨z.r, z.n, z.a, z.h, z.c, z.b + (r2 - 6), z.e + (r2 - 6), z.j⟩ M2 ⟨rfl, rfl, rfl, rfl, fun h => by show z.b + (r2 - 6) ≤ z.e + (r2 - 6); omega, by constructor <;> dsimp only <;> omega, by constructor <;> dsimp only <;> omega, fun h => h⟩ F3 oo
    refine ⟨_, rfl, And.intro (fun _ => ?_) (fun _ => ?_)⟩
    · refine ⟨_, rfl, _, rfl, _, rfl, _, rfl, _, rfl, _, rfl, ?_⟩
      refine ⟨rfl, _, rfl, Nat.le_trans (Nat.add_le_add_right (cut_len _ _ _) _) (show 8 + 2 ≤ 16777216 by decide), ?_⟩
      refine k ⟨z.r, z.n, z.a, z.h, z.c, z.b, z.e + (if r2 - 6 < 0 then -(r2 - 6) else r2 - 6), z.j⟩ M2 ⟨rfl, rfl, rfl, rfl, fun h => ?_, ?_, ?_, fun h => h⟩ F3 oo
      · show z.b ≤ z.e + (if r2 - 6 < 0 then -(r2 - 6) else r2 - 6)
        split <;> omega
      · constructor <;> dsimp only <;> omega
      · show z.e - 6 ≤ z.e + (if r2 - 6 < 0 then -(r2 - 6) else r2 - 6) ∧ z.e + (if r2 - 6 < 0 then -(r2 - 6) else r2 - 6) ≤ z.e + 6
        split <;> omega
    refine ⟨_, rfl, And.intro (fun _ => ?_) (fun _ => ?_)⟩
    · refine ⟨_, rfl, _, rfl, _, rfl, _, rfl, ?_⟩
      refine ⟨rfl, _, rfl, Nat.le_trans (Nat.add_le_add_right (cut_len _ _ _) _) (show 8 + 1 ≤ 16777216 by decide), ?_⟩
      refine ⟨_, rfl, ?_, ?_⟩
      · show (cut _ _ _ ++ [_]).length + (cut _ _ _).length ≤ 16777216
        have c1 := cut_len (pc z.r z.n z.a z.h z.c z.b z.e z.j) none (some 5)
        have c2 := cut_len (pc z.r z.n z.a z.h z.c z.b z.e z.j) (some 6) none
        have c3 : (pc z.r z.n z.a z.h z.c z.b z.e z.j).length = 8 := rfl
        rw [List.length_append]
        show _ + 1 + _ ≤ _
        omega
      refine k ⟨z.r, z.n, z.a, z.h, z.c, z.b - (if r2 - 6 < 0 then -(r2 - 6) else r2 - 6), z.e, z.j⟩ M2 ⟨rfl, rfl, rfl, rfl, fun h => ?_, ?_, ?_, fun h => h⟩ F3 oo
      · show z.b - (if r2 - 6 < 0 then -(r2 - 6) else r2 - 6) ≤ z.e
        split <;> omega
      · show z.b - 6 ≤ z.b - (if r2 - 6 < 0 then -(r2 - 6) else r2 - 6) ∧ z.b - (if r2 - 6 < 0 then -(r2 - 6) else r2 - 6) ≤ z.b + 6
        split <;> omega
      · constructor <;> dsimp only <;> omega
    refine ⟨fun Γ' M' => Γ' = [some (.own f), some (.own a), some (.dat (.int (i : Int))), some (.dat z.d), some (.dat (.int w)), some (.dat (.int (r2 - 6))), none] ∧ M' = M2, ?_, ?_⟩
    · refine ⟨_, rfl, And.intro (fun _ => ?_) (fun _ => ?_)⟩
      · refine ⟨_, rfl, _, rfl, And.intro (fun hge => ?_) (fun _ => ⟨rfl, rfl⟩)⟩
        have ha : 0 ≤ z.a := of_decide_eq_true hge
        refine ⟨_, rfl, _, rfl, _, rfl, ?_⟩
        refine ⟨rfl, _, rfl, Nat.le_trans (Nat.add_le_add_right (cut_len _ _ _) _) (show 8 + 1 ≤ 16777216 by decide), ?_⟩
        refine k ⟨z.r, z.n, z.a, z.h, z.c, z.b, z.e, !z.j⟩ M2 ⟨rfl, rfl, rfl, rfl, fun h => h, by constructor <;> dsimp only <;> omega, by constructor <;> dsimp only <;> omega, fun h => ?_⟩ F3 oo
        rcases h with h | h
        · exact absurd h.1 (by omega)
        · exact .inr h
      · exact And.intro (fun z => nomatch z) (fun _ => ⟨rfl, rfl⟩)
    rintro Γ' M' ⟨rfl, eM⟩
    have eM' := eM
    subst eM'
    refine ⟨_, rfl, And.intro (fun _ => ?_) (fun _ => ?_)⟩
    · refine ⟨_, rfl, rfl, _, rfl, Nat.le_trans (Nat.add_le_add_right (cut_len _ _ _) _) (show 8 + 1 ≤ 16777216 by decide), _, rfl, ?_, rfl, _, rfl, ?_, ?_⟩
      · have c1 := cut_len (pc z.r z.n z.a z.h z.c z.b z.e z.j) none (some 2)
        have c2 := cut_len (pc z.r z.n z.a z.h z.c z.b z.e z.j) (some 3) (some 7)
        have c3 : (pc z.r z.n z.a z.h z.c z.b z.e z.j).length = 8 := rfl
        rw [List.length_append]
        show _ + 1 + _ ≤ _
        omega
      · have c1 := cut_len (pc z.r z.n z.a z.h z.c z.b z.e z.j) none (some 2)
        have c2 := cut_len (pc z.r z.n z.a z.h z.c z.b z.e z.j) (some 3) (some 7)
        have c3 : (pc z.r z.n z.a z.h z.c z.b z.e z.j).length = 8 := rfl
        rw [List.length_append, List.length_append]
        show _ + 1 + _ + 1 ≤ _
        omega
      exact k ⟨z.r, z.n, -1, z.h, z.c, z.b, z.e, false⟩ _ ⟨rfl, rfl, rfl, rfl, fun h => h, by constructor <;> dsimp only <;> omega, by constructor <;> dsimp only <;> omega, fun h => .inl ⟨rfl, rfl⟩⟩ F3 oo
    have ell : (lp ps).length = ps.length := List.length_map ..
    have hpos : 0 < ps.length := List.length_pos_of_mem hzm
    refine ⟨_, rfl, _, rfl, _, rfl, _, (oo a naf).trans hs, f, ((lp ps).length : Int), _, rfl, by rw [ell]; omega, by rw [ell]; omega, F2, by omega, fun r3 M3 p3 q3 F4 o3 => ?_⟩
    obtain ⟨sy, ey, u, hu, rfl⟩ := pick (P := fun s => ∃ q ∈ ps, s = Sl.dat (Pc.d q)) (fun s hs => by
      obtain ⟨z, hz, rfl⟩ := List.mem_map.mp hs
      exact ⟨z, hz, rfl⟩) p3 q3
    have un := hnn u hu
    refine ⟨_, _, (o3 a naf).trans ((oo a naf).trans hs), ey, ?_⟩
    refine ⟨_, rfl, ?_⟩
    refine ⟨_, rfl, f, 100, _, rfl, by decide, by decide, F4, by omega, fun r4 M4 p4 q4 F5 o4 => ?_⟩
    refine ⟨rfl, _, rfl, _, rfl, (show (0 : Int) < 2 by decide), ?_⟩
    have e0 := Int.emod_nonneg w (show (2 : Int) ≠ 0 by decide)
    have e1 := Int.emod_lt_of_pos w (show (0 : Int) < 2 by decide)
    obtain ⟨ask, ea, hask⟩ := pickI (P := fun v => 0 ≤ v ∧ v ≤ 99) (xs := [u.n, r4]) (by intro v hv; simp at hv; rcases hv with rfl | rfl <;> omega) e0 e1
    refine ⟨_, ea, ?_⟩
    have oo4 : ∀ x, x ≠ f → M4 x = M x := fun x hx => by rw [o4 x hx, o3 x hx, oo x hx]
    have F6 := F5.up (show n + 1 + 1 + 1 + 1 ≤ n + 4 by omega)
    refine ⟨_, rfl, _, rfl, _, rfl, And.intro (fun _ => ?_) (fun hne => ?_)⟩
    · exact ⟨_, rfl, k z M4 ⟨rfl, rfl, rfl, rfl, fun h => h, by constructor <;> omega, by constructor <;> omega, fun h => h⟩ F6 oo4⟩
    · have hne' : ask ≠ z.n := of_decide_eq_false hne
      refine ⟨_, rfl, _, rfl, rfl, _, rfl, Nat.le_trans (Nat.add_le_add_right (cut_len _ _ _) _) (show 8 + 1 ≤ 16777216 by decide), _, rfl, ?_, ?_⟩
      · have c1 := cut_len (pc z.r z.n z.a z.h z.c z.b z.e z.j) none (some 2)
        have c2 := cut_len (pc z.r z.n z.a z.h z.c z.b z.e z.j) (some 3) none
        have c3 : (pc z.r z.n z.a z.h z.c z.b z.e z.j).length = 8 := rfl
        rw [List.length_append]
        show _ + 1 + _ ≤ _
        omega
      exact k ⟨z.r, z.n, ask, z.h, z.c, z.b, z.e, z.j⟩ _ ⟨rfl, rfl, rfl, rfl, fun h => h, by constructor <;> dsimp only <;> omega, by constructor <;> dsimp only <;> omega, fun h => .inr ⟨hask.1, hask.2, hne'⟩⟩ F6 oo4
end
end LW
namespace LW
open PySem PySem.Spec PyProof.Rows DL
open L2 hiding del del_ne del_same
structure BentN (k : Int) (z y : Pc) : Prop where
  r : y.r = z.r
  n : y.n = z.n
  h : y.h = z.h
  c : y.c = z.c
  be : z.b ≤ z.e → y.b ≤ y.e
  b : z.b - 6 * k ≤ y.b ∧ y.b ≤ z.b + 6 * k
  e : z.e - 6 * k ≤ y.e ∧ y.e ≤ z.e + 6 * k
  ask : askok z → askok y
theorem BentN.refl (z : Pc) : BentN 0 z z := ⟨rfl, rfl, rfl, rfl, fun h => h, by omega, by omega, fun h => h⟩
theorem BentN.step {k : Int} {z y x : Pc} (a : BentN k z y) (b : Bent y x) : BentN (k + 1) z x :=
  ⟨b.r.trans a.r, b.n.trans a.n, b.h.trans a.h, b.c.trans a.c, fun h => b.be (a.be h), by have := a.b; have := b.b; omega, by have := a.e; have := b.e; omega, fun h => b.ask (a.ask h)⟩
theorem BentN.more {k l : Int} {z y : Pc} (a : BentN k z y) (h : k ≤ l) : BentN l z y := ⟨a.r, a.n, a.h, a.c, a.be, by have := a.b; omega, by have := a.e; omega, a.ask⟩
def BentAll (k : Int) (ps cs : List Pc) : Prop := cs.length = ps.length ∧ ∀ (j : Nat) (z y : Pc), ps[j]? = some z → cs[j]? = some y → BentN k z y
theorem BentAll.all {k : Int} {ps cs : List Pc} (B : BentAll k ps cs) {y : Pc} (h : y ∈ cs) : ∃ z ∈ ps, BentN k z y := by
  obtain ⟨j, hj, e⟩ := List.getElem_of_mem h
  have hj2 : j < ps.length := by rw [← B.1]; exact hj
  exact ⟨ps[j], List.getElem_mem hj2, B.2 j _ _ (List.getElem?_eq_getElem hj2) (by rw [List.getElem?_eq_getElem hj, e])⟩
theorem ixN_nat {n j : Nat} (h : j < n) : ixN n (j : Int) = some j := by
  unfold ixN
  rw [if_pos (by omega), if_pos (by omega)]
  simp
theorem lp_len (ps : List Pc) : (lp ps).length = ps.length := List.length_map ..
theorem lp_set (ps : List Pc) (j : Nat) (y : Pc) : (lp ps).set j (.dat y.d) = lp (ps.set j y) := (List.map_set ..).symm
theorem lp_erase (ps : List Pc) (j : Nat) : (lp ps).eraseIdx j = lp (ps.eraseIdx j) := erase_map _ ps j
theorem feed_lp {M : Mem} {f a : Addr} {n : Int} {ps : List Pc} (F : Feed M f n) (h : M a = some (.lst (lp ps))) : a ≠ f := by
  intro e
  subst e
  obtain ⟨cs, at_, left, h3, _⟩ := F
  rw [h] at h3
  cases ps with
  | nil => cases h3
  | cons p ps => cases h3
def pr_llbent : Pr := fun ss M q => ∃ (f a : Addr) (n : Int) (ps : List Pc), ss = [.own f, .own a] ∧ M a = some (.lst (lp ps)) ∧ ps ≠ [] ∧ (∀ p ∈ ps, 0 ≤ p.n ∧ p.n ≤ 99) ∧ ps.length ≤ 5000 ∧ Feed M f n ∧ n ≤ 2 ^ 37 ∧
  ∀ (p : Addr) (cs ds : List Pc) M', M p = none → M' p = some (.lst (lp ds)) → BentAll 4 ps cs → ds.Sublist cs → ds ≠ [] → Feed M' f (n + 40) → Keep f M M' → q (.own p) M'
section
variable {P : Program} {w : World} {K : PySem.W.Frag} {mg : Str → Option Value} {base : Heap}
end
end LW
namespace LW
open PySem PySem.Spec PyProof.Rows DL
open L2 hiding del del_ne del_same
instance : Inhabited Pc := ⟨⟨0, 0, 0, 0, 0, 0, 0, false⟩⟩
theorem lc_mapK {s : Sl} {xs : List Sl} {M1 : Mem} {Γ : Fm} {vs : List Nat} {j : Nat} {el : DE} {K : Addr → Mem → Prop} (f : Sl → Sl) (l : IsL M1 s xs) (hz : xs.length < 16777216)
    (he : ∀ x ∈ xs, ∀ (M' : Mem) (k' : DK), (∀ a o, M1 a = some o → M' a = some o) → k' (f x) M' → el ((wipeF Γ vs).set j (some x)) M' k') (hk : ∀ p, M1 p = none → K p (put M1 p (.lst (xs.map f)))) :
    ∃ xs, IsL M1 s xs ∧ ∀ p, M1 p = none → ∃ Inv : Nat → Mem → Prop, Inv 0 (put M1 p (.lst [])) ∧ (∀ i M', i ≤ xs.length → Inv i M' → IsL M' s xs) ∧
      (∀ i x M', xs[i]? = some x → Inv i M' → lcTurn p Γ vs j dYes el (Inv (i + 1)) x M') ∧ ∀ M', Inv xs.length M' → K p M' := by
  refine ⟨xs, l, fun p hp => ⟨fun i M' => M' = put M1 p (.lst ((xs.take i).map f)), rfl, fun i M' _ e => by rw [e]; exact l.put hp, fun i x M' hx e => ?_, fun M' e => by rw [e, List.take_length]; exact hk p hp⟩⟩
  subst e
  refine ⟨fun _ => he x (List.mem_of_getElem? hx) _ _ (fun a o h => (put_ne (ne_mem h hp)).trans h) ?_, fun z => nomatch z⟩
  have hi : i < xs.length := (List.getElem?_eq_some_iff.mp hx).1
  refine ⟨_, put_at, by rw [List.length_map, List.length_take]; omega, ?_⟩
  show put (put M1 p (.lst ((xs.take i).map f))) p (.lst ((xs.take i).map f ++ [f x])) = put M1 p (.lst ((xs.take (i + 1)).map f))
  rw [put_put, List.take_add_one, hx]
  simp
theorem shaped_lp (ps : List Pc) : SeqAt.shaped (.list (ps.map Pc.d)) = true := by
  have h1 : ∀ ps : List Pc, PyData.canLayAll0 (ps.map Pc.d) = true := by
    intro ps
    induction ps with
    | nil => rfl
    | cons p ps ih =>
      show (PyData.canLay0 p.d && PyData.canLayAll0 (ps.map Pc.d)) = true
      rw [ih] <;> rfl
  have h2 : ∀ ps : List Pc, PyData.depthAll (ps.map Pc.d) ≤ 2 := by
    intro ps
    induction ps with
    | nil => decide
    | cons p ps ih =>
      show max (PyData.depth p.d) (PyData.depthAll (ps.map Pc.d)) ≤ 2
      have e : PyData.depth p.d = 1 := rfl
      omega
  unfold SeqAt.shaped
  rw [Bool.and_eq_true]
  refine ⟨h1 ps, decide_eq_true ?_⟩
  have := h2 ps
  show PyData.depthAll (ps.map Pc.d) + 1 ≤ 64
  omega
theorem lp_dat (ps : List Pc) : lp ps = (ps.map Pc.d).map Sl.dat := by
  rw [List.map_map] <;> rfl
theorem eqv_lp_nil {ps : List Pc} : PyData.eqv (.list (ps.map Pc.d)) (.list []) = ps.isEmpty := by
  cases ps with
  | nil => rfl
  | cons p ps => rfl
theorem cut_to {α : Type} {xs : List α} {j : Nat} (h : j ≤ xs.length) : cut xs none (some (j : Int)) = xs.take j := by
  have e1 : HT.sIx xs.length 0 none = 0 := rfl
  have e2 : HT.sIx xs.length xs.length (some (j : Int)) = j := (HT.sIx_nat _ _ _).trans (Nat.min_eq_left h)
  unfold cut
  rw [e1, e2]
  rfl
theorem cut_from {α : Type} {xs : List α} {j : Nat} (h : j ≤ xs.length) : cut xs (some (j : Int)) none = xs.drop j := by
  have e1 : HT.sIx xs.length xs.length none = xs.length := rfl
  have e2 : HT.sIx xs.length 0 (some (j : Int)) = j := (HT.sIx_nat _ _ _).trans (Nat.min_eq_left h)
  unfold cut
  rw [e1, e2]
  exact List.take_of_length_le (by rw [List.length_drop]; omega)
def Same (ts ps : List Pc) : Prop := ∀ p, p ∈ ts ↔ p ∈ ps
def pr_lltold : Pr := fun ss M q => ∃ (f a : Addr) (n : Int) (ps : List Pc), ss = [.own f, .own a] ∧ M a = some (.lst (lp ps)) ∧ ps.length ≤ 1000 ∧ Feed M f n ∧ n ≤ 2 ^ 37 ∧
  ∀ (ts : List Pc) M', Same ts ps → ts.length ≤ ps.length + 4 → Feed M' f (n + 1100) → Keep f M M' → q (.dat (.list (ts.map Pc.d))) M'
section
variable {P : Program} {w : World} {K : PySem.W.Frag} {mg : Str → Option Value} {base : Heap}
theorem ok_lltold (T : Tx P K mg) : Holds P w K mg base 4 T.f_lltold T.fd_lltold ["feed", "pieces"] pr_lltold := by
  refine holds_of T.F_lltold sc_lltold (fun ss M q h => ?len) (fun cdv A outer s H hr => (xss_cons (xs_fz (i := 2) (xs_asgN (ps_setLc (i := 2) (own := [("at", 4)]) (g := gName 4) (tt := LB _) rfl sc_lltold.nd rfl rfl (sw_true rfl rfl rfl (by decide +kernel)) (pi_list (xe_call (ok_llorder T) (hr.mono (by decide)) T.g_llorder T.F_llorder.kp T.b_llorder (xa_cons (xv 0) (xa_cons (xe_callB sim_len (pe_callB call_lenA rfl T.m_len (by decide +kernel) (xa_cons (xv 1) xa_nil))) xa_nil)))) (blkOk_by (own := [("at", 4)]) (N := N_lltold) (sc := defScope s_lltold) (by decide +kernel)) (fun _ _ _ _ _ => pg_name (i := 4) sc_lltold.nd rfl (.inl rfl)) (fun _ _ _ _ _ => xts_nil) (fun _ _ _ _ _ => (xe_ix (xv 1) (xv 4)))) (sim_lcL simLE simLB simLE (by decide))))
      (xss_cons (xs_forR1 (ps_for PassesOwn.never rfl (pi_range1 rfl T.m_range (xa_cons (xe_call (ok_lldraw T) (hr.mono (by decide)) T.g_lldraw T.F_lldraw.kp T.b_lldraw (xa_cons (xv 0) (xa_cons xe_int xa_nil))) xa_nil)) (xg_name (pg_name (i := 3) sc_lltold.nd rfl (by first | exact .inl rfl | exact .inr rfl))) (xss_one (xs_if (xb_cmp sim_ne (pt_cmpR (op_neAll hr.rm.units) (xv 1) (xe_lstD xa_nil) (nomark _))) (xss_cons (xs_asgN (ps_set (i := 5) sc_lltold.nd rfl (by first | exact .inl rfl | exact .inr rfl) (xe_ix (xv 1) (xe_call (ok_lldraw T) (hr.mono (by decide)) T.g_lldraw T.F_lldraw.kp T.b_lldraw (xa_cons (xv 0) (xa_cons (xe_callB sim_len (pe_callB call_lenA rfl T.m_len (by decide +kernel) (xa_cons (xv 1) xa_nil))) xa_nil))))) simLE)
      (xss_cons (xs_asgN (ps_set (i := 4) sc_lltold.nd rfl (by first | exact .inl rfl | exact .inr rfl) (xe_call (ok_lldraw T) (hr.mono (by decide)) T.g_lldraw T.F_lldraw.kp T.b_lldraw (xa_cons (xv 0) (xa_cons (xe_addD (xe_callB sim_len (pe_callB call_lenA rfl T.m_len (by decide +kernel) (xa_cons (xv 2) xa_nil))) xe_int) xa_nil)))) simLE)
      (xss_one (xs_asgN (ps_set (i := 2) sc_lltold.nd rfl (by first | exact .inl rfl | exact .inr rfl) (xe_addD (xe_addD (xe_slD (xv 2) xo_none (xo_some (xv 4))) (xe_lstD (xa_cons (xv 5) xa_nil))) (xe_slD (xv 2) (xo_some (xv 4)) xo_none))) simLE)))) xss_nil))))
      (xss_one (xs_ret (xv 2)))))) (fun ss M q h => ?read)
  case len =>
    obtain ⟨f, a, n, ps, rfl, _⟩ := h
    rfl
  case read =>
    obtain ⟨f, a, n, ps, rfl, hs, hlen, F0, hn, k⟩ := h
    have naf := feed_lp F0 hs
    refine ⟨_, rfl, _, rfl, _, hs, f, ((lp ps).length : Int), _, rfl, by omega, by rw [lp_len]; omega, F0, by omega, fun pl ns M1 hpl hM1 hperm F1 K1 => ?_⟩
    rw [lp_len] at hperm
    have hs1 := K1.at naf hs
    have lns : ns.length = ps.length := by rw [hperm.length_eq, upto_len]; omega
    refine lc_mapK (fun x => match x with | .dat (.int j) => .dat (ps.getD j.toNat default).d | s => s) (IsL.own hM1) (by rw [List.length_map]; omega) (fun x hx M' k' hk hgo => ?_) fun p hp => ?_
    · obtain ⟨j, hj, rfl⟩ := List.mem_map.mp hx
      have hj2 := upto_mem (hperm.mem_iff.mp hj)
      obtain ⟨i, ei⟩ : ∃ i : Nat, j = (i : Int) := ⟨j.toNat, by omega⟩
      subst ei
      have hi : i < ps.length := by omega
      have e : ps.getD i default = ps[i] := by rw [List.getD_eq_getElem?_getD, List.getElem?_eq_getElem hi] <;> rfl
      refine ⟨_, rfl, _, rfl, lp ps, .dat (ps[i]).d, hk a _ hs1, atI_nat (by rw [List.getElem?_map, List.getElem?_eq_getElem hi] <;> rfl), ?_⟩
      rw [← e]
      exact hgo
    obtain ⟨ts, ets⟩ : ∃ ts : List Pc, ts = ns.map fun j => ps.getD j.toNat default := ⟨_, rfl⟩
    have same0 : Same ts ps := fun q => by
      rw [ets]
      constructor
      · intro h
        obtain ⟨j, hj, rfl⟩ := List.mem_map.mp h
        have hj2 := upto_mem (hperm.mem_iff.mp hj)
        have hi : j.toNat < ps.length := by omega
        rw [List.getD_eq_getElem?_getD, List.getElem?_eq_getElem hi]
        exact List.getElem_mem hi
      · intro h
        obtain ⟨i, hi, e⟩ := List.getElem_of_mem h
        refine List.mem_map.mpr ⟨(i : Int), hperm.mem_iff.mpr ?_, ?_⟩
        · unfold upto
          exact List.mem_map.mpr ⟨i, List.mem_range.mpr (by omega), rfl⟩
        · rw [Int.toNat_natCast, List.getD_eq_getElem?_getD, List.getElem?_eq_getElem hi]
          exact e
    have lts : ts.length = ps.length := by rw [ets, List.length_map, lns]
    refine ⟨_, ts.map Pc.d, rfl, ?_, ?_⟩
    · rw [put_at, ets, List.map_map, List.map_map, List.map_map]
      rfl
    rw [del_put hp]
    clear ets
    refine ⟨_, rfl, f, 5, _, rfl, by decide, by decide, F1, by omega, fun r1 M2 p1 q1 F2 o2 => ?_⟩
    refine ⟨0, r1, rfl, ⟨by decide, by decide, by omega, by omega⟩, fun i Γ' M' => ∃ (x3 x4 x5 : Option Sl) (ts : List Pc), Γ' = [some (.own f), some (.own a), some (.dat (.list (ts.map Pc.d))), x3, x4, x5] ∧ Same ts ps ∧ ts.length = ps.length + (if ps = [] then 0 else i) ∧ Feed M' f (n + 1001 + 2 * i) ∧ Keep f M M', ⟨_, _, _, ts, rfl, same0, by rw [lts]; split <;> rfl, F2.up (by omega), K1.trans (Keep.of o2)⟩, ?_, ?_⟩
    · rintro i Γ' M' hi ⟨x3, x4, x5, ts, rfl, same, lts, FF, KK⟩
      have hi5 : (i : Int) < 4 := by omega
      have hs' := KK.at naf hs
      refine ⟨_, rfl, rfl, _, rfl, _, _, .inr ⟨a, ps.map Pc.d, rfl, by rw [hs', lp_dat], rfl⟩, .inl rfl, shaped_lp ps, rfl, And.intro (fun hne => ?_) (fun heq => ?_)⟩
      · have hne' : ps ≠ [] := by
          intro e
          subst e
          exact absurd hne (by decide)
        have hpos : 0 < ps.length := List.length_pos_iff.mpr hne'
        rw [if_neg hne'] at lts
        refine ⟨_, rfl, _, rfl, _, rfl, _, hs', f, ((lp ps).length : Int), _, rfl, by rw [lp_len]; omega, by rw [lp_len]; omega, FF, by omega, fun r3 M3 p3 q3 F3 o3 => ?_⟩
        obtain ⟨sy, ey, u, hu, rfl⟩ := pick (P := fun s => ∃ q ∈ ps, s = Sl.dat (Pc.d q)) (fun s hs => by
          obtain ⟨z, hz, rfl⟩ := List.mem_map.mp hs
          exact ⟨z, hz, rfl⟩) p3 q3
        refine ⟨_, _, (o3 a naf).trans hs', ey, ?_⟩
        have elt : (ts.map Pc.d).length = ts.length := List.length_map ..
        refine ⟨_, rfl, _, rfl, f, ((ts.map Pc.d).length : Int) + 1, _, rfl, by omega, by rw [elt]; omega, F3, by omega, fun r4 M4 p4 q4 F4 o4 => ?_⟩
        rw [elt] at q4
        obtain ⟨j, ej⟩ : ∃ j : Nat, r4 = (j : Int) := ⟨r4.toNat, by omega⟩
        subst ej
        have hj : j ≤ ts.length := by omega
        have cutA : cut (ts.map Pc.d) none (some (j : Int)) = (ts.take j).map Pc.d := by
          rw [cut_to (by rw [elt]; exact hj), List.map_take]
        have cutB : cut (ts.map Pc.d) (some (j : Int)) none = (ts.drop j).map Pc.d := by
          rw [cut_from (by rw [elt]; exact hj), List.map_drop]
        refine ⟨_, rfl, _, rfl, _, IsL.dat, ?_⟩
        rw [cutA]
        refine ⟨_, rfl, rfl, _, rfl, _, _, IsL.dat, IsL.dat, ?_, ?_⟩
        · rw [List.length_map, List.length_take]
          show _ + 1 ≤ _
          omega
        refine ⟨_, rfl, _, rfl, _, IsL.dat, ?_⟩
        rw [cutB]
        refine ⟨_, _, IsL.dat, IsL.dat, ?_, ?_⟩
        · rw [List.length_append, List.length_map, List.length_map, List.length_take, List.length_drop]
          show _ + 1 + _ ≤ _
          omega
        refine ⟨some (.dat (.int (0 + (i : Int)))), some (.dat (.int (j : Int))), some (.dat u.d), ts.take j ++ [u] ++ ts.drop j, ?_, fun q => ?_, ?_, F4.up (by omega), (KK.trans (Keep.of o3)).trans (Keep.of o4)⟩
        · rw [List.map_append, List.map_append]
          rfl
        · rw [← same q]
          constructor
          · intro h
            rcases List.mem_append.mp h with z | z
            · rcases List.mem_append.mp z with z | z
              · exact List.mem_of_mem_take z
              · cases List.mem_singleton.mp z
                exact (same u).mpr hu
            · exact List.mem_of_mem_drop z
          · intro h
            rw [← List.take_append_drop j ts] at h
            rcases List.mem_append.mp h with z | z
            · exact List.mem_append_left _ (List.mem_append_left _ z)
            · exact List.mem_append_right _ z
        · rw [if_neg hne', List.length_append, List.length_append, List.length_take, List.length_drop]
          show _ + 1 + _ = _
          omega
      · have he : ps = [] := by
          cases ps with
          | nil => rfl
          | cons p ps => cases heq
        exact ⟨_, _, _, ts, rfl, same, by rw [if_pos he] at lts ⊢; exact lts, FF.up (by omega), KK⟩
    · rintro Γ' M' ⟨x3, x4, x5, ts, rfl, same, lts, FF, KK⟩
      exact ⟨_, rfl, k ts M' same (by split at lts <;> omega) (FF.up (by omega)) KK⟩
end
end LW
namespace LW
open PySem PySem.Spec PyProof.Rows DL
open L2 hiding del del_ne del_same
abbrev Pc.up (p : Pc) (x : Int) : Pc := ⟨p.r, p.n, p.a, p.h, x + p.c, p.b, p.e, p.j⟩
theorem intK_nil : IntK [] := fun h s e => by cases e
def pr_llmany : Pr := fun ss M q => ∃ (f : Addr) (n many : Int), ss = [.own f, .dat (.int many)] ∧ Feed M f n ∧ n ≤ 2 ^ 36 ∧ 1 ≤ many ∧ many ≤ 100 ∧
  ∀ (p : Addr) (ps : List Pc) kvs' B M', M p = none → M' p = some (.lst (lp (ps.map fun p => p.up 300))) → ps.length = many.toNat → 4 ≤ B → B ≤ 10 ^ 28 → Run 50 8 B [] kvs' ps → Feed M' f (n + 5000) → Keep f M M' → q (.own p) M'
/-- do they clash? -/
def clashB (z y : Pc) : Bool := !PyData.eqv z.d y.d && ((decide (z.r = y.r) && decide (z.n = y.n)) || (decide (z.h = y.h) && decide (z.c = y.c)))
theorem shaped_pc (z : Pc) : SeqAt.shaped z.d = true := rfl
def pr_is_clash : Pr := fun ss M q => ∃ z y : Pc, ss = [.dat z.d, .dat y.d] ∧ q (.dat (.bool (clashB z y))) M
section
variable {P : Program} {w : World} {K : PySem.W.Frag} {mg : Str → Option Value} {base : Heap}
theorem ok_is_clash (T : Tx P K mg) : Holds P w K mg base 1 T.f_is_clash T.fd_is_clash ["one", "other"] pr_is_clash := by
  refine holds_of T.F_is_clash sc_is_clash (fun ss M q h => ?len) (fun cdv A outer s H hr => (xss_cons (xs_if (xb_cmp sim_eq (pt_cmpR (op_eqAll hr.rm.units) (xv 0) (xv 1) (nomark _))) (xss_one (xs_ret xe_bl)) xss_nil)
      (xss_cons (xs_if (xb_w (xw_and (xb_cmp sim_eq (pt_cmpR (op_eqAll hr.rm.units) (xe_ix (xv 0) (xe_globI T.c_RUN)) (xe_ix (xv 1) (xe_globI T.c_RUN)) (nomark _))) (xw_and1 (xb_cmp sim_eq (pt_cmpR (op_eqAll hr.rm.units) (xe_ix (xv 0) (xe_globI T.c_NUMBER)) (xe_ix (xv 1) (xe_globI T.c_NUMBER)) (nomark _)))))) (xss_one (xs_ret xe_bl)) xss_nil)
      (xss_one (xs_ret (xe_and (xe_eq hr.rm.units (xe_ix (xv 0) (xe_globI T.c_HOUSE)) (xe_ix (xv 1) (xe_globI T.c_HOUSE))) (xe_one (xe_eq hr.rm.units (xe_ix (xv 0) (xe_globI T.c_COUNT)) (xe_ix (xv 1) (xe_globI T.c_COUNT)))))))))) (fun ss M q h => ?read)
  case len =>
    obtain ⟨z, y, rfl, _⟩ := h
    rfl
  case read =>
    obtain ⟨z, y, rfl, k⟩ := h
    refine ⟨_, rfl, _, rfl, _, _, .inl rfl, .inl rfl, shaped_pc z, shaped_pc y, And.intro (fun he => ?_) (fun he => ?_)⟩
    all_goals
      have he' : PyData.eqv z.d y.d = _ := he
      unfold clashB at k
      rw [he'] at k
    · exact k
    repeat' (first | refine ⟨_, rfl, ?_⟩ | refine And.intro (fun _ => ?_) (fun _ => ?_) | fail "")
    all_goals (refine (congrArg (fun z => q (.dat (.bool z)) M) ?_).mp k; simp_all)
end
end LW
namespace LW
open PySem PySem.Spec PyProof.Rows DL
open L2 hiding del del_ne del_same
theorem eqv_pc (z y : Pc) : PyData.eqv z.d y.d = (decide (z.r = y.r) && (decide (z.n = y.n) && (decide (z.a = y.a) && (decide (z.h = y.h) && (decide (z.c = y.c) && (decide (z.b = y.b) && (decide (z.e = y.e) && (z.j == y.j)))))))) := by
  simp [PyData.eqv, PyData.eqvAll, Pc.d, pc]
  try rfl
theorem clash_e {z y : Pc} (h1 : z.r = y.r) (h2 : z.n = y.n) (h3 : z.e ≠ y.e) : clashB z y = true := by
  unfold clashB
  rw [eqv_pc, decide_eq_true h1, decide_eq_true h2, decide_eq_false h3]
  simp
theorem clash_n {z y : Pc} (h1 : z.h = y.h) (h2 : z.c = y.c) (h3 : z.n ≠ y.n) : clashB z y = true := by
  unfold clashB
  rw [eqv_pc, decide_eq_true h1, decide_eq_true h2, decide_eq_false h3]
  simp
def Sz (k : Int) (p : Pc) : Prop := (-k ≤ p.r ∧ p.r ≤ k) ∧ (-k ≤ p.n ∧ p.n ≤ k) ∧ (-k ≤ p.a ∧ p.a ≤ k) ∧ (-k ≤ p.h ∧ p.h ≤ k) ∧ (-k ≤ p.c ∧ p.c ≤ k) ∧ (-k ≤ p.b ∧ p.b ≤ k) ∧ (-k ≤ p.e ∧ p.e ≤ k)
def pr_ll_clashing : Pr := fun ss M q => ∃ (f a : Addr) (n k : Int) (ps : List Pc), ss = [.own f, .own a] ∧ M a = some (.lst (lp ps)) ∧ ps ≠ [] ∧ (∀ p ∈ ps, 0 ≤ p.n ∧ p.n ≤ 99) ∧ 0 ≤ k ∧ (∀ p ∈ ps, Sz k p) ∧ ps.length ≤ 5000 ∧ Feed M f n ∧ n ≤ 2 ^ 38 ∧
  ∀ (y : Pc) M', (∃ z ∈ ps, clashB z y = true) → Sz (k + 1000) y → Feed M' f (n + 5) → (∀ x, x ≠ f → M' x = M x) → q (.dat y.d) M'
section
variable {P : Program} {w : World} {K : PySem.W.Frag} {mg : Str → Option Value} {base : Heap}
end
end LW
namespace LW
open PySem PySem.Spec PyProof.Rows DL
open L2 hiding del del_ne del_same
theorem clash_i {z y : Pc} (h : (z.r = y.r ∧ z.n = y.n) ∨ (z.h = y.h ∧ z.c = y.c)) (hne : ¬ (z.r = y.r ∧ z.n = y.n ∧ z.a = y.a ∧ z.h = y.h ∧ z.c = y.c ∧ z.b = y.b ∧ z.e = y.e ∧ z.j = y.j)) : clashB z y = true := by
  unfold clashB
  rw [eqv_pc]
  rw [Bool.and_eq_true]
  constructor
  · rw [Bool.not_eq_true', Bool.eq_false_iff]
    intro e
    simp at e
    exact hne e
  · simpa using h
def OneOff (k : Int) (z y : Pc) : Prop := clashB z y = true ∧ Sz (k + 1000) y
def pr_llone_place : Pr := fun ss M q => ∃ (f : Addr) (n k : Int) (z : Pc), ss = [.own f, .dat z.d] ∧ 0 ≤ k ∧ Sz k z ∧ (0 ≤ z.r ∧ z.r ≤ 99) ∧ (0 ≤ z.n ∧ z.n ≤ 99) ∧ (0 ≤ z.h ∧ z.h ≤ 7) ∧ 0 ≤ z.c ∧ Feed M f n ∧ n ≤ 2 ^ 38 ∧
  ∀ (y : Pc) M', OneOff k z y → Feed M' f (n + 1) → Keep f M M' → q (.dat y.d) M'
theorem lp_snoc (es : List Pc) (y : Pc) : lp es ++ [.dat y.d] = lp (es ++ [y]) := (List.map_append (f := fun p : Pc => Sl.dat p.d) (l₁ := es) (l₂ := [y])).symm
theorem all_snoc {P : Pc → Prop} {es : List Pc} {y : Pc} (h : ∀ x ∈ es, P x) (hy : P y) : ∀ x ∈ es ++ [y], P x := fun x hx => by
  rcases List.mem_append.mp hx with z | z
  · exact h x z
  · cases List.mem_singleton.mp z
    exact hy
theorem cut3 {ds : List Dt} {lo hi lo2 hi2 : Option Int} {x : List Dt} (h : ds.length = 8) (h2 : x.length ≤ 3) : (cut ds lo hi ++ x).length + (cut ds lo2 hi2).length ≤ 16777216 := by
  have c1 := cut_len ds lo hi
  have c2 := cut_len ds lo2 hi2
  rw [List.length_append]
  omega
theorem cut2 {ds : List Dt} {lo hi : Option Int} {x : List Dt} (h : ds.length = 8) (h2 : x.length ≤ 3) : (cut ds lo hi).length + x.length ≤ 16777216 := by
  have c1 := cut_len ds lo hi
  omega
theorem cut2' {ds : List Dt} {lo hi : Option Int} {x : List Dt} (h : ds.length = 8) (h2 : x.length ≤ 3) : x.length + (cut ds lo hi).length ≤ 16777216 := by
  have c1 := cut_len ds lo hi
  omega
section
variable {P : Program} {w : World} {K : PySem.W.Frag} {mg : Str → Option Value} {base : Heap}
end
end LW
namespace LW
open PySem PySem.Spec PyProof.Rows DL
open L2 hiding del del_ne del_same
def leP (p q : Pc) : Bool := PySem.W.dataLe false (fun d : Dt => d) p.d q.d
def sortP (ts : List Pc) : List Pc := ts.mergeSort leP
theorem sortP_d (ts : List Pc) : sortD (ts.map Pc.d) = (sortP ts).map Pc.d := by
  unfold sortD sortP
  exact (List.map_mergeSort (f := Pc.d) (l := ts) (r := leP) (s := PySem.W.dataLe false fun d => d) fun _ _ _ _ => rfl).symm
theorem alike_pc (p q : Pc) : PySem.W.alike p.d q.d = true := by
  simp [PySem.W.alike, PySem.W.alikeAll, Pc.d, pc]
theorem alike_lp (ts : List Pc) : PySem.W.AllAlike (ts.map Pc.d) := fun d hd d' hd' => by
  obtain ⟨p, _, rfl⟩ := List.mem_map.mp hd
  obtain ⟨q, _, rfl⟩ := List.mem_map.mp hd'
  exact alike_pc p q
theorem sortable_lp (ts : List Pc) : PySem.W.Sortable (ts.map Pc.d) := .inl fun d hd => by
  obtain ⟨p, _, rfl⟩ := List.mem_map.mp hd
  exact ⟨_, _, rfl⟩
theorem depth_lp (ts : List Pc) : ∀ d ∈ ts.map Pc.d, d.depth ≤ 60 := fun d hd => by
  obtain ⟨p, _, rfl⟩ := List.mem_map.mp hd
  exact (show (1 : Nat) ≤ 60 by decide)
/-- one after the other, but what is like the last one -/
def dedF (acc : List Pc) (p : Pc) : List Pc := match acc.getLast? with
  | none => acc ++ [p]
  | some q => if PyData.eqv q.d p.d = true then acc else acc ++ [p]
def clearP (ts : List Pc) : List Pc := (sortP ts).foldl dedF []
theorem dedF_len (acc : List Pc) (p : Pc) : (dedF acc p).length ≤ acc.length + 1 := by
  unfold dedF
  split
  · rw [List.length_append]; exact Nat.le_refl _
  · split
    · exact Nat.le_succ _
    · rw [List.length_append]; exact Nat.le_refl _
theorem foldD_len : ∀ (ps acc : List Pc), (ps.foldl dedF acc).length ≤ acc.length + ps.length
  | [], acc => Nat.le_refl _
  | p :: ps, acc => by
    have h1 := foldD_len ps (dedF acc p)
    have h2 := dedF_len acc p
    rw [List.foldl_cons, List.length_cons]
    omega
theorem atI_last {α : Type} {xs : List α} {x : α} (h : xs.getLast? = some x) : atI xs (-1) = some x := by
  cases xs with
  | nil => cases h
  | cons a l =>
    rw [List.getLast?_eq_getElem?] at h
    unfold atI ixN
    rw [if_neg (by decide), if_pos (by rw [List.length_cons]; omega)]
    show (a :: l)[_]? = some x
    have e : ((-1 : Int) + ((a :: l).length : Nat)).toNat = (a :: l).length - 1 := by omega
    rw [e]
    exact h
def pr_llclear : Pr := fun ss M q => ∃ (s : Sl) (ts : List Pc), ss = [s] ∧ IsL M s (lp ts) ∧ ts.length ≤ 100000 ∧ ∀ (p : Addr) M', M p = none → M' p = some (.lst (lp (clearP ts))) → (∀ x, x ≠ p → M' x = M x) → q (.own p) M'
section
variable {P : Program} {w : World} {K : PySem.W.Frag} {mg : Str → Option Value} {base : Heap}
end
end LW
namespace LW
open PySem PySem.Spec PyProof.Rows DL
open L2 hiding del del_ne del_same
/-- the first two that clash, in their order -/
def leastC : List Pc → Option (Pc × Pc)
  | [] => none
  | z :: ys => match ys.find? (clashB z) with
    | some y => some (z, y)
    | none => leastC ys
def resC : Option (Pc × Pc) → Dt
  | some (z, y) => .tuple [z.d, y.d]
  | none => .none
def pr_least_clash : Pr := fun ss M q => ∃ (a : Addr) (ps : List Pc), ss = [.own a] ∧ M a = some (.lst (lp ps)) ∧ q (.dat (resC (leastC ps))) M
theorem drop_at {α : Type} {xs : List α} {i : Nat} {x : α} (h : xs[i]? = some x) : xs.drop i = x :: xs.drop (i + 1) := by
  have hi : i < xs.length := (List.getElem?_eq_some_iff.mp h).1
  rw [List.drop_eq_getElem_cons hi]
  rw [List.getElem?_eq_getElem hi] at h
  cases h
  rfl
section
variable {P : Program} {w : World} {K : PySem.W.Frag} {mg : Str → Option Value} {base : Heap}
theorem ok_least_clash (T : Tx P K mg) : Holds P w K mg base 2 T.f_least_clash T.fd_least_clash ["pieces"] pr_least_clash := by
  refine holds_of T.F_least_clash sc_least_clash (fun ss M q h => ?len) (fun cdv A outer s H hr => (xss_cons (xs_forE (ps_for PassesOwn.never rfl (pi_enum rfl T.m_enumerate (xa_cons (xv 0) xa_nil)) (xg_tup (pg_tup (n := 2) rfl (xgs_cons (pgs_cons (xg_name (pg_name (i := 1) sc_least_clash.nd rfl (by first | exact .inl rfl | exact .inr rfl))) (xgs_cons (pgs_cons (xg_name (pg_name (i := 2) sc_least_clash.nd rfl (by first | exact .inl rfl | exact .inr rfl))) xgs_nil)))))) (xss_one (xs_forL (ps_for PassesOwn.never rfl (pi_list (xe_slD (xv 0) (xo_some (xe_addD (xv 1) xe_int)) xo_none)) (xg_name (pg_name (i := 3) sc_least_clash.nd rfl (by first | exact .inl rfl | exact .inr rfl))) (xss_one (xs_if (xb_val (xe_call (ok_is_clash T) (hr.mono (by decide)) T.g_is_clash T.F_is_clash.kp T.b_is_clash (xa_cons (xv 2) (xa_cons (xv 3) xa_nil)))) (xss_one (xs_ret (xe_tup (xa_cons (xv 2) (xa_cons (xv 3) xa_nil))))) xss_nil)))))))
      (xss_one (xs_ret xe_non)))) (fun ss M q h => ?read)
  case len =>
    obtain ⟨a, ps, rfl, _⟩ := h
    rfl
  case read =>
    obtain ⟨a, ps, rfl, hM, k⟩ := h
    have hM' : IsL M (.own a) ((ps.map Pc.d).map .dat) := IsL.own (by rw [hM, lp_dat])
    refine ⟨_, rfl, ps.map Pc.d, .own a, rfl, hM', fun i Γ' M' => ∃ x1 x2 x3 : Option Sl, Γ' = [some (.own a), x1, x2, x3] ∧ M' = M ∧ leastC ps = leastC (ps.drop i), ⟨_, _, _, rfl, rfl, rfl⟩, ?_, ?_, ?_⟩
    · rintro i Γ' M' _ ⟨_, _, _, _, rfl, _⟩
      exact hM'
    · rintro i d Γ' M' hd ⟨x1, x2, x3, rfl, eM, hc⟩
      have eM' := eM.symm
      subst eM'
      obtain ⟨z, hz, rfl⟩ : ∃ z, ps[i]? = some z ∧ d = z.d := by
        rw [List.getElem?_map] at hd
        cases e : ps[i]? with
        | none =>
          rw [e] at hd
          cases hd
        | some z =>
          rw [e] at hd
          cases hd
          exact ⟨z, rfl, rfl⟩
      have hi : i < ps.length := (List.getElem?_eq_some_iff.mp hz).1
      have ec : cut (ps.map Pc.d) (some ((i : Int) + 1)) none = (ps.drop (i + 1)).map Pc.d := by
        have := cut_from (xs := ps.map Pc.d) (j := i + 1) (by rw [List.length_map]; omega)
        rw [List.map_drop]
        exact this
      have hdr := drop_at hz
      refine ⟨rfl, ?_⟩
      refine ⟨_, rfl, _, rfl, _, hM', ?_⟩
      rw [ec]
      refine ⟨_, IsL.dat, fun j Γ' M' => ∃ x3 : Option Sl, Γ' = [some (.own a), some (.dat (.int (i : Int))), some (.dat z.d), x3] ∧ M' = M ∧ (ps.drop (i + 1)).find? (clashB z) = ((ps.drop (i + 1)).drop j).find? (clashB z), ⟨_, rfl, eM, rfl⟩, fun _ _ _ _ _ => IsL.dat, ?_, ?_⟩
      · rintro j x Γ' M2 hx ⟨x3, rfl, eM2, hf⟩
        obtain ⟨y, hy, rfl⟩ := lp_mem (ps := ps.drop (i + 1)) (i := j) (by rw [lp_dat]; exact hx)
        have hdy := drop_at hy
        refine ⟨_, rfl, _, rfl, z, y, rfl, And.intro (fun hcl => ?_) (fun hcl => ?_)⟩
        · refine ⟨_, rfl, _, rfl, rfl, _, rfl, ?_⟩
          have hfy : (ps.drop (i + 1)).find? (clashB z) = some y := by rw [hf, hdy, List.find?_cons, hcl]
          have hl : leastC ps = some (z, y) := by
            rw [hc, hdr]
            show (match (ps.drop (i + 1)).find? (clashB z) with | some y => some (z, y) | none => leastC (ps.drop (i + 1))) = _
            rw [hfy]
          rw [hl] at k
          have eM3 := eM2.trans eM
          subst eM3
          exact k
        · refine ⟨_, rfl, eM2, ?_⟩
          rw [hf, hdy, List.find?_cons, hcl]
      · rintro Γ' M2 ⟨x3, rfl, eM2, hf⟩
        have el : (List.map Sl.dat (List.map Pc.d (ps.drop (i + 1)))).length = (ps.drop (i + 1)).length := by rw [List.length_map, List.length_map]
        rw [el, List.drop_length] at hf
        refine ⟨_, _, _, rfl, eM2, ?_⟩
        rw [hc, hdr]
        show (match (ps.drop (i + 1)).find? (clashB z) with | some y => some (z, y) | none => leastC (ps.drop (i + 1))) = _
        rw [hf]
        rfl
    · rintro Γ' M' ⟨x1, x2, x3, rfl, eM, hc⟩
      rw [List.length_map, List.drop_length] at hc
      rw [hc] at k
      subst eM
      exact k
end
end LW
namespace LW
open PySem PySem.Spec PyProof.Rows DL
open L2 hiding del del_ne del_same
theorem leP_total (p q : Pc) : (leP p q || leP q p) = true := by
  rw [Bool.or_eq_true]
  exact (PySem.W.sortLe_total (PyProof.Rows.listOrd PyProof.Rows.itemOrd) false fun z : Pc => PySem.W.keyToks z.d).total p q
theorem leP_trans {p q r : Pc} (h : leP p q = true) (h' : leP q r = true) : leP p r = true := (PySem.W.sortLe_total (PyProof.Rows.listOrd PyProof.Rows.itemOrd) false fun z : Pc => PySem.W.keyToks z.d).trans p q r h h'
theorem toks_pc {p q : Pc} (h : PySem.W.keyToks p.d = PySem.W.keyToks q.d) : p = q := by
  simp [PySem.W.keyToks, PySem.W.keyToksAll, Pc.d, pc] at h
  obtain ⟨h1, h2, h3, h4, h5, h6, h7, h8⟩ := h
  have h9 : p.j = q.j := by
    cases hp : p.j <;> cases hq : q.j <;> simp_all
  cases p
  cases q
  simp_all
theorem leP_anti {p q : Pc} (h : leP p q = true) (h' : leP q p = true) : p = q := by
  have e1 : PyProof.Rows.lexLt PyProof.Rows.itemOrd (PySem.W.keyToks q.d) (PySem.W.keyToks p.d) = false := by
    have : (!PyProof.Rows.lexLt PyProof.Rows.itemOrd (PySem.W.keyToks q.d) (PySem.W.keyToks p.d)) = true := h
    simpa using this
  have e2 : PyProof.Rows.lexLt PyProof.Rows.itemOrd (PySem.W.keyToks p.d) (PySem.W.keyToks q.d) = false := by
    have : (!PyProof.Rows.lexLt PyProof.Rows.itemOrd (PySem.W.keyToks p.d) (PySem.W.keyToks q.d)) = true := h'
    simpa using this
  exact toks_pc ((PyProof.Rows.listOrd PyProof.Rows.itemOrd).total _ _ e2 e1)
theorem sortP_pw (ts : List Pc) : (sortP ts).Pairwise fun p q => leP p q = true := List.pairwise_mergeSort (le := leP) (fun _ _ _ => leP_trans) leP_total ts
theorem sortP_mem {ts : List Pc} {x : Pc} : x ∈ sortP ts ↔ x ∈ ts := List.mem_mergeSort
theorem eqv_is {p q : Pc} : PyData.eqv p.d q.d = true ↔ p = q := by
  rw [eqv_pc]
  cases p
  cases q
  simp
theorem fold_spec : ∀ (ps acc : List Pc), (acc ++ ps).Pairwise (fun p q => leP p q = true) → acc.Nodup →
    (ps.foldl dedF acc).Pairwise (fun p q => leP p q = true) ∧ (ps.foldl dedF acc).Nodup ∧ ∀ x, x ∈ ps.foldl dedF acc ↔ x ∈ acc ∨ x ∈ ps
  | [], acc, h1, h2 => ⟨by rw [List.append_nil] at h1; exact h1, h2, fun x => by simp⟩
  | p :: ps, acc, h1, h2 => by
    rw [List.foldl_cons]
    have step : ∃ acc', dedF acc p = acc' ∧ (acc' ++ ps).Pairwise (fun p q => leP p q = true) ∧ acc'.Nodup ∧ ∀ x, x ∈ acc' ↔ x ∈ acc ∨ x = p := by
      refine ⟨_, rfl, ?_⟩
      have hsnoc : (acc ++ [p] ++ ps).Pairwise (fun p q => leP p q = true) := by rw [List.append_assoc]; exact h1
      have hmem : ∀ x, x ∈ acc ++ [p] ↔ x ∈ acc ∨ x = p := fun x => by simp
      have hp : ∀ x ∈ acc, leP x p = true := fun x hx => (List.pairwise_append.mp h1).2.2 x hx p List.mem_cons_self
      unfold dedF
      cases hl : acc.getLast? with
      | none =>
        have e := List.getLast?_eq_none_iff.mp hl
        subst e
        exact ⟨h1, List.nodup_cons.mpr ⟨fun z => (nomatch z), List.nodup_nil⟩, hmem⟩
      | some q =>
        have hq : q ∈ acc := List.mem_of_getLast? hl
        dsimp only
        by_cases e : PyData.eqv q.d p.d = true
        · rw [if_pos e]
          have e' := eqv_is.mp e
          subst e'
          refine ⟨h1.sublist (List.Sublist.append_left (List.sublist_cons_self _ _) _), h2, fun x => ⟨.inl, fun z => z.elim id fun z => by rw [z]; exact hq⟩⟩
        · rw [if_neg e]
          refine ⟨hsnoc, ?_, hmem⟩
          refine List.nodup_append.mpr ⟨h2, List.nodup_cons.mpr ⟨fun z => (nomatch z), List.nodup_nil⟩, fun a ha b hb => ?_⟩
          rw [List.mem_singleton] at hb
          subst hb
          intro eab
          subst eab
          have hle : leP a q = true := by
            obtain ⟨ys, rfl⟩ := List.getLast?_eq_some_iff.mp hl
            rcases List.mem_append.mp ha with z | z
            · exact (List.pairwise_append.mp (List.pairwise_append.mp h1).1).2.2 a z q List.mem_cons_self
            · rw [List.mem_singleton] at z
              rw [z]
              have := leP_total q q
              simpa using this
          exact e (eqv_is.mpr (leP_anti hle (hp q hq)).symm)
    obtain ⟨acc', e, a1, a2, a3⟩ := step
    rw [e]
    obtain ⟨b1, b2, b3⟩ := fold_spec ps acc' a1 a2
    refine ⟨b1, b2, fun x => ?_⟩
    rw [b3, a3, List.mem_cons, or_assoc]
theorem clear_pw (ts : List Pc) : (clearP ts).Pairwise fun p q => leP p q = true := (fold_spec (sortP ts) [] (sortP_pw ts) List.nodup_nil).1
theorem clear_nd (ts : List Pc) : (clearP ts).Nodup := (fold_spec (sortP ts) [] (sortP_pw ts) List.nodup_nil).2.1
theorem clear_mem (ts : List Pc) (x : Pc) : x ∈ clearP ts ↔ x ∈ ts := by
  have := (fold_spec (sortP ts) [] (sortP_pw ts) List.nodup_nil).2.2 x
  unfold clearP
  rw [this]
  simp [sortP_mem]
theorem rise_uni {us vs : List Pc} (h1 : us.Pairwise fun p q => leP p q = true) (h2 : vs.Pairwise fun p q => leP p q = true) (n1 : us.Nodup) (n2 : vs.Nodup) (hm : ∀ x, x ∈ us ↔ x ∈ vs) : us = vs :=
  List.Perm.eq_of_pairwise (fun _ _ _ _ a b => leP_anti a b) h1 h2 ((List.perm_ext_iff_of_nodup n1 n2).mpr hm)
theorem clear_uni {us ts : List Pc} (hn : us.Nodup) (hm : ∀ x, x ∈ us ↔ x ∈ ts) : sortP us = clearP ts :=
  rise_uni (sortP_pw us) (clear_pw ts) ((List.mergeSort_perm us _).nodup_iff.mpr hn) (clear_nd ts) fun x => by rw [sortP_mem, hm, clear_mem]
theorem clear_same {us ts : List Pc} (hm : ∀ x, x ∈ us ↔ x ∈ ts) : clearP us = clearP ts :=
  rise_uni (clear_pw us) (clear_pw ts) (clear_nd us) (clear_nd ts) fun x => by rw [clear_mem, hm, clear_mem]
theorem sort_clear (ts : List Pc) : sortP (clearP ts) = clearP ts := clear_uni (clear_nd ts) (clear_mem ts)
theorem flat_pc (p : Pc) : DS.FlatT p.d := ⟨_, rfl, fun x hx => by
  simp [pc] at hx
  rcases hx with rfl | rfl | rfl | rfl | rfl | rfl | rfl | rfl <;> rfl⟩
theorem key_pc {p q : Pc} (h : DS.keyD p.d = DS.keyD q.d) : p = q := by
  simp [DS.keyD, Pc.d, pc, DS.lf] at h
  obtain ⟨h1, h2, h3, h4, h5, h6, h7, h8⟩ := h
  have h9 : p.j = q.j := by
    cases hp : p.j <;> cases hq : q.j <;> simp_all
  cases p
  cases q
  simp_all
/-- what sorted(set(..)) of pieces wants, and gives -/
theorem fSS_pc {s : Sl} {ts : List Pc} {M : Mem} {k : DK} (l : IsL M s (lp ts)) (hD : ∃ D : List Pc, D.length < 64 ∧ ∀ t ∈ ts, t ∈ D) (h : ∀ p, M p = none → k (.own p) (put M p (.lst (lp (clearP ts))))) : DS.fSS [s] M k := by
  obtain ⟨D, hD1, hD2⟩ := hD
  refine ⟨ts.map Pc.d, D.map Pc.d, by rw [← lp_dat]; exact l, by rw [List.length_map]; exact hD1, fun d hd => ?_, fun d hd => ?_, alike_lp ts, sortable_lp ts, fun d hd d' hd' e => ?_, fun us p hn hm hp => ?_⟩
  · obtain ⟨t, ht, rfl⟩ := List.mem_map.mp hd
    exact List.mem_map.mpr ⟨t, hD2 t ht, rfl⟩
  · obtain ⟨t, ht, rfl⟩ := List.mem_map.mp hd
    exact flat_pc t
  · obtain ⟨t, ht, rfl⟩ := List.mem_map.mp hd
    obtain ⟨t', ht', rfl⟩ := List.mem_map.mp hd'
    rw [key_pc e]
  · have pick : ∀ us : List Dt, (∀ d ∈ us, d ∈ ts.map Pc.d) → ∃ vs : List Pc, us = vs.map Pc.d := by
      intro us
      induction us with
      | nil => exact fun _ => ⟨[], rfl⟩
      | cons d us ih =>
        intro hu
        obtain ⟨vs, e⟩ := ih fun z hz => hu z (List.mem_cons_of_mem _ hz)
        obtain ⟨t, _, e2⟩ := List.mem_map.mp (hu d List.mem_cons_self)
        exact ⟨t :: vs, by rw [List.map_cons, e2, e]⟩
    obtain ⟨vs, rfl⟩ := pick us fun d hd => (hm d).mp hd
    have inj : ∀ {x : Pc} {l : List Pc}, x.d ∈ l.map Pc.d ↔ x ∈ l := fun {x l} => ⟨fun h => by
      obtain ⟨t, ht, e⟩ := List.mem_map.mp h
      rw [← key_pc (congrArg DS.keyD e)]
      exact ht, fun h => List.mem_map.mpr ⟨x, h, rfl⟩⟩
    have e : sortP vs = clearP ts := clear_uni (DS.nodup_map hn) fun x => inj.symm.trans ((hm x.d).trans inj)
    rw [sortP_d, e, ← lp_dat]
    exact h p hp
def pr_cleared (C : Addr) : PrX := fun ss M q kx => ∃ (s : Sl) (ts : List Pc), ss = [s] ∧ IsL M s (lp ts) ∧ (∃ D : List Pc, D.length < 64 ∧ ∀ t ∈ ts, t ∈ D) ∧
  (leastC (clearP ts) = none → ∀ p M', M p = none → M' p = some (.lst (lp (clearP ts))) → (∀ x, x ≠ p → M' x = M x) → q (.own p) M') ∧
  (∀ z y, leastC (clearP ts) = some (z, y) → ∀ M', (∀ x, M x ≠ none → M' x = M x) → kx C [("pair", .tuple [z.d, y.d])] M')
section
variable {P : Program} {w : World} {K : PySem.W.Frag} {mg : Str → Option Value} {base : Heap}
theorem ok_cleared (T : Tx P K mg) : HoldsX P w K mg base 3 T.f_cleared T.fd_cleared ["heap"] (pr_cleared T.C_Clash) := by
  refine holdsX_of T.F_cleared sc_cleared (by decide) (fun ss M q kx h => ?len) (fun cdv A outer s H E H0 kx hr wi => (xss_cons (xs_asgN (ps_set (i := 1) sc_cleared.nd rfl (by first | exact .inl rfl | exact .inr rfl) (DS.xe_two DS.sim_ss (pe_callB (DS.cr_sortSet rfl hr.rm.units) rfl T.m_sorted (by decide +kernel) (pa_cons (pe_callTy (DS.cr_setOf rfl hr.rm.units) rfl T.m_set (by decide +kernel) (xa_cons (xv 0) xa_nil)) pa_nil)))) simLE)
      (xss_cons (xs_asgN (ps_set (i := 2) sc_cleared.nd rfl (by first | exact .inl rfl | exact .inr rfl) (xe_call (ok_least_clash T) (hr.mono (by decide)) T.g_least_clash T.F_least_clash.kp T.b_least_clash (xa_cons (xv 1) xa_nil))) simLE)
      (xss_cons (xs_if (xb_cmp sim_isnot (pt_cmpR (L2.OpR.or op_notBl op_notN) (xv 2) xe_non (nomark _))) (xss_one (xs_raiF (i := 3) wi T.S_Clash (hr.mono (by decide)) T.gC_Clash (xv 2))) xss_nil)
      (xss_one (xs_ret (xv 1))))))) (fun ss M q kx H0 h => ?read)
  case len =>
    obtain ⟨s, ts, rfl, _⟩ := h
    rfl
  case read =>
    obtain ⟨s, ts, rfl, l, hD, k1, k2⟩ := h
    refine ⟨s, rfl, ?_⟩
    dsimp only [dNil]
    refine fSS_pc l hD fun p hp => ?_
    refine ⟨_, rfl, p, clearP ts, rfl, put_at, ?_⟩
    cases hc : leastC (clearP ts) with
    | none =>
      refine ⟨_, rfl, And.intro (fun z => nomatch z) (fun _ => ?_)⟩
      exact ⟨_, rfl, k1 hc p _ hp put_at fun x hx => put_ne hx⟩
    | some zy =>
      obtain ⟨z, y⟩ := zy
      refine ⟨_, rfl, And.intro (fun _ => ?_) (fun z => nomatch z)⟩
      exact ⟨⟨rfl, trivial⟩, _, rfl, _, rfl, _, fun _ _ e => e, k2 z y hc _ fun x hx => put_ne fun z => hx (z ▸ hp)⟩
end
end LW
namespace LW
open PySem PySem.Spec PyProof.Rows DL
open L2 hiding del del_ne del_same
def kindWords : List Str := ["piece", "many", "run", "wood", "house", "shifts", "right", "more", "one", "gap", "dealing", "place", "whole", "back", "row", "clash", "text"]
/-- what isinstance says of s and the classes cs-/
def Ask (K : PySem.W.Frag) (cs : List Addr) (s : Sl) (f : Nat → Bool) : Prop := ∀ (j : Nat) (c : Addr), cs[j]? = some c → ∀ (M : Mem) (k : DK), k (.dat (.bool (f j))) M → fIsiX K [s, .raw (.ref c)] M k
theorem ask_exc {K : PySem.W.Frag} {B : Addr} {cs : List Addr} (Z : Kinds K B cs) {i : Nat} {c : Addr} (hc : cs[i]? = some c) (fs : List (Str × Dt)) : Ask K cs (.exc c fs) fun j => decide (i = j) := fun j d hd M k h =>
  ⟨Z.er c (List.mem_of_getElem? hc), _, Z.ee i j c d hc hd, h⟩
theorem ask_non {K : PySem.W.Frag} {B : Addr} {cs : List Addr} (Z : Kinds K B cs) : Ask K cs (.dat .none) fun _ => false := fun j d hd M k h => ⟨_, Z.no d (List.mem_of_getElem? hd), h⟩
def kindsL (f : Nat → Bool) (n : Nat) : List Dt := (List.range n).map fun j => .bool (f j)
def pr_llkind (K : PySem.W.Frag) (cs : List Addr) : Pr := fun ss M q => ∃ (s : Sl) (f : Nat → Bool) (wd : Str), ss = [s] ∧ Ask K cs s f ∧
  ((∃ i, i < 17 ∧ f = (fun j => decide (i = j)) ∧ (∀ (M : Mem) (k : DK), k (.dat (.bool true)) M → fIsiX K [s, .raw (.ty "ValueError")] M k) ∧ kindWords[i]? = some wd) ∨ (f = (fun _ => false) ∧ wd = "odd")) ∧
  ∀ M', MoreM M M' → q (.dat (.str wd)) M'
theorem isi_go {K : PySem.W.Frag} {i : Nat} {v : V} {Γ : Fm} {M : Mem} {k : DK} {s : Sl} (h1 : Γ[i]? = some (some s)) (h2 : fIsiX K [s, .raw v] M k) : dCB (fIsiX K) (dCons (dV i) (dCons (dR v) dNil)) Γ M k := ⟨s, h1, h2⟩
def bT : V := .bl true
theorem cnt_kinds : ∀ i : Fin 17, (kindsL (fun j => decide (i.1 = j)) 17).countP (fun e => eqV (vOf e) bT) = 1 := by decide +kernel
theorem ix_kinds : ∀ i : Fin 17, ∀ m : Fin 17, (m.1 < i.1 → eqV (vOf (.bool (decide (i.1 = m.1)))) bT = false) := by decide +kernel
theorem kindsL_at (f : Nat → Bool) {n j : Nat} (h : j < n) : (kindsL f n)[j]? = some (.bool (f j)) := by
  unfold kindsL
  rw [List.getElem?_map, List.getElem?_range h] <;> rfl
theorem kindsL_flat (f : Nat → Bool) (n : Nat) : (kindsL f n).all flatD = true := by
  unfold kindsL
  rw [List.all_map, List.all_eq_true]
  exact fun _ _ => rfl
theorem kindsL_more (f : Nat → Bool) (n : Nat) : (kindsL f n).map Sl.dat ++ [.dat (.bool (f n)), .dat (.bool (f (n + 1)))] = (kindsL f (n + 2)).map Sl.dat := by
  unfold kindsL
  rw [List.range_succ, List.range_succ]
  simp
abbrev ltP (p q : Pc) : Bool := PySem.W.dataLt p.d q.d
theorem leP_lt {p q : Pc} : leP p q = !ltP q p := rfl
instance decPc : DecidableEq Pc := fun p q => decidable_of_iff (p.r = q.r ∧ p.n = q.n ∧ p.a = q.a ∧ p.h = q.h ∧ p.c = q.c ∧ p.b = q.b ∧ p.e = q.e ∧ p.j = q.j) ⟨fun h => by
  obtain ⟨h1, h2, h3, h4, h5, h6, h7, h8⟩ := h
  cases p
  cases q
  dsimp only at *
  subst h1 h2 h3 h4 h5 h6 h7 h8
  rfl, fun h => by
  subst h
  exact ⟨rfl, rfl, rfl, rfl, rfl, rfl, rfl, rfl⟩⟩
theorem dLt_irr (x : Dt) : PySem.W.dataLt x x = false := (PyProof.Rows.listOrd PyProof.Rows.itemOrd).irrefl (PySem.W.keyToks x)
theorem dLt_tr {x y z : Dt} : PySem.W.dataLt x y = true → PySem.W.dataLt y z = true → PySem.W.dataLt x z = true := (PyProof.Rows.listOrd PyProof.Rows.itemOrd).trans (PySem.W.keyToks x) (PySem.W.keyToks y) (PySem.W.keyToks z)
theorem dLt_nt {x y z : Dt} : PySem.W.dataLt x z = true → PySem.W.dataLt x y = true ∨ PySem.W.dataLt y z = true := (PyProof.Rows.listOrd PyProof.Rows.itemOrd).negTrans (PySem.W.keyToks x) (PySem.W.keyToks y) (PySem.W.keyToks z)
theorem ltP_irr (p : Pc) : ltP p p = false := dLt_irr _
theorem ltP_trans {p q r : Pc} (h : ltP p q = true) (h' : ltP q r = true) : ltP p r = true := dLt_tr h h'
theorem ltP_asym {p q : Pc} (h : ltP p q = true) : ltP q p = false := by
  cases e : ltP q p with
  | false => rfl
  | true => exact absurd (ltP_trans h e) (by rw [ltP_irr]; exact Bool.false_ne_true)
theorem ltP_ne {p q : Pc} (h : ltP p q = true) : p ≠ q := fun e => by
  subst e
  rw [ltP_irr] at h
  cases h
theorem ltP_of {p q : Pc} (h : leP p q = true) (n : p ≠ q) : ltP p q = true := by
  cases e : ltP p q with
  | true => rfl
  | false => exact absurd (leP_anti h (by rw [leP_lt, e]; rfl)) n
def cl2 (z y : Pc) : Bool := (decide (z.r = y.r) && decide (z.n = y.n)) || (decide (z.h = y.h) && decide (z.c = y.c))
theorem clash_cl {z y : Pc} (h : z ≠ y) : clashB z y = cl2 z y := by
  unfold clashB cl2
  cases e : PyData.eqv z.d y.d with
  | true => exact absurd (eqv_is.mp e) h
  | false => rfl
/-- two pieces, as a tuple -/
abbrev pd (m : Pc × Pc) : Dt := .tuple [m.1.d, m.2.d]
abbrev ltQ (m k : Pc × Pc) : Bool := PySem.W.dataLt (pd m) (pd k)
theorem eqv_if {p q : Pc} : PyData.eqv p.d q.d = decide (p = q) := by
  by_cases h : p = q
  · rw [eqv_is.mpr h, decide_eq_true h]
  · rw [decide_eq_false h]
    cases e : PyData.eqv p.d q.d with
    | true => exact absurd (eqv_is.mp e) h
    | false => rfl
theorem ltQ_eq (m k : Pc × Pc) : ltQ m k = if m.1 = k.1 then ltP m.2 k.2 else ltP m.1 k.1 := by
  show PySem.W.dataLt (.tuple [m.1.d, m.2.d]) (.tuple [k.1.d, k.2.d]) = _
  rw [PySem.W.dataLt_pair (alike_pc _ _) (alike_pc _ _), eqv_if, eqv_if]
  by_cases h1 : m.1 = k.1 <;> by_cases h2 : m.2 = k.2 <;> simp [h1, h2]
  exact ltP_irr _
theorem ltQ_anti {m k : Pc × Pc} (h : ltQ m k = false) (h' : ltQ k m = false) : m = k := by
  rw [ltQ_eq] at h h'
  by_cases e : m.1 = k.1
  · rw [if_pos e] at h
    rw [if_pos e.symm] at h'
    have z : m.2 = k.2 := leP_anti (by rw [leP_lt, h']; rfl) (by rw [leP_lt, h]; rfl)
    exact Prod.ext e z
  · rw [if_neg e] at h
    rw [if_neg fun z => e z.symm] at h'
    exact absurd (leP_anti (by rw [leP_lt, h']; rfl) (by rw [leP_lt, h]; rfl)) e
theorem find_first {α : Type} {r : α → α → Prop} {f : α → Bool} : ∀ {l : List α} {y : α}, l.Pairwise r → l.find? f = some y → ∀ x ∈ l, f x = true → x = y ∨ r y x
  | a :: l, y, hp, hf, x, hx, hfx => by
    rw [List.find?_cons] at hf
    have hp' := List.pairwise_cons.mp hp
    by_cases e : f a = true
    · rw [e] at hf
      cases hf
      rcases List.mem_cons.mp hx with z | z
      · exact .inl z
      · exact .inr (hp'.1 x z)
    · have e' : f a = false := by cases q : f a with
        | true => exact absurd q e
        | false => rfl
      rw [e'] at hf
      rcases List.mem_cons.mp hx with z | z
      · subst z
        exact absurd hfx e
      · exact find_first hp'.2 hf x z hfx
/-- all the pairs that clash, the one less than the other -/
def Bad (ps : List Pc) (m : Pc × Pc) : Prop := m.1 ∈ ps ∧ m.2 ∈ ps ∧ ltP m.1 m.2 = true ∧ cl2 m.1 m.2 = true
theorem least_spec : ∀ (ps : List Pc), ps.Pairwise (fun p q => leP p q = true) → ps.Nodup → (leastC ps = none → ∀ m, ¬ Bad ps m) ∧ (∀ m, leastC ps = some m → Bad ps m ∧ ∀ k, Bad ps k → ltQ k m = false)
  | [], _, _ => ⟨fun _ m h => (nomatch h.1), fun m h => nomatch h⟩
  | a :: l, hp, hn => by
    have hp' := List.pairwise_cons.mp hp
    have hn' := List.nodup_cons.mp hn
    have up : ∀ x ∈ l, ltP a x = true := fun x hx => ltP_of (hp'.1 x hx) fun e => hn'.1 (e ▸ hx)
    obtain ⟨i1, i2⟩ := least_spec l hp'.2 hn'.2
    have inl : ∀ m, Bad (a :: l) m → m.1 ≠ a → Bad l m := fun m h hne => by
      have h1 : m.1 ∈ l := (List.mem_cons.mp h.1).resolve_left hne
      refine ⟨h1, (List.mem_cons.mp h.2.1).resolve_left fun e => ?_, h.2.2⟩
      have := h.2.2.1
      rw [e] at this
      rw [ltP_asym (up _ h1)] at this
      cases this
    have ina : ∀ m, Bad (a :: l) m → m.1 = a → m.2 ∈ l ∧ clashB a m.2 = true := fun m h e => by
      have h3 := h.2.2.1
      rw [e] at h3
      have h2 : m.2 ∈ l := (List.mem_cons.mp h.2.1).resolve_left fun z => ltP_ne h3 z.symm
      have h4 := h.2.2.2
      rw [e] at h4
      exact ⟨h2, by rw [clash_cl (ltP_ne h3)]; exact h4⟩
    have eq : leastC (a :: l) = match l.find? (clashB a) with | some y => some (a, y) | none => leastC l := rfl
    rw [eq]
    cases hf : l.find? (clashB a) with
    | some y =>
      refine ⟨fun z => (nomatch z), fun m hm => ?_⟩
      cases hm
      have hy := List.mem_of_find?_eq_some hf
      have hc : clashB a y = true := by simpa using List.find?_some hf
      refine ⟨⟨List.mem_cons_self, List.mem_cons_of_mem _ hy, up y hy, by rw [← clash_cl (ltP_ne (up y hy))]; exact hc⟩, fun k hk => ?_⟩
      rw [ltQ_eq]
      by_cases e : k.1 = a
      · rw [if_pos e]
        obtain ⟨h2, h4⟩ := ina k hk e
        rcases find_first hp'.2 hf k.2 h2 h4 with z | z
        · show ltP k.2 y = false
          rw [z, ltP_irr]
        · have z' : (!ltP k.2 y) = true := z
          simpa using z'
      · rw [if_neg e]
        exact ltP_asym (up _ ((List.mem_cons.mp hk.1).resolve_left e))
    | none =>
      have no : ∀ m, Bad (a :: l) m → m.1 ≠ a := fun m h e => by
        obtain ⟨h2, h4⟩ := ina m h e
        exact absurd h4 (by rw [List.find?_eq_none] at hf; simpa using hf m.2 h2)
      refine ⟨fun h m hm => i1 h m (inl m hm (no m hm)), fun m hm => ?_⟩
      obtain ⟨b1, b2⟩ := i2 m hm
      exact ⟨⟨List.mem_cons_of_mem _ b1.1, List.mem_cons_of_mem _ b1.2.1, b1.2.2⟩, fun k hk => b2 k (inl k hk (no k hk))⟩
theorem minD_spec : ∀ (ds : List Dt) (d : Dt), PySem.W.minD d ds ∈ d :: ds ∧ ∀ x ∈ d :: ds, PySem.W.dataLt x (PySem.W.minD d ds) = false
  | [], d => ⟨List.mem_cons_self, fun x hx => by
    rw [List.mem_singleton] at hx
    rw [hx]
    exact dLt_irr _⟩
  | e :: ds, d => by
    have tr : ∀ x y z, PySem.W.dataLt x y = true → PySem.W.dataLt y z = true → PySem.W.dataLt x z = true := fun x y z => dLt_tr
    have nt : ∀ x y z, PySem.W.dataLt x z = true → PySem.W.dataLt x y = true ∨ PySem.W.dataLt y z = true := fun x y z => dLt_nt
    have eq : PySem.W.minD d (e :: ds) = PySem.W.minD (if PySem.W.dataLt e d = true then e else d) ds := rfl
    rw [eq]
    by_cases h : PySem.W.dataLt e d = true
    · rw [if_pos h]
      obtain ⟨a1, a2⟩ := minD_spec ds e
      refine ⟨List.mem_cons_of_mem _ a1, fun x hx => ?_⟩
      rcases List.mem_cons.mp hx with z | z
      · cases q : PySem.W.dataLt x (PySem.W.minD e ds) with
        | false => rfl
        | true =>
          rw [z] at q
          have := a2 e List.mem_cons_self
          rw [tr _ _ _ h q] at this
          cases this
      · exact a2 x z
    · rw [if_neg h]
      obtain ⟨a1, a2⟩ := minD_spec ds d
      refine ⟨?_, fun x hx => ?_⟩
      · rcases List.mem_cons.mp a1 with z | z
        · rw [z]; exact List.mem_cons_self
        · exact List.mem_cons_of_mem _ (List.mem_cons_of_mem _ z)
      rcases List.mem_cons.mp hx with z | z
      · rw [z]; exact a2 d List.mem_cons_self
      rcases List.mem_cons.mp z with z | z
      · cases q : PySem.W.dataLt x (PySem.W.minD d ds) with
        | false => rfl
        | true =>
          rw [z] at q
          rcases nt e d _ q with q | q
          · exact absurd q h
          · rw [a2 d List.mem_cons_self] at q
            cases q
      · exact a2 x (List.mem_cons_of_mem _ z)
theorem isL_keep {M M' : Mem} {s : Sl} {xs : List Sl} (l : IsL M s xs) (h : ∀ x, M x ≠ none → M' x = M x) : IsL M' s xs := by
  rcases l with ⟨ds, e1, e2⟩ | ⟨a, rfl, h1⟩
  · exact .inl ⟨ds, e1, e2⟩
  · exact .inr ⟨a, rfl, (h a (by rw [h1]; exact nofun)).trans h1⟩
theorem canLay_lq : ∀ F : List (Pc × Pc), PyData.canLayAll0 (F.map pd) = true
  | [] => rfl
  | m :: F => by
    show (PyData.canLay0 (pd m) && PyData.canLayAll0 (F.map pd)) = true
    rw [canLay_lq F] <;> rfl
/-- pairs as slots -/
abbrev lq (F : List (Pc × Pc)) : List Sl := F.map fun m => .dat (pd m)
theorem lq_dat (F : List (Pc × Pc)) : lq F = (F.map pd).map Sl.dat := (List.map_map ..).symm
theorem alike_lq (F : List (Pc × Pc)) : PySem.W.AlikeAll (F.map pd) := by
  refine ⟨fun d hd d' hd' => ?_, fun d hd => ?_⟩
  · obtain ⟨p, _, rfl⟩ := List.mem_map.mp hd
    obtain ⟨q, _, rfl⟩ := List.mem_map.mp hd'
    show PySem.W.alike (.tuple [p.1.d, p.2.d]) (.tuple [q.1.d, q.2.d]) = true
    simp only [PySem.W.alike, PySem.W.alikeAll, alike_pc, Bool.and_self]
  · obtain ⟨p, _, rfl⟩ := List.mem_map.mp hd
    exact nofun
theorem depth_lq : ∀ F : List (Pc × Pc), PyData.depthAll (F.map pd) ≤ 60
  | [] => by decide
  | m :: F => by
    have := depth_lq F
    have e : (pd m).depth = 2 := rfl
    rw [List.map_cons, PyData.depthAll, e]
    omega
theorem shaped_lq (F : List (Pc × Pc)) : SeqAt.shaped (.list (F.map pd)) = true := by
  unfold SeqAt.shaped
  rw [Bool.and_eq_true]
  refine ⟨canLay_lq F, decide_eq_true ?_⟩
  have := depth_lq F
  show PyData.depthAll (F.map pd) + 1 ≤ 64
  omega
theorem pick_least {ps : List Pc} {F : List (Pc × Pc)} (hp : ps.Pairwise fun p q => leP p q = true) (hn : ps.Nodup) (hF : ∀ m, m ∈ F ↔ Bad ps m) : (F = [] → leastC ps = none) ∧ (∀ m G, F = m :: G → PySem.W.minD (pd m) (G.map pd) = resC (leastC ps)) := by
  obtain ⟨s1, s2⟩ := least_spec ps hp hn
  refine ⟨fun e => ?_, fun m G e => ?_⟩
  · cases h : leastC ps with
    | none => rfl
    | some m =>
      have := (hF m).mpr (s2 m h).1
      rw [e] at this
      cases this
  · cases h : leastC ps with
    | none => exact absurd ((hF m).mp (by rw [e]; exact List.mem_cons_self)) (s1 h m)
    | some k =>
      obtain ⟨b1, b2⟩ := s2 k h
      obtain ⟨a1, a2⟩ := minD_spec (G.map pd) (pd m)
      rw [← List.map_cons (f := pd), ← e] at a1 a2
      obtain ⟨u, hu, eu⟩ := List.mem_map.mp a1
      have z1 : ltQ u k = false := b2 u ((hF u).mp hu)
      have z2 : ltQ k u = false := by
        have := a2 (pd k) (List.mem_map.mpr ⟨k, (hF k).mpr b1, rfl⟩)
        rw [← eu] at this
        exact this
      rw [← eu, ltQ_anti z1 z2]
      rfl
def pr_ll_pair : Pr := fun ss M q => ∃ (s : Sl) (ps : List Pc), ss = [s] ∧ IsL M s (lp ps) ∧ ps.length ≤ 1000 ∧ ps.Pairwise (fun p q => leP p q = true) ∧ ps.Nodup ∧ ∀ M', (∀ x, M x ≠ none → M' x = M x) → q (.dat (resC (leastC ps))) M'
section
variable {P : Program} {w : World} {K : PySem.W.Frag} {mg : Str → Option Value} {base : Heap}
theorem ok_llkind (T : Tx P K mg) : Holds P w K mg base 1 T.f_llkind T.fd_llkind ["caught"] (pr_llkind K [T.C_NoPiece, T.C_TooMany, T.C_NoRun, T.C_NoWood, T.C_NoHouse, T.C_NoShifts, T.C_NotRight, T.C_NoMore, T.C_NotOne, T.C_NoGap, T.C_NoDealing, T.C_NoPlace, T.C_NotWhole, T.C_NoBack, T.C_NoRow, T.C_Clash, T.C_NoText]) := by
  refine holds_of T.F_llkind sc_llkind (fun ss M q h => ?len) (fun cdv A outer s H hr => (xss_cut (xs_asgN (ps_set (i := 1) sc_llkind.nd rfl (by first | exact .inl rfl | exact .inr rfl) (xe_lst (xa_cons (xe_callB (sim_isiX (K := K)) (pe_callB call_isiX rfl T.m_isinstance (by decide +kernel) (xa_cons (xv 0) (xa_cons (xe_raw (pe_glob (v := .ref T.C_NoPiece) rfl T.gC_NoPiece rfl)) xa_nil)))) (xa_cons (xe_callB (sim_isiX (K := K)) (pe_callB call_isiX rfl T.m_isinstance (by decide +kernel) (xa_cons (xv 0) (xa_cons (xe_raw (pe_glob (v := .ref T.C_TooMany) rfl T.gC_TooMany rfl)) xa_nil)))) (xa_cons (xe_callB (sim_isiX (K := K)) (pe_callB call_isiX rfl T.m_isinstance (by decide +kernel) (xa_cons (xv 0) (xa_cons (xe_raw (pe_glob (v := .ref T.C_NoRun) rfl T.gC_NoRun rfl)) xa_nil)))) xa_nil))))) simLE)
      (xss_cut (xs_asgN (ps_set (i := 1) sc_llkind.nd rfl (by first | exact .inl rfl | exact .inr rfl) (xe_add (xv 1) (xe_lst (xa_cons (xe_callB (sim_isiX (K := K)) (pe_callB call_isiX rfl T.m_isinstance (by decide +kernel) (xa_cons (xv 0) (xa_cons (xe_raw (pe_glob (v := .ref T.C_NoWood) rfl T.gC_NoWood rfl)) xa_nil)))) (xa_cons (xe_callB (sim_isiX (K := K)) (pe_callB call_isiX rfl T.m_isinstance (by decide +kernel) (xa_cons (xv 0) (xa_cons (xe_raw (pe_glob (v := .ref T.C_NoHouse) rfl T.gC_NoHouse rfl)) xa_nil)))) xa_nil))))) simLE)
      (xss_cut (xs_asgN (ps_set (i := 1) sc_llkind.nd rfl (by first | exact .inl rfl | exact .inr rfl) (xe_add (xv 1) (xe_lst (xa_cons (xe_callB (sim_isiX (K := K)) (pe_callB call_isiX rfl T.m_isinstance (by decide +kernel) (xa_cons (xv 0) (xa_cons (xe_raw (pe_glob (v := .ref T.C_NoShifts) rfl T.gC_NoShifts rfl)) xa_nil)))) (xa_cons (xe_callB (sim_isiX (K := K)) (pe_callB call_isiX rfl T.m_isinstance (by decide +kernel) (xa_cons (xv 0) (xa_cons (xe_raw (pe_glob (v := .ref T.C_NotRight) rfl T.gC_NotRight rfl)) xa_nil)))) xa_nil))))) simLE)
      (xss_cut (xs_asgN (ps_set (i := 1) sc_llkind.nd rfl (by first | exact .inl rfl | exact .inr rfl) (xe_add (xv 1) (xe_lst (xa_cons (xe_callB (sim_isiX (K := K)) (pe_callB call_isiX rfl T.m_isinstance (by decide +kernel) (xa_cons (xv 0) (xa_cons (xe_raw (pe_glob (v := .ref T.C_NoMore) rfl T.gC_NoMore rfl)) xa_nil)))) (xa_cons (xe_callB (sim_isiX (K := K)) (pe_callB call_isiX rfl T.m_isinstance (by decide +kernel) (xa_cons (xv 0) (xa_cons (xe_raw (pe_glob (v := .ref T.C_NotOne) rfl T.gC_NotOne rfl)) xa_nil)))) xa_nil))))) simLE)
      (xss_cut (xs_asgN (ps_set (i := 1) sc_llkind.nd rfl (by first | exact .inl rfl | exact .inr rfl) (xe_add (xv 1) (xe_lst (xa_cons (xe_callB (sim_isiX (K := K)) (pe_callB call_isiX rfl T.m_isinstance (by decide +kernel) (xa_cons (xv 0) (xa_cons (xe_raw (pe_glob (v := .ref T.C_NoGap) rfl T.gC_NoGap rfl)) xa_nil)))) (xa_cons (xe_callB (sim_isiX (K := K)) (pe_callB call_isiX rfl T.m_isinstance (by decide +kernel) (xa_cons (xv 0) (xa_cons (xe_raw (pe_glob (v := .ref T.C_NoDealing) rfl T.gC_NoDealing rfl)) xa_nil)))) xa_nil))))) simLE)
      (xss_cut (xs_asgN (ps_set (i := 1) sc_llkind.nd rfl (by first | exact .inl rfl | exact .inr rfl) (xe_add (xv 1) (xe_lst (xa_cons (xe_callB (sim_isiX (K := K)) (pe_callB call_isiX rfl T.m_isinstance (by decide +kernel) (xa_cons (xv 0) (xa_cons (xe_raw (pe_glob (v := .ref T.C_NoPlace) rfl T.gC_NoPlace rfl)) xa_nil)))) (xa_cons (xe_callB (sim_isiX (K := K)) (pe_callB call_isiX rfl T.m_isinstance (by decide +kernel) (xa_cons (xv 0) (xa_cons (xe_raw (pe_glob (v := .ref T.C_NotWhole) rfl T.gC_NotWhole rfl)) xa_nil)))) xa_nil))))) simLE)
      (xss_cut (xs_asgN (ps_set (i := 1) sc_llkind.nd rfl (by first | exact .inl rfl | exact .inr rfl) (xe_add (xv 1) (xe_lst (xa_cons (xe_callB (sim_isiX (K := K)) (pe_callB call_isiX rfl T.m_isinstance (by decide +kernel) (xa_cons (xv 0) (xa_cons (xe_raw (pe_glob (v := .ref T.C_NoBack) rfl T.gC_NoBack rfl)) xa_nil)))) (xa_cons (xe_callB (sim_isiX (K := K)) (pe_callB call_isiX rfl T.m_isinstance (by decide +kernel) (xa_cons (xv 0) (xa_cons (xe_raw (pe_glob (v := .ref T.C_NoRow) rfl T.gC_NoRow rfl)) xa_nil)))) xa_nil))))) simLE)
      (xss_cut (xs_asgN (ps_set (i := 1) sc_llkind.nd rfl (by first | exact .inl rfl | exact .inr rfl) (xe_add (xv 1) (xe_lst (xa_cons (xe_callB (sim_isiX (K := K)) (pe_callB call_isiX rfl T.m_isinstance (by decide +kernel) (xa_cons (xv 0) (xa_cons (xe_raw (pe_glob (v := .ref T.C_Clash) rfl T.gC_Clash rfl)) xa_nil)))) (xa_cons (xe_callB (sim_isiX (K := K)) (pe_callB call_isiX rfl T.m_isinstance (by decide +kernel) (xa_cons (xv 0) (xa_cons (xe_raw (pe_glob (v := .ref T.C_NoText) rfl T.gC_NoText rfl)) xa_nil)))) xa_nil))))) simLE)
      (xss_cons (xs_if (xb_w (xw_or (xb_cmp sim_ne (pt_cmpR (op_neAll hr.rm.units) (xe_bmL sim_countF (pe_bm PySem.F.plainAttrs_list PySem.F.slot_list_count PySem.F.type_list_count mt_countF (xv 1) (xa_cons xe_bl xa_nil))) xe_int (nomark _))) (xw_or1 (xb_not (xb_val (xe_callB (sim_isiX (K := K)) (pe_callB call_isiX rfl T.m_isinstance (by decide +kernel) (xa_cons (xv 0) (xa_cons (xe_raw (pe_bltn (v := .ty "ValueError") rfl T.m_ValueError (by decide +kernel) rfl)) xa_nil))))))))) (xss_one (xs_ret xe_str)) xss_nil)
      (xss_cons (xs_asgN (ps_set (i := 2) sc_llkind.nd rfl (by first | exact .inl rfl | exact .inr rfl) (xe_lstD (xa_cons xe_str (xa_cons xe_str (xa_cons xe_str (xa_cons xe_str (xa_cons xe_str (xa_cons xe_str (xa_cons xe_str (xa_cons xe_str (xa_cons xe_str xa_nil))))))))))) simLE)
      (xss_cons (xs_asgN (ps_set (i := 2) sc_llkind.nd rfl (by first | exact .inl rfl | exact .inr rfl) (xe_addD (xv 2) (xe_lstD (xa_cons xe_str (xa_cons xe_str (xa_cons xe_str (xa_cons xe_str (xa_cons xe_str (xa_cons xe_str (xa_cons xe_str (xa_cons xe_str xa_nil))))))))))) simLE)
      (xss_one (xs_ret (xe_ix (xv 2) (xe_bmL sim_indexF (pe_bm PySem.F.plainAttrs_list PySem.F.slot_list_index PySem.F.type_list_index mt_index (xv 1) (xa_cons xe_bl xa_nil)))))))))))))))))) (fun ss M q h => ?read)
  case len =>
    obtain ⟨s, f, wd, rfl, _⟩ := h
    rfl
  case read =>
    obtain ⟨s, f, wd, rfl, isi, hcase, k⟩ := h
    refine ⟨fun Γ' M' => ∃ p, Γ' = [some s, some (.own p), none] ∧ M' p = some (.lst ((kindsL f 3).map .dat)) ∧ MoreM M M', isi_go rfl (isi 0 _ rfl _ _ (isi_go rfl (isi 1 _ rfl _ _ (isi_go rfl (isi 2 _ rfl _ _ ⟨rfl, fun p hp => ⟨p, rfl, put_at, (MoreM.refl M).born hp⟩⟩))))), ?_⟩
    rintro Γ' M3 ⟨p, rfl, hm, K3⟩
    refine ⟨fun Γ' M' => ∃ p, Γ' = [some s, some (.own p), none] ∧ M' p = some (.lst ((kindsL f 5).map .dat)) ∧ MoreM M M', ⟨_, rfl, isi_go rfl (isi 3 _ rfl _ _ (isi_go rfl (isi 4 _ rfl _ _ ⟨rfl, fun p2 hp2 => ⟨_, _, IsL.own ((put_ne (ne_mem hm hp2)).trans hm), IsL.own put_at, by rw [List.length_map]; exact (show 3 + 2 ≤ 16777216 by decide), fun p3 hp3 => ⟨p3, rfl, put_at.trans (congrArg (fun z => some (MO.lst z)) (kindsL_more f 3)), (K3.born hp2).born hp3⟩⟩⟩)))⟩, ?_⟩
    rintro Γ' M5 ⟨p, rfl, hm, K5⟩
    refine ⟨fun Γ' M' => ∃ p, Γ' = [some s, some (.own p), none] ∧ M' p = some (.lst ((kindsL f 7).map .dat)) ∧ MoreM M M', ⟨_, rfl, isi_go rfl (isi 5 _ rfl _ _ (isi_go rfl (isi 6 _ rfl _ _ ⟨rfl, fun p2 hp2 => ⟨_, _, IsL.own ((put_ne (ne_mem hm hp2)).trans hm), IsL.own put_at, by rw [List.length_map]; exact (show 5 + 2 ≤ 16777216 by decide), fun p3 hp3 => ⟨p3, rfl, put_at.trans (congrArg (fun z => some (MO.lst z)) (kindsL_more f 5)), (K5.born hp2).born hp3⟩⟩⟩)))⟩, ?_⟩
    rintro Γ' M7 ⟨p, rfl, hm, K7⟩
    refine ⟨fun Γ' M' => ∃ p, Γ' = [some s, some (.own p), none] ∧ M' p = some (.lst ((kindsL f 9).map .dat)) ∧ MoreM M M', ⟨_, rfl, isi_go rfl (isi 7 _ rfl _ _ (isi_go rfl (isi 8 _ rfl _ _ ⟨rfl, fun p2 hp2 => ⟨_, _, IsL.own ((put_ne (ne_mem hm hp2)).trans hm), IsL.own put_at, by rw [List.length_map]; exact (show 7 + 2 ≤ 16777216 by decide), fun p3 hp3 => ⟨p3, rfl, put_at.trans (congrArg (fun z => some (MO.lst z)) (kindsL_more f 7)), (K7.born hp2).born hp3⟩⟩⟩)))⟩, ?_⟩
    rintro Γ' M9 ⟨p, rfl, hm, K9⟩
    refine ⟨fun Γ' M' => ∃ p, Γ' = [some s, some (.own p), none] ∧ M' p = some (.lst ((kindsL f 11).map .dat)) ∧ MoreM M M', ⟨_, rfl, isi_go rfl (isi 9 _ rfl _ _ (isi_go rfl (isi 10 _ rfl _ _ ⟨rfl, fun p2 hp2 => ⟨_, _, IsL.own ((put_ne (ne_mem hm hp2)).trans hm), IsL.own put_at, by rw [List.length_map]; exact (show 9 + 2 ≤ 16777216 by decide), fun p3 hp3 => ⟨p3, rfl, put_at.trans (congrArg (fun z => some (MO.lst z)) (kindsL_more f 9)), (K9.born hp2).born hp3⟩⟩⟩)))⟩, ?_⟩
    rintro Γ' M11 ⟨p, rfl, hm, K11⟩
    refine ⟨fun Γ' M' => ∃ p, Γ' = [some s, some (.own p), none] ∧ M' p = some (.lst ((kindsL f 13).map .dat)) ∧ MoreM M M', ⟨_, rfl, isi_go rfl (isi 11 _ rfl _ _ (isi_go rfl (isi 12 _ rfl _ _ ⟨rfl, fun p2 hp2 => ⟨_, _, IsL.own ((put_ne (ne_mem hm hp2)).trans hm), IsL.own put_at, by rw [List.length_map]; exact (show 11 + 2 ≤ 16777216 by decide), fun p3 hp3 => ⟨p3, rfl, put_at.trans (congrArg (fun z => some (MO.lst z)) (kindsL_more f 11)), (K11.born hp2).born hp3⟩⟩⟩)))⟩, ?_⟩
    rintro Γ' M13 ⟨p, rfl, hm, K13⟩
    refine ⟨fun Γ' M' => ∃ p, Γ' = [some s, some (.own p), none] ∧ M' p = some (.lst ((kindsL f 15).map .dat)) ∧ MoreM M M', ⟨_, rfl, isi_go rfl (isi 13 _ rfl _ _ (isi_go rfl (isi 14 _ rfl _ _ ⟨rfl, fun p2 hp2 => ⟨_, _, IsL.own ((put_ne (ne_mem hm hp2)).trans hm), IsL.own put_at, by rw [List.length_map]; exact (show 13 + 2 ≤ 16777216 by decide), fun p3 hp3 => ⟨p3, rfl, put_at.trans (congrArg (fun z => some (MO.lst z)) (kindsL_more f 13)), (K13.born hp2).born hp3⟩⟩⟩)))⟩, ?_⟩
    rintro Γ' M15 ⟨p, rfl, hm, K15⟩
    refine ⟨fun Γ' M' => ∃ p, Γ' = [some s, some (.own p), none] ∧ M' p = some (.lst ((kindsL f 17).map .dat)) ∧ MoreM M M', ⟨_, rfl, isi_go rfl (isi 15 _ rfl _ _ (isi_go rfl (isi 16 _ rfl _ _ ⟨rfl, fun p2 hp2 => ⟨_, _, IsL.own ((put_ne (ne_mem hm hp2)).trans hm), IsL.own put_at, by rw [List.length_map]; exact (show 15 + 2 ≤ 16777216 by decide), fun p3 hp3 => ⟨p3, rfl, put_at.trans (congrArg (fun z => some (MO.lst z)) (kindsL_more f 15)), (K15.born hp2).born hp3⟩⟩⟩)))⟩, ?_⟩
    rintro Γ' M17 ⟨p, rfl, hm, K17⟩
    rcases hcase with ⟨i, hi, rfl, ve, hw⟩ | ⟨rfl, rfl⟩
    · refine ⟨_, rfl, ⟨_, IsL.own hm⟩, ⟨_, IsL.own hm, kindsL_flat _ _, rfl, ?_⟩⟩
      have e1 : (kindsL (fun j => decide (i = j)) 17).countP (fun e => eqV (vOf e) bT) = 1 := cnt_kinds ⟨i, hi⟩
      refine And.intro (fun hne => absurd hne ?_) (fun _ => ?_)
      · show ¬ ((!decide (((kindsL (fun j => decide (i = j)) 17).countP (fun e => eqV (vOf e) bT) : Nat) = (1 : Int))) = true)
        rw [e1]; decide
      refine isi_go rfl (ve _ _ ?_)
      refine And.intro (fun z => nomatch z) (fun _ => ?_)
      refine ⟨rfl, _, rfl, ?_⟩
      refine ⟨_, rfl, rfl, _, rfl, ⟨_, _, IsL.dat, IsL.dat, by decide, ?_⟩⟩
      refine ⟨_, rfl, _, rfl, ⟨_, IsL.own hm⟩, ⟨_, i, .bool true, IsL.own hm, kindsL_flat _ _, rfl, ?_, rfl, fun m e' hm1 he' => ?_, ?_⟩⟩
      · rw [kindsL_at _ hi, decide_eq_true rfl]
      · rw [kindsL_at _ (by omega)] at he'
        cases he'
        exact ix_kinds ⟨i, hi⟩ ⟨m, by omega⟩ hm1
      · refine ⟨.str wd, ?_, k _ K17⟩
        show atI (kindWords.map PyData.str) ((i : Nat) : Int) = _
        exact atI_nat (by rw [List.getElem?_map, hw] <;> rfl)
    · refine ⟨_, rfl, ⟨_, IsL.own hm⟩, ⟨_, IsL.own hm, kindsL_flat _ _, rfl, ?_⟩⟩
      refine And.intro (fun _ => And.intro (fun _ => k _ K17) (fun z => nomatch z)) (fun hne => absurd hne ?_)
      show ¬ ((!decide (((kindsL (fun _ => false) 17).countP (fun e => eqV (vOf e) bT) : Nat) = (1 : Int))) = false)
      decide +kernel
end
end LW
namespace LW
open PySem PySem.Spec PyProof.Rows DL
open L2 hiding del del_ne del_same
def numsOf (r : Int) (l : List Pc) : List Int := (l.filter fun p => decide (p.r = r)).map (·.n)
theorem numsOf_mem {r n : Int} {l : List Pc} : n ∈ numsOf r l ↔ ∃ p ∈ l, p.r = r ∧ p.n = n := by
  unfold numsOf
  rw [List.mem_map]
  constructor
  · rintro ⟨p, hp, rfl⟩
    rw [List.mem_filter] at hp
    exact ⟨p, hp.1, of_decide_eq_true hp.2, rfl⟩
  · rintro ⟨p, hp, h1, h2⟩
    exact ⟨p, List.mem_filter.mpr ⟨hp, decide_eq_true h1⟩, h2⟩
theorem numsOf_app {r : Int} {l m : List Pc} : numsOf r (l ++ m) = numsOf r l ++ numsOf r m := by
  unfold numsOf
  rw [List.filter_append, List.map_append]
theorem numsOf_one {r : Int} {p : Pc} : numsOf r [p] = if p.r = r then [p.n] else [] := by
  unfold numsOf
  by_cases h : p.r = r
  · rw [if_pos h]
    simp [h]
  · rw [if_neg h]
    simp [h]
/-- no two have the same run and number -/
def Ids (ps : List Pc) : Prop := ps.Pairwise fun p q => ¬ (p.r = q.r ∧ p.n = q.n)
theorem Ids.nodup {ps : List Pc} (h : Ids ps) : ps.Nodup := h.imp fun h e => h ⟨by rw [e], by rw [e]⟩
theorem Ids.perm {ps qs : List Pc} (h : Ids ps) (p : qs.Perm ps) : Ids qs := (List.Perm.pairwise_iff (R := fun x y : Pc => ¬ (x.r = y.r ∧ x.n = y.n)) (fun {x y} h z => h ⟨z.1.symm, z.2.symm⟩) p).mpr h
theorem Ids.nums {ps : List Pc} (h : Ids ps) (r : Int) : (numsOf r ps).Nodup := by
  unfold numsOf
  refine List.Pairwise.map _ (fun _ _ h => h) (List.Pairwise.imp_of_mem (fun {a b} ha hb h e => ?_) (List.Pairwise.filter _ h))
  rw [List.mem_filter] at ha hb
  exact h ⟨(of_decide_eq_true ha.2).trans (of_decide_eq_true hb.2).symm, e⟩
theorem numsOf_len {r : Int} {l : List Pc} : (numsOf r l).length ≤ l.length := by
  unfold numsOf
  rw [List.length_map]
  exact List.length_filter_le _ _
/-- the new number of a in the run r -/
def newN (low : Int) (ts : List Pc) (r a : Int) : Int := if a = -1 then -1 else low + ((numsOf r ts).idxOf a : Nat)
abbrev Pc.ren (f : Int → Int → Int) (p : Pc) : Pc := ⟨p.r, f p.r p.n, f p.r p.a, p.h, p.c, p.b, p.e, p.j⟩
structure Ren (low : Int) (ps : List Pc) (f : Int → Int → Int) : Prop where
  neg : ∀ r, f r (-1) = -1
  bnd : ∀ p ∈ ps, low ≤ f p.r p.n ∧ f p.r p.n < low + (numsOf p.r ps).length
  mono : ∀ p ∈ ps, ∀ q ∈ ps, p.r = q.r → p.n < q.n → f p.r p.n < f p.r q.n
theorem idx_mid {x : Int} {b : List Int} : ∀ {a : List Int}, x ∉ a → (a ++ x :: b).idxOf x = a.length
  | [], _ => by simp [List.idxOf_cons]
  | y :: a, h => by
    have hne : ¬ y = x := fun e => h (by rw [e]; exact List.mem_cons_self)
    rw [List.cons_append, List.idxOf_cons, List.length_cons]
    have e : (y == x) = false := by simpa using hne
    rw [e, cond_false, idx_mid fun z => h (List.mem_cons_of_mem _ z)]
theorem idx_get {x : Int} {l : List Int} (h : x ∈ l) : ∃ hl : l.idxOf x < l.length, l[l.idxOf x] = x := ⟨List.idxOf_lt_length_of_mem h, List.getElem_idxOf _⟩
theorem idx_mono {l : List Int} (hp : l.Pairwise (· < ·)) {x y : Int} (hx : x ∈ l) (hy : y ∈ l) (h : x < y) : l.idxOf x < l.idxOf y := by
  obtain ⟨h1, e1⟩ := idx_get hx
  obtain ⟨h2, e2⟩ := idx_get hy
  rcases Nat.lt_trichotomy (l.idxOf x) (l.idxOf y) with z | z | z
  · exact z
  · exfalso
    have : l[l.idxOf x] = l[l.idxOf y] := by simp only [z]
    rw [e1, e2] at this
    omega
  · exfalso
    have := List.pairwise_iff_getElem.mp hp _ _ h2 h1 z
    rw [e1, e2] at this
    omega
theorem ltP_rn {p q : Pc} (hr : p.r = q.r) (hn : p.n < q.n) : ltP p q = true := by
  show PySem.W.dataLt (.tuple (pc p.r p.n p.a p.h p.c p.b p.e p.j)) (.tuple (pc q.r q.n q.a q.h q.c q.b q.e q.j)) = true
  rw [PySem.W.dataLt_tuple, PySem.W.dataLt_cons (by simp [PySem.W.alike]), if_pos (by simp [PyData.eqv, hr]), PySem.W.dataLt_cons (by simp [PySem.W.alike]), if_neg (by simp [PyData.eqv]; omega), PySem.W.dataLt_int]
  exact decide_eq_true hn
theorem nums_rise {S : List Pc} (hp : S.Pairwise fun p q => leP p q = true) (ids : Ids S) (r : Int) : (numsOf r S).Pairwise (· < ·) := by
  unfold numsOf
  refine List.Pairwise.map _ (fun _ _ h => h) (List.Pairwise.imp_of_mem (fun {a b} ha hb h => ?_) (List.Pairwise.filter _ (hp.and ids)))
  rw [List.mem_filter] at ha hb
  have er : a.r = b.r := (of_decide_eq_true ha.2).trans (of_decide_eq_true hb.2).symm
  rcases Int.lt_trichotomy a.n b.n with z | z | z
  · exact z
  · exact absurd ⟨er, z⟩ h.2
  · have := ltP_rn er.symm z
    have h1 : (!ltP b a) = true := h.1
    rw [this] at h1
    cases h1
theorem put_new {kvs : Kvs} {k : Key} {s : Sl} (h : dval kvs k = none) : (dput kvs k s).length = kvs.length + 1 := by
  unfold dput
  by_cases e : (kvs.any fun kv => decide (kv.1 = k)) = true
  · exfalso
    unfold dval at h
    rw [List.any_eq_true] at e
    obtain ⟨kv, h1, h2⟩ := e
    cases hf : kvs.find? fun kv => decide (kv.1 = k) with
    | none => exact absurd h2 (by simpa using List.find?_eq_none.mp hf kv h1)
    | some x => rw [hf] at h; cases h
  · rw [if_neg e, List.length_append]
    rfl
/-- the dict of the run r, behind the pieces ts of the pieces S -/
structure RunD (low : Int) (S ts : List Pc) (r : Int) (kvs : Kvs) : Prop where
  len : kvs.length = 1 + (numsOf r ts).length
  neg : dval kvs (.inl (-1)) = some (.dat (.int (-1)))
  has : ∀ n ∈ numsOf r ts, dval kvs (.inl n) = some (.dat (.int (low + ((numsOf r S).idxOf n : Nat))))
  non : ∀ n, n ≠ -1 → n ∉ numsOf r ts → dval kvs (.inl n) = none
theorem RunD.first (low : Int) (S ts : List Pc) (r : Int) (h : numsOf r ts = []) : RunD low S ts r [(.inl (-1), .dat (.int (-1)))] := by
  refine ⟨by rw [h] <;> rfl, by rw [dval_cons, if_pos rfl], fun n hn => (by rw [h] at hn; cases hn), fun n hn _ => ?_⟩
  rw [dval_cons, if_neg fun e => hn (Sum.inl.inj e).symm]
  rfl
theorem RunD.step {low : Int} {S ts us : List Pc} {z : Pc} {kvs : Kvs} (R : RunD low S ts z.r kvs) (e : S = ts ++ z :: us) (hz : z.n ≠ -1) (hn : (numsOf z.r S).Nodup) : RunD low S (ts ++ [z]) z.r (dput kvs (.inl z.n) (.dat (.int (low + kvs.length - 1)))) := by
  have e1 : numsOf z.r (ts ++ [z]) = numsOf z.r ts ++ [z.n] := by rw [numsOf_app, numsOf_one, if_pos rfl]
  have e2 : numsOf z.r S = numsOf z.r ts ++ z.n :: numsOf z.r us := by
    rw [e, show ts ++ z :: us = ts ++ [z] ++ us by simp, numsOf_app, e1]
    simp
  have ni : z.n ∉ numsOf z.r ts := by
    rw [e2] at hn
    exact fun h => (List.nodup_append.mp hn).2.2 _ h _ List.mem_cons_self rfl
  have ix : (numsOf z.r S).idxOf z.n = (numsOf z.r ts).length := by rw [e2, idx_mid ni]
  refine ⟨?_, ?_, fun n h => ?_, fun n h1 h2 => ?_⟩
  · rw [put_new (R.non _ hz ni), R.len, e1, List.length_append] <;> rfl
  · rw [dval_put, if_neg fun e => hz (Sum.inl.inj e).symm]
    exact R.neg
  · rw [dval_put]
    by_cases q : n = z.n
    · subst q
      rw [if_pos rfl, ix, R.len]
      congr 3
      omega
    · rw [if_neg fun e => q (Sum.inl.inj e)]
      rw [e1] at h
      exact R.has n ((List.mem_append.mp h).resolve_right fun z => q (List.mem_singleton.mp z))
  · rw [e1] at h2
    rw [dval_put, if_neg fun e => h2 (List.mem_append_right _ (List.mem_singleton.mpr (Sum.inl.inj e)))]
    exact R.non n h1 fun z => h2 (List.mem_append_left _ z)
theorem RunD.other {low : Int} {S ts : List Pc} {z : Pc} {r : Int} {kvs : Kvs} (R : RunD low S ts r kvs) (h : z.r ≠ r) : RunD low S (ts ++ [z]) r kvs := by
  have e1 : numsOf r (ts ++ [z]) = numsOf r ts := by rw [numsOf_app, numsOf_one, if_neg h, List.append_nil]
  exact ⟨by rw [e1]; exact R.len, R.neg, by rw [e1]; exact R.has, by rw [e1]; exact R.non⟩
/-- names, behind the pieces ts: R tells the runs that are there -/
structure NamD (M : Mem) (p : Addr) (low : Int) (S ts : List Pc) (m : Nat) (M0 : Mem) (R : Int → Prop) (A : Int → Addr) (kvs : Kvs) : Prop where
  at_ : M p = some (.dct kvs)
  len : kvs.length ≤ m
  has : ∀ r, R r → dval kvs (.inl r) = some (.own (A r)) ∧ A r ≠ p ∧ M0 (A r) = none ∧ ∃ kr, M (A r) = some (.dct kr) ∧ RunD low S ts r kr
  non : ∀ r, ¬ R r → dval kvs (.inl r) = none ∧ numsOf r ts = []
  inj : ∀ r r', R r → R r' → A r = A r' → r = r'
  old : ∀ x, M0 x ≠ none → M x = M0 x
theorem NamD.junk {M M0 : Mem} {p b : Addr} {low : Int} {S ts : List Pc} {m : Nat} {R : Int → Prop} {A : Int → Addr} {kvs : Kvs} {o : MO} (N : NamD M p low S ts m M0 R A kvs) (h : M b = none) (hM : M0 b = none) : NamD (put M b o) p low S ts (m + 1) M0 R A kvs := by
  refine ⟨(put_ne (ne_mem N.at_ h)).trans N.at_, Nat.le_succ_of_le N.len, fun r hr => ?_, N.non, N.inj, fun x hx => (put_ne fun e => hx (by rw [e]; exact hM)).trans (N.old x hx)⟩
  obtain ⟨h1, h2, h3, kr, h4, h5⟩ := N.has r hr
  exact ⟨h1, h2, h3, kr, (put_ne (ne_mem h4 h)).trans h4, h5⟩
theorem NamD.more {M M0 : Mem} {p b : Addr} {low : Int} {S ts : List Pc} {m : Nat} {R : Int → Prop} {A : Int → Addr} {kvs : Kvs} {r : Int} (N : NamD M p low S ts m M0 R A kvs) (h : M b = none) (hM : M0 b = none) (hp : M0 p = none) (hr : ¬ R r) :
    NamD (put (put M b (.dct [(.inl (-1), .dat (.int (-1)))])) p (.dct (dput kvs (.inl r) (.own b)))) p low S ts (m + 1) M0 (fun r' => R r' ∨ r' = r) (fun r' => if r' = r then b else A r') (dput kvs (.inl r) (.own b)) := by
  have nbp : b ≠ p := fun e => ne_mem N.at_ h e.symm
  refine ⟨put_at, Nat.le_trans dput_len (Nat.succ_le_succ N.len), fun r' hr' => ?_, fun r' hr' => ?_, fun r1 r2 h1 h2 e => ?_, fun x hx => ?_⟩
  · by_cases e : r' = r
    · subst e
      rw [if_pos rfl]
      exact ⟨by rw [dval_put, if_pos rfl], nbp, hM, _, (put_ne nbp).trans put_at, RunD.first low S ts r' (N.non r' hr).2⟩
    · rw [if_neg e]
      obtain ⟨h1, h2, h3, kr, h4, h5⟩ := N.has r' (hr'.resolve_right e)
      exact ⟨by rw [dval_put, if_neg fun z => e (Sum.inl.inj z)]; exact h1, h2, h3, kr, (put_ne h2).trans ((put_ne (ne_mem h4 h)).trans h4), h5⟩
  · rw [dval_put, if_neg fun z => hr' (.inr (Sum.inl.inj z))]
    exact N.non r' fun z => hr' (.inl z)
  · have nb : ∀ r', R r' → A r' ≠ b := fun r' h' => by
      obtain ⟨_, _, _, kr, h4, _⟩ := N.has r' h'
      exact ne_mem h4 h
    by_cases e1 : r1 = r <;> by_cases e2 : r2 = r
    · rw [e1, e2]
    · rw [if_pos e1, if_neg e2] at e
      exact absurd e.symm (nb r2 (h2.resolve_right e2))
    · rw [if_neg e1, if_pos e2] at e
      exact absurd e (nb r1 (h1.resolve_right e1))
    · rw [if_neg e1, if_neg e2] at e
      exact N.inj r1 r2 (h1.resolve_right e1) (h2.resolve_right e2) e
  · rw [put_ne fun e => hx (by rw [e]; exact hp), put_ne fun e => hx (by rw [e]; exact hM)]
    exact N.old x hx
theorem NamD.step {M M0 : Mem} {p : Addr} {low : Int} {S ts us : List Pc} {z : Pc} {m : Nat} {R : Int → Prop} {A : Int → Addr} {kvs kr : Kvs} (N : NamD M p low S ts m M0 R A kvs) (hR : R z.r) (hk : M (A z.r) = some (.dct kr)) (e : S = ts ++ z :: us) (hz : z.n ≠ -1) (hn : (numsOf z.r S).Nodup) :
    NamD (put M (A z.r) (.dct (dput kr (.inl z.n) (.dat (.int (low + kr.length - 1)))))) p low S (ts ++ [z]) m M0 R A kvs := by
  obtain ⟨g1, g2, g3, kr', g4, g5⟩ := N.has z.r hR
  rw [hk] at g4
  cases g4
  refine ⟨(put_ne g2.symm).trans N.at_, N.len, fun r hr => ?_, fun r hr => ?_, N.inj, fun x hx => (put_ne fun e => hx (by rw [e]; exact g3)).trans (N.old x hx)⟩
  · by_cases q : z.r = r
    · subst q
      exact ⟨g1, g2, g3, _, put_at, g5.step e hz hn⟩
    · obtain ⟨h1, h2, h3, kr2, h4, h5⟩ := N.has r hr
      exact ⟨h1, h2, h3, kr2, (put_ne fun e => q (N.inj _ _ hr hR e).symm).trans h4, h5.other q⟩
  · have q : z.r ≠ r := fun e => hr (e ▸ hR)
    refine ⟨(N.non r hr).1, ?_⟩
    rw [numsOf_app, numsOf_one, if_neg q, (N.non r hr).2]
    rfl
def pr_lllike : Pr := fun ss M q => ∃ (s : Sl) (ps : List Pc) (low : Int), ss = [s, .dat (.int low)] ∧ IsL M s (lp ps) ∧ ps.length ≤ 1000 ∧ 0 ≤ low ∧ low ≤ 100 ∧ Ids ps ∧ (∀ p ∈ ps, 0 ≤ p.n) ∧ (∀ p ∈ ps, p.a = -1 ∨ ∃ x ∈ ps, x.r = p.r ∧ x.n = p.a) ∧
  ∀ (p : Addr) f M', M p = none → Ren low ps f → M' p = some (.lst (lp (ps.map fun p => p.ren f))) → (∀ x, M x ≠ none → M' x = M x) → q (.own p) M'
section
variable {P : Program} {w : World} {K : PySem.W.Frag} {mg : Str → Option Value} {base : Heap}
end
end LW
namespace LW
open PySem PySem.Spec PyProof.Rows DL
open L2 hiding del del_ne del_same
structure Runs (most : Int) (ps : List Pc) : Prop where
  parts : ∃ gs : List (List Pc), ps = gs.flatten ∧ gs ≠ [] ∧ gs.length ≤ 3 ∧ (∀ g ∈ gs, Grown g ∧ (g.length : Int) ≤ most ∧ ∃ r, 0 ≤ r ∧ r ≤ 99 ∧ ∀ p ∈ g, p.r = r) ∧ gs.Pairwise fun g g' => ∀ p ∈ g, ∀ q ∈ g', p.r ≠ q.r
  num : ∀ p ∈ ps, 0 ≤ p.n ∧ p.n ≤ 99
  place : ∀ p ∈ ps, 0 ≤ p.h ∧ p.h < 8
  plc : ps.Pairwise fun p q => ¬ (p.h = q.h ∧ p.c = q.c)
  cnt : ∀ p ∈ ps, 0 ≤ p.c ∧ p.c ≤ 9 * most
  tim : ∀ p ∈ ps, -(10 ^ 28) ≤ p.b ∧ p.e ≤ (most + 1) * 10 ^ 28
theorem Grown.ids {ps : List Pc} (g : Grown ps) : ps.Pairwise fun p q => p.n ≠ q.n := by
  induction g with
  | top _ _ _ => exact List.pairwise_singleton _ _
  | kid _ _ _ _ _ _ _ _ h ih =>
    refine List.pairwise_append.mpr ⟨ih, List.pairwise_singleton _ _, fun x hx y hy => ?_⟩
    rw [List.mem_singleton.mp hy]
    exact (h x hx).symm
theorem Grown.ask {ps : List Pc} (g : Grown ps) : ∀ p ∈ ps, (p.a = -1 ∧ p.j = false) ∨ ∃ x ∈ ps, x.r = p.r ∧ x.n = p.a ∧ x.n ≠ p.n := by
  induction g with
  | top h1 h2 _ =>
    intro p hp
    rw [List.mem_singleton.mp hp]
    exact .inl ⟨h1, h2⟩
  | @kid ps p q _ hq h1 h2 _ _ _ _ h3 ih =>
    intro x hx
    rcases List.mem_append.mp hx with z | z
    · exact (ih x z).imp id fun ⟨y, hy, h⟩ => ⟨y, List.mem_append_left _ hy, h⟩
    · rw [List.mem_singleton.mp z]
      exact .inr ⟨q, List.mem_append_left _ hq, h2.symm, h1.symm, (h3 q hq).symm⟩
theorem Grown.ne {ps : List Pc} (g : Grown ps) : ps ≠ [] := by
  cases g with
  | top _ _ _ => exact List.cons_ne_nil _ _
  | kid _ _ _ _ _ _ _ _ _ => simp
theorem flat_pw {α : Type} {r : α → α → Prop} : ∀ {gs : List (List α)}, (∀ g ∈ gs, g.Pairwise r) → gs.Pairwise (fun g g' => ∀ p ∈ g, ∀ q ∈ g', r p q) → gs.flatten.Pairwise r
  | [], _, _ => List.Pairwise.nil
  | g :: gs, h1, h2 => by
    rw [List.flatten_cons]
    have h2' := List.pairwise_cons.mp h2
    refine List.pairwise_append.mpr ⟨h1 g List.mem_cons_self, flat_pw (fun x hx => h1 x (List.mem_cons_of_mem _ hx)) h2'.2, fun p hp q hq => ?_⟩
    obtain ⟨g', hg', hq'⟩ := List.mem_flatten.mp hq
    exact h2'.1 g' hg' p hp q hq'
theorem Runs.ids {most : Int} {ps : List Pc} (R : Runs most ps) : Ids ps := by
  obtain ⟨gs, rfl, _, _, h1, h2⟩ := R.parts
  refine flat_pw (fun g hg => (h1 g hg).1.ids.imp fun h e => h e.2) (h2.imp fun h p hp q hq e => h p hp q hq e.1)
theorem Runs.ask {most : Int} {ps : List Pc} (R : Runs most ps) : ∀ p ∈ ps, (p.a = -1 ∧ p.j = false) ∨ ∃ x ∈ ps, x.r = p.r ∧ x.n = p.a ∧ x.n ≠ p.n := by
  obtain ⟨gs, rfl, _, _, h1, _⟩ := R.parts
  intro p hp
  obtain ⟨g, hg, hp'⟩ := List.mem_flatten.mp hp
  exact ((h1 g hg).1.ask p hp').imp id fun ⟨x, hx, h⟩ => ⟨x, List.mem_flatten.mpr ⟨g, hg, hx⟩, h⟩
theorem Runs.be {most : Int} {ps : List Pc} (R : Runs most ps) : ∀ p ∈ ps, p.b ≤ p.e := by
  obtain ⟨gs, rfl, _, _, h1, _⟩ := R.parts
  intro p hp
  obtain ⟨g, hg, hp'⟩ := List.mem_flatten.mp hp
  exact (h1 g hg).1.be p hp'
theorem Runs.run {most : Int} {ps : List Pc} (R : Runs most ps) : ∀ p ∈ ps, 0 ≤ p.r ∧ p.r ≤ 99 := by
  obtain ⟨gs, rfl, _, _, h1, _⟩ := R.parts
  intro p hp
  obtain ⟨g, hg, hp'⟩ := List.mem_flatten.mp hp
  obtain ⟨r, a, b, c⟩ := (h1 g hg).2.2
  rw [c p hp']
  exact ⟨a, b⟩
theorem Runs.ne {most : Int} {ps : List Pc} (R : Runs most ps) : ps ≠ [] := by
  obtain ⟨gs, rfl, h0, _, h1, _⟩ := R.parts
  cases gs with
  | nil => exact absurd rfl h0
  | cons g gs =>
    have := (h1 g List.mem_cons_self).1.ne
    rw [List.flatten_cons]
    exact fun e => this (List.append_eq_nil_iff.mp e).1
theorem flat_le {α : Type} {m : Nat} : ∀ {gs : List (List α)}, (∀ g ∈ gs, g.length ≤ m) → gs.flatten.length ≤ gs.length * m
  | [], _ => Nat.zero_le _
  | g :: gs, h => by
    rw [List.flatten_cons, List.length_append, List.length_cons, Nat.succ_mul]
    have h1 := h g List.mem_cons_self
    have h2 := flat_le fun x hx => h x (List.mem_cons_of_mem _ hx)
    omega
theorem Runs.len {most : Int} {ps : List Pc} (R : Runs most ps) (h : 0 ≤ most) : (ps.length : Int) ≤ 3 * most := by
  obtain ⟨gs, rfl, _, h3, h1, _⟩ := R.parts
  have := flat_le (gs := gs) (m := most.toNat) fun g hg => by have := (h1 g hg).2.1; omega
  have h4 : gs.length * most.toNat ≤ 3 * most.toNat := Nat.mul_le_mul_right _ h3
  omega
/-- relabelled -/
theorem Ren.inj {low : Int} {ps : List Pc} {f : Int → Int → Int} (R : Ren low ps f) {p q : Pc} (hp : p ∈ ps) (hq : q ∈ ps) (hr : p.r = q.r) (h : f p.r p.n = f q.r q.n) : p.n = q.n := by
  rcases Int.lt_trichotomy p.n q.n with z | z | z
  · have := R.mono p hp q hq hr z
    rw [h, hr] at this
    omega
  · exact z
  · have := R.mono q hq p hp hr.symm z
    rw [← h, ← hr] at this
    omega
theorem Grown.ren {low : Int} {ps : List Pc} {f : Int → Int → Int} (R : Ren low ps f) {g : List Pc} (G : Grown g) (hs : ∀ p ∈ g, p ∈ ps) (hr : ∀ p ∈ g, ∀ q ∈ g, p.r = q.r) : Grown (g.map fun p => p.ren f) := by
  induction G with
  | @top p h1 h2 h3 =>
    refine .top ?_ h2 h3
    show f p.r p.a = -1
    rw [h1]
    exact R.neg _
  | @kid ps' p q G hq h1 h2 h3 h4 h5 h6 h7 ih =>
    rw [List.map_append]
    have a : ∀ {x}, x ∈ ps' → x ∈ ps' ++ [p] := fun h => List.mem_append_left _ h
    have hp : p ∈ ps' ++ [p] := List.mem_append_right _ (List.mem_singleton.mpr rfl)
    refine .kid (q := q.ren f) (ih (fun x hx => hs x (a hx)) fun x hx y hy => hr x (a hx) y (a hy)) (List.mem_map.mpr ⟨q, hq, rfl⟩) ?_ h2 h3 h4 h5 h6 fun x hx => ?_
    · show f p.r p.a = f q.r q.n
      rw [h1, h2]
    · obtain ⟨y, hy, rfl⟩ := List.mem_map.mp hx
      show f p.r p.n ≠ f y.r y.n
      exact fun e => h7 y hy (R.inj (hs p hp) (hs y (a hy)) (hr p hp y (a hy)) e)
theorem nums_flat {m : Nat} {r : Int} : ∀ {gs : List (List Pc)}, (∀ g ∈ gs, g.length ≤ m) → gs.Pairwise (fun g g' => ∀ p ∈ g, ∀ q ∈ g', p.r ≠ q.r) → (numsOf r gs.flatten).length ≤ m
  | [], _, _ => Nat.zero_le _
  | g :: gs, h1, h2 => by
    have h2' := List.pairwise_cons.mp h2
    have h3 := h1 g List.mem_cons_self
    rw [List.flatten_cons, numsOf_app, List.length_append]
    cases e : numsOf r g with
    | nil =>
      have := nums_flat (r := r) (fun x hx => h1 x (List.mem_cons_of_mem _ hx)) h2'.2
      rw [List.length_nil]
      omega
    | cons a l =>
      obtain ⟨p, hp, hr, _⟩ := numsOf_mem.mp (show a ∈ numsOf r g by rw [e]; exact List.mem_cons_self)
      have z : numsOf r gs.flatten = [] := by
        cases e2 : numsOf r gs.flatten with
        | nil => rfl
        | cons b l2 =>
          obtain ⟨q, hq, hr2, _⟩ := numsOf_mem.mp (show b ∈ numsOf r gs.flatten by rw [e2]; exact List.mem_cons_self)
          obtain ⟨g', hg', hq'⟩ := List.mem_flatten.mp hq
          exact absurd (hr.trans hr2.symm) (h2'.1 g' hg' p hp q hq')
      have := numsOf_len (r := r) (l := g)
      rw [e] at this
      rw [z, List.length_nil]
      omega
theorem Runs.nums {most : Int} {ps : List Pc} (R : Runs most ps) (h : 0 ≤ most) (r : Int) : ((numsOf r ps).length : Int) ≤ most := by
  obtain ⟨gs, rfl, _, _, h1, h2⟩ := R.parts
  have := nums_flat (r := r) (m := most.toNat) (fun g hg => by have := (h1 g hg).2.1; omega) h2
  omega
theorem Runs.ren {most low : Int} {ps : List Pc} {f : Int → Int → Int} (R : Runs most ps) (F : Ren low ps f) (h : 0 ≤ most) (h0 : 0 ≤ low) (h1 : low + most ≤ 100) : Runs most (ps.map fun p => p.ren f) := by
  have all : ∀ {P : Pc → Prop}, (∀ p ∈ ps, P (p.ren f)) → ∀ x ∈ ps.map fun p => p.ren f, P x := fun h x hx => by
    obtain ⟨p, hp, rfl⟩ := List.mem_map.mp hx
    exact h p hp
  refine ⟨?_, all fun p hp => ?_, all R.place, List.pairwise_map.mpr R.plc, all R.cnt, all R.tim⟩
  · obtain ⟨gs, e, h0, h3, h4, h5⟩ := R.parts
    refine ⟨gs.map fun g => g.map fun p => p.ren f, by rw [e, List.map_flatten], by simpa using h0, by rw [List.length_map]; exact h3, fun g hg => ?_, List.pairwise_map.mpr (h5.imp fun h x hx y hy => ?_)⟩
    · obtain ⟨g0, hg0, rfl⟩ := List.mem_map.mp hg
      obtain ⟨b1, b2, r, b3, b4, b5⟩ := h4 g0 hg0
      refine ⟨b1.ren F (fun p hp => by rw [e]; exact List.mem_flatten.mpr ⟨g0, hg0, hp⟩) fun p hp q hq => by rw [b5 p hp, b5 q hq], by rw [List.length_map]; exact b2, r, b3, b4, fun x hx => ?_⟩
      obtain ⟨p, hp, rfl⟩ := List.mem_map.mp hx
      exact b5 p hp
    · obtain ⟨p, hp, rfl⟩ := List.mem_map.mp hx
      obtain ⟨q, hq, rfl⟩ := List.mem_map.mp hy
      exact h p hp q hq
  · have := F.bnd p hp
    have := R.nums h p.r
    show 0 ≤ f p.r p.n ∧ f p.r p.n ≤ 99
    omega
/-- what is found so far, and the counts -/
structure SoFar (most : Int) (kvs : Kvs) (gs : List (List Pc)) : Prop where
  g : ∀ g ∈ gs, Grown g ∧ (g.length : Int) ≤ most ∧ ∃ r, 0 ≤ r ∧ r ≤ 99 ∧ ∀ p ∈ g, p.r = r
  pw : gs.Pairwise fun g g' => ∀ p ∈ g, ∀ q ∈ g', p.r ≠ q.r
  num : ∀ p ∈ gs.flatten, 0 ≤ p.n ∧ p.n ≤ 99
  place : ∀ p ∈ gs.flatten, 0 ≤ p.h ∧ p.h < 8
  plc : gs.flatten.Pairwise fun p q => ¬ (p.h = q.h ∧ p.c = q.c)
  cnt : ∀ p ∈ gs.flatten, 0 ≤ p.c ∧ p.c < LW.cnt kvs p.h
  up : ∀ h, 0 ≤ LW.cnt kvs h ∧ LW.cnt kvs h ≤ 3 * gs.flatten.length
  tim : ∀ p ∈ gs.flatten, -(10 ^ 28) ≤ p.b ∧ p.e ≤ (most + 1) * 10 ^ 28
  ik : IntK kvs
  len : kvs.length ≤ gs.flatten.length
theorem SoFar.first (most : Int) : SoFar most [] [] :=
  ⟨fun g h => (nomatch h), List.Pairwise.nil, fun p h => (nomatch h), fun p h => (nomatch h), List.Pairwise.nil, fun p h => (nomatch h), fun h => ⟨Int.le_refl _, Int.le_refl _⟩, fun p h => (nomatch h), intK_nil, Nat.le_refl _⟩
theorem SoFar.more {most houses B number : Int} {kvs kvs' : Kvs} {gs : List (List Pc)} {ps : List Pc} (S : SoFar most kvs gs) (R : Run number houses B kvs kvs' ps) (hn : 0 ≤ number ∧ number ≤ 99) (hno : ∀ p ∈ gs.flatten, p.r ≠ number) (hh : houses ≤ 8) (hB : 0 ≤ B) (hB2 : B ≤ 10 ^ 28) (hl : (ps.length : Int) ≤ most) : SoFar most kvs' (gs ++ [ps]) := by
  have ef : (gs ++ [ps]).flatten = gs.flatten ++ ps := by simp
  have all : ∀ {P : Pc → Prop}, (∀ q ∈ gs.flatten, P q) → (∀ q ∈ ps, P q) → ∀ q ∈ (gs ++ [ps]).flatten, P q := fun h h' q hq => by
    rw [ef] at hq
    exact (List.mem_append.mp hq).elim (h q) (h' q)
  have el : (((gs ++ [ps]).flatten.length : Nat) : Int) = gs.flatten.length + ps.length := by rw [ef, List.length_append]; rfl
  refine ⟨fun g hg => ?_, ?_, all S.num R.num, all S.place fun p hp => ?_, ?_, all (fun p hp => ?_) fun p hp => ?_, fun h => ?_, all S.tim fun p hp => ?_, R.ik, ?_⟩
  · rcases List.mem_append.mp hg with z | z
    · exact S.g g z
    · rw [List.mem_singleton.mp z]
      exact ⟨R.grown, hl, number, hn.1, hn.2, R.run⟩
  · refine List.pairwise_append.mpr ⟨S.pw, List.pairwise_singleton _ _, fun g hg g' hg' p hp q hq => ?_⟩
    rw [List.mem_singleton.mp hg'] at hq
    rw [R.run q hq]
    exact hno p (List.mem_flatten.mpr ⟨g, hg, hp⟩)
  · have := R.place p hp
    omega
  · rw [ef]
    refine List.pairwise_append.mpr ⟨S.plc, R.ris.imp (fun h e => by have := h e.1; omega), fun p hp q hq e => ?_⟩
    have h1 := (S.cnt p hp).2
    have h2 := (R.low q hq).1
    rw [e.1, e.2] at h1
    omega
  · have h1 := S.cnt p hp
    have h2 := R.mono p.h
    omega
  · have h1 := (S.up p.h).1
    have h2 := R.low p hp
    omega
  · have h1 := S.up h
    have h2 := R.mono h
    rw [el]
    omega
  · have h1 := R.tim p hp
    refine ⟨by omega, Int.le_trans h1.2 ?_⟩
    have e1 : ((ps.length : Int) + 1) * B ≤ (most + 1) * B := Int.mul_le_mul_of_nonneg_right (by omega) hB
    have e2 : (most + 1) * B ≤ (most + 1) * 10 ^ 28 := Int.mul_le_mul_of_nonneg_left hB2 (by omega)
    omega
  · have h1 := S.len
    have h2 := R.len
    rw [ef, List.length_append]
    omega
theorem SoFar.len3 {most : Int} {kvs : Kvs} {gs : List (List Pc)} (S : SoFar most kvs gs) (h : 0 ≤ most) : (gs.flatten.length : Int) ≤ gs.length * most := by
  have := flat_le (gs := gs) (m := most.toNat) fun g hg => by have := (S.g g hg).2.1; omega
  have e : ((gs.length * most.toNat : Nat) : Int) = gs.length * most := by
    rw [Int.natCast_mul, Int.toNat_of_nonneg h]
  omega
theorem SoFar.runs {most : Int} {kvs : Kvs} {gs : List (List Pc)} (S : SoFar most kvs gs) (h : 0 ≤ most) (hne : gs ≠ []) (h3 : gs.length ≤ 3) : Runs most gs.flatten := by
  have l3 := S.len3 h
  have l4 : (gs.length : Int) * most ≤ 3 * most := Int.mul_le_mul_of_nonneg_right (by omega) h
  refine ⟨⟨gs, rfl, hne, h3, S.g, S.pw⟩, S.num, S.place, S.plc, fun p hp => ?_, S.tim⟩
  have h1 := S.cnt p hp
  have h2 := S.up p.h
  omega
def pr_llruns : Pr := fun ss M q => ∃ (f : Addr) (n most : Int), ss = [.own f, .dat (.int most)] ∧ Feed M f n ∧ n ≤ 2 ^ 36 ∧ 1 ≤ most ∧ most ≤ 20 ∧
  ∀ (p : Addr) (ps : List Pc) M', M p = none → M' p = some (.lst (lp ps)) → Runs most ps → Feed M' f (n + 20000) → Keep f M M' → q (.own p) M'
section
variable {P : Program} {w : World} {K : PySem.W.Frag} {mg : Str → Option Value} {base : Heap}
end
end LW
namespace LW
open PySem PySem.Spec PyProof.Rows DL
open L2 hiding del del_ne del_same
theorem sm_pc {p : Pc} {k : Int} (h : Sz k p) (hk : k ≤ 10 ^ 40) : Sm 1 p.d := by
  obtain ⟨h1, h2, h3, h4, h5, h6, h7⟩ := h
  have big : ∀ x : Int, -k ≤ x → x ≤ k → Sm 0 (.int x) := fun x a b => Sm.int (Nat.lt_of_le_of_lt (show x.natAbs ≤ 10 ^ 40 by omega) (by decide))
  refine Sm.tup (fun d hd => ?_) (show 8 ≤ 38 by decide)
  simp only [pc, List.mem_cons, List.not_mem_nil, or_false] at hd
  rcases hd with rfl | rfl | rfl | rfl | rfl | rfl | rfl | rfl
  · exact big _ h1.1 h1.2
  · exact big _ h2.1 h2.2
  · exact big _ h3.1 h3.2
  · exact big _ h4.1 h4.2
  · exact big _ h5.1 h5.2
  · exact big _ h6.1 h6.2
  · exact big _ h7.1 h7.2
  · exact Sm.bool
theorem show_lp {ps : List Pc} {k : Int} (h : ∀ p ∈ ps, Sz k p) (hk : k ≤ 10 ^ 40) (hl : ps.length ≤ 130) : (PyData.list (ps.map Pc.d)).showable = true ∧ (PyData.list (ps.map Pc.d)).shown.length ≤ 16777216 ∧ (PyData.list (ps.map Pc.d)).depth ≤ 40 := by
  obtain ⟨a, b, c, e⟩ := sm_all (k := 1) (ds := ps.map Pc.d) fun d hd => by
    obtain ⟨p, hp, rfl⟩ := List.mem_map.mp hd
    exact sm_pc (h p hp) hk
  refine ⟨a, Nat.le_trans (shown_sz _ a b) ?_, ?_⟩
  · show szAll (ps.map Pc.d) + 3 ≤ _
    rw [List.length_map] at c
    have : ps.length * (3000 * 40 ^ 1 + 2) ≤ 130 * (3000 * 40 ^ 1 + 2) := Nat.mul_le_mul_right _ hl
    omega
  · show PyData.depthAll (ps.map Pc.d) + 1 ≤ 40
    omega
theorem few_clear {ts D : List Pc} (h1 : D.length < 64) (h2 : ∀ t ∈ ts, t ∈ D) : (clearP ts).length < 64 := Nat.lt_of_le_of_lt (DS.nodup_le _ D (clear_nd ts) fun x hx => h2 x ((clear_mem ts x).mp hx)) h1
def pr_ll_right : Pr := fun ss M q => ∃ (ts : List Pc) (kz : Int), ss = [.dat (.list (ts.map Pc.d))] ∧ ts.length ≤ 1000 ∧ (∃ D : List Pc, D.length < 64 ∧ ∀ t ∈ ts, t ∈ D) ∧ leastC (clearP ts) = none ∧ (∀ p ∈ ts, Sz kz p) ∧ kz ≤ 10 ^ 40 ∧
  ∀ M', (∀ x, M x ≠ none → M' x = M x) → q (.dat (.bool true)) M'
theorem eqv_self (ps : List Pc) : PyData.eqv (.list (ps.map Pc.d)) (.list (ps.map Pc.d)) = true := by
  show PyData.eqvAll (ps.map Pc.d) (ps.map Pc.d) = true
  induction ps with
  | nil => rfl
  | cons p ps ih =>
    show (PyData.eqv p.d p.d && PyData.eqvAll (ps.map Pc.d) (ps.map Pc.d)) = true
    rw [ih, eqv_is.mpr rfl]
    rfl
def Sep (ps : List Pc) : Prop := ps.Pairwise fun p q => ¬ (p.r = q.r ∧ p.n = q.n) ∧ ¬ (p.h = q.h ∧ p.c = q.c)
theorem Sep.cl : ∀ {ps : List Pc}, Sep ps → ∀ p ∈ ps, ∀ q ∈ ps, p ≠ q → cl2 p q = false
  | a :: l, S, p, hp, q, hq, hne => by
    have S' := List.pairwise_cons.mp S
    have go : ∀ {x y : Pc}, ¬ (x.r = y.r ∧ x.n = y.n) ∧ ¬ (x.h = y.h ∧ x.c = y.c) → cl2 x y = false := fun {x y} h => by
      unfold cl2
      simp
      exact ⟨fun h1 h2 => h.1 ⟨h1, h2⟩, fun h1 h2 => h.2 ⟨h1, h2⟩⟩
    rcases List.mem_cons.mp hp with e | hp' <;> rcases List.mem_cons.mp hq with e2 | hq'
    · exact absurd (e.trans e2.symm) hne
    · rw [e]; exact go (S'.1 q hq')
    · rw [e2]
      have := S'.1 p hp'
      exact go ⟨fun h => this.1 ⟨h.1.symm, h.2.symm⟩, fun h => this.2 ⟨h.1.symm, h.2.symm⟩⟩
    · exact Sep.cl S'.2 p hp' q hq' hne
theorem Sep.free {ps ts : List Pc} (S : Sep ps) (h : ∀ t ∈ ts, t ∈ ps) : leastC (clearP ts) = none := by
  cases e : leastC (clearP ts) with
  | none => rfl
  | some m =>
    obtain ⟨b1, b2, b3, b4⟩ := ((least_spec _ (clear_pw ts) (clear_nd ts)).2 m e).1
    rw [S.cl m.1 (h _ ((clear_mem ts _).mp b1)) m.2 (h _ ((clear_mem ts _).mp b2)) (ltP_ne b3)] at b4
    cases b4
theorem cl2_symm {z y : Pc} (h : cl2 z y = true) : cl2 y z = true := by
  unfold cl2 at *
  simp at *
  exact h.imp (fun h => ⟨h.1.symm, h.2.symm⟩) fun h => ⟨h.1.symm, h.2.symm⟩
theorem clash_ne {z y : Pc} (h : clashB z y = true) : z ≠ y := fun e => by
  subst e
  unfold clashB at h
  rw [eqv_is.mpr rfl] at h
  cases h
theorem clash_some {bs : List Pc} {z y : Pc} (hz : z ∈ bs) (hy : y ∈ bs) (h : clashB z y = true) : ∃ m, leastC (clearP bs) = some m := by
  cases e : leastC (clearP bs) with
  | some m => exact ⟨m, rfl⟩
  | none =>
    have no := (least_spec _ (clear_pw bs) (clear_nd bs)).1 e
    have hne := clash_ne h
    rw [clash_cl hne] at h
    cases q : ltP z y with
    | true => exact absurd ⟨(clear_mem bs z).mpr hz, (clear_mem bs y).mpr hy, q, h⟩ (no (z, y))
    | false =>
      have q2 : ltP y z = true := ltP_of (by rw [leP_lt, q]; rfl) hne.symm
      exact absurd ⟨(clear_mem bs y).mpr hy, (clear_mem bs z).mpr hz, q2, cl2_symm h⟩ (no (y, z))
/-- drawn pieces, bent or not -/
structure Good (kz : Int) (ds : List Pc) : Prop where
  sep : Sep ds
  run : ∀ p ∈ ds, 0 ≤ p.r ∧ p.r ≤ 99
  num : ∀ p ∈ ds, 0 ≤ p.n ∧ p.n ≤ 99
  place : ∀ p ∈ ds, 0 ≤ p.h ∧ p.h < 8
  cnt : ∀ p ∈ ds, 0 ≤ p.c
  sz : ∀ p ∈ ds, Sz kz p
theorem Runs.sep {most : Int} {ps : List Pc} (R : Runs most ps) : Sep ps := R.ids.and R.plc
theorem Runs.askok {most : Int} {ps : List Pc} (R : Runs most ps) : ∀ p ∈ ps, askok p := fun p hp => by
  rcases R.ask p hp with h | ⟨x, hx, _, h2, h3⟩
  · exact .inl h
  · have := R.num x hx
    exact .inr ⟨by omega, by omega, by omega⟩
theorem good_bent {most : Int} {rs cs ds : List Pc} {by_ : Int → Int} (R : Runs most rs) (hm : 0 ≤ most) (hm2 : most ≤ 20) (hby : ∀ h, 0 ≤ h → h < 8 → -(10 ^ 20) ≤ by_ h ∧ by_ h ≤ 10 ^ 20) (B : BentAll 4 (rs.map fun p => p.less (by_ p.h)) cs) (S : ds.Sublist cs) : Good (10 ^ 31) ds := by
  have at_ : ∀ (j : Nat) (y : Pc), cs[j]? = some y → ∃ z, rs[j]? = some z ∧ BentN 4 (z.less (by_ z.h)) y := fun j y hy => by
    have hj : j < cs.length := (List.getElem?_eq_some_iff.mp hy).1
    have hj2 : j < rs.length := by
      have := B.1
      rw [List.length_map] at this
      omega
    exact ⟨rs[j], List.getElem?_eq_getElem hj2, B.2 j _ y (by rw [List.getElem?_map, List.getElem?_eq_getElem hj2] <;> rfl) hy⟩
  have sepc : Sep cs := by
    refine List.pairwise_iff_getElem.mpr fun i j hi hj hij => ?_
    obtain ⟨z, hz, b⟩ := at_ i cs[i] (List.getElem?_eq_getElem hi)
    obtain ⟨y, hy, c⟩ := at_ j cs[j] (List.getElem?_eq_getElem hj)
    obtain ⟨hi2, ez⟩ := List.getElem?_eq_some_iff.mp hz
    obtain ⟨hj2, ey⟩ := List.getElem?_eq_some_iff.mp hy
    have := List.pairwise_iff_getElem.mp R.sep i j hi2 hj2 hij
    rw [ez, ey] at this
    rw [b.r, b.n, b.h, b.c, c.r, c.n, c.h, c.c]
    exact this
  have of : ∀ y ∈ ds, ∃ z ∈ rs, BentN 4 (z.less (by_ z.h)) y := fun y hy => by
    obtain ⟨j, hj, e⟩ := List.getElem_of_mem (S.subset hy)
    obtain ⟨z, hz, b⟩ := at_ j y (by rw [List.getElem?_eq_getElem hj, e])
    exact ⟨z, List.mem_of_getElem? hz, b⟩
  refine ⟨sepc.sublist S, fun y hy => ?_, fun y hy => ?_, fun y hy => ?_, fun y hy => ?_, fun y hy => ?_⟩
  all_goals obtain ⟨z, hz, b⟩ := of y hy
  · rw [b.r]; exact R.run z hz
  · rw [b.n]; exact R.num z hz
  · rw [b.h]; exact R.place z hz
  · rw [b.c]; exact (R.cnt z hz).1
  · have h1 := R.run z hz
    have h2 := R.num z hz
    have h3 := R.place z hz
    have h4 := R.cnt z hz
    have h5 := R.tim z hz
    have h6 := R.be z hz
    have h7 : askok (z.less (by_ z.h)) := R.askok z hz
    have h8 := hby z.h h3.1 h3.2
    have e1 := b.b
    have e2 := b.e
    have e3 : (most + 1) * 10 ^ 28 ≤ 21 * 10 ^ 28 := Int.mul_le_mul_of_nonneg_right (by omega) (by decide)
    have e4 : -1 ≤ y.a ∧ y.a ≤ 99 := by
      rcases b.ask h7 with q | q
      · omega
      · omega
    dsimp only at e1 e2
    unfold Sz
    rw [b.r, b.n, b.h, b.c]
    dsimp only
    omega
theorem feed_old {M M' : Mem} {f : Addr} {n : Int} (F : Feed M f n) (h : ∀ x, M x ≠ none → M' x = M x) : Feed M' f n := by
  obtain ⟨cs, at_, left, h1, h2, h3, h4⟩ := F
  exact ⟨cs, at_, left, (h f (by rw [h1]; exact nofun)).trans h1, h2, h3, h4⟩
theorem put_two {z y : Pc} : PyData.tuple [z.d, y.d] = pd (z, y) := rfl
theorem show_pair {z y : Pc} {k : Int} (hz : Sz k z) (hy : Sz k y) (hk : k ≤ 10 ^ 40) : (pd (z, y)).showable = true ∧ (pd (z, y)).shown.length ≤ 16777216 ∧ (pd (z, y)).depth ≤ 40 := by
  have h : Sm 2 (pd (z, y)) := Sm.tup (fun d hd => by
    rcases List.mem_cons.mp hd with e | e
    · rw [e]; exact sm_pc hz hk
    · rw [List.mem_singleton.mp e]; exact sm_pc hy hk) (show 2 ≤ 38 by decide)
  exact ⟨h.sh, h.fits, Nat.le_trans h.dp (by decide)⟩
theorem neq_go {b : Bool} {A B : Prop} (h : b = true) (hb : B) : ((!b) = true → A) ∧ ((!b) = false → B) := ⟨fun z => (by rw [h] at z; cases z), fun _ => hb⟩
theorem shaped_str (x : Str) : True := trivial
theorem sz_more {k l : Int} {p : Pc} (h : Sz k p) (hl : k ≤ l) : Sz l p := by
  unfold Sz at *
  omega
end LW
namespace LW
open PySem PySem.Spec PyProof.Rows DL
open L2 hiding del del_ne del_same
/-! ### dicts made of pairs -/
theorem mergeD_len : ∀ (l d : Kvs), (mergeD d l).length ≤ d.length + l.length
  | [], d => Nat.le_refl _
  | q :: l, d => by
    have h1 := mergeD_len l (dput d q.1 q.2)
    have h2 := dput_len (kvs := d) (k := q.1) (s := q.2)
    show (mergeD (dput d q.1 q.2) l).length ≤ _
    rw [List.length_cons]
    omega
theorem mergeD_val : ∀ (l d : Kvs) (k : Key) (s : Sl), dval (mergeD d l) k = some s → dval d k = some s ∨ ∃ q ∈ l, q.1 = k ∧ q.2 = s
  | [], d, k, s, h => .inl h
  | q :: l, d, k, s, h => by
    rcases mergeD_val l (dput d q.1 q.2) k s h with h | ⟨x, hx, h1, h2⟩
    · rw [dval_put] at h
      by_cases e : k = q.1
      · rw [if_pos e] at h
        cases h
        exact .inr ⟨q, List.mem_cons_self .., e.symm, rfl⟩
      · rw [if_neg e] at h
        exact .inl h
    · exact .inr ⟨x, List.mem_cons_of_mem _ hx, h1, h2⟩
theorem mergeD_has : ∀ (l d : Kvs) (k : Key), ((dval d k).isSome = true ∨ ∃ q ∈ l, q.1 = k) → (dval (mergeD d l) k).isSome = true
  | [], d, k, h => h.elim id fun ⟨q, hq, _⟩ => nomatch hq
  | q :: l, d, k, h => by
    refine mergeD_has l (dput d q.1 q.2) k ?_
    rw [dval_put]
    by_cases e : k = q.1
    · rw [if_pos e]
      exact .inl rfl
    · rw [if_neg e]
      rcases h with h | ⟨x, hx, h1⟩
      · exact .inl h
      · rcases List.mem_cons.mp hx with rfl | hx
        · exact absurd h1.symm e
        · exact .inr ⟨x, hx, h1⟩
theorem dval_mem {k : Key} {s : Sl} : ∀ {kvs : Kvs}, dval kvs k = some s → (k, s) ∈ kvs
  | [], h => by cases h
  | (a, x) :: kvs, h => by
    rw [dval_cons] at h
    by_cases e : a = k
    · rw [if_pos e] at h
      cases h
      rw [e]
      exact List.mem_cons_self ..
    · rw [if_neg e] at h
      exact List.mem_cons_of_mem _ (dval_mem h)
def ofD (run : Int) (ps : List Pc) : Kvs := mergeD [] ((ps.filter fun p => decide (p.r = run)).map fun p => (.inl p.n, .dat p.d))
theorem ofD_len (run : Int) (ps : List Pc) : (ofD run ps).length ≤ ps.length := by
  have h1 := mergeD_len ((ps.filter fun p => decide (p.r = run)).map fun p => ((.inl p.n : Key), (Sl.dat p.d))) []
  have h2 := List.length_filter_le (fun p : Pc => decide (p.r = run)) ps
  rw [List.length_map, List.length_nil, Nat.zero_add] at h1
  exact Nat.le_trans h1 h2
theorem ofD_val {run : Int} {ps : List Pc} {k : Key} {s : Sl} (h : dval (ofD run ps) k = some s) : ∃ z ∈ ps, s = .dat z.d ∧ z.r = run ∧ k = .inl z.n := by
  rcases mergeD_val _ _ _ _ h with h | ⟨q, hq, h1, h2⟩
  · cases h
  · obtain ⟨z, hz, rfl⟩ := List.mem_map.mp hq
    have := List.mem_filter.mp hz
    exact ⟨z, this.1, h2.symm, of_decide_eq_true this.2, h1.symm⟩
theorem ofD_has {run : Int} {ps : List Pc} {z : Pc} (hz : z ∈ ps) (hr : z.r = run) : (dval (ofD run ps) (.inl z.n)).isSome = true :=
  mergeD_has _ _ _ (.inr ⟨_, List.mem_map.mpr ⟨z, List.mem_filter.mpr ⟨hz, decide_eq_true hr⟩, rfl⟩, rfl⟩)
def pr_llof : Pr := fun ss M q => ∃ (s : Sl) (ps : List Pc) (run : Int), ss = [s, .dat (.int run)] ∧ IsL M s (lp ps) ∧ ps.length ≤ 5000 ∧ ∀ p, M p = none → q (.own p) (put M p (.dct (ofD run ps)))
/-- the step up: a piece's asker -/
def stK (kvs : Kvs) (n : Int) : Option Int := match dval kvs (.inl n) with
  | some (.dat (.tuple (_ :: _ :: .int a :: _))) => if 0 ≤ a then some a else none
  | _ => none
theorem stK_some {kvs : Kvs} {n : Int} {z : Pc} (h : dval kvs (.inl n) = some (.dat z.d)) : stK kvs n = if 0 ≤ z.a then some z.a else none := by
  unfold stK
  rw [h]
theorem stK_none {kvs : Kvs} {n : Int} (h : dval kvs (.inl n) = none) : stK kvs n = none := by
  unfold stK
  rw [h]
/-- from n on up, till nothing follows or one comes that was there -/
def upF (st : Int → Option Int) : Nat → List Int → Int → List Int
  | 0, acc, _ => acc
  | k + 1, acc, n => if n ∈ acc then acc else match st n with
    | none => acc ++ [n]
    | some a => upF st k (acc ++ [n]) a
/-- what follows on its last one -/
def closes (st : Int → Option Int) (res : List Int) : Option Int := res.getLast?.bind st
def Ups (st : Int → Option Int) (K : Nat) (n : Int) (rs : List Int) : Prop := (closes st (upF st K [] n) = none ∧ rs = upF st K [] n) ∨ ∃ y, closes st (upF st K [] n) = some y ∧ y ∈ upF st K [] n ∧ rs = upF st K [] n ++ [y]
def pr_llup : Pr := fun ss M q => ∃ (o : Addr) (kvs : Kvs) (number : Int), ss = [.own o, .dat (.int number)] ∧ M o = some (.dct kvs) ∧ (∀ k s, dval kvs k = some s → ∃ z : Pc, s = .dat z.d) ∧ kvs.length ≤ 5000 ∧
  ∀ s ns M', IsL M' s (li (number :: ns)) → ns.length ≤ kvs.length + 1 → Ups (stK kvs) (kvs.length + 2) number (number :: ns) → (∀ x, M x ≠ none → M' x = M x) → q s M'
section
variable {P : Program} {w : World} {K : PySem.W.Frag} {mg : Str → Option Value} {base : Heap}
theorem ok_llof (T : Tx P K mg) : Holds P w K mg base 1 T.f_llof T.fd_llof ["pieces", "run"] pr_llof := by
  refine holds_of T.F_llof sc_llof (fun ss M q h => ?len) (fun cdv A outer s H hr => (xss_one (xs_ret (xe_callB sim_dictP (pe_callTy (call_dictP rfl) rfl T.m_dict (by decide +kernel) (xa_cons (xe_fz (xe_lcL (pe_lc (own := [("piece", 2)]) (g := gName 2) (tt := LB _) rfl sc_llof.nd (pi_list (xv 0)) (blkOk_by (own := [("piece", 2)]) (N := N_llof) (sc := defScope s_llof) (by decide +kernel)) (fun _ _ _ _ _ => pg_name (i := 2) sc_llof.nd rfl (.inl rfl)) (fun _ _ _ _ _ => (xts_one (xb_cmp sim_eq (pt_cmpR (op_eqAll hr.rm.units) (xe_ix (xv 2) xe_int) (xv 1) (nomark _))))) (fun _ _ _ _ _ => (xe_tup (xa_cons (xe_ix (xv 2) xe_int) (xa_cons (xv 2) xa_nil))))) (by decide))) xa_nil)))))) (fun ss M q h => ?read)
  case len =>
    obtain ⟨s, ps, run, rfl, _⟩ := h
    rfl
  case read =>
    obtain ⟨s, ps, run, rfl, l, hz, k⟩ := h
    refine ⟨_, rfl, lp ps, l, fun p hp => ⟨fun i M' => M' = put M p (.lst (((ps.take i).filter fun z => decide (z.r = run)).map fun z => .dat (.tuple [.int z.n, z.d]))), rfl, fun i M' _ e => by rw [e]; exact l.put hp, fun i x M' hx e => ?_, fun M' e => ?_⟩⟩
    · subst e
      obtain ⟨z, hz1, rfl⟩ := lp_mem hx
      have hj : i < ps.length := (List.getElem?_eq_some_iff.mp hz1).1
      have et : ps.take (i + 1) = ps.take i ++ [z] := by rw [List.take_add_one, hz1]; rfl
      have lc := List.length_filter_le (fun z : Pc => decide (z.r = run)) (ps.take i)
      rw [List.length_take] at lc
      refine ⟨_, rfl, _, rfl, _, rfl, And.intro (fun hy => ?_) (fun hn => ?_)⟩
      · have hy' : decide (z.r = run) = true := hy
        refine ⟨_, rfl, _, rfl, _, rfl, rfl, _, rfl, _, put_at, by rw [List.length_map]; omega, ?_⟩
        dsimp only
        have ef : [z].filter (fun z : Pc => decide (z.r = run)) = [z] := by simp [of_decide_eq_true hy']
        rw [put_put, et, List.filter_append, ef, List.map_append]
        rfl
      · have hn' : decide (z.r = run) = false := hn
        dsimp only
        have ef : [z].filter (fun z : Pc => decide (z.r = run)) = [] := by simp [of_decide_eq_false hn']
        rw [et, List.filter_append, ef, List.append_nil]
    rw [lp_len, List.take_length] at e
    subst e
    refine ⟨((ps.filter fun z => decide (z.r = run)).map fun z => .tuple [.int z.n, z.d]), put_at.trans (by rw [List.map_map]; rfl), ?_⟩
    rw [del_put hp]
    refine ⟨(ps.filter fun z => decide (z.r = run)).map fun z => (.inl z.n, z.d), ?_, fun p hp => ?_⟩
    · have := IsL.dat (M := M) (ds := ((ps.filter fun z => decide (z.r = run)).map fun z => PyData.tuple [.int z.n, z.d]))
      rw [List.map_map] at this ⊢
      exact this
    · have := k p hp
      unfold ofD at this
      rw [List.map_map]
      exact this
theorem ok_llup (T : Tx P K mg) : Holds P w K mg base 1 T.f_llup T.fd_llup ["own", "number"] pr_llup := by
  refine holds_of T.F_llup sc_llup (fun ss M q h => ?len) (fun cdv A outer s H hr => (xss_cons (xs_asgN (ps_set (i := 2) sc_llup.nd rfl (by first | exact .inl rfl | exact .inr rfl) (xe_lst (xa_cons (xv 1) xa_nil))) simLE)
      (xss_cons (xs_while (ps_while PassesOwn.never (xb_w (xw_and (xb_inD (T := false) (pt_cmp (pc_din (Nat.lt_of_le_of_lt (Nat.add_le_add_left (by decide : 1 ≤ 64) _) hr.rm.units) (xe_ix (xv 2) (xe_neg xe_int)) (xv 0)))) (xw_and1 (xb_cmp (sim_I0 fun _ _ _ => .bl _) (pt_cmpR op_ge (xe_ix (xe_dix (pe_dget (Nat.lt_of_le_of_lt (Nat.add_le_add_left (by decide : 1 ≤ 64) _) hr.rm.units) (xv 0) (xe_ix (xv 2) (xe_neg xe_int)) (by exact fun _ _ => rfl))) xe_int) xe_int (nomark _)))))) (xss_cons (xs_if (xb_cmp (sim_inI false) (pt_cmpR op_in_seq (xe_ix (xe_dix (pe_dget (Nat.lt_of_le_of_lt (Nat.add_le_add_left (by decide : 1 ≤ 64) _) hr.rm.units) (xv 0) (xe_ix (xv 2) (xe_neg xe_int)) (by exact fun _ _ => rfl))) xe_int) (xv 2) rfl)) (xss_one (xs_ret (xe_addD (xv 2) (xe_lstD (xa_cons (xe_ix (xe_dix (pe_dget (Nat.lt_of_le_of_lt (Nat.add_le_add_left (by decide : 1 ≤ 64) _) hr.rm.units) (xv 0) (xe_ix (xv 2) (xe_neg xe_int)) (by exact fun _ _ => rfl))) xe_int) xa_nil))))) xss_nil)
      (xss_one (xs_expr (xe_bmL sim_app (pe_bm PySem.F.plainAttrs_list PySem.F.slot_list_append PySem.F.type_list_append mt_append (xv 2) (xa_cons (xe_ix (xe_dix (pe_dget (Nat.lt_of_le_of_lt (Nat.add_le_add_left (by decide : 1 ≤ 64) _) hr.rm.units) (xv 0) (xe_ix (xv 2) (xe_neg xe_int)) (by exact fun _ _ => rfl))) xe_int) xa_nil))))))))
      (xss_one (xs_ret (xv 2)))))) (fun ss M q h => ?read)
  case len =>
    obtain ⟨o, kvs, number, rfl, _⟩ := h
    rfl
  case read =>
    obtain ⟨o, kvs, number, rfl, ho, hv, hz, k⟩ := h
    refine ⟨_, rfl, rfl, fun p hp => ?_⟩
    have hop : o ≠ p := ne_mem ho hp
    refine ⟨fun m Γ' M' => ∃ (ns : List Int) (l : Int) (rest : List Int), Γ' = [some (.own o), some (.dat (.int number)), some (.own p)] ∧ M' = put M p (.lst (li (number :: rest))) ∧ number :: rest = ns ++ [l] ∧ (ns ++ [l]).Nodup ∧ (∀ x ∈ ns, (Sum.inl x : Key) ∈ kvs.map (·.1)) ∧ upF (stK kvs) (kvs.length + 2) [] number = upF (stK kvs) (kvs.length + 2 - ns.length) ns l ∧ m = kvs.length + 1 - ns.length, ⟨_, [], number, [], rfl, rfl, rfl, by simp, fun x hx => (nomatch hx), rfl, rfl⟩, ?_⟩
    rintro m Γ' M' ⟨ns, l, rest, rfl, rfl, ens, nd, hin, hup, rfl⟩
    have hlen : ns.length ≤ kvs.length := by
      have := DS.nodup_le (ns.map (Sum.inl (β := Str))) (kvs.map (·.1)) (List.pairwise_map.mpr ((List.nodup_append.mp nd).1.imp fun h e => h (Sum.inl.inj e))) fun k hk => by
        obtain ⟨x, hx, rfl⟩ := List.mem_map.mp hk
        exact hin x hx
      rw [List.length_map, List.length_map] at this
      exact this
    have hrl : rest.length = ns.length := by
      have := congrArg List.length ens
      rw [List.length_cons, List.length_append] at this
      exact Nat.succ.inj this
    have hat : atI (li (number :: rest)) (-1) = some (.dat (.int l)) := atI_last (by rw [ens]; show ((ns ++ [l]).map _).getLast? = _; rw [List.map_append]; simp)
    have hfin : ∀ {s : Sl} {M' : Mem} {rest' : List Int}, IsL M' s (li (number :: rest')) → rest'.length ≤ kvs.length + 1 → Ups (stK kvs) (kvs.length + 2) number (number :: rest') → (∀ x, M x ≠ none → M' x = M x) → q s M' := fun h1 h2 h3 h4 => k _ _ _ h1 h2 h3 h4
    have hno : l ∉ ns := fun h => (List.nodup_append.mp nd).2.2 l h l (List.mem_singleton.mpr rfl) rfl
    have efu : kvs.length + 2 - ns.length = (kvs.length + 1 - ns.length) + 1 := by omega
    rw [efu] at hup
    have hend : stK kvs l = none → Ups (stK kvs) (kvs.length + 2) number (number :: rest) := fun hs => by
      have e1 : upF (stK kvs) (kvs.length + 2) [] number = ns ++ [l] := by
        rw [hup]
        show (if l ∈ ns then ns else match stK kvs l with | none => ns ++ [l] | some a => upF (stK kvs) (kvs.length + 1 - ns.length) (ns ++ [l]) a) = _
        rw [if_neg hno, hs]
      refine .inl ⟨?_, by rw [e1]; exact ens⟩
      rw [e1]
      unfold closes
      rw [List.getLast?_append]
      exact hs
    have hgo : ∀ {a : Int}, stK kvs l = some a → upF (stK kvs) (kvs.length + 2) [] number = upF (stK kvs) (kvs.length + 1 - ns.length) (ns ++ [l]) a := fun {a} hs => by
      rw [hup]
      show (if l ∈ ns then ns else match stK kvs l with | none => ns ++ [l] | some a => upF (stK kvs) (kvs.length + 1 - ns.length) (ns ++ [l]) a) = _
      rw [if_neg hno, hs]
    have keep : ∀ {ob : MO} (x : Addr), M x ≠ none → put M p ob x = M x := fun x hx => put_ne fun e => hx (by rw [e]; exact hp)
    have ho' : ∀ {ob : MO}, put M p ob o = some (.dct kvs) := (put_ne hop).trans ho
    have look : ∀ (key : Key) (z : Pc), dval kvs key = some (.dat z.d) → key ∈ kvs.map (·.1) := fun key z h => List.mem_map.mpr ⟨_, dval_mem h, rfl⟩
    refine ⟨_, rfl, _, _, put_at, hat, _, rfl, o, kvs, .int l, .inl l, rfl, .inl ho', rfl, rfl, And.intro (fun h => ?_) (fun h => And.intro (fun z => nomatch z) (fun _ => ⟨_, rfl, hfin (IsL.own put_at) (by omega) (hend (stK_none (Option.not_isSome_iff_eq_none.mp (by
      have h' : (dval kvs (.inl l)).isSome = false := h
      rw [h']
      exact Bool.false_ne_true)))) keep⟩))⟩
    obtain ⟨s, hs⟩ : ∃ s, dval kvs (.inl l) = some s := Option.isSome_iff_exists.mp h
    obtain ⟨z, rfl⟩ := hv _ _ hs
    refine ⟨_, rfl, _, rfl, _, _, put_at, hat, o, kvs, .int l, .inl l, _, rfl, ho', rfl, rfl, hs, _, rfl, And.intro (fun h2 => ?_) (fun h2 => ⟨_, rfl, hfin (IsL.own put_at) (by omega) (hend (by rw [stK_some hs, if_neg (of_decide_eq_false h2)])) keep⟩)⟩
    have hst : stK kvs l = some z.a := by rw [stK_some hs, if_pos (of_decide_eq_true h2)]
    have hgo := hgo hst
    refine ⟨_, rfl, _, rfl, _, _, put_at, hat, o, kvs, .int l, .inl l, _, rfl, ho', rfl, rfl, hs, _, rfl, _, rfl, z.a, number :: rest, rfl, IsL.own put_at, And.intro (fun h3 => ?_) (fun h3 => ?_)⟩
    · refine ⟨_, rfl, _, rfl, _, rfl, _, _, put_at, hat, o, kvs, .int l, .inl l, _, rfl, ho', rfl, rfl, hs, _, rfl, rfl, _, rfl, (number :: rest).map .int, [.int z.a], ?_, IsL.dat, ?_, ?_⟩
      · rw [← li_dat]
        exact IsL.own put_at
      · rw [List.length_map, List.length_cons]
        show rest.length + 1 + 1 ≤ _
        omega
      · refine hfin (rest' := rest ++ [z.a]) ?_ (by rw [List.length_append]; show rest.length + 1 ≤ _; omega) ?_ keep
        rotate_left
        · have hin3 : z.a ∈ ns ++ [l] := by
            rw [← ens]
            have : decide (z.a ∈ number :: rest) = true := h3
            exact of_decide_eq_true this
          have e1 : upF (stK kvs) (kvs.length + 2) [] number = ns ++ [l] := by
            rw [hgo]
            have efu2 : kvs.length + 1 - ns.length = (kvs.length - ns.length) + 1 := by omega
            rw [efu2]
            exact if_pos hin3
          refine .inr ⟨z.a, ?_, by rw [e1]; exact hin3, by rw [e1, ← ens]; rfl⟩
          rw [e1]
          unfold closes
          rw [List.getLast?_append]
          exact hst
        have := IsL.dat (M := put M p (.lst (li (number :: rest)))) (ds := (number :: rest).map PyData.int ++ [.int z.a])
        rw [List.map_append, ← li_dat] at this
        rw [show li (number :: (rest ++ [z.a])) = li (number :: rest) ++ [Sl.dat (.int z.a)] from List.map_append (l₁ := number :: rest)]
        exact this
    · have h3' : z.a ∉ ns ++ [l] := by
        rw [← ens]
        have : decide (z.a ∈ number :: rest) = false := h3
        exact of_decide_eq_false this
      refine ⟨_, rfl, ⟨_, IsL.own put_at⟩, _, rfl, _, rfl, _, _, put_at, hat, o, kvs, .int l, .inl l, _, rfl, ho', rfl, rfl, hs, _, rfl, _, put_at, ?_, ?_⟩
      · rw [List.length_map, List.length_cons]
        omega
      refine ⟨kvs.length + 1 - (ns ++ [l]).length, ?_, ns ++ [l], z.a, rest ++ [z.a], rfl, ?_, ?_, ?_, fun x hx => ?_, ?_, rfl⟩
      · rw [List.length_append]
        show _ - (ns.length + 1) < _
        omega
      · rw [put_put]
        exact congrArg (fun y => put M p (MO.lst y)) (List.map_append (l₁ := number :: rest) (l₂ := [z.a])).symm
      · rw [← ens]
        rfl
      · refine List.nodup_append.mpr ⟨nd, by simp, fun a ha b hb => ?_⟩
        rw [List.mem_singleton.mp hb]
        exact fun e => h3' (e ▸ ha)
      · rcases List.mem_append.mp hx with hx | hx
        · exact hin x hx
        · rw [List.mem_singleton.mp hx]
          exact look _ _ hs
      · rw [hgo, List.length_append]
        exact congrArg (fun y => upF (stK kvs) y (ns ++ [l]) z.a) (show kvs.length + 1 - ns.length = kvs.length + 2 - (ns.length + 1) by omega)
end
end LW
namespace LW
open PySem PySem.Spec PyProof.Rows DL
open L2 hiding del del_ne del_same
/-- a piece asked by another one -/
abbrev Pc.by (z : Pc) (a : Int) : Pc := ⟨z.r, z.n, a, z.h, z.c, z.b, z.e, z.j⟩
def RingAll (ps ds : List Pc) : Prop := ds.length = ps.length ∧ ∀ (j : Nat) (z y : Pc), ps[j]? = some z → ds[j]? = some y → y = z ∨ ∃ one ∈ ps, y = z.by one.n
theorem RingAll.refl (ps : List Pc) : RingAll ps ps := ⟨rfl, fun j z y h1 h2 => .inl (Option.some.inj (h2.symm.trans h1))⟩
theorem RingAll.map {ps : List Pc} {f : Pc → Pc} (h : ∀ z ∈ ps, f z = z ∨ ∃ one ∈ ps, f z = z.by one.n) : RingAll ps (ps.map f) := by
  refine ⟨List.length_map .., fun j z y h1 h2 => ?_⟩
  rw [List.getElem?_map, h1] at h2
  cases h2
  exact h z (List.mem_of_getElem? h1)
theorem feed_dct {M : Mem} {f a : Addr} {n : Int} {kvs : Kvs} (F : Feed M f n) (h : M a = some (.dct kvs)) : a ≠ f := by
  intro e
  subst e
  obtain ⟨cs, at_, left, h3, _⟩ := F
  rw [h] at h3
  cases h3
def ringF (one : Pc) (top : Int) (z : Pc) : Pc := if z.r = one.r ∧ z.n = top ∧ top ≠ one.n then z.by one.n else z
def pr_llringed : Pr := fun ss M q => ∃ (f a : Addr) (n : Int) (ps : List Pc), ss = [.own f, .own a] ∧ M a = some (.lst (lp ps)) ∧ ps ≠ [] ∧ ps.length ≤ 5000 ∧ Feed M f n ∧ n ≤ 2 ^ 37 ∧
  ∀ p ds M', (p = a ∨ M p = none) → M' p = some (.lst (lp ds)) → RingAll ps ds → Feed M' f (n + 5) → Keep f M M' → q (.own p) M'
/-- a heap as the law draws it -/
structure Clock (ds : List Pc) : Prop where
  good : Good (10 ^ 31) ds
  ne : ds ≠ []
  len : ds.length ≤ 24
def pr_llclocks : Pr := fun ss M q => ∃ (f : Addr) (n : Int), ss = [.own f] ∧ Feed M f n ∧ n ≤ 2 ^ 36 ∧ ∀ p ds M', M p = none → M' p = some (.lst (lp ds)) → Clock ds → Feed M' f (n + 80000) → Keep f M M' → q (.own p) M'
theorem ring_good {k : Int} {ps ds : List Pc} (G : Good k ps) (R : RingAll ps ds) (hk : 100 ≤ k) : Good k ds := by
  have at_ : ∀ (j : Nat) (y : Pc), ds[j]? = some y → ∃ z, ps[j]? = some z ∧ z ∈ ps ∧ (y = z ∨ ∃ one ∈ ps, y = z.by one.n) := fun j y hy => by
    have hj : j < ds.length := (List.getElem?_eq_some_iff.mp hy).1
    have hj2 : j < ps.length := by rw [← R.1]; exact hj
    exact ⟨ps[j], List.getElem?_eq_getElem hj2, List.getElem_mem hj2, R.2 j _ y (List.getElem?_eq_getElem hj2) hy⟩
  have same : ∀ {y z : Pc}, (y = z ∨ ∃ one ∈ ps, y = z.by one.n) → y.r = z.r ∧ y.n = z.n ∧ y.h = z.h ∧ y.c = z.c := fun h => by
    rcases h with rfl | ⟨one, _, rfl⟩ <;> exact ⟨rfl, rfl, rfl, rfl⟩
  have of : ∀ y ∈ ds, ∃ z ∈ ps, (y = z ∨ ∃ one ∈ ps, y = z.by one.n) := fun y hy => by
    obtain ⟨j, hj, e⟩ := List.getElem_of_mem hy
    obtain ⟨z, _, h1, h2⟩ := at_ j y (by rw [List.getElem?_eq_getElem hj, e])
    exact ⟨z, h1, h2⟩
  refine ⟨?_, fun y hy => ?_, fun y hy => ?_, fun y hy => ?_, fun y hy => ?_, fun y hy => ?_⟩
  · refine List.pairwise_iff_getElem.mpr fun i j hi hj hij => ?_
    obtain ⟨z, hz, _, b⟩ := at_ i ds[i] (List.getElem?_eq_getElem hi)
    obtain ⟨y, hy, _, c⟩ := at_ j ds[j] (List.getElem?_eq_getElem hj)
    obtain ⟨hi2, ez⟩ := List.getElem?_eq_some_iff.mp hz
    obtain ⟨hj2, ey⟩ := List.getElem?_eq_some_iff.mp hy
    have := List.pairwise_iff_getElem.mp G.sep i j hi2 hj2 hij
    rw [ez, ey] at this
    obtain ⟨b1, b2, b3, b4⟩ := same b
    obtain ⟨c1, c2, c3, c4⟩ := same c
    rw [b1, b2, b3, b4, c1, c2, c3, c4]
    exact this
  all_goals obtain ⟨z, hz, b⟩ := of y hy
  · rw [(same b).1]; exact G.run z hz
  · rw [(same b).2.1]; exact G.num z hz
  · rw [(same b).2.2.1]; exact G.place z hz
  · rw [(same b).2.2.2]; exact G.cnt z hz
  · rcases b with rfl | ⟨one, ho, rfl⟩
    · exact G.sz y hz
    · have h1 := G.sz z hz
      have h2 := G.num one ho
      unfold Sz at *
      dsimp only
      omega
section
variable {P : Program} {w : World} {K : PySem.W.Frag} {mg : Str → Option Value} {base : Heap}
theorem ok_llringed (T : Tx P K mg) : Holds P w K mg base 3 T.f_llringed T.fd_llringed ["feed", "pieces"] pr_llringed := by
  refine holds_of T.F_llringed sc_llringed (fun ss M q h => ?len) (fun cdv A outer s H hr => (xss_cons (xs_if (xb_cmp (sim_I0 fun _ _ _ => .bl _) (pt_cmpR op_gt (xe_call (ok_lldraw T) (hr.mono (by decide)) T.g_lldraw T.F_lldraw.kp T.b_lldraw (xa_cons (xv 0) (xa_cons xe_int xa_nil))) xe_int (nomark _))) (xss_one (xs_ret (xv 1))) xss_nil)
      (xss_cons (xs_asgN (ps_set (i := 2) sc_llringed.nd rfl (by first | exact .inl rfl | exact .inr rfl) (xe_call (ok_lldraw T) (hr.mono (by decide)) T.g_lldraw T.F_lldraw.kp T.b_lldraw (xa_cons (xv 0) (xa_cons (xe_callB sim_len (pe_callB call_lenA rfl T.m_len (by decide +kernel) (xa_cons (xv 1) xa_nil))) xa_nil)))) simLE)
      (xss_cons (xs_asgN (ps_set (i := 3) sc_llringed.nd rfl (by first | exact .inl rfl | exact .inr rfl) (xe_call (ok_llof T) (hr.mono (by decide)) T.g_llof T.F_llof.kp T.b_llof (xa_cons (xv 1) (xa_cons (xe_ix (xe_ix (xv 1) (xv 2)) xe_int) xa_nil)))) simLE)
      (xss_cons (xs_fz (i := 4) (xs_asgN (ps_setLc (i := 4) (own := [("number", 8)]) (g := gName 8) (tt := LB _) rfl sc_llringed.nd rfl rfl (sw_true rfl rfl rfl (by decide +kernel)) (pi_list (xe_call (ok_llup T) (hr.mono (by decide)) T.g_llup T.F_llup.kp T.b_llup (xa_cons (xv 3) (xa_cons (xe_ix (xe_ix (xv 1) (xv 2)) xe_int) xa_nil)))) (blkOk_by (own := [("number", 8)]) (N := N_llringed) (sc := defScope s_llringed) (by decide +kernel)) (fun _ _ _ _ _ => pg_name (i := 8) sc_llringed.nd rfl (.inl rfl)) (fun _ _ _ _ _ => (xts_one (xb_inD (T := false) (pt_cmp (pc_din (Nat.lt_of_le_of_lt (Nat.add_le_add_left (by decide : 1 ≤ 64) _) hr.rm.units) (xv 8) (xv 3)))))) (fun _ _ _ _ _ => (xv 8))) (sim_lcL simLE simLB simLE (by decide))))
      (xss_cons (xs_asgN (ps_set (i := 5) sc_llringed.nd rfl (by first | exact .inl rfl | exact .inr rfl) (xe_ix (xv 4) (xe_call (ok_lldraw T) (hr.mono (by decide)) T.g_lldraw T.F_lldraw.kp T.b_lldraw (xa_cons (xv 0) (xa_cons (xe_callB sim_len (pe_callB call_lenA rfl T.m_len (by decide +kernel) (xa_cons (xv 4) xa_nil))) xa_nil))))) simLE)
      (xss_cons (xs_asgN (ps_set (i := 6) sc_llringed.nd rfl (by first | exact .inl rfl | exact .inr rfl) (xe_lst xa_nil)) simLE)
      (xss_cons (xs_forL (ps_for PassesOwn.never rfl (pi_list (xv 1)) (xg_name (pg_name (i := 7) sc_llringed.nd rfl (by first | exact .inl rfl | exact .inr rfl))) (xss_cut (xs_if (xb_w (xw_and (xb_cmp sim_eq (pt_cmpR (op_eqAll hr.rm.units) (xe_slD (xv 7) xo_none (xo_some xe_int)) (xe_tup (xa_cons (xe_ix (xe_ix (xv 1) (xv 2)) xe_int) (xa_cons (xv 5) xa_nil))) (nomark _))) (xw_and1 (xb_cmp sim_ne (pt_cmpR (op_neAll hr.rm.units) (xv 5) (xe_ix (xe_ix (xv 1) (xv 2)) xe_int) (nomark _)))))) (xss_one (xs_asgN (ps_set (i := 7) sc_llringed.nd rfl (by first | exact .inl rfl | exact .inr rfl) (xe_addD (xe_addD (xe_slD (xv 7) xo_none (xo_some xe_int)) (xe_tup (xa_cons (xe_ix (xe_ix (xv 1) (xv 2)) xe_int) xa_nil))) (xe_slD (xv 7) (xo_some xe_int) xo_none))) simLE)) xss_nil)
      (xss_one (xs_expr (xe_bmL sim_app (pe_bm PySem.F.plainAttrs_list PySem.F.slot_list_append PySem.F.type_list_append mt_append (xv 6) (xa_cons (xv 7) xa_nil))))))))
      (xss_one (xs_ret (xv 6))))))))))) (fun ss M q h => ?read)
  case len =>
    obtain ⟨f, a, n, ps, rfl, _⟩ := h
    rfl
  case read =>
    obtain ⟨f, a, n, ps, rfl, ha, hne, hz, F0, hn, k⟩ := h
    have pos : 0 < ps.length := List.length_pos_iff.mpr hne
    have nfa : a ≠ f := feed_lp F0 ha
    refine ⟨_, rfl, f, 3, _, rfl, by decide, by decide, F0, by omega, fun r1 M1 p1 q1 F1 o1 => And.intro (fun _ => ?_) (fun _ => ?_)⟩
    · exact ⟨_, rfl, k a ps M1 (.inl rfl) ((o1 a nfa).trans ha) (RingAll.refl ps) (F1.up (by omega)) (Keep.of o1)⟩
    have ha1 : M1 a = some (.lst (lp ps)) := (o1 a nfa).trans ha
    refine ⟨_, rfl, _, rfl, _, ha1, f, _, _, rfl, by rw [lp_len]; omega, by rw [lp_len]; omega, F1, by omega, fun r2 M2 p2 q2 F2 o2 => ?_⟩
    rw [lp_len] at q2
    obtain ⟨so, eo, one, hone, rfl⟩ := pick (P := fun s => ∃ q ∈ ps, s = Sl.dat (Pc.d q)) (xs := lp ps) (fun s hs => by
      obtain ⟨q, hq, rfl⟩ := List.mem_map.mp hs
      exact ⟨q, hq, rfl⟩) p2 (by rw [lp_len]; exact q2)
    have ha2 : M2 a = some (.lst (lp ps)) := (o2 a nfa).trans ha1
    refine ⟨_, rfl, _, rfl, _, rfl, _, _, ha2, eo, _, rfl, .own a, ps, one.r, rfl, IsL.own ha2, hz, fun po hpo => ?_⟩
    have npa : ∀ {o : MO}, put M2 po o a = some (.lst (lp ps)) := (put_ne (ne_mem ha2 hpo)).trans ha2
    refine ⟨_, rfl, _, rfl, _, rfl, _, _, npa, eo, _, rfl, po, _, one.n, rfl, put_at, fun k s h => ?_, Nat.le_trans (ofD_len _ _) hz, fun s ns M3 l3 hl3 _ o3 => ?_⟩
    · obtain ⟨z, _, h1, _⟩ := ofD_val h
      exact ⟨z, h1⟩
    have ho3 : M3 po = some (.dct (ofD one.r ps)) := (o3 po (by rw [put_at]; exact nofun)).trans put_at
    have F3 : Feed M3 f (n + 1 + 1) := feed_old (F2.put (F2.ne hpo)) o3
    have ha3 : M3 a = some (.lst (lp ps)) := (o3 a (by rw [npa]; exact nofun)).trans npa
    have K3 : Keep f M M3 := fun x hx h => by
      have h2 : M2 x = M x := (o2 x hx).trans (o1 x hx)
      have h3 : put M2 po (.dct (ofD one.r ps)) x = M2 x := put_ne fun e => h (by rw [← h2, e]; exact hpo)
      rw [o3 x (by rw [h3, h2]; exact h), h3, h2]
    obtain ⟨inO, hin⟩ : ∃ inO : Int → Bool, inO = fun x => (dval (ofD one.r ps) (.inl x)).isSome := ⟨_, rfl⟩
    refine ⟨_, l3, fun pw hpw => ⟨fun i M' => M' = put M3 pw (.lst (li (((one.n :: ns).take i).filter inO))), rfl, fun i M' _ e => by rw [e]; exact l3.put hpw, fun i x M' hx e => ?_, fun M' e => ?_⟩⟩
    · subst e
      rw [List.getElem?_map] at hx
      obtain ⟨y, hy, rfl⟩ : ∃ y, (one.n :: ns)[i]? = some y ∧ Sl.dat (.int y) = x := by
        cases e : (one.n :: ns)[i]? with
        | none => rw [e] at hx; cases hx
        | some y => rw [e] at hx; cases hx; exact ⟨y, rfl, rfl⟩
      have et : (one.n :: ns).take (i + 1) = (one.n :: ns).take i ++ [y] := by rw [List.take_add_one, hy]; rfl
      have hi : i < (one.n :: ns).length := (List.getElem?_eq_some_iff.mp hy).1
      have lc := List.length_filter_le inO ((one.n :: ns).take i)
      rw [List.length_take] at lc
      have hl4 : ns.length ≤ 5001 := by
        have := ofD_len one.r ps
        omega
      rw [List.length_cons] at hi
      have hop : po ≠ pw := ne_mem ho3 hpw
      refine ⟨_, rfl, _, rfl, po, _, .int y, .inl y, rfl, .inl ((put_ne hop).trans ho3), rfl, rfl, And.intro (fun h => ?_) (fun h => ?_)⟩
      · refine ⟨_, rfl, _, put_at, by rw [List.length_map]; omega, ?_⟩
        have ef : [y].filter inO = [y] := by
          rw [hin]
          have : (dval (ofD one.r ps) (.inl y)).isSome = true := h
          simp [this]
        dsimp only
        rw [put_put, et, List.filter_append, ef]
        exact congrArg (fun z => put M3 pw (MO.lst z)) (List.map_append (l₂ := [y])).symm
      · have ef : [y].filter inO = [] := by
          rw [hin]
          have : (dval (ofD one.r ps) (.inl y)).isSome = false := h
          simp [this]
        dsimp only
        rw [et, List.filter_append, ef, List.append_nil]
    rw [List.length_map, List.take_length] at e
    subst e
    obtain ⟨wk, hwk⟩ : ∃ wk, wk = (one.n :: ns).filter inO := ⟨_, rfl⟩
    rw [← hwk]
    have pw0 : 0 < wk.length := by
      refine List.length_pos_of_mem (a := one.n) ?_
      rw [hwk]
      refine List.mem_filter.mpr ⟨List.mem_cons_self .., ?_⟩
      rw [hin]
      exact ofD_has hone rfl
    have lw : wk.length ≤ 5002 := by
      have h1 := List.length_filter_le inO (one.n :: ns)
      have h2 := ofD_len one.r ps
      rw [List.length_cons] at h1
      rw [hwk]
      omega
    refine ⟨pw, wk.map .int, rfl, put_at.trans (congrArg (fun z => some (MO.lst z)) (li_dat _)), ?_⟩
    rw [del_put hpw]
    refine ⟨_, rfl, _, rfl, _, rfl, f, _, _, rfl, by rw [List.length_map]; omega, by rw [List.length_map]; omega, F3, by omega, fun r4 M4 p4 q4 F4 o4 => ?_⟩
    rw [List.length_map] at q4
    obtain ⟨top, et, _⟩ := pickI (P := fun _ => True) (xs := wk) (fun _ _ => trivial) p4 q4
    refine ⟨_, et, ?_⟩
    have ha4 : M4 a = some (.lst (lp ps)) := (o4 a nfa).trans ha3
    have K4 : Keep f M M4 := K3.trans (Keep.of o4)
    refine ⟨rfl, fun pf hpf => ?_⟩
    have hpfM : M pf = none := K4.no (F4.ne hpf).symm hpf
    have ha5 : ∀ {o : MO}, put M4 pf o a = some (.lst (lp ps)) := (put_ne (ne_mem ha4 hpf)).trans ha4
    refine ⟨_, rfl, _, IsL.own ha5, fun i Γ' M' => ∃ x7 : Option Sl, Γ' = [some (.own f), some (.own a), some (.dat (.int r2)), some (.own po), some (.dat (.list (wk.map .int))), some (.dat (.int top)), some (.own pf), x7, none] ∧ M' = put M4 pf (.lst (lp ((ps.take i).map (ringF one top)))), ⟨_, rfl, rfl⟩, ?_, ?_, ?_⟩
    · rintro i Γ' M' _ ⟨x7, rfl, rfl⟩
      exact IsL.own ha5
    · rintro i x Γ' M' hx ⟨x7, rfl, rfl⟩
      obtain ⟨z, hz1, rfl⟩ := lp_mem hx
      have hi : i < ps.length := (List.getElem?_eq_some_iff.mp hz1).1
      have et1 : ps.take (i + 1) = ps.take i ++ [z] := by rw [List.take_add_one, hz1]; rfl
      refine ⟨fun Γ' M' => Γ' = [some (.own f), some (.own a), some (.dat (.int r2)), some (.own po), some (.dat (.list (wk.map .int))), some (.dat (.int top)), some (.own pf), some (.dat (ringF one top z).d), none] ∧ M' = put M4 pf (.lst (lp ((ps.take i).map (ringF one top)))), ?_, ?_⟩
      · have no : ¬ (z.r = one.r ∧ z.n = top ∧ top ≠ one.n) → ringF one top z = z := fun h => if_neg h
        have ee : PyData.eqv (.tuple [.int z.r, .int z.n]) (.tuple [.int one.r, .int top]) = (decide (z.r = one.r) && decide (z.n = top)) := by
          show (decide (z.r = one.r) && (decide (z.n = top) && true)) = _
          rw [Bool.and_true]
        refine ⟨_, rfl, _, rfl, _, rfl, _, _, ha5, eo, _, rfl, _, rfl, rfl, _, rfl, _, _, .inl rfl, .inl rfl, rfl, rfl, And.intro (fun h => ?_) (fun h => ?_)⟩
        · have h1 : (decide (z.r = one.r) && decide (z.n = top)) = true := ee.symm.trans h
          rw [Bool.and_eq_true, decide_eq_true_eq, decide_eq_true_eq] at h1
          refine ⟨_, rfl, _, rfl, _, rfl, _, _, ha5, eo, _, rfl, And.intro (fun h2 => ?_) (fun h2 => ?_)⟩
          · have h2' : top ≠ one.n := by
              have : (!decide (top = one.n)) = true := h2
              simpa using this
            have ey : ringF one top z = z.by one.n := if_pos ⟨h1.1, h1.2, h2'⟩
            refine ⟨_, rfl, _, rfl, _, rfl, _, _, ha5, eo, _, rfl, rfl, _, rfl, Nat.le_trans (Nat.add_le_add_right (cut_len _ _ _) _) (show 8 + 1 ≤ 16777216 by decide), _, rfl, ?_, ?_⟩
            · show (cut _ _ _ ++ [_]).length + (cut _ _ _).length ≤ 16777216
              have c1 := cut_len (pc z.r z.n z.a z.h z.c z.b z.e z.j) none (some 2)
              have c2 := cut_len (pc z.r z.n z.a z.h z.c z.b z.e z.j) (some 3) none
              have c3 : (pc z.r z.n z.a z.h z.c z.b z.e z.j).length = 8 := rfl
              rw [List.length_append]
              show _ + 1 + _ ≤ _
              omega
            · refine ⟨?_, rfl⟩
              rw [ey]
              rfl
          · have h2' : ¬ top ≠ one.n := by
              have : (!decide (top = one.n)) = false := h2
              simpa using this
            rw [no fun h => h2' h.2.2]
            exact ⟨rfl, rfl⟩
        · have h1 : (decide (z.r = one.r) && decide (z.n = top)) = false := ee.symm.trans h
          rw [no fun h => by rw [decide_eq_true h.1, decide_eq_true h.2.1] at h1; cases h1]
          exact And.intro (fun z => nomatch z) (fun _ => ⟨rfl, rfl⟩)
      · rintro Γ' M' ⟨rfl, rfl⟩
        refine ⟨_, rfl, ⟨_, IsL.own put_at⟩, _, rfl, _, put_at, by rw [lp_len, List.length_map, List.length_take]; omega, ?_⟩
        refine ⟨_, rfl, ?_⟩
        rw [put_put, et1, List.map_append]
        exact congrArg (fun z => put M4 pf (MO.lst z)) (List.map_append (f := fun p : Pc => Sl.dat p.d) (l₂ := [ringF one top z])).symm
    · rintro Γ' M' ⟨x7, rfl, rfl⟩
      rw [lp_len, List.take_length]
      refine ⟨_, rfl, k pf (ps.map (ringF one top)) _ (.inr hpfM) put_at (RingAll.map fun z hz => ?_) ((F4.up (by omega)).put (F4.ne hpf)) (K4.to hpfM)⟩
      unfold ringF
      by_cases e : z.r = one.r ∧ z.n = top ∧ top ≠ one.n
      · rw [if_pos e]
        exact .inr ⟨one, hone, rfl⟩
      · rw [if_neg e]
        exact .inl rfl
end
end LW
namespace LW
open PySem PySem.Spec PyProof.Rows DL
open L2 hiding del del_ne del_same
def pr_llchain : Pr := fun ss M q => ∃ (f : Addr) (n run many : Int), ss = [.own f, .dat (.int run), .dat (.int many)] ∧ Feed M f n ∧ n ≤ 2 ^ 37 ∧ 1 ≤ many ∧ many ≤ 100 ∧
  ∀ (p : Addr) (ps : List Pc) kvs' M', M p = none → M' p = some (.lst (lp ps)) → ps.length = many.toNat → Run run 8 (10 ^ 6) [] kvs' ps → (∀ z ∈ ps, 0 ≤ z.b ∧ z.e ≤ 10 ^ 6) → Feed M' f (n + 5000) → Keep f M M' → q (.own p) M'
section
variable {P : Program} {w : World} {K : PySem.W.Frag} {mg : Str → Option Value} {base : Heap}
end
end LW
namespace LW
open PySem PySem.Spec PyProof.Rows DL
open L2 hiding del del_ne del_same
/-! ### ways up -/
theorem upF_pre {st : Int → Option Int} : ∀ (k : Nat) (acc : List Int) (n : Int), ∃ t, upF st k acc n = acc ++ t
  | 0, acc, _ => ⟨[], (List.append_nil _).symm⟩
  | k + 1, acc, n => by
    unfold upF
    by_cases h : n ∈ acc
    · rw [if_pos h]
      exact ⟨[], (List.append_nil _).symm⟩
    · rw [if_neg h]
      cases hs : st n with
      | none => exact ⟨[n], rfl⟩
      | some a =>
        obtain ⟨t, e⟩ := upF_pre k (acc ++ [n]) a
        exact ⟨[n] ++ t, by dsimp only; rw [e, List.append_assoc]⟩
theorem upF_head {st : Int → Option Int} (k : Nat) (n : Int) : ∃ t, upF st (k + 1) [] n = n :: t := by
  unfold upF
  rw [if_neg (by simp)]
  cases hs : st n with
  | none => exact ⟨[], rfl⟩
  | some a =>
    obtain ⟨t, e⟩ := upF_pre (st := st) k ([] ++ [n]) a
    exact ⟨t, by dsimp only; rw [e]; rfl⟩
theorem upF_nodup {st : Int → Option Int} : ∀ (k : Nat) (acc : List Int) (n : Int), acc.Nodup → (upF st k acc n).Nodup
  | 0, acc, _, h => h
  | k + 1, acc, n, h => by
    unfold upF
    by_cases hn : n ∈ acc
    · rw [if_pos hn]
      exact h
    · rw [if_neg hn]
      have h2 : (acc ++ [n]).Nodup := List.nodup_append.mpr ⟨h, by simp, fun a ha b hb => by
        rw [List.mem_singleton.mp hb]
        rintro rfl
        exact hn ha⟩
      cases hs : st n with
      | none => exact h2
      | some a => exact upF_nodup k _ a h2
theorem upF_go {st : Int → Option Int} {k : Nat} {acc : List Int} {n : Int} (hn : n ∉ acc) : upF st (k + 1) acc n = match st n with
    | none => acc ++ [n]
    | some a => upF st k (acc ++ [n]) a := if_neg hn
theorem upF_in {st : Int → Option Int} {k : Nat} {acc : List Int} {n : Int} (hn : n ∈ acc) : upF st (k + 1) acc n = acc := if_pos hn
/-- a dict of pieces by their numbers -/
structure PcK (kvs : Kvs) : Prop where
  val : ∀ q ∈ kvs, ∃ z : Pc, q.2 = .dat z.d ∧ -1 ≤ z.a ∧ z.a ≤ 99
  key : ∀ q ∈ kvs, ∃ n : Int, q.1 = .inl n ∧ 0 ≤ n ∧ n ≤ 99
  nd : (kvs.map (·.1)).Nodup
  len : kvs.length < 64
theorem PcK.pc {kvs : Kvs} (P : PcK kvs) (k : Key) (s : Sl) (h : dval kvs k = some s) : ∃ z : Pc, s = .dat z.d ∧ -1 ≤ z.a := (P.val _ (dval_mem h)).imp fun z h => ⟨h.1, h.2.1⟩
theorem PcK.st {kvs : Kvs} (P : PcK kvs) {n a : Int} (h : stK kvs n = some a) : 0 ≤ a ∧ ∃ z : Pc, dval kvs (.inl n) = some (.dat z.d) ∧ z.a = a := by
  cases hv : dval kvs (.inl n) with
  | none => rw [stK_none hv] at h; cases h
  | some s =>
    obtain ⟨z, rfl, _⟩ := P.pc _ _ hv
    rw [stK_some hv] at h
    by_cases e : 0 ≤ z.a
    · rw [if_pos e] at h
      cases h
      exact ⟨e, z, rfl, rfl⟩
    · rw [if_neg e] at h
      cases h
theorem PcK.mem {kvs : Kvs} {n : Int} (h : (dval kvs (.inl n)).isSome = true) : (Sum.inl n : Key) ∈ kvs.map (·.1) := by
  obtain ⟨s, hs⟩ := Option.isSome_iff_exists.mp h
  exact List.mem_map.mpr ⟨_, dval_mem hs, rfl⟩
def pr_is_whole : Pr := fun ss M q => ∃ d : Dt, ss = [.dat d] ∧ q (.dat (.bool (isiD "int" d && !isiD "bool" d))) M
def pr_asker_of : Pr := fun ss M q => ∃ (a : Addr) (kvs : Kvs) (n : Int), ss = [.own a, .dat (.int n)] ∧ IsDK M a kvs ∧ PcK kvs ∧ q (.dat (.int ((stK kvs n).getD (-1)))) M
def pr_numbers_up : Pr := fun ss M q => ∃ (a : Addr) (kvs : Kvs) (n : Int), ss = [.own a, .dat (.int n)] ∧ IsDK M a kvs ∧ PcK kvs ∧ n ≠ -1 ∧ ∀ p M', M p = none → M' p = some (.lst (li (upF (stK kvs) (kvs.length + 2) [] n))) → (∀ x, M x ≠ none → M' x = M x) → q (.own p) M'
theorem isDK_keep {M M' : Mem} {a : Addr} {kvs : Kvs} (h : IsDK M a kvs) (k : ∀ x, M x ≠ none → M' x = M x) : IsDK M' a kvs := by
  rcases h with h | ⟨od, ws, h⟩
  · exact .inl ((k a (by rw [h]; exact nofun)).trans h)
  · exact .inr ⟨od, ws, (k a (by rw [h]; exact nofun)).trans h⟩
theorem isDK_some {M : Mem} {a : Addr} {kvs : Kvs} (h : IsDK M a kvs) : M a ≠ none := by
  rcases h with h | ⟨od, ws, h⟩ <;> (rw [h]; exact nofun)
section
variable {P : Program} {w : World} {K : PySem.W.Frag} {mg : Str → Option Value} {base : Heap}
theorem ok_is_whole (T : Tx P K mg) : Holds P w K mg base 1 T.f_is_whole T.fd_is_whole ["thing"] pr_is_whole := by
  refine holds_of T.F_is_whole sc_is_whole (fun ss M q h => ?len) (fun cdv A outer s H hr => (xss_one (xs_ret (xe_and (xe_callB sim_isi (pe_callB call_isi rfl T.m_isinstance (by decide +kernel) (xa_cons (xv 0) (xa_cons (xe_raw (pe_bltn (v := .ty "int") rfl T.m_int (by decide +kernel) rfl)) xa_nil)))) (xe_one (xe_not (xe_callB sim_isi (pe_callB call_isi rfl T.m_isinstance (by decide +kernel) (xa_cons (xv 0) (xa_cons (xe_raw (pe_bltn (v := .ty "bool") rfl T.m_bool (by decide +kernel) rfl)) xa_nil)))))))))) (fun ss M q h => ?read)
  case len =>
    obtain ⟨d, rfl, _⟩ := h
    rfl
  case read =>
    obtain ⟨d, rfl, k⟩ := h
    refine ⟨_, rfl, .inl rfl, And.intro (fun h => ?_) (fun h => ?_)⟩
    · rw [h, Bool.true_and] at k
      exact ⟨_, rfl, .inr (.inl rfl), k⟩
    · rw [h, Bool.false_and] at k
      exact k
theorem ok_asker_of (T : Tx P K mg) : Holds P w K mg base 1 T.f_asker_of T.fd_asker_of ["pieces", "number"] pr_asker_of := by
  refine holds_of T.F_asker_of sc_asker_of (fun ss M q h => ?len) (fun cdv A outer s H hr => (xss_one (xs_ret (xe_if (xb_inD (T := false) (pt_cmp (pc_din (Nat.lt_of_le_of_lt (Nat.add_le_add_left (by decide : 1 ≤ 64) _) hr.rm.units) (xv 1) (xv 0)))) (xe_ix (xe_dixK (pe_dget (Nat.lt_of_le_of_lt (Nat.add_le_add_left (by decide : 1 ≤ 64) _) hr.rm.units) (xv 0) (xv 1) (by exact fun _ _ => rfl))) (xe_globI T.c_ASKER)) (xe_globI T.c_NO_ASKER))))) (fun ss M q h => ?read)
  case len =>
    obtain ⟨a, kvs, n, rfl, _⟩ := h
    rfl
  case read =>
    obtain ⟨a, kvs, n, rfl, hm, P, k⟩ := h
    refine ⟨_, rfl, _, rfl, a, kvs, .int n, .inl n, rfl, hm, rfl, rfl, And.intro (fun h => ?_) (fun h => ?_)⟩
    · obtain ⟨s, hs⟩ : ∃ s, dval kvs (.inl n) = some s := Option.isSome_iff_exists.mp h
      obtain ⟨z, rfl, hz⟩ := P.pc _ _ hs
      refine ⟨_, rfl, _, rfl, a, kvs, .int n, .inl n, _, rfl, hm, rfl, rfl, hs, _, rfl, ?_⟩
      rw [stK_some hs] at k
      by_cases e : 0 ≤ z.a
      · rw [if_pos e] at k
        exact k
      · rw [if_neg e] at k
        have e1 : z.a = -1 := by omega
        rw [show (none : Option Int).getD (-1) = z.a from e1.symm] at k
        exact k
    · have hn : dval kvs (.inl n) = none := Option.not_isSome_iff_eq_none.mp (by
        have h' : (dval kvs (.inl n)).isSome = false := h
        rw [h']
        exact Bool.false_ne_true)
      rw [stK_none hn] at k
      exact k
theorem ok_numbers_up (T : Tx P K mg) : Holds P w K mg base 2 T.f_numbers_up T.fd_numbers_up ["pieces", "number"] pr_numbers_up := by
  refine holds_of T.F_numbers_up sc_numbers_up (fun ss M q h => ?len) (fun cdv A outer s H hr => (xss_cons (xs_asgN (ps_set (i := 2) sc_numbers_up.nd rfl (by first | exact .inl rfl | exact .inr rfl) (xe_lst xa_nil)) simLE)
      (xss_cons (xs_while (ps_while PassesOwn.never (xb_w (xw_and (xb_cmp sim_ne (pt_cmpR (op_neAll hr.rm.units) (xv 1) (xe_globI T.c_NO_ASKER) (nomark _))) (xw_and1 (xb_cmp (sim_inI true) (pt_cmpR op_notIn_seq (xv 1) (xv 2) rfl))))) (xss_cons (xs_expr (xe_bmL sim_app (pe_bm PySem.F.plainAttrs_list PySem.F.slot_list_append PySem.F.type_list_append mt_append (xv 2) (xa_cons (xv 1) xa_nil))))
      (xss_one (xs_asgN (ps_set (i := 1) sc_numbers_up.nd rfl (by first | exact .inl rfl | exact .inr rfl) (xe_call (ok_asker_of T) (hr.mono (by decide)) T.g_asker_of T.F_asker_of.kp T.b_asker_of (xa_cons (xv 0) (xa_cons (xv 1) xa_nil)))) simLE)))))
      (xss_one (xs_ret (xv 2)))))) (fun ss M q h => ?read)
  case len =>
    obtain ⟨a, kvs, n, rfl, _⟩ := h
    rfl
  case read =>
    obtain ⟨a, kvs, n, rfl, hm, P, hn1, k⟩ := h
    refine ⟨rfl, fun p hp => ?_⟩
    have hap : a ≠ p := fun e => isDK_some hm (by rw [e]; exact hp)
    have keep : ∀ {ob : MO} (x : Addr), M x ≠ none → put M p ob x = M x := fun x hx => put_ne fun e => hx (by rw [e]; exact hp)
    have hlen := P.len
    obtain ⟨res, hres⟩ : ∃ res, res = upF (stK kvs) (kvs.length + 2) [] n := ⟨_, rfl⟩
    rw [← hres] at k
    refine ⟨fun m Γ' M' => ∃ (l : Int) (ns : List Int), Γ' = [some (.own a), some (.dat (.int l)), some (.own p)] ∧ M' = put M p (.lst (li ns)) ∧ ns.length ≤ kvs.length + 1 ∧ m = kvs.length + 2 - ns.length ∧ ((l = -1 ∧ ns = res) ∨ (l ≠ -1 ∧ ns.Nodup ∧ (∀ x ∈ ns, (Sum.inl x : Key) ∈ kvs.map (·.1)) ∧ res = upF (stK kvs) (kvs.length + 2 - ns.length) ns l)), ⟨_, n, [], rfl, rfl, Nat.zero_le _, rfl, .inr ⟨hn1, List.nodup_nil, (fun x hx => nomatch hx), hres⟩⟩, ?_⟩
    rintro m Γ' M' ⟨l, ns, rfl, rfl, hle, rfl, hcase⟩
    have hfin : ns = res → q (.own p) (put M p (.lst (li ns))) := fun e => k p _ hp (by rw [put_at, e]) keep
    rcases hcase with ⟨rfl, e⟩ | ⟨hl1, nd, hin, hup⟩
    · exact ⟨_, rfl, And.intro (fun h => nomatch h) (fun _ => And.intro (fun z => nomatch z) (fun _ => ⟨_, rfl, hfin e⟩))⟩
    have hns : ns.length ≤ kvs.length := by
      have := DS.nodup_le (ns.map (Sum.inl (β := Str))) (kvs.map (·.1)) (List.pairwise_map.mpr (nd.imp fun h e => h (Sum.inl.inj e))) fun k hk => by
        obtain ⟨x, hx, rfl⟩ := List.mem_map.mp hk
        exact hin x hx
      rw [List.length_map, List.length_map] at this
      exact this
    have efu : kvs.length + 2 - ns.length = (kvs.length + 1 - ns.length) + 1 := by omega
    rw [efu] at hup
    refine ⟨_, rfl, And.intro (fun _ => ?_) (fun h => absurd (show (!decide (l = -1)) = false from h) (by rw [decide_eq_false hl1]; decide))⟩
    refine ⟨_, rfl, _, rfl, l, ns, rfl, IsL.own put_at, And.intro (fun h => ?_) (fun h => (fun hl : l ∈ ns => ⟨_, rfl, hfin ((upF_in hl).symm.trans hup.symm)⟩) (by
      have h' : (!decide (l ∈ ns)) = false := h
      simpa using h'))⟩
    have hl : l ∉ ns := by
      have h' : (!decide (l ∈ ns)) = true := h
      simpa using h'
    rw [upF_go hl] at hup
    refine ⟨_, rfl, ⟨_, IsL.own put_at⟩, _, rfl, _, put_at, by rw [List.length_map]; omega, ?_⟩
    rw [put_put]
    have eapp : (li ns ++ [Sl.dat (.int l)]) = li (ns ++ [l]) := (List.map_append (l₂ := [l])).symm
    rw [eapp]
    have hmp : IsDK (put M p (.lst (li (ns ++ [l])))) a kvs := isDK_keep hm keep
    refine ⟨_, rfl, _, rfl, a, kvs, l, rfl, hmp, P, ?_⟩
    refine ⟨kvs.length + 2 - (ns ++ [l]).length, ?_, _, ns ++ [l], rfl, rfl, ?_, rfl, ?_⟩
    · rw [List.length_append]
      show _ - (ns.length + 1) < _
      omega
    · rw [List.length_append]
      show ns.length + 1 ≤ _
      omega
    cases hs : stK kvs l with
    | none =>
      rw [hs] at hup
      exact .inl ⟨rfl, hup.symm⟩
    | some b =>
      rw [hs] at hup
      obtain ⟨hb, z, hz, _⟩ := P.st hs
      refine .inr ⟨fun e => ?_, List.nodup_append.mpr ⟨nd, by simp, fun x hx y hy => ?_⟩, fun x hx => ?_, ?_⟩
      · have : b = -1 := e
        omega
      · rw [List.mem_singleton.mp hy]
        rintro rfl
        exact hl hx
      · rcases List.mem_append.mp hx with hx | hx
        · exact hin x hx
        · rw [List.mem_singleton.mp hx]
          exact PcK.mem (by rw [hz]; rfl)
      · rw [hup, List.length_append]
        exact congrArg (fun y => upF (stK kvs) y (ns ++ [l]) b) (show kvs.length + 1 - ns.length = kvs.length + 2 - (ns.length + 1) by omega)
end
end LW
namespace LW
open PySem PySem.Spec PyProof.Rows DL
open L2 hiding del del_ne del_same
def ringAt (st : Int → Option Int) (K : Nat) (n : Int) : Prop := closes st (upF st K [] n) = some n
theorem dval_key {kvs : Kvs} (P : PcK kvs) {n : Int} (h : (dval kvs (.inl n)).isSome = true) : ∃ q ∈ kvs, q.1 = .inl n := by
  obtain ⟨s, hs⟩ := Option.isSome_iff_exists.mp h
  exact ⟨_, dval_mem hs, rfl⟩
theorem dval_of : ∀ {kvs : Kvs} {q : Key × Sl}, (kvs.map (·.1)).Nodup → q ∈ kvs → dval kvs q.1 = some q.2
  | [], _, _, h => nomatch h
  | (a, x) :: kvs, q, nd, h => by
    rw [List.map_cons, List.nodup_cons] at nd
    rw [dval_cons]
    rcases List.mem_cons.mp h with rfl | h
    · rw [if_pos rfl]
    · rw [if_neg fun e : a = q.1 => nd.1 (List.mem_map.mpr ⟨q, h, e.symm⟩)]
      exact dval_of nd.2 h
theorem up_last {st : Int → Option Int} (k : Nat) (n : Int) : ∃ l, (upF st (k + 1) [] n).getLast? = some l ∧ closes st (upF st (k + 1) [] n) = st l ∧ atI (li (upF st (k + 1) [] n)) (-1) = some (.dat (.int l)) := by
  obtain ⟨t, e⟩ := upF_head (st := st) k n
  rw [e]
  obtain ⟨l, hl⟩ : ∃ l, (n :: t).getLast? = some l := ⟨_, List.getLast?_eq_some_getLast (List.cons_ne_nil _ _)⟩
  refine ⟨l, hl, ?_, atI_last ?_⟩
  · unfold closes
    rw [hl]
    rfl
  · show ((n :: t).map _).getLast? = _
    rw [List.getLast?_map, hl]
    rfl
def keysI (kvs : Kvs) : List Int := kvs.map fun q => match q.1 with
  | .inl n => n
  | .inr _ => 0
theorem keysI_inl {kvs : Kvs} (P : PcK kvs) : kvs.map (·.1) = (keysI kvs).map Sum.inl := by
  unfold keysI
  rw [List.map_map]
  refine List.map_congr_left fun q hq => ?_
  obtain ⟨n, hn, _⟩ := P.key q hq
  show q.1 = Sum.inl (match q.1 with | .inl n => n | .inr _ => 0)
  rw [hn]
theorem keysI_mem {kvs : Kvs} (P : PcK kvs) {v : Int} : v ∈ keysI kvs ↔ (dval kvs (.inl v)).isSome = true := by
  constructor
  · intro h
    have h2 : (Sum.inl v : Key) ∈ kvs.map (·.1) := by rw [keysI_inl P]; exact List.mem_map.mpr ⟨v, h, rfl⟩
    obtain ⟨q, hq, e⟩ := List.mem_map.mp h2
    rw [← e, dval_of P.nd hq]
    rfl
  · intro h
    have h2 := PcK.mem h
    rw [keysI_inl P] at h2
    obtain ⟨w, hw, e⟩ := List.mem_map.mp h2
    rw [← Sum.inl.inj e]
    exact hw
theorem keysI_nd {kvs : Kvs} (P : PcK kvs) : (keysI kvs).Nodup := by
  have h := P.nd
  rw [keysI_inl P] at h
  exact DS.nodup_map h
theorem keysI_box {kvs : Kvs} (P : PcK kvs) : ∀ v ∈ keysI kvs, 0 ≤ v ∧ v ≤ 99 := fun v hv => by
  obtain ⟨q, hq, e⟩ := dval_key P ((keysI_mem P).mp hv)
  obtain ⟨n, hn, h⟩ := P.key q hq
  rw [e] at hn
  cases hn
  exact h
theorem keysI_len (kvs : Kvs) : (keysI kvs).length = kvs.length := List.length_map ..
theorem asc_of {xs : List Int} (h : xs.Pairwise (· ≤ ·)) (nd : xs.Nodup) : xs.Pairwise (· < ·) := (h.and nd).imp fun {a b} h => by
  have := h.1
  have h2 : a ≠ b := h.2
  omega
theorem isnot_dat {M : Mem} {d : Dt} {k : DK} (h : k (.dat (.bool (!isNoD d))) M) : fIs true (.dat d) (.dat .none) M k := by
  cases d <;> exact h
theorem unlock_put {M : Mem} {a p : Addr} {u L o : MO} (h : M a = some u) (hp : put M a L p = none) : put (put (put M a L) p o) a u = put M p o := by
  have nap : a ≠ p := fun e => by rw [← e, put_at] at hp; cases hp
  funext x
  by_cases e : x = a
  · subst e
    rw [put_at, put_ne nap, h]
  · rw [put_ne e]
    by_cases e2 : x = p
    · subst e2
      rw [put_at, put_at]
    · rw [put_ne e2, put_ne e2, put_ne e]
theorem keep2 {M M1 M2 : Mem} (h1 : ∀ x, M x ≠ none → M1 x = M x) (h2 : ∀ x, M1 x ≠ none → M2 x = M1 x) : ∀ x, M x ≠ none → M2 x = M x := fun x hx => (h2 x (by rw [h1 x hx]; exact hx)).trans (h1 x hx)
theorem keep_at {M M' : Mem} {a : Addr} {o : MO} (k : ∀ x, M x ≠ none → M' x = M x) (h : M a = some o) : M' a = some o := (k a (by rw [h]; exact nofun)).trans h
theorem keep_put {M : Mem} {p : Addr} {o : MO} (h : M p = none) : ∀ x, M x ≠ none → put M p o x = M x := fun x hx => put_ne fun e => hx (by rw [e]; exact h)
theorem len_li {M : Mem} {s : Sl} {xs : List Sl} {k : DK} (l : IsL M s xs) (h : k (.dat (.int xs.length)) M) : fLen [s] M k := by
  rcases l with ⟨ds, rfl, rfl⟩ | ⟨a, rfl, hm⟩
  · rw [List.length_map] at h
    exact h
  · exact ⟨_, hm, h⟩
theorem cut_li {M : Mem} {s : Sl} {ns : List Int} {lo hi : Option Int} {k : DK} (l : IsL M s (li ns)) (h : k (.dat (.list (cut (ns.map PyData.int) lo hi))) M) : fSlD s lo hi M k := by
  rw [li_dat] at l
  rcases l with ⟨ds, rfl, e⟩ | ⟨a, rfl, hm⟩
  · exact ⟨ns.map .int, .inl ⟨ds, rfl, e⟩, h⟩
  · exact ⟨ns.map .int, IsL.own hm, h⟩
theorem ix_li {M : Mem} {s : Sl} {ns : List Int} {i v : Int} {k : DK} (l : IsL M s (li ns)) (hv : atI (li ns) i = some (.dat (.int v))) (h : k (.dat (.int v)) M) : fIx s (.dat (.int i)) M k := by
  rcases l with ⟨ds, rfl, e⟩ | ⟨a, rfl, hm⟩
  · rw [e] at hv
    refine ⟨.int v, ?_, h⟩
    unfold atI at hv ⊢
    rw [List.length_map] at hv
    cases hj : ixN ds.length i with
    | none => rw [hj] at hv; cases hv
    | some j =>
      rw [hj] at hv
      have hv' : (ds.map Sl.dat)[j]? = some (.dat (.int v)) := hv
      rw [List.getElem?_map] at hv'
      show ds[j]? = _
      cases hd : ds[j]? with
      | none => rw [hd] at hv'; cases hv'
      | some d => rw [hd] at hv'; cases hv'; rfl
  · exact ⟨_, _, hm, hv, h⟩
def ringB (kvs : Kvs) (n : Int) : Bool := decide (closes (stK kvs) (upF (stK kvs) (kvs.length + 2) [] n) = some n)
def RingE (kvs : Kvs) (ns : List Int) : Option (List Int) := (ns.find? (ringB kvs)).map fun n => upF (stK kvs) (kvs.length + 2) [] n
def ringDt (tup : Bool) : Option (List Int) → Dt
  | none => .none
  | some ws => if tup then .tuple (ws.map .int) else .list (ws.map .int)
/-- the numbers of a run's pieces, rising -/
structure NsOf (kvs : Kvs) (ns : List Int) : Prop where
  asc : ns.Pairwise (· < ·)
  has : ∀ n, n ∈ ns ↔ (dval kvs (.inl n)).isSome = true
theorem find_asc {p : Int → Bool} : ∀ {ns : List Int} {n : Int}, ns.Pairwise (· < ·) → n ∈ ns → p n = true → (∀ m ∈ ns, m < n → p m = false) → ns.find? p = some n
  | x :: xs, n, asc, hn, hp, lo => by
    rw [List.find?_cons]
    rcases List.mem_cons.mp hn with rfl | h
    · rw [hp]
    · rw [lo x (List.mem_cons_self ..) ((List.pairwise_cons.mp asc).1 n h)]
      exact find_asc (List.pairwise_cons.mp asc).2 h hp fun m hm => lo m (List.mem_cons_of_mem _ hm)
theorem find_at {p : Int → Bool} : ∀ {ns : List Int} {i : Nat} {n : Int}, ns[i]? = some n → p n = true → (∀ m ∈ ns.take i, p m = false) → ns.find? p = some n
  | x :: xs, 0, n, h, hp, _ => by
    cases h
    rw [List.find?_cons, hp]
  | x :: xs, i + 1, n, h, hp, lo => by
    rw [List.find?_cons, lo x (List.mem_cons_self ..)]
    exact find_at (ns := xs) (i := i) h hp fun m hm => lo m (List.mem_cons_of_mem _ hm)
theorem asc_eq {xs ys : List Int} (h1 : xs.Pairwise (· < ·)) (h2 : ys.Pairwise (· < ·)) (h : ∀ n, n ∈ xs ↔ n ∈ ys) : xs = ys := by
  refine List.Perm.eq_of_pairwise (le := fun a b => decide (a < b)) (fun a b _ _ hab hba => ?_) (h1.imp fun h => decide_eq_true h) (h2.imp fun h => decide_eq_true h) ((List.perm_ext_iff_of_nodup (h1.imp fun h e => by omega) (h2.imp fun h e => by omega)).mpr h)
  have := of_decide_eq_true hab
  have := of_decide_eq_true hba
  omega
theorem cut_last {α : Type} (xs : List α) (y : α) : cut (xs ++ [y]) none (some (-1)) = xs := by
  unfold cut
  have h0 : HT.sIx (xs ++ [y]).length 0 none = 0 := rfl
  have h1 : HT.sIx (xs ++ [y]).length (xs ++ [y]).length (some (-1)) = xs.length := by
    rw [List.length_append]
    show HT.sIx (xs.length + 1) (xs.length + 1) (some (-1)) = _
    simp [HT.sIx]
    omega
  rw [h0, h1, List.drop_zero, Nat.sub_zero, List.take_left]
def pr_ring : Pr := fun ss M q => ∃ (a : Addr) (kvs : Kvs), ss = [.own a] ∧ M a = some (.dct kvs) ∧ PcK kvs ∧ ∀ M', (∀ x, M x ≠ none → M' x = M x) → q (.dat (ringDt true (RingE kvs (keysI kvs)))) M'
def pr_lring : Pr := fun ss M q => ∃ (a : Addr) (kvs : Kvs) (ns : List Int), ss = [.own a] ∧ M a = some (.dct kvs) ∧ PcK kvs ∧ NsOf kvs ns ∧ ∀ M', (∀ x, M x ≠ none → M' x = M x) → q (.dat (ringDt false (RingE kvs ns))) M'
section
variable {P : Program} {w : World} {K : PySem.W.Frag} {mg : Str → Option Value} {base : Heap}
theorem ok_least_ring (T : Tx P K mg) : Holds P w K mg base 3 T.f_least_ring T.fd_least_ring ["pieces"] pr_ring := by
  refine holds_of T.F_least_ring sc_least_ring (fun ss M q h => ?len) (fun cdv A outer s H hr => (xss_cons (xs_forK (ps_for PassesOwn.never rfl (pi_keys (xv 0)) (xg_name (pg_name (i := 1) sc_least_ring.nd rfl (by first | exact .inl rfl | exact .inr rfl))) (xss_cons (xs_asgN (ps_set (i := 2) sc_least_ring.nd rfl (by first | exact .inl rfl | exact .inr rfl) (xe_call (ok_numbers_up T) (hr.mono (by decide)) T.g_numbers_up T.F_numbers_up.kp T.b_numbers_up (xa_cons (xv 0) (xa_cons (xv 1) xa_nil)))) simLE)
      (xss_one (xs_if (xb_cmp sim_eq (pt_cmpR (op_eqAll hr.rm.units) (xe_call (ok_asker_of T) (hr.mono (by decide)) T.g_asker_of T.F_asker_of.kp T.b_asker_of (xa_cons (xv 0) (xa_cons (xe_ix (xv 2) (xe_neg xe_int)) xa_nil))) (xv 1) (nomark _))) (xss_one (xs_ret (xe_callB sim_tupOf (pe_callTy call_tuple_of rfl T.m_tuple (by decide +kernel) (xa_cons (xv 2) xa_nil))))) xss_nil)))))
      (xss_one (xs_ret xe_non)))) (fun ss M q h => ?read)
  case len =>
    obtain ⟨a, kvs, rfl, _⟩ := h
    rfl
  case read =>
    obtain ⟨a, kvs, rfl, hm, P, k⟩ := h
    refine ⟨a, _, _, hm, rfl, ?_⟩
    rintro _ ⟨od, ws, rfl⟩
    refine ⟨_, rfl, rfl, put_at, fun i Γ' M' => ∃ (x1 x2 : Option Sl), Γ' = [some (.own a), x1, x2] ∧ M' a = some (.fdk od ws kvs) ∧ (∀ x, M x ≠ none → x ≠ a → M' x = M x) ∧ (∀ n ∈ (keysI kvs).take i, ringB kvs n = false), ⟨_, _, rfl, put_at, fun x hx hxa => put_ne hxa, fun q hq => (nomatch hq)⟩, fun i Γ' M' _ h => by obtain ⟨_, _, _, h, _⟩ := h; exact h, ?_, ?_⟩
    · rintro i d Γ' M1 hd ⟨x1, x2, rfl, hma, K1, no⟩
      rw [List.getElem?_map] at hd
      cases hq : kvs[i]? with
      | none => rw [hq] at hd; cases hd
      | some q =>
      rw [hq] at hd
      have hqm := List.mem_of_getElem? hq
      obtain ⟨n, hn, n0, n99⟩ := P.key q hqm
      have hki : (keysI kvs)[i]? = some n := by
        unfold keysI
        rw [List.getElem?_map, hq]
        show some (match q.1 with | .inl n => n | .inr _ => 0) = some n
        rw [hn]
      have et : (keysI kvs).take (i + 1) = (keysI kvs).take i ++ [n] := by rw [List.take_add_one, hki]; rfl
      have hd2 : d = .int n := (Option.some.inj hd).symm.trans (by show kD q.1 = _; rw [hn]; rfl)
      subst hd2
      refine ⟨_, rfl, _, rfl, a, kvs, n, rfl, .inr ⟨od, ws, hma⟩, P, by omega, fun p M2 hp hm2 o2 => ?_⟩
      have hma2 : M2 a = some (.fdk od ws kvs) := (o2 a (by rw [hma]; exact nofun)).trans hma
      have K2 : ∀ x, M x ≠ none → x ≠ a → M2 x = M x := fun x hx hxa => (o2 x (by rw [K1 x hx hxa]; exact hx)).trans (K1 x hx hxa)
      have Ku : ∀ x, M x ≠ none → put M2 a (.dct kvs) x = M x := fun x hx => by
        by_cases e : x = a
        · rw [e, put_at, hm]
        · rw [put_ne e]
          exact K2 x hx e
      obtain ⟨l, hl, hcl, hat⟩ := up_last (st := stK kvs) (kvs.length + 1) n
      refine ⟨_, rfl, _, rfl, _, _, hm2, hat, a, kvs, l, rfl, .inr ⟨od, ws, hma2⟩, P, _, rfl, And.intro (fun h => ?_) (fun h => ?_)⟩
      · have h' : decide ((stK kvs l).getD (-1) = n) = true := h
        have h2 := of_decide_eq_true h'
        have hr : ringB kvs n = true := by
          unfold ringB
          rw [hcl]
          cases hs : stK kvs l with
          | none =>
            rw [hs] at h2
            have : (-1 : Int) = n := h2
            omega
          | some b =>
            rw [hs] at h2
            exact decide_eq_true (congrArg some h2)
        have eR : ringDt true (RingE kvs (keysI kvs)) = .tuple ((upF (stK kvs) (kvs.length + 2) [] n).map .int) := by
          unfold RingE
          rw [find_at hki hr no]
          rfl
        refine ⟨_, rfl, (upF (stK kvs) (kvs.length + 2) [] n).map .int, by rw [← li_dat]; exact IsL.own hm2, hma2, ?_⟩
        rw [← eR]
        exact k _ Ku
      · have h' : decide ((stK kvs l).getD (-1) = n) = false := h
        have h2 := of_decide_eq_false h'
        refine ⟨_, _, rfl, hma2, K2, fun m hm' => ?_⟩
        rw [et] at hm'
        rcases List.mem_append.mp hm' with hm' | hm'
        · exact no m hm'
        · rw [List.mem_singleton.mp hm']
          unfold ringB
          rw [hcl]
          refine decide_eq_false fun hr => ?_
          rw [hr] at h2
          exact h2 rfl
    · rintro Γ' M1 ⟨x1, x2, rfl, hma, K1, no⟩
      have eR : ringDt true (RingE kvs (keysI kvs)) = .none := by
        unfold RingE
        rw [List.find?_eq_none.mpr fun m hm' => by
          rw [no m (by rw [List.length_map, List.take_of_length_le (by rw [keysI_len]; exact Nat.le_refl _)]; exact hm')]
          exact Bool.false_ne_true]
        rfl
      rw [eR] at k
      refine ⟨hma, k _ fun x hx => ?_⟩
      by_cases e : x = a
      · rw [e, put_at, hm]
      · rw [put_ne e]
        exact K1 x hx e
theorem ok_llring (T : Tx P K mg) : Holds P w K mg base 2 T.f_llring T.fd_llring ["own"] pr_lring := by
  refine holds_of T.F_llring sc_llring (fun ss M q h => ?len) (fun cdv A outer s H hr => (xss_cons (xs_forR1 (ps_for PassesOwn.never rfl (pi_range1 rfl T.m_range (xa_cons xe_int xa_nil)) (xg_name (pg_name (i := 1) sc_llring.nd rfl (by first | exact .inl rfl | exact .inr rfl))) (xss_cons (xs_asgN (ps_set (i := 2) sc_llring.nd rfl (by first | exact .inl rfl | exact .inr rfl) (xe_call (ok_llup T) (hr.mono (by decide)) T.g_llup T.F_llup.kp T.b_llup (xa_cons (xv 0) (xa_cons (xv 1) xa_nil)))) simLE)
      (xss_one (xs_if (xb_w (xw_and (xb_inD (T := false) (pt_cmp (pc_din (Nat.lt_of_le_of_lt (Nat.add_le_add_left (by decide : 1 ≤ 64) _) hr.rm.units) (xv 1) (xv 0)))) (xw_and (xb_cmp (sim_I0 fun _ _ _ => .bl _) (pt_cmpR op_gt (xe_callB sim_len (pe_callB call_lenA rfl T.m_len (by decide +kernel) (xa_cons (xv 2) xa_nil))) xe_int (nomark _))) (xw_and1 (xb_cmp sim_eq (pt_cmpR (op_eqAll hr.rm.units) (xe_ix (xv 2) (xe_neg xe_int)) (xv 1) (nomark _))))))) (xss_one (xs_ret (xe_slD (xv 2) xo_none (xo_some (xe_neg xe_int))))) xss_nil)))))
      (xss_one (xs_ret xe_non)))) (fun ss M q h => ?read)
  case len =>
    obtain ⟨a, kvs, ns0, rfl, _⟩ := h
    rfl
  case read =>
    obtain ⟨a, kvs, ns0, rfl, hm, P, NS, k⟩ := h
    refine ⟨0, 100, rfl, ⟨by decide, by decide, by decide, by decide⟩, fun i Γ' M' => ∃ (x1 x2 : Option Sl), Γ' = [some (.own a), x1, x2] ∧ (∀ x, M x ≠ none → M' x = M x) ∧ (∀ n : Int, 0 ≤ n → n < i → (dval kvs (.inl n)).isSome = true → ¬ ringAt (stK kvs) (kvs.length + 2) n), ⟨_, _, rfl, fun x _ => rfl, fun n h0 h1 => absurd h1 (by omega)⟩, ?_, ?_⟩
    · rintro i Γ' M1 hi ⟨x1, x2, rfl, K1, no⟩
      have hma : M1 a = some (.dct kvs) := (K1 a (by rw [hm]; exact nofun)).trans hm
      have len := P.len
      refine ⟨_, rfl, _, rfl, a, kvs, 0 + (i : Int), rfl, hma, fun k s h => (P.pc k s h).imp fun z h => h.1, by omega, fun s ns M2 l2 hl2 U o2 => ?_⟩
      have hma2 : M2 a = some (.dct kvs) := (o2 a (by rw [hma]; exact nofun)).trans hma
      have K2 : ∀ x, M x ≠ none → M2 x = M x := fun x hx => (o2 x (by rw [K1 x hx]; exact hx)).trans (K1 x hx)
      obtain ⟨n, hn⟩ : ∃ n : Int, n = 0 + (i : Int) := ⟨_, rfl⟩
      rw [← hn] at l2 U ⊢
      obtain ⟨l, hl, hcl, hat⟩ := up_last (st := stK kvs) (kvs.length + 1) n
      obtain ⟨t, ht⟩ := upF_head (st := stK kvs) (kvs.length + 1) n
      have go : ∀ (x2 : Option Sl), ((dval kvs (.inl n)).isSome = true → ¬ ringAt (stK kvs) (kvs.length + 2) n) → ∃ (x1 x2' : Option Sl), ([some (.own a), some (.dat (.int n)), x2] : Fm) = [some (.own a), x1, x2'] ∧ (∀ x, M x ≠ none → M2 x = M x) ∧ (∀ n : Int, 0 ≤ n → n < ((i + 1 : Nat) : Int) → (dval kvs (.inl n)).isSome = true → ¬ ringAt (stK kvs) (kvs.length + 2) n) := fun x2 h => ⟨_, _, rfl, K2, fun m h0 h1 => by
        by_cases e : m = n
        · rw [e]; exact h
        · exact no m h0 (by omega)⟩
      refine ⟨_, rfl, _, rfl, a, kvs, .int n, .inl n, rfl, .inl hma2, rfl, rfl, And.intro (fun h => ?_) (fun h => And.intro (fun z => nomatch z) (fun _ => go _ fun h2 => by
        have h' : (dval kvs (.inl n)).isSome = false := h
        rw [h'] at h2
        cases h2))⟩
      have hk : (dval kvs (.inl n)).isSome = true := h
      refine ⟨_, rfl, ?_⟩
      dsimp only [dNil]
      refine len_li l2 (And.intro (fun h2 => ?_) (fun h2 => And.intro (fun z => nomatch z) (fun _ => go _ fun _ hr => ?_)))
      · have h2' : 1 < ((li (n :: ns)).length : Int) := of_decide_eq_true h2
        rw [List.length_map] at h2'
        obtain ⟨lst, hlst⟩ : ∃ lst, (n :: ns).getLast? = some lst := ⟨_, List.getLast?_eq_some_getLast (List.cons_ne_nil _ _)⟩
        have hatL : atI (li (n :: ns)) (-1) = some (.dat (.int lst)) := atI_last (by
          show ((n :: ns).map _).getLast? = _
          rw [List.getLast?_map, hlst]
          rfl)
        refine ⟨_, rfl, ?_⟩
        dsimp only [dNeg, dC]
        refine ix_li l2 hatL ⟨_, rfl, And.intro (fun h3 => ?_) (fun h3 => go _ fun _ hr => ?_)⟩
        · have h3' : lst = n := of_decide_eq_true h3
          refine ⟨_, rfl, ?_⟩
          dsimp only [dNo, dPt, dNeg, dC]
          have hU : closes (stK kvs) (upF (stK kvs) (kvs.length + 2) [] n) = some n ∧ n :: ns = upF (stK kvs) (kvs.length + 2) [] n ++ [n] := ?hU
          have eR : ringDt false (RingE kvs ns0) = .list (cut ((n :: ns).map PyData.int) none (some (-1))) := by
            have hf : ns0.find? (ringB kvs) = some n := find_asc NS.asc ((NS.has n).mpr hk) (decide_eq_true hU.1) fun m hm' hlt => (by unfold ringB; exact decide_eq_false (p := closes (stK kvs) (upF (stK kvs) (kvs.length + 2) [] m) = some m) fun hr => no m ((keysI_box P m ((keysI_mem P).mpr ((NS.has m).mp hm'))).1) (by omega) ((NS.has m).mp hm') hr)
            unfold RingE
            rw [hf, hU.2, List.map_append]
            show PyData.list _ = _
            congr 1
            show List.map PyData.int (upF (stK kvs) (kvs.length + 2) [] n) = cut (List.map PyData.int (upF (stK kvs) (kvs.length + 2) [] n) ++ [PyData.int n]) none (some (-1))
            exact (cut_last _ _).symm
          rw [eR] at k
          exact cut_li l2 (k _ K2)
          case hU =>
            rcases U with ⟨c, e⟩ | ⟨y, c, hy, e⟩
            · exfalso
              have nd := upF_nodup (st := stK kvs) (kvs.length + 2) [] n List.nodup_nil
              rw [← e] at nd
              have hns : ns ≠ [] := fun e => by rw [e] at h2'; exact absurd h2' (by simp)
              have hlm : lst ∈ ns := by
                rw [List.getLast?_cons, List.getLast?_eq_some_getLast hns] at hlst
                cases hlst
                exact List.getLast_mem hns
              rw [h3'] at hlm
              exact (List.nodup_cons.mp nd).1 hlm
            · rw [e, List.getLast?_append] at hlst
              have : some y = some lst := hlst
              cases this
              rw [← h3']
              refine ⟨by rw [h3'] at c ⊢; exact c, ?_⟩
              rw [h3'] at e ⊢
              exact e
        · have h3' : lst ≠ n := of_decide_eq_false h3
          rcases U with ⟨c, e⟩ | ⟨y, c, hy, e⟩
          · unfold ringAt at hr
            rw [hr] at c
            cases c
          · unfold ringAt at hr
            rw [hr] at c
            cases c
            rw [e, List.getLast?_append] at hlst
            have : some n = some lst := hlst
            cases this
            exact h3' rfl
      · have h2' : ¬ 1 < ((li (n :: ns)).length : Int) := of_decide_eq_false h2
        rw [List.length_map] at h2'
        unfold ringAt at hr
        rcases U with ⟨c, e⟩ | ⟨y, c, hy, e⟩
        · rw [hr] at c
          cases c
        · have := congrArg List.length e
          rw [ht, List.length_append] at this
          have h1 : (n :: t).length = t.length + 1 := rfl
          have h3 : [y].length = 1 := rfl
          omega
    · rintro Γ' M1 ⟨x1, x2, rfl, K1, no⟩
      have no2 : ∀ n, (dval kvs (.inl n)).isSome = true → ¬ ringAt (stK kvs) (kvs.length + 2) n := fun n hn => by
        obtain ⟨q, hq, e⟩ := dval_key P hn
        obtain ⟨m, hm', m0, m99⟩ := P.key q hq
        rw [e] at hm'
        cases hm'
        exact no n m0 (show n < 100 by omega) hn
      have eR : ringDt false (RingE kvs ns0) = .none := by
        unfold RingE
        rw [List.find?_eq_none.mpr fun m hm' hr => no2 m ((NS.has m).mp hm') (by unfold ringB at hr; exact of_decide_eq_true (p := closes (stK kvs) (upF (stK kvs) (kvs.length + 2) [] m) = some m) hr)]
        rfl
      rw [eR] at k
      exact k _ K1
end
end LW
namespace LW
open PySem PySem.Spec PyProof.Rows DL
open L2 hiding del del_ne del_same
theorem was_none {M M' : Mem} (h : ∀ x, M x ≠ none → M' x = M x) {a : Addr} (ha : M' a = none) : M a = none := by
  cases e : M a with
  | none => rfl
  | some o => rw [h a (by rw [e]; exact nofun), e] at ha; cases ha
theorem few_clear2 {ts D : List Pc} (h1 : D.length < 64) (h2 : ∀ t ∈ ts, t ∈ D) : (clearP ts).length < 64 := Nat.lt_of_le_of_lt (DS.nodup_le _ D (clear_nd ts) fun x hx => h2 x ((clear_mem ts x).mp hx)) h1
theorem mergeD_snoc : ∀ (l d : Kvs) (q : Key × Sl), mergeD d (l ++ [q]) = dput (mergeD d l) q.1 q.2
  | [], _, _ => rfl
  | x :: l, d, q => mergeD_snoc l (dput d x.1 x.2) q
theorem ofD_snoc (run : Int) (ps : List Pc) (z : Pc) : ofD run (ps ++ [z]) = if z.r = run then dput (ofD run ps) (.inl z.n) (.dat z.d) else ofD run ps := by
  unfold ofD
  rw [List.filter_append]
  by_cases e : z.r = run
  · rw [if_pos e, show [z].filter (fun p => decide (p.r = run)) = [z] by simp [e], List.map_append]
    exact mergeD_snoc _ _ _
  · rw [if_neg e, show [z].filter (fun p => decide (p.r = run)) = [] by simp [e], List.append_nil]
theorem whole_int {d : Dt} (h : (isiD "int" d && !isiD "bool" d) = true) : ∃ i, d = .int i := by
  cases d with
  | int i => exact ⟨i, rfl⟩
  | _ => exact nomatch (show false = true from h)
theorem isl_ints {M : Mem} {ns : List Int} : IsL M (.dat (.list (ns.map PyData.int))) (ns.map fun n => .dat (.int n)) := by
  have := IsL.dat (M := M) (ds := ns.map PyData.int)
  rw [List.map_map] at this
  exact this
def pr_pieces_of (C N : Addr) : PrX := fun ss M q kx => ∃ (s : Sl) (ts : List Pc) (rd : Dt), ss = [s, .dat rd] ∧ IsL M s (lp ts) ∧ (∃ D : List Pc, D.length < 64 ∧ ∀ t ∈ ts, t ∈ D) ∧
  (leastC (clearP ts) = none → (∀ run, rd = .int run → (∃ t ∈ ts, t.r = run) → ∀ p M', M p = none → M' p = some (.dct (ofD run (clearP ts))) → (∀ x, M x ≠ none → M' x = M x) → q (.own p) M') ∧
    ((∀ run, rd = .int run → ∀ t ∈ ts, t.r ≠ run) → ∀ M', (∀ x, M x ≠ none → M' x = M x) → kx N [] M')) ∧
  (∀ z y, leastC (clearP ts) = some (z, y) → ∀ M', (∀ x, M x ≠ none → M' x = M x) → kx C [("pair", .tuple [z.d, y.d])] M')
/-- the asker of a run's piece -/
def aK (kvs : Kvs) (n : Int) : Int := match dval kvs (.inl n) with
  | some (.dat (.tuple (_ :: _ :: .int a :: _))) => a
  | _ => 0
theorem aK_of {kvs : Kvs} {n : Int} {z : Pc} (h : dval kvs (.inl n) = some (.dat z.d)) : aK kvs n = z.a := by
  unfold aK
  rw [h]
def notTop (c : Int) : Bool := decide (c ≠ -1)
def kidsI (kvs : Kvs) (ns : List Int) (c : Int) : List Int := ns.filter fun n => decide (aK kvs n = c)
def asksI (kvs : Kvs) (ns : List Int) : List Int := ((List.range 100).map Int.ofNat).filter fun c => !(kidsI kvs ns c).isEmpty
def gapsI (kvs : Kvs) (ns : List Int) : List Int := (asksI kvs ns).filter fun c => !(dval kvs (.inl c)).isSome
/-- for whom each number asked: a dict to lists of ours -/
def kidsD (as : List Int) (f : Int → Addr) : Kvs := as.map fun c => (.inl c, .own (f c))
structure KidsX (kvs : Kvs) (ns : List Int) (kids : Kvs) (M : Mem) (f : Int → Addr) : Prop where
  eq : kids = kidsD (asksI kvs ns) f
  at_ : ∀ c ∈ asksI kvs ns, M (f c) = some (.lst (li (kidsI kvs ns c)))
theorem range100_asc : ((List.range 100).map Int.ofNat).Pairwise (· < ·) := by
  rw [List.pairwise_map]
  exact List.pairwise_lt_range.imp fun h => Int.ofNat_lt.mpr h
theorem asksI_asc (kvs : Kvs) (ns : List Int) : (asksI kvs ns).Pairwise (· < ·) := range100_asc.filter _
theorem mem_range100 {c : Int} : c ∈ (List.range 100).map Int.ofNat ↔ 0 ≤ c ∧ c ≤ 99 := by
  rw [List.mem_map]
  constructor
  · rintro ⟨n, hn, rfl⟩
    have := List.mem_range.mp hn
    exact ⟨Int.natCast_nonneg n, by have : (n : Int) < 100 := by omega
                                    show (n : Int) ≤ 99
                                    omega⟩
  · rintro ⟨h0, h1⟩
    exact ⟨c.toNat, List.mem_range.mpr (by omega), by show ((c.toNat : Nat) : Int) = c; omega⟩
theorem asksI_mem {kvs : Kvs} {ns : List Int} {c : Int} : c ∈ asksI kvs ns ↔ (0 ≤ c ∧ c ≤ 99) ∧ kidsI kvs ns c ≠ [] := by
  unfold asksI
  rw [List.mem_filter, mem_range100]
  constructor
  · rintro ⟨h, h2⟩
    refine ⟨h, fun e => ?_⟩
    rw [e] at h2
    cases h2
  · rintro ⟨h, h2⟩
    refine ⟨h, ?_⟩
    cases e : kidsI kvs ns c with
    | nil => exact absurd e h2
    | cons _ _ => rfl
theorem kidsD_val {as : List Int} {f : Int → Addr} {c : Int} : dval (kidsD as f) (.inl c) = if c ∈ as then some (.own (f c)) else none := by
  unfold kidsD
  induction as with
  | nil => rfl
  | cons x xs ih =>
    rw [List.map_cons, dval_cons, ih]
    by_cases e : x = c
    · rw [if_pos (by rw [e]), e, if_pos (List.mem_cons_self ..)]
    · rw [if_neg fun h => e (Sum.inl.inj h)]
      by_cases h : c ∈ xs
      · rw [if_pos h, if_pos (List.mem_cons_of_mem _ h)]
      · rw [if_neg h, if_neg fun h2 => (List.mem_cons.mp h2).elim (fun h3 => e h3.symm) h]
theorem kidsD_len (as : List Int) (f : Int → Addr) : (kidsD as f).length = as.length := List.length_map ..
theorem kidsD_keys (as : List Int) (f : Int → Addr) : keysI (kidsD as f) = as := by
  unfold keysI kidsD
  rw [List.map_map]
  exact List.map_id _
theorem dput_new {kvs : Kvs} {k : Key} {s : Sl} (h : ∀ q ∈ kvs, q.1 ≠ k) : dput kvs k s = kvs ++ [(k, s)] := by
  unfold dput
  rw [if_neg]
  intro e
  obtain ⟨x, hx, e2⟩ := List.any_eq_true.mp e
  exact h x hx (of_decide_eq_true e2)
theorem kidsD_put {as : List Int} {f : Int → Addr} {c : Int} {p : Addr} (h : c ∉ as) : dput (kidsD as f) (.inl c) (.own p) = kidsD (as ++ [c]) (fun x => if x = c then p else f x) := by
  rw [dput_new fun q hq e => ?_]
  · unfold kidsD
    rw [List.map_append]
    congr 1
    · refine List.map_congr_left fun x hx => ?_
      dsimp only
      rw [if_neg fun e => h (by rw [← e]; exact hx)]
    · show [((.inl c : Key), Sl.own p)] = [(.inl c, Sl.own (if c = c then p else f c))]
      rw [if_pos rfl]
  · obtain ⟨x, hx, rfl⟩ := List.mem_map.mp hq
    exact h (by rw [← Sum.inl.inj e]; exact hx)
theorem kidsI_ne {kvs : Kvs} (P : PcK kvs) {ns : List Int} (hns : ∀ n, n ∈ ns ↔ (dval kvs (.inl n)).isSome = true) {c : Int} : kidsI kvs ns c ≠ [] ↔ ∃ q ∈ kvs, ∃ z : Pc, q.2 = .dat z.d ∧ z.a = c := by
  unfold kidsI
  constructor
  · intro h
    obtain ⟨n, hn⟩ := List.exists_mem_of_ne_nil _ h
    obtain ⟨h1, h2⟩ := List.mem_filter.mp hn
    obtain ⟨s, hs⟩ := Option.isSome_iff_exists.mp ((hns n).mp h1)
    obtain ⟨z, rfl, _⟩ := P.pc _ _ hs
    exact ⟨_, dval_mem hs, z, rfl, (aK_of hs).symm.trans (of_decide_eq_true h2)⟩
  · rintro ⟨q, hq, z, e, ea⟩ h
    obtain ⟨n, hn, _⟩ := P.key q hq
    have hd : dval kvs (.inl n) = some (.dat z.d) := by rw [← hn, dval_of P.nd hq, e]
    have : n ∈ ns.filter fun n => decide (aK kvs n = c) := List.mem_filter.mpr ⟨(hns n).mpr (by rw [hd]; rfl), decide_eq_true ((aK_of hd).trans ea)⟩
    rw [h] at this
    cases this
def KidsOk (kids kvs : Kvs) : Prop := ∀ n : Int, (dval kids (.inl n)).isSome = true ↔ n ≠ -1 ∧ ∃ q ∈ kvs, ∃ z : Pc, q.2 = .dat z.d ∧ z.a = n
theorem a_of2 {z y : Pc} (e : Sl.dat z.d = .dat y.d) : z.a = y.a := by
  injection e with e
  injection e with e
  have e3 := List.cons.inj (List.cons.inj (List.cons.inj e).2).2
  injection e3.1
theorem KidsX.ok {kvs : Kvs} (P : PcK kvs) {ns : List Int} (hns : ∀ n, n ∈ ns ↔ (dval kvs (.inl n)).isSome = true) {kids : Kvs} {M : Mem} {f : Int → Addr} (X : KidsX kvs ns kids M f) : KidsOk kids kvs := fun n => by
  rw [X.eq, kidsD_val]
  have h1 := kidsI_ne P hns (c := n)
  have h2 := asksI_mem (kvs := kvs) (ns := ns) (c := n)
  by_cases h : n ∈ asksI kvs ns
  · rw [if_pos h]
    have := h2.mp h
    exact ⟨fun _ => ⟨by omega, h1.mp this.2⟩, fun _ => rfl⟩
  · rw [if_neg h]
    refine ⟨(fun z => nomatch z), fun ⟨hn, q, hq, z, e, ea⟩ => absurd (h2.mpr ⟨?_, h1.mpr ⟨q, hq, z, e, ea⟩⟩) h⟩
    obtain ⟨y, hy, b1, b2⟩ := P.val q hq
    have := a_of2 (hy.symm.trans e)
    omega
def pr_kids_of : Pr := fun ss M q => ∃ (a : Addr) (kvs : Kvs), ss = [.own a] ∧ M a = some (.dct kvs) ∧ PcK kvs ∧ ∀ p kids f M', M p = none → M' p = some (.dct kids) → KidsX kvs (keysI kvs) kids M' f → (∀ x, M x ≠ none → M' x = M x) → q (.own p) M'
/-- a number that the run's pieces have, or ask -/
def Named (kvs : Kvs) (n : Int) : Prop := (dval kvs (.inl n)).isSome = true ∨ (n ≠ -1 ∧ ∃ q ∈ kvs, ∃ z : Pc, q.2 = .dat z.d ∧ z.a = n)
def pr_refuse (N : Addr) : PrX := fun ss M q kx => ∃ (a : Addr) (kvs : Kvs) (nd : Dt), ss = [.own a, .dat nd] ∧ M a = some (.dct kvs) ∧ PcK kvs ∧
  (∀ n, nd = .int n → Named kvs n → ∀ M', (∀ x, M x ≠ none → M' x = M x) → q (.dat .none) M') ∧ ((∀ n, nd = .int n → ¬ Named kvs n) → ∀ M', (∀ x, M x ≠ none → M' x = M x) → kx N [] M')
section
variable {P : Program} {w : World} {K : PySem.W.Frag} {mg : Str → Option Value} {base : Heap}
theorem ok_kids_of (T : Tx P K mg) : Holds P w K mg base 1 T.f_kids_of T.fd_kids_of ["pieces"] pr_kids_of := by
  refine holds_of T.F_kids_of sc_kids_of (fun ss M q h => ?len) (fun cdv A outer s H hr => (xss_cons (xs_asgN (ps_set (i := 1) sc_kids_of.nd rfl (by first | exact .inl rfl | exact .inr rfl) xe_dct0) simLE)
      (xss_cons (xs_forL (ps_for PassesOwn.never rfl (pi_list (xe_fz (xe_sortScV (pe_callB (cr_sortedSet rfl) rfl T.m_sorted (by decide +kernel) (pa_cons (DS.pe_scG (O := L2.SetO _) (inj := .int) (own := [("piece", 3)]) (g := gName 3) (tt := LB _) DS.fresh_int (DS.add_int _) rfl sc_kids_of.nd (pi_values (xv 0)) (blkOk_by (own := [("piece", 3)]) (N := N_kids_of) (sc := defScope s_kids_of) (by decide +kernel)) (fun _ _ _ _ _ => pg_name (i := 3) sc_kids_of.nd rfl (.inl rfl)) (fun _ _ _ _ _ => xts_nil) (fun _ _ _ _ _ => (xe_ix (xv 3) (xe_globI T.c_ASKER)))) pa_nil)) (by decide)))) (xg_name (pg_name (i := 2) sc_kids_of.nd rfl (by first | exact .inl rfl | exact .inr rfl))) (xss_one (xs_if (xb_cmp sim_ne (pt_cmpR (op_neAll hr.rm.units) (xv 2) (xe_globI T.c_NO_ASKER) (nomark _))) (xss_one (xs_setD (ps_asg (xe_lcK (pe_lc (own := [("number", 4)]) (g := gName 4) (tt := LB _) rfl sc_kids_of.nd (pi_keys (xv 0)) (blkOk_by (own := [("number", 4)]) (N := N_kids_of) (sc := defScope s_kids_of) (by decide +kernel)) (fun _ _ _ _ _ => pg_name (i := 4) sc_kids_of.nd rfl (.inl rfl)) (fun _ _ _ _ _ => (xts_one (xb_cmp sim_eq (pt_cmpR (op_eqAll hr.rm.units) (xe_ix (xe_dixK (pe_dget (Nat.lt_of_le_of_lt (Nat.add_le_add_left (by decide : 1 ≤ 64) _) hr.rm.units) (xv 0) (xv 4) (by exact fun _ _ => rfl))) (xe_globI T.c_ASKER)) (xv 2) (nomark _))))) (fun _ _ _ _ _ => (xv 4))) (by decide)) (pg_sub (xv 1) (xv 2) (set_dict (Nat.lt_of_le_of_lt (Nat.add_le_add_left (by decide : 1 ≤ 64) _) hr.rm.units)))))) xss_nil))))
      (xss_one (xs_ret (xv 1)))))) (fun ss M q h => ?read)
  case len =>
    obtain ⟨a, kvs, rfl, _⟩ := h
    rfl
  case read =>
    obtain ⟨a, kvs, rfl, hm, P, k⟩ := h
    have len := P.len
    refine fun pk hpk => ?_
    have nak : a ≠ pk := ne_mem hm hpk
    have hma : ∀ {o : MO}, put M pk o a = some (.dct kvs) := (put_ne nak).trans hm
    obtain ⟨M1, hM1⟩ : ∃ M1, M1 = put M pk (.dct []) := ⟨_, rfl⟩
    have hma1 : M1 a = some (.dct kvs) := by rw [hM1]; exact hma
    have hk1 : M1 pk = some (.dct []) := by rw [hM1]; exact put_at
    have K1 : ∀ x, M x ≠ none → M1 x = M x := fun x hx => by rw [hM1]; exact put_ne fun e => hx (by rw [e]; exact hpk)
    rw [← hM1]
    refine ⟨a, kvs, hma1, by omega, fun od ws => ?_⟩
    refine ⟨_, rfl, rfl, put_at, fun D hD => ?_⟩
    have naD : a ≠ D := fun e => by rw [← e, put_at] at hD; cases hD
    have hD1 : M1 D = none := by rw [put_ne naD.symm] at hD; exact hD
    refine ⟨fun i ms M' => (∃ o, M' = put (put M1 a (.fdk od ws kvs)) D o) ∧ ∀ c, c ∈ ms ↔ ∃ q ∈ kvs.take i, ∃ z : Pc, q.2 = .dat z.d ∧ z.a = c, fun o => ⟨⟨o, rfl⟩, fun c => by simp⟩, ?_, ?_, ?_⟩
    · rintro i ms M' _ ⟨⟨o, rfl⟩, _⟩
      rw [put_ne naD, put_at]
    · rintro i ms q0 M' hq ⟨⟨o, rfl⟩, hms⟩
      obtain ⟨z, hz, _⟩ := P.val q0 (List.mem_of_getElem? hq)
      refine And.intro (fun _ => ?_) (fun z => nomatch z)
      rw [hz]
      refine ⟨_, rfl, _, rfl, z.a, rfl, rfl, fun o2 => ⟨⟨o2, put_put⟩, fun c => ?_⟩⟩
      rw [List.take_add_one, hq]
      have eq1 : (∃ q ∈ kvs.take i ++ (some q0).toList, ∃ z : Pc, q.2 = .dat z.d ∧ z.a = c) ↔ (∃ q ∈ kvs.take i, ∃ z : Pc, q.2 = .dat z.d ∧ z.a = c) ∨ c = z.a := by
        constructor
        · rintro ⟨q, hq1, z1, h1, h2⟩
          rcases List.mem_append.mp hq1 with h | h
          · exact .inl ⟨q, h, z1, h1, h2⟩
          · have e : q = q0 := by simpa using h
            rw [e, hz] at h1
            have : z1.a = z.a := by
              injection h1 with h1
              injection h1 with h1
              have e3 := List.cons.inj (List.cons.inj (List.cons.inj h1).2).2
              injection e3.1 with e4
              exact e4.symm
            exact .inr (h2.symm.trans this)
        · rintro (⟨q, h, z1, h1, h2⟩ | h)
          · exact ⟨q, List.mem_append_left _ h, z1, h1, h2⟩
          · exact ⟨q0, List.mem_append_right _ (by simp), z, hz, h.symm⟩
      rw [eq1, ← hms c]
      by_cases e : z.a ∈ ms
      · rw [if_pos e]
        exact ⟨.inl, fun h => h.elim id fun h => by rw [h]; exact e⟩
      · rw [if_neg e, List.mem_append, List.mem_singleton]
    rintro ms M' hnd ⟨⟨o, rfl⟩, hms⟩
    rw [List.take_length] at hms
    have hl64 : ms.length < 64 := by
      have := DS.nodup_le ms (kvs.filterMap fun q => match q.2 with | .dat (.tuple (_ :: _ :: .int a :: _)) => some a | _ => none) hnd fun c hc => by
        obtain ⟨q, hq, z, h1, h2⟩ := (hms c).mp hc
        refine List.mem_filterMap.mpr ⟨q, hq, ?_⟩
        rw [h1]
        exact congrArg some h2
      have h2 := List.length_filterMap_le (fun q : Key × Sl => match q.2 with | .dat (.tuple (_ :: _ :: .int a :: _)) => some a | _ => none) kvs
      omega
    refine ⟨hl64, fun ns p hs hmem hp => ?_⟩
    have nap : a ≠ p := fun e => by rw [← e, put_ne naD, put_at] at hp; cases hp
    have nDp : D ≠ p := fun e => by rw [← e, put_at] at hp; cases hp
    refine ⟨ns.map .int, (put_ne nap.symm).trans (put_at.trans (congrArg (fun z => some (MO.lst z)) (li_dat _))), ?_⟩
    obtain ⟨M2, hM2⟩ : ∃ M2, M2 = del (put (put (put (put M1 a (.fdk od ws kvs)) D o) p (.lst (ns.map fun n => .dat (.int n)))) a (.dct kvs)) p := ⟨_, rfl⟩
    rw [← hM2]
    have hp1 : M1 p = none := by rw [put_ne nDp.symm, put_ne nap.symm] at hp; exact hp
    have K2 : ∀ x, M1 x ≠ none → M2 x = M1 x := fun x hx => by
      rw [hM2, del_ne fun e => hx (by rw [e]; exact hp1)]
      by_cases e : x = a
      · rw [e, put_at, hma1]
      · rw [put_ne e, put_ne fun e => hx (by rw [e]; exact hp1), put_ne fun e => hx (by rw [e]; exact hD1), put_ne e]
    have hma2 : M2 a = some (.dct kvs) := (K2 a (by rw [hma1]; exact nofun)).trans hma1
    have hk2 : M2 pk = some (.dct []) := (K2 pk (by rw [hk1]; exact nofun)).trans hk1
    have K12 : ∀ x, M x ≠ none → M2 x = M x := fun x hx => (K2 x (by rw [K1 x hx]; exact hx)).trans (K1 x hx)
    have lns : ns.length < 64 := by
      have := DS.nodup_le ns ms (hs.imp fun h e => by omega) fun c hc => (hmem c).mp hc
      omega
    refine ⟨_, IsL.dat, fun i Γ' M' => ∃ (x2 : Option Sl) (f : Int → Addr), Γ' = [some (.own a), some (.own pk), x2, none, none] ∧ M' a = some (.dct kvs) ∧ M' pk = some (.dct (kidsD ((ns.take i).filter notTop) f)) ∧ (∀ c ∈ (ns.take i).filter notTop, M' (f c) = some (.lst (li (kidsI kvs (keysI kvs) c)))) ∧ (∀ x, M x ≠ none → M' x = M x), ⟨_, fun _ => a, rfl, hma2, hk2, fun c hc => (nomatch hc), K12⟩, fun _ _ _ _ _ => IsL.dat, ?_, ?_⟩
    · rintro i x Γ' M3 hx ⟨x2, f, rfl, hma3, hk3, hfs, K3⟩
      obtain ⟨c, hc, rfl⟩ : ∃ c, ns[i]? = some c ∧ x = .dat (.int c) := by
        rw [List.getElem?_map, List.getElem?_map] at hx
        cases h : ns[i]? with
        | none => rw [h] at hx; cases hx
        | some c => rw [h] at hx; cases hx; exact ⟨c, rfl, rfl⟩
      have hi : i < ns.length := (List.getElem?_eq_some_iff.mp hc).1
      have et : ns.take (i + 1) = ns.take i ++ [c] := by rw [List.take_add_one, hc]; rfl
      refine ⟨_, rfl, And.intro (fun h => ?_) (fun h => ?_)⟩
      · have hc1 : c ≠ -1 := by
          have : (!decide (c = -1)) = true := h
          simpa using this
        refine ⟨a, _, _, hma3, rfl, ?_⟩
        rintro _ ⟨od2, ws2, rfl⟩
        refine ⟨_, rfl, rfl, put_at, fun p3 hp3 => ?_⟩
        have nap3 : a ≠ p3 := fun e => by rw [← e, put_at] at hp3; cases hp3
        have hp3M : M3 p3 = none := by rw [put_ne nap3.symm] at hp3; exact hp3
        refine ⟨fun j M' => M' = put (put M3 a (.fdk od2 ws2 kvs)) p3 (.lst (li (kidsI kvs ((keysI kvs).take j) c))), rfl, ?_, ?_, ?_⟩
        · rintro j M' _ rfl
          rw [put_ne nap3, put_at]
        · rintro j d M' hd rfl
          rw [List.getElem?_map] at hd
          cases hq : kvs[j]? with
          | none => rw [hq] at hd; cases hd
          | some q0 =>
          rw [hq] at hd
          have hqm := List.mem_of_getElem? hq
          have hj : j < kvs.length := (List.getElem?_eq_some_iff.mp hq).1
          obtain ⟨n, hn, n0, n99⟩ := P.key q0 hqm
          obtain ⟨z, hz, _⟩ := P.val q0 hqm
          have hd2 : d = .int n := (Option.some.inj hd).symm.trans (by show kD q0.1 = _; rw [hn]; rfl)
          subst hd2
          have hv : dval kvs (.inl n) = some (.dat z.d) := by rw [← hn, dval_of P.nd hqm, hz]
          refine ⟨_, rfl, _, rfl, a, kvs, .int n, .inl n, _, rfl, .inr ⟨od2, ws2, (put_ne nap3).trans put_at⟩, rfl, rfl, hv, _, rfl, _, rfl, ?_⟩
          have hki : (keysI kvs)[j]? = some n := by
            unfold keysI
            rw [List.getElem?_map, hq]
            show some (match q0.1 with | .inl n => n | .inr _ => 0) = some n
            rw [hn]
          have et2 : (keysI kvs).take (j + 1) = (keysI kvs).take j ++ [n] := by rw [List.take_add_one, hki]; rfl
          have lf := List.length_filter_le (fun m => decide (aK kvs m = c)) ((keysI kvs).take j)
          rw [List.length_take] at lf
          have eaK : aK kvs n = z.a := aK_of hv
          refine And.intro (fun h => ?_) (fun h => ?_)
          · have h' : decide (z.a = c) = true := h
            refine ⟨_, rfl, _, put_at, by rw [List.length_map]; unfold kidsI; omega, ?_⟩
            dsimp only
            unfold kidsI
            rw [put_put, et2, List.filter_append, List.filter_cons, if_pos (by rw [eaK]; exact h'), List.filter_nil]
            exact congrArg (fun y => put (put M3 a (.fdk od2 ws2 kvs)) p3 (MO.lst y)) (List.map_append (l₂ := [n])).symm
          · have h' : decide (z.a = c) = false := h
            dsimp only
            unfold kidsI
            rw [et2, List.filter_append, List.filter_cons, if_neg (by rw [eaK, h']; exact Bool.false_ne_true), List.filter_nil, List.append_nil]
        · rintro M' e
          have ek : (keysI kvs).take (kvs.map fun q => kD q.1).length = keysI kvs := List.take_of_length_le (by unfold keysI; rw [List.length_map, List.length_map]; exact Nat.le_refl _)
          rw [ek] at e
          subst e
          obtain ⟨ys, eys⟩ : ∃ ys, ys = li (kidsI kvs (keysI kvs) c) := ⟨_, rfl⟩
          rw [← eys]
          have e3 : put (put (put M3 a (.fdk od2 ws2 kvs)) p3 (.lst ys)) a (.dct kvs) = put M3 p3 (.lst ys) := by
            funext x
            by_cases e : x = a
            · rw [e, put_at, put_ne nap3, hma3]
            · rw [put_ne e]
              by_cases e2 : x = p3
              · rw [e2, put_at, put_at]
              · rw [put_ne e2, put_ne e2, put_ne e]
          rw [e3]
          have nkp : pk ≠ p3 := ne_mem hk3 hp3M
          have hk4 : put M3 p3 (.lst ys) pk = some (.dct (kidsD ((ns.take i).filter notTop) f)) := (put_ne nkp).trans hk3
          have lt1 := List.length_filter_le notTop (ns.take i)
          rw [List.length_take] at lt1
          have hcn : c ∉ (ns.take i).filter notTop := fun hc2 => by
            have := (List.mem_filter.mp hc2).1
            obtain ⟨j, hj⟩ := List.getElem?_of_mem this
            rw [List.getElem?_take] at hj
            split at hj
            · have nd : ns.Nodup := hs.imp fun h e => by omega
              have := (List.getElem?_inj (by omega : i < ns.length) nd).mp (hc.trans hj.symm)
              omega
            · cases hj
          have eft : (ns.take (i + 1)).filter notTop = (ns.take i).filter notTop ++ [c] := by
            rw [et, List.filter_append, List.filter_cons, if_pos (show notTop c = true from decide_eq_true hc1), List.filter_nil]
          refine ⟨_, rfl, _, rfl, pk, _, .int c, .inl c, rfl, rfl, rfl, hk4, by rw [kidsD_len]; omega, ?_⟩
          refine ⟨_, fun x => if x = c then p3 else f x, rfl, (put_ne nak).trans ((put_ne nap3).trans hma3), by rw [put_at, kidsD_put hcn, eft], fun x hx => ?_, fun x hx => ?_⟩
          · rw [eft] at hx
            dsimp only
            by_cases e : x = c
            · rw [if_pos e, e, put_ne nkp.symm, put_at, eys]
            · rw [if_neg e]
              have hx2 : x ∈ (ns.take i).filter notTop := (List.mem_append.mp hx).elim id fun h => absurd (List.mem_singleton.mp h) e
              have hfx := hfs x hx2
              rw [put_ne fun e2 => (by rw [e2, hk3] at hfx; cases hfx), put_ne (ne_mem hfx hp3M)]
              exact hfx
          · rw [put_ne fun e => hx (by rw [e]; exact hpk), put_ne fun e => hx (by rw [e]; exact was_none K3 hp3M), K3 x hx]
      · have hc1 : c = -1 := by
          have : (!decide (c = -1)) = false := h
          simpa using this
        have eft : (ns.take (i + 1)).filter notTop = (ns.take i).filter notTop := by
          rw [et, List.filter_append, List.filter_cons, if_neg (by rw [show notTop c = false from decide_eq_false fun h => h hc1]; exact Bool.false_ne_true), List.filter_nil, List.append_nil]
        exact ⟨_, f, rfl, hma3, by rw [eft]; exact hk3, by rw [eft]; exact hfs, K3⟩
    · rintro Γ' M3 ⟨x2, f, rfl, hma3, hk3, hfs, K3⟩
      have eas : (ns.take ns.length).filter notTop = asksI kvs (keysI kvs) := by
        rw [List.take_length]
        refine asc_eq (hs.filter _) (asksI_asc _ _) fun x => ?_
        rw [List.mem_filter, asksI_mem, kidsI_ne P (fun n => keysI_mem P), hmem x, hms x]
        constructor
        · rintro ⟨⟨q, hq, z, e, ea⟩, h⟩
          have h2 : x ≠ -1 := of_decide_eq_true h
          obtain ⟨y, hy, b1, b2⟩ := P.val q hq
          have := a_of2 (hy.symm.trans e)
          exact ⟨by omega, q, hq, z, e, ea⟩
        · rintro ⟨h, h2⟩
          exact ⟨h2, decide_eq_true (by omega)⟩
      rw [List.length_map, List.length_map, eas] at hk3 hfs
      exact ⟨_, rfl, k pk _ f M3 hpk hk3 ⟨rfl, hfs⟩ K3⟩
theorem ok_pieces_of (T : Tx P K mg) : HoldsX P w K mg base 4 T.f_pieces_of T.fd_pieces_of ["heap", "run"] (pr_pieces_of T.C_Clash T.C_NoRun) := by
  refine holdsX_of T.F_pieces_of sc_pieces_of (by decide) (fun ss M q kx h => ?len) (fun cdv A outer s H E H0 kx hr wi => (xss_cons (xs_asgN (ps_set (i := 2) sc_pieces_of.nd rfl (by first | exact .inl rfl | exact .inr rfl) (xe_callX (i := 4) wi (ok_cleared T) (hr.mono (by decide)) T.g_cleared T.F_cleared.kp T.b_cleared (xa_cons (xv 0) xa_nil))) simLE)
      (xss_cons (xs_if (xb_w (xw_or (xb_not (xb_val (xe_call (ok_is_whole T) (hr.mono (by decide)) T.g_is_whole T.F_is_whole.kp T.b_is_whole (xa_cons (xv 1) xa_nil)))) (xw_or1 (xb_cmp (sim_inI true) (pt_cmpR op_notIn_seq (xv 1) (xe_fz (xe_lcL (pe_lc (own := [("piece", 3)]) (g := gName 3) (tt := LB _) rfl sc_pieces_of.nd (pi_list (xv 2)) (blkOk_by (own := [("piece", 3)]) (N := N_pieces_of) (sc := defScope s_pieces_of) (by decide +kernel)) (fun _ _ _ _ _ => pg_name (i := 3) sc_pieces_of.nd rfl (.inl rfl)) (fun _ _ _ _ _ => xts_nil) (fun _ _ _ _ _ => (xe_ix (xv 3) (xe_globI T.c_RUN)))) (by decide))) rfl))))) (xss_one (xs_raiT (i := 4) wi F.excBase_ValueError T.q_NoRun T.E_NoRun T.gC_NoRun)) xss_nil)
      (xss_one (xs_ret (xe_dcL (T := false) (pe_dcA (own := [("piece", 3)]) (g := gName 3) (tt := LB _) (ho0_or _) (Nat.lt_of_le_of_lt (Nat.add_le_add_left (by decide : 1 ≤ 64) _) hr.rm.units) rfl sc_pieces_of.nd (pi_list (xv 2)) (blkOk_by (own := [("piece", 3)]) (N := N_pieces_of) (sc := defScope s_pieces_of) (by decide +kernel)) (fun _ _ _ _ _ => pg_name (i := 3) sc_pieces_of.nd rfl (.inl rfl)) (fun _ _ _ _ _ => (xts_one (xb_cmp sim_eq (pt_cmpR (op_eqAll hr.rm.units) (xe_ix (xv 3) (xe_globI T.c_RUN)) (xv 1) (nomark _))))) (fun _ _ _ _ _ => (xe_ix (xv 3) (xe_globI T.c_NUMBER))) (fun _ _ _ _ _ => (xv 3))) (by decide))))))) (fun ss M q kx H0 h => ?read)
  case len =>
    obtain ⟨s, ts, rd, rfl, _⟩ := h
    rfl
  case read =>
    obtain ⟨s, ts, rd, rfl, l, ⟨D0, hD1, hD2⟩, k1, k2⟩ := h
    refine ⟨⟨rfl, trivial⟩, _, rfl, s, ts, rfl, l, ⟨D0, hD1, hD2⟩, fun hc pc M1 hpc hm o1 => ?_, fun z y hc M1 o1 => k2 z y hc M1 o1⟩
    have few := few_clear2 hD1 hD2
    obtain ⟨ps, eps⟩ : ∃ ps, ps = clearP ts := ⟨_, rfl⟩
    obtain ⟨kgo, kno⟩ := k1 hc
    have mem : ∀ z, z ∈ ps ↔ z ∈ ts := fun z => by rw [eps]; exact clear_mem ts z
    rw [← eps] at kgo hm few
    have K1 : ∀ x, M x ≠ none → M1 x = M x := fun x hx => o1 x fun e => hx (by rw [e]; exact hpc)
    refine ⟨_, rfl, rd, rfl, And.intro (fun h => ?_) (fun h => ?_)⟩
    · have h' : (!(isiD "int" rd && !isiD "bool" rd)) = true := h
      refine And.intro (fun _ => ⟨⟨rfl, trivial⟩, _, fun _ _ e => e, kno (fun run e => ?_) M1 K1⟩) (fun z => nomatch z)
      subst e
      cases h'
    have h' : (!(isiD "int" rd && !isiD "bool" rd)) = false := h
    obtain ⟨run, rfl⟩ := whole_int (show (isiD "int" rd && !isiD "bool" rd) = true by cases e : (isiD "int" rd && !isiD "bool" rd) with | true => rfl | false => rw [e] at h'; cases h')
    refine ⟨_, rfl, _, rfl, lc_mapK (fun x => match x with | .dat (.tuple (.int r :: _)) => .dat (.int r) | s => s) (IsL.own hm) (by rw [lp_len]; omega) (fun x hx M' k' hk hgo => ?_) fun pl hpl => ?_⟩
    · obtain ⟨z, hz, rfl⟩ := List.mem_map.mp hx
      exact ⟨_, rfl, _, rfl, hgo⟩
    have emap : ((lp ps).map fun x => match x with | .dat (.tuple (.int r :: _)) => Sl.dat (.int r) | s => s) = li (ps.map (·.r)) := by
      show _ = (ps.map (·.r)).map fun n => Sl.dat (.int n)
      rw [List.map_map, List.map_map]
      rfl
    rw [emap]
    refine ⟨(ps.map (·.r)).map .int, put_at.trans (congrArg (fun z => some (MO.lst z)) (li_dat _)), ?_⟩
    rw [del_put hpl]
    refine ⟨run, ps.map (·.r), rfl, isl_ints, And.intro (fun h => ?_) (fun h => ?_)⟩
    · have h' : (!decide (run ∈ ps.map (·.r))) = true := h
      have h2 : run ∉ ps.map (·.r) := by simpa using h'
      refine ⟨⟨rfl, trivial⟩, _, fun _ _ e => e, kno (fun run' e t ht e2 => ?_) M1 K1⟩
      cases e
      exact h2 (List.mem_map.mpr ⟨t, (mem t).mpr ht, e2⟩)
    have h2 : run ∈ ps.map (·.r) := by
      have h' : (!decide (run ∈ ps.map (·.r))) = false := h
      simpa using h'
    obtain ⟨t0, ht0, er⟩ := List.mem_map.mp h2
    refine ⟨_, rfl, lp ps, IsL.own hm, fun pk hpk => ⟨fun i M' => M' = put M1 pk (.dct (ofD run (ps.take i))), rfl, fun i M' _ e => by rw [e]; exact (IsL.own hm).put hpk, fun i x M' hx e => ?_, fun M' e => ?_⟩⟩
    · subst e
      obtain ⟨z, hz1, rfl⟩ := lp_mem hx
      have hi : i < ps.length := (List.getElem?_eq_some_iff.mp hz1).1
      have et : ps.take (i + 1) = ps.take i ++ [z] := by rw [List.take_add_one, hz1]; rfl
      have hl := ofD_len run (ps.take i)
      rw [List.length_take] at hl
      refine ⟨_, rfl, _, rfl, _, rfl, And.intro (fun hy => ?_) (fun hn => ?_)⟩
      · have hy' : z.r = run := of_decide_eq_true hy
        refine ⟨_, rfl, _, rfl, _, rfl, _, .int z.n, .inl z.n, put_at, rfl, rfl, by omega, ?_⟩
        dsimp only
        rw [put_put, et, ofD_snoc, if_pos hy']
      · have hn' : ¬ z.r = run := of_decide_eq_false hn
        dsimp only
        rw [et, ofD_snoc, if_neg hn']
    rw [lp_len, List.take_length] at e
    subst e
    exact kgo run rfl ⟨t0, (mem t0).mp ht0, er⟩ pk _ (was_none K1 hpk) put_at fun x hx => (put_ne fun e => hx (by rw [e]; exact was_none K1 hpk)).trans (K1 x hx)
end
end LW
namespace LW
open PySem PySem.Spec PyProof.Rows DL
open L2 hiding del del_ne del_same
/-- what refuses a heap and a run: C, N; where nothing does, g-/
def Heard (C N : Addr) (M : Mem) (ts : List Pc) (rd : Dt) (kx : DX) (g : Int → Prop) : Prop :=
  (∀ z y, leastC (clearP ts) = some (z, y) → ∀ fs M', (∀ x, M x ≠ none → M' x = M x) → kx C fs M') ∧
  (leastC (clearP ts) = none → (∀ run, rd = .int run → ∀ t ∈ ts, t.r ≠ run) → ∀ fs M', (∀ x, M x ≠ none → M' x = M x) → kx N fs M') ∧
  ∀ run, rd = .int run → leastC (clearP ts) = none → (∃ t ∈ ts, t.r = run) → g run
def topsI (kvs : Kvs) (ns : List Int) : List Int := kidsI kvs ns (-1)
def noRing (kvs : Kvs) (ns : List Int) : Prop := RingE kvs ns = none
def pr_tops : Pr := fun ss M q => ∃ (a : Addr) (kvs : Kvs), ss = [.own a] ∧ M a = some (.dct kvs) ∧ PcK kvs ∧ ∀ p M', M p = none → M' p = some (.lst (li (topsI kvs (keysI kvs)))) → (∀ x, M x ≠ none → M' x = M x) → q (.own p) M'
/-- a wood as it is told -/
def WoodX (kvs : Kvs) (ns : List Int) (M : Mem) (xs : List Sl) : Prop := (∃ ws, RingE kvs ns = some ws ∧ xs = [.dat (.str "ring"), .dat (.tuple (ws.map .int))]) ∨ (RingE kvs ns = none ∧ ∃ (a b c : Addr) (kids : Kvs) (f : Int → Addr), xs = [.dat (.str "wood"), .own a, .own b, .own c] ∧ M a = some (.lst (li (topsI kvs ns))) ∧ M b = some (.lst (li (gapsI kvs ns))) ∧ M c = some (.dct kids) ∧ KidsX kvs ns kids M f)
def WholeP (kvs : Kvs) (ns : List Int) : Prop := RingE kvs ns = none ∧ (topsI kvs ns).length = 1 ∧ gapsI kvs ns = []
def pr_wood (C N : Addr) : PrX := fun ss M q kx => ∃ (s : Sl) (ts : List Pc) (rd : Dt), ss = [s, .dat rd] ∧ IsL M s (lp ts) ∧ (∃ D : List Pc, D.length < 64 ∧ ∀ t ∈ ts, t ∈ D) ∧
  Heard C N M ts rd kx fun run => PcK (ofD run (clearP ts)) ∧ ∀ p xs M', M p = none → M' p = some (.tup xs) → WoodX (ofD run (clearP ts)) (keysI (ofD run (clearP ts))) M' xs → (∀ x, M x ≠ none → M' x = M x) → q (.own p) M'
def pr_whole (C N : Addr) : PrX := fun ss M q kx => ∃ (s : Sl) (ts : List Pc) (rd : Dt), ss = [s, .dat rd] ∧ IsL M s (lp ts) ∧ (∃ D : List Pc, D.length < 64 ∧ ∀ t ∈ ts, t ∈ D) ∧
  Heard C N M ts rd kx fun run => PcK (ofD run (clearP ts)) ∧ ∀ b M', (b = true ↔ WholeP (ofD run (clearP ts)) (keysI (ofD run (clearP ts)))) → (∀ x, M x ≠ none → M' x = M x) → q (.dat (.bool b)) M'
theorem li_empty (ns : List Int) : (li ns).isEmpty = ns.isEmpty := by cases ns <;> rfl
theorem filter_snoc {f : Int → Bool} {xs : List Int} {n : Int} : (xs ++ [n]).filter f = if f n = true then xs.filter f ++ [n] else xs.filter f := by
  rw [List.filter_append, List.filter_cons]
  by_cases e : f n = true
  · rw [if_pos e, if_pos e, List.filter_nil]
  · rw [if_neg e, if_neg e, List.filter_nil, List.append_nil]
theorem li_snoc (xs : List Int) (n : Int) : li (xs ++ [n]) = li xs ++ [.dat (.int n)] := List.map_append (l₂ := [n])
section
variable {P : Program} {w : World} {K : PySem.W.Frag} {mg : Str → Option Value} {base : Heap}
theorem ok_tops_of (T : Tx P K mg) : Holds P w K mg base 1 T.f_tops_of T.fd_tops_of ["pieces"] pr_tops := by
  refine holds_of T.F_tops_of sc_tops_of (fun ss M q h => ?len) (fun cdv A outer s H hr => (xss_one (xs_ret (xe_lcK (pe_lc (own := [("number", 1)]) (g := gName 1) (tt := LB _) rfl sc_tops_of.nd (pi_keys (xv 0)) (blkOk_by (own := [("number", 1)]) (N := N_tops_of) (sc := defScope s_tops_of) (by decide +kernel)) (fun _ _ _ _ _ => pg_name (i := 1) sc_tops_of.nd rfl (.inl rfl)) (fun _ _ _ _ _ => (xts_one (xb_cmp sim_eq (pt_cmpR (op_eqAll hr.rm.units) (xe_ix (xe_dixK (pe_dget (Nat.lt_of_le_of_lt (Nat.add_le_add_left (by decide : 1 ≤ 64) _) hr.rm.units) (xv 0) (xv 1) (by exact fun _ _ => rfl))) (xe_globI T.c_ASKER)) (xe_globI T.c_NO_ASKER) (nomark _))))) (fun _ _ _ _ _ => (xv 1))) (by decide))))) (fun ss M q h => ?read)
  case len =>
    obtain ⟨a, kvs, rfl, _⟩ := h
    rfl
  case read =>
    obtain ⟨a, kvs, rfl, hm, P, k⟩ := h
    have len := P.len
    refine ⟨a, _, _, hm, rfl, ?_⟩
    rintro _ ⟨od, ws, rfl⟩
    refine ⟨_, rfl, rfl, put_at, fun p hp => ?_⟩
    have nap : a ≠ p := fun e => by rw [← e, put_at] at hp; cases hp
    have hpM : M p = none := by rw [put_ne nap.symm] at hp; exact hp
    refine ⟨fun j M' => M' = put (put M a (.fdk od ws kvs)) p (.lst (li (((keysI kvs).take j).filter fun n => decide (aK kvs n = -1)))), rfl, fun j M' _ e => by rw [e, put_ne nap, put_at], ?_, ?_⟩
    · rintro j d M' hd rfl
      rw [List.getElem?_map] at hd
      cases hq : kvs[j]? with
      | none => rw [hq] at hd; cases hd
      | some q0 =>
      rw [hq] at hd
      have hqm := List.mem_of_getElem? hq
      have hj : j < kvs.length := (List.getElem?_eq_some_iff.mp hq).1
      obtain ⟨n, hn, n0, n99⟩ := P.key q0 hqm
      obtain ⟨z, hz, hza, _⟩ := P.val q0 hqm
      have hd2 : d = .int n := (Option.some.inj hd).symm.trans (by show kD q0.1 = _; rw [hn]; rfl)
      subst hd2
      have hv : dval kvs (.inl n) = some (.dat z.d) := by rw [← hn, dval_of P.nd hqm, hz]
      have hki : (keysI kvs)[j]? = some n := by
        unfold keysI
        rw [List.getElem?_map, hq]
        show some (match q0.1 with | .inl n => n | .inr _ => 0) = some n
        rw [hn]
      have et : (keysI kvs).take (j + 1) = (keysI kvs).take j ++ [n] := by rw [List.take_add_one, hki]; rfl
      have lf := List.length_filter_le (fun n => decide (aK kvs n = -1)) ((keysI kvs).take j)
      rw [List.length_take] at lf
      have hst : aK kvs n = z.a := aK_of hv
      refine ⟨_, rfl, _, rfl, a, kvs, .int n, .inl n, _, rfl, .inr ⟨od, ws, (put_ne nap).trans put_at⟩, rfl, rfl, hv, _, rfl, And.intro (fun h => ?_) (fun h => ?_)⟩
      · have h' : decide (z.a = -1) = true := h
        refine ⟨_, rfl, _, put_at, by rw [List.length_map]; omega, ?_⟩
        dsimp only
        rw [put_put, et, filter_snoc, if_pos (by rw [hst]; exact h'), li_snoc]
      · have h' : decide (z.a = -1) = false := h
        dsimp only
        rw [et, filter_snoc, if_neg (by rw [hst, h']; exact nofun)]
    · intro M' e
      have ek : (keysI kvs).take (kvs.map fun q => kD q.1).length = keysI kvs := List.take_of_length_le (by unfold keysI; rw [List.length_map, List.length_map]; exact Nat.le_refl _)
      rw [ek] at e
      subst e
      rw [unlock_put hm hp]
      exact k p _ hpM put_at (keep_put hpM)
theorem ok_wood_of (T : Tx P K mg) : HoldsX P w K mg base 5 T.f_wood_of T.fd_wood_of ["heap", "run"] (pr_wood T.C_Clash T.C_NoRun) := by
  refine holdsX_of T.F_wood_of sc_wood_of (by decide) (fun ss M q kx h => ?len) (fun cdv A outer s H E H0 kx hr wi => (xss_cons (xs_asgN (ps_set (i := 2) sc_wood_of.nd rfl (by first | exact .inl rfl | exact .inr rfl) (xe_callX (i := 7) wi (ok_pieces_of T) (hr.mono (by decide)) T.g_pieces_of T.F_pieces_of.kp T.b_pieces_of (xa_cons (xv 0) (xa_cons (xv 1) xa_nil)))) simLE)
      (xss_cons (xs_asgN (ps_set (i := 3) sc_wood_of.nd rfl (by first | exact .inl rfl | exact .inr rfl) (xe_call (ok_least_ring T) (hr.mono (by decide)) T.g_least_ring T.F_least_ring.kp T.b_least_ring (xa_cons (xv 2) xa_nil))) simLE)
      (xss_cons (xs_if (xb_cmp sim_isnot (pt_cmpR (L2.OpR.or op_notBl op_notN) (xv 3) xe_non (nomark _))) (xss_one (xs_ret (xe_tupO (xa_cons xe_str (xa_cons (xv 3) xa_nil))))) xss_nil)
      (xss_cons (xs_asgN (ps_set (i := 4) sc_wood_of.nd rfl (by first | exact .inl rfl | exact .inr rfl) (xe_call (ok_kids_of T) (hr.mono (by decide)) T.g_kids_of T.F_kids_of.kp T.b_kids_of (xa_cons (xv 2) xa_nil))) simLE)
      (xss_cons (xs_asgNL (ps_setLc (i := 5) (own := [("asker", 6)]) (g := gName 6) (tt := LB _) rfl sc_wood_of.nd rfl rfl (sw_true rfl rfl rfl (by decide +kernel)) (pi_keys (xv 4)) (blkOk_by (own := [("asker", 6)]) (N := N_wood_of) (sc := defScope s_wood_of) (by decide +kernel)) (fun _ _ _ _ _ => pg_name (i := 6) sc_wood_of.nd rfl (.inl rfl)) (fun _ _ _ _ _ => (xts_one (xb_ninD (T := false) (pt_cmp (pc_dnotin (Nat.lt_of_le_of_lt (Nat.add_le_add_left (by decide : 1 ≤ 64) _) hr.rm.units) (xv 6) (xv 2)))))) (fun _ _ _ _ _ => (xv 6))) (sim_lcK simLE simLB simLE (by decide)))
      (xss_one (xs_ret (xe_tupO (xa_cons xe_str (xa_cons (xe_call (ok_tops_of T) (hr.mono (by decide)) T.g_tops_of T.F_tops_of.kp T.b_tops_of (xa_cons (xv 2) xa_nil)) (xa_cons (xv 5) (xa_cons (xv 4) xa_nil))))))))))))) (fun ss M q kx H0 h => ?read)
  case len =>
    obtain ⟨s, ts, rd, rfl, _⟩ := h
    rfl
  case read =>
    obtain ⟨s, ts, rd, rfl, l, few, kc, kn, kg⟩ := h
    refine ⟨⟨rfl, trivial⟩, _, rfl, _, rfl, s, ts, rd, rfl, l, few, fun hc => ⟨fun run e hr pk M1 hpk hm1 K1 => ?_, fun hno M1 K1 => kn hc hno [] M1 K1⟩, fun z y e M1 K1 => kc z y e _ M1 K1⟩
    obtain ⟨P, kgo⟩ := kg run e hc hr
    obtain ⟨kvs, ekv⟩ : ∃ kvs, kvs = ofD run (clearP ts) := ⟨_, rfl⟩
    rw [← ekv] at P hm1 kgo
    have len := P.len
    refine ⟨_, rfl, pk, kvs, rfl, hm1, P, fun M2 K2 => ?_⟩
    have hm2 := keep_at K2 hm1
    have K02 := keep2 K1 K2
    refine ⟨_, rfl, ?_⟩
    dsimp only [dC]
    refine isnot_dat ?_
    cases hR : RingE kvs (keysI kvs) with
    | some ws =>
      refine And.intro (fun _ => ?_) (fun z => nomatch z)
      exact ⟨_, rfl, rfl, fun p hp => kgo p _ _ (was_none K02 hp) put_at (.inl ⟨ws, hR, rfl⟩) (keep2 K02 (keep_put hp))⟩
    | none =>
    refine And.intro (fun z => nomatch z) (fun _ => ?_)
    refine ⟨_, rfl, pk, kvs, rfl, hm2, P, fun pd kids f M3 hpd hmd hX K3 => ?_⟩
    have hm3 := keep_at K3 hm2
    have K03 := keep2 K02 K3
    have lkid : kids.length ≤ 100 := by
      rw [hX.eq, kidsD_len]
      exact Nat.le_trans (List.length_filter_le _ _) (by rw [List.length_map, List.length_range]; exact Nat.le_refl _)
    refine ⟨pd, _, _, hmd, rfl, ?_⟩
    rintro _ ⟨od, ws, rfl⟩
    refine ⟨_, rfl, rfl, put_at, fun p hp => ?_⟩
    have nap : pd ≠ p := fun e => by rw [← e, put_at] at hp; cases hp
    have hpM : M3 p = none := by rw [put_ne nap.symm] at hp; exact hp
    have npk : pk ≠ pd := fun e => by rw [e, hpd] at hm2; cases hm2
    refine ⟨fun j M' => M' = put (put M3 pd (.fdk od ws kids)) p (.lst (li (((asksI kvs (keysI kvs)).take j).filter fun c => !(dval kvs (.inl c)).isSome))), rfl, fun j M' _ e => by rw [e, put_ne nap, put_at], ?_, ?_⟩
    · rintro j d M' hd rfl
      rw [List.getElem?_map, hX.eq] at hd
      unfold kidsD at hd
      rw [List.getElem?_map] at hd
      cases hq : (asksI kvs (keysI kvs))[j]? with
      | none => rw [hq] at hd; cases hd
      | some c =>
      rw [hq] at hd
      have hj : j < (asksI kvs (keysI kvs)).length := (List.getElem?_eq_some_iff.mp hq).1
      have hl : kids.length = (asksI kvs (keysI kvs)).length := by rw [hX.eq, kidsD_len]
      have hd2 : d = .int c := (Option.some.inj hd).symm
      subst hd2
      have et : (asksI kvs (keysI kvs)).take (j + 1) = (asksI kvs (keysI kvs)).take j ++ [c] := by rw [List.take_add_one, hq]; rfl
      have lf := List.length_filter_le (fun c : Int => !(dval kvs (.inl c)).isSome) ((asksI kvs (keysI kvs)).take j)
      rw [List.length_take] at lf
      refine ⟨_, rfl, _, rfl, pk, kvs, .int c, .inl c, rfl, .inl ((put_ne (ne_mem hm3 hpM)).trans ((put_ne npk).trans hm3)), rfl, rfl, And.intro (fun h => ?_) (fun h => ?_)⟩
      · have h' : (!(dval kvs (.inl c)).isSome) = true := h
        refine ⟨_, rfl, _, put_at, by rw [List.length_map]; omega, ?_⟩
        dsimp only
        rw [put_put, et, filter_snoc, if_pos h', li_snoc]
      · have h' : (!(dval kvs (.inl c)).isSome) = false := h
        dsimp only
        rw [et, filter_snoc, if_neg (by rw [h']; exact Bool.false_ne_true)]
    · intro M' e
      rw [List.take_of_length_le (by rw [List.length_map, hX.eq, kidsD_len]; exact Nat.le_refl _)] at e
      subst e
      rw [unlock_put hmd hp]
      have eg : ((asksI kvs (keysI kvs)).filter fun c => !(dval kvs (.inl c)).isSome) = gapsI kvs (keysI kvs) := rfl
      rw [eg]
      have hm4 : put M3 p (.lst (li (gapsI kvs (keysI kvs)))) pk = some (.dct kvs) := (put_ne (ne_mem hm3 hpM)).trans hm3
      have K34 := keep_put (o := .lst (li (gapsI kvs (keysI kvs)))) hpM
      have K04 := keep2 K03 K34
      refine ⟨_, rfl, pk, kvs, rfl, hm4, P, fun pt M5 hpt hmt K5 => ?_⟩
      have K05 := keep2 K04 K5
      refine ⟨_, rfl, _, rfl, rfl, fun pw hpw => ?_⟩
      have K56 := keep_put (o := .tup [.dat (.str "wood"), .own pt, .own p, .own pd]) hpw
      have K36 := keep2 K34 (keep2 K5 K56)
      exact kgo pw _ _ (was_none K05 hpw) put_at (.inr ⟨hR, pt, p, pd, kids, f, rfl, keep_at K56 hmt, keep_at (keep2 K5 K56) put_at, keep_at K36 hmd, hX.eq, fun c hc => keep_at K36 (hX.at_ c hc)⟩) (keep2 K05 (keep_put hpw))
end
end LW
namespace LW
open PySem PySem.Spec PyProof.Rows DL
open L2 hiding del del_ne del_same
def Pc.held (p : Pc) : Int := if p.j = true then p.e else p.b
def pr_held_till : Pr := fun ss M q => ∃ p : Pc, ss = [.dat p.d] ∧ q (.dat (.int p.held)) M
def pcK (kvs : Kvs) (n : Int) : Pc := match dval kvs (.inl n) with
  | some (.dat (.tuple [.int r, .int n, .int a, .int h, .int c, .int b, .int e, .bool j])) => ⟨r, n, a, h, c, b, e, j⟩
  | _ => ⟨0, 0, 0, 0, 0, 0, 0, false⟩
theorem pcV_of {kvs : Kvs} {n : Int} {z : Pc} (h : dval kvs (.inl n) = some (.dat z.d)) : pcK kvs n = z := by
  unfold pcK
  rw [h]
structure IsMin (L : List Int) (m : Int) : Prop where
  mem : m ∈ L
  le : ∀ y ∈ L, m ≤ y
structure IsMax (L : List Int) (m : Int) : Prop where
  mem : m ∈ L
  ge : ∀ y ∈ L, y ≤ m
theorem IsMin.uni {L : List Int} {m n : Int} (h : IsMin L m) (g : IsMin L n) : m = n := by
  have := h.le _ g.mem
  have := g.le _ h.mem
  omega
theorem IsMax.uni {L : List Int} {m n : Int} (h : IsMax L m) (g : IsMax L n) : m = n := by
  have := h.ge _ g.mem
  have := g.ge _ h.mem
  omega
def begs (kvs : Kvs) (ms : List Int) : List Int := ms.map fun m => (pcK kvs m).b
def ends (kvs : Kvs) (ms : List Int) : List Int := ms.map fun m => (pcK kvs m).e
def helds (kvs : Kvs) (ms : List Int) : List Int := ms.map fun m => (pcK kvs m).held
def firstD (kvs : Kvs) : List Int → Dt
  | [] => .none
  | t :: _ => .int (pcK kvs t).b
def GapD (kvs : Kvs) (ns : List Int) (n : Int) (d : Dt) : Prop := ∃ l u : Int, d = .tuple [firstD kvs (topsI kvs ns), .int l, .int u] ∧ IsMin (begs kvs (kidsI kvs ns n) ++ ends kvs (topsI kvs ns)) l ∧ IsMax (helds kvs (kidsI kvs ns n)) u
theorem GapD.uni {kvs : Kvs} {ns : List Int} {n : Int} {d d' : Dt} (h : GapD kvs ns n d) (h' : GapD kvs ns n d') : d = d' := by
  obtain ⟨l, u, rfl, h1, h2⟩ := h
  obtain ⟨l', u', rfl, h1', h2'⟩ := h'
  rw [h1.uni h1', h2.uni h2']
def GapP (W O G : Addr) (M : Mem) (kvs : Kvs) (ns : List Int) (nd : Dt) (q : DK) (kx : DX) : Prop :=
  (RingE kvs ns ≠ none → ∀ fs M', (∀ x, M x ≠ none → M' x = M x) → kx W fs M') ∧
  (RingE kvs ns = none → 1 < (topsI kvs ns).length → ∀ fs M', (∀ x, M x ≠ none → M' x = M x) → kx O fs M') ∧
  (RingE kvs ns = none → (topsI kvs ns).length ≤ 1 → (∀ n, nd = .int n → n ∉ gapsI kvs ns) → ∀ fs M', (∀ x, M x ≠ none → M' x = M x) → kx G fs M') ∧
  (RingE kvs ns = none → (topsI kvs ns).length ≤ 1 → ∀ n, nd = .int n → n ∈ gapsI kvs ns → ∀ d M', GapD kvs ns n d → (∀ x, M x ≠ none → M' x = M x) → q (.dat d) M')
def pr_gap (C N W O G : Addr) : PrX := fun ss M q kx => ∃ (s : Sl) (ts : List Pc) (rd nd : Dt), ss = [s, .dat rd, .dat nd] ∧ IsL M s (lp ts) ∧ (∃ D : List Pc, D.length < 64 ∧ ∀ t ∈ ts, t ∈ D) ∧
  Heard C N M ts rd kx fun run => PcK (ofD run (clearP ts)) ∧ GapP W O G M (ofD run (clearP ts)) (keysI (ofD run (clearP ts))) nd q kx
theorem isl_keep3 {M M' : Mem} {s : Sl} {xs : List Sl} (l : IsL M s xs) (k : ∀ x, M x ≠ none → M' x = M x) : IsL M' s xs := by
  rcases l with h | ⟨a, h1, h2⟩
  · exact .inl h
  · exact .inr ⟨a, h1, (k a (by rw [h2]; exact nofun)).trans h2⟩
theorem kidsI_sub {kvs : Kvs} {ns : List Int} {c m : Int} (h : m ∈ kidsI kvs ns c) : m ∈ ns := (List.mem_filter.mp h).1
theorem gapsI_sub {kvs : Kvs} {ns : List Int} {c : Int} (h : c ∈ gapsI kvs ns) : c ∈ asksI kvs ns := (List.mem_filter.mp h).1
theorem keyV_pc {kvs : Kvs} (P : PcK kvs) {m : Int} (h : (dval kvs (.inl m)).isSome = true) : dval kvs (.inl m) = some (.dat (pcK kvs m).d) := by
  obtain ⟨s, hs⟩ := Option.isSome_iff_exists.mp h
  obtain ⟨z, rfl, _⟩ := P.pc _ _ hs
  rw [pcV_of hs]
  exact hs
theorem at_zero {s : Sl} {ss : List Sl} : atI (s :: ss) 0 = some s := by
  unfold atI
  rw [show ixN (s :: ss).length 0 = some 0 from ixN_nat (j := 0) (Nat.succ_pos _)]
  rfl
theorem put_dat {α : Type} {M : Mem} {p : Addr} {f : α → Dt} {zs : List α} : put M p (.lst (zs.map fun z => .dat (f z))) p = some (.lst ((zs.map f).map .dat)) := by
  rw [put_at, List.map_map]
  rfl
theorem li_map {α : Type} (f : α → Int) (xs : List α) : li (xs.map f) = xs.map fun x => .dat (.int (f x)) := List.map_map
section
variable {P : Program} {w : World} {K : PySem.W.Frag} {mg : Str → Option Value} {base : Heap}
theorem ok_held_till (T : Tx P K mg) : Holds P w K mg base 1 T.f_held_till T.fd_held_till ["piece"] pr_held_till := by
  refine holds_of T.F_held_till sc_held_till (fun ss M q h => ?len) (fun cdv A outer s H hr => (xss_one (xs_ret (xe_if (xb_val (xe_ix (xv 0) (xe_globI T.c_JOINED))) (xe_ix (xv 0) (xe_globI T.c_END)) (xe_ix (xv 0) (xe_globI T.c_BEGIN)))))) (fun ss M q h => ?read)
  case len =>
    obtain ⟨p, rfl, _⟩ := h
    rfl
  case read =>
    obtain ⟨p, rfl, k⟩ := h
    refine ⟨_, rfl, _, rfl, ?_⟩
    unfold Pc.held at k
    cases hj : p.j with
    | true =>
      rw [hj, if_pos rfl] at k
      exact And.intro (fun _ => ⟨_, rfl, _, rfl, k⟩) (fun z => nomatch z)
    | false =>
      rw [hj, if_neg Bool.false_ne_true] at k
      exact And.intro (fun z => nomatch z) (fun _ => ⟨_, rfl, _, rfl, k⟩)
theorem ok_gap_of (T : Tx P K mg) : HoldsX P w K mg base 6 T.f_gap_of T.fd_gap_of ["heap", "run", "number"] (pr_gap T.C_Clash T.C_NoRun T.C_NoWood T.C_NotOne T.C_NoGap) := by
  refine holdsX_of T.F_gap_of sc_gap_of (by decide) (fun ss M q kx h => ?len) (fun cdv A outer s H E H0 kx hr wi => (xss_cons (xs_asgN (ps_set (i := 3) sc_gap_of.nd rfl (by first | exact .inl rfl | exact .inr rfl) (xe_callX (i := 14) wi (ok_wood_of T) (hr.mono (by decide)) T.g_wood_of T.F_wood_of.kp T.b_wood_of (xa_cons (xv 0) (xa_cons (xv 1) xa_nil)))) simLE)
      (xss_cons (xs_if (xb_cmp sim_eq (pt_cmpR (op_eqAll hr.rm.units) (xe_ixT (xv 3) xe_int) xe_str (nomark _))) (xss_one (xs_raiT (i := 14) wi F.excBase_ValueError T.q_NoWood T.E_NoWood T.gC_NoWood)) xss_nil)
      (xss_cons (xs_asg (ps_asg (xv 3) (xg_tupO (pg_tup (n := 4) rfl (xgo_cons (pgs_cons (xg_name (pg_name (i := 8) sc_gap_of.nd rfl (by first | exact .inl rfl | exact .inr rfl))) (xgo_cons (pgs_cons (xg_name (pg_name (i := 9) sc_gap_of.nd rfl (by first | exact .inl rfl | exact .inr rfl))) (xgo_cons (pgs_cons (xg_name (pg_name (i := 10) sc_gap_of.nd rfl (by first | exact .inl rfl | exact .inr rfl))) (xgo_cons (pgs_cons (xg_name (pg_name (i := 11) sc_gap_of.nd rfl (by first | exact .inl rfl | exact .inr rfl))) xgo_nil))))))))))))
      (xss_cons (xs_if (xb_cmp (sim_I0 fun _ _ _ => .bl _) (pt_cmpR op_gt (xe_callB sim_len (pe_callB call_lenA rfl T.m_len (by decide +kernel) (xa_cons (xv 9) xa_nil))) xe_int (nomark _))) (xss_one (xs_raiT (i := 14) wi F.excBase_ValueError T.q_NotOne T.E_NotOne T.gC_NotOne)) xss_nil)
      (xss_cons (xs_if (xb_w (xw_or (xb_not (xb_val (xe_call (ok_is_whole T) (hr.mono (by decide)) T.g_is_whole T.F_is_whole.kp T.b_is_whole (xa_cons (xv 2) xa_nil)))) (xw_or1 (xb_cmp (sim_inI true) (pt_cmpR op_notIn_seq (xv 2) (xv 10) rfl))))) (xss_one (xs_raiT (i := 14) wi F.excBase_ValueError T.q_NoGap T.E_NoGap T.gC_NoGap)) xss_nil)
      (xss_cons (xs_asgN (ps_set (i := 4) sc_gap_of.nd rfl (by first | exact .inl rfl | exact .inr rfl) (xe_callX (i := 14) wi (ok_pieces_of T) (hr.mono (by decide)) T.g_pieces_of T.F_pieces_of.kp T.b_pieces_of (xa_cons (xv 0) (xa_cons (xv 1) xa_nil)))) simLE)
      (xss_cons (xs_fz (i := 5) (xs_asgN (ps_setLc (i := 5) (own := [("kid", 12)]) (g := gName 12) (tt := LB _) rfl sc_gap_of.nd rfl rfl (sw_true rfl rfl rfl (by decide +kernel)) (pi_list (xe_dix (pe_dget (Nat.lt_of_le_of_lt (Nat.add_le_add_left (by decide : 1 ≤ 64) _) hr.rm.units) (xv 11) (xv 2) (by exact fun _ _ => rfl)))) (blkOk_by (own := [("kid", 12)]) (N := N_gap_of) (sc := defScope s_gap_of) (by decide +kernel)) (fun _ _ _ _ _ => pg_name (i := 12) sc_gap_of.nd rfl (.inl rfl)) (fun _ _ _ _ _ => xts_nil) (fun _ _ _ _ _ => (xe_dix (pe_dget (Nat.lt_of_le_of_lt (Nat.add_le_add_left (by decide : 1 ≤ 64) _) hr.rm.units) (xv 4) (xv 12) (by exact fun _ _ => rfl))))) (sim_lcL simLE simLB simLE (by decide))))
      (xss_cons (xs_asgN (ps_set (i := 6) sc_gap_of.nd rfl (by first | exact .inl rfl | exact .inr rfl) (xe_if (xb_tru (xv 9)) (xe_ix (xe_dix (pe_dget (Nat.lt_of_le_of_lt (Nat.add_le_add_left (by decide : 1 ≤ 64) _) hr.rm.units) (xv 4) (xe_ix (xv 9) xe_int) (by exact fun _ _ => rfl))) (xe_globI T.c_BEGIN)) xe_non)) simLE)
      (xss_cons (xs_asgN (ps_set (i := 7) sc_gap_of.nd rfl (by first | exact .inl rfl | exact .inr rfl) (xe_callB sim_minI (pe_callB (cr_min rfl) rfl T.m_min (by decide +kernel) (xa_cons (xe_addD (xe_fz (xe_lcL (pe_lc (own := [("kid", 12)]) (g := gName 12) (tt := LB _) rfl sc_gap_of.nd (pi_list (xv 5)) (blkOk_by (own := [("kid", 12)]) (N := N_gap_of) (sc := defScope s_gap_of) (by decide +kernel)) (fun _ _ _ _ _ => pg_name (i := 12) sc_gap_of.nd rfl (.inl rfl)) (fun _ _ _ _ _ => xts_nil) (fun _ _ _ _ _ => (xe_ix (xv 12) (xe_globI T.c_BEGIN)))) (by decide))) (xe_fz (xe_lcL (pe_lc (own := [("top", 13)]) (g := gName 13) (tt := LB _) rfl sc_gap_of.nd (pi_list (xv 9)) (blkOk_by (own := [("top", 13)]) (N := N_gap_of) (sc := defScope s_gap_of) (by decide +kernel)) (fun _ _ _ _ _ => pg_name (i := 13) sc_gap_of.nd rfl (.inl rfl)) (fun _ _ _ _ _ => xts_nil) (fun _ _ _ _ _ => (xe_ix (xe_dix (pe_dget (Nat.lt_of_le_of_lt (Nat.add_le_add_left (by decide : 1 ≤ 64) _) hr.rm.units) (xv 4) (xv 13) (by exact fun _ _ => rfl))) (xe_globI T.c_END)))) (by decide)))) xa_nil)))) simLE)
      (xss_one (xs_ret (xe_tup (xa_cons (xv 6) (xa_cons (xv 7) (xa_cons (xe_callB sim_maxI (pe_callB (cr_max rfl) rfl T.m_max (by decide +kernel) (xa_cons (xe_fz (xe_lcL (pe_lc (own := [("kid", 12)]) (g := gName 12) (tt := LB _) rfl sc_gap_of.nd (pi_list (xv 5)) (blkOk_by (own := [("kid", 12)]) (N := N_gap_of) (sc := defScope s_gap_of) (by decide +kernel)) (fun _ _ _ _ _ => pg_name (i := 12) sc_gap_of.nd rfl (.inl rfl)) (fun _ _ _ _ _ => xts_nil) (fun _ _ _ _ _ => (xe_call (ok_held_till T) (hr.mono (by decide)) T.g_held_till T.F_held_till.kp T.b_held_till (xa_cons (xv 12) xa_nil)))) (by decide))) xa_nil))) xa_nil)))))))))))))))) (fun ss M q kx H0 h => ?read)
  case len =>
    obtain ⟨s, ts, rd, nd, rfl, _⟩ := h
    rfl
  case read =>
    obtain ⟨s, ts, rd, nd, rfl, l, few, kc, kn, kg⟩ := h
    refine ⟨⟨rfl, trivial⟩, _, rfl, _, rfl, s, ts, rd, rfl, l, few, kc, kn, fun run e hc hr => ?_⟩
    obtain ⟨P, gW, gO, gG, go⟩ := kg run e hc hr
    refine ⟨P, fun p xs M1 hp hm W K1 => ?_⟩
    have hc0 := hc
    obtain ⟨kvs, ekv⟩ : ∃ kvs, kvs = ofD run (clearP ts) := ⟨_, rfl⟩
    rw [← ekv] at P gW gO gG go W
    have len := P.len
    rcases W with ⟨ws, hR, rfl⟩ | ⟨hR, a, b, c, kids, f, rfl, ha, hb, hcc, hX⟩
    · refine ⟨_, rfl, _, 0, _, IsT.own hm, rfl, rfl, And.intro (fun _ => ?_) (fun z => nomatch z)⟩
      exact ⟨⟨rfl, trivial⟩, _, fun _ _ e => e, gW (by rw [hR]; exact nofun) _ M1 K1⟩
    refine ⟨_, rfl, _, 0, _, IsT.own hm, rfl, rfl, And.intro (fun z => nomatch z) (fun _ => ?_)⟩
    refine ⟨_, rfl, _, IsT.own hm, rfl, ?_⟩
    refine ⟨_, rfl, _, ha, And.intro (fun h1 => ?_) (fun h1 => ?_)⟩
    · have h1' : (1 : Int) < ((li (topsI kvs (keysI kvs))).length : Int) := of_decide_eq_true h1
      rw [List.length_map] at h1'
      exact ⟨⟨rfl, trivial⟩, _, fun _ _ e => e, gO hR (by omega) _ M1 K1⟩
    have h1' : ¬ (1 : Int) < ((li (topsI kvs (keysI kvs))).length : Int) := of_decide_eq_false h1
    rw [List.length_map] at h1'
    have one : (topsI kvs (keysI kvs)).length ≤ 1 := by omega
    refine ⟨_, rfl, nd, rfl, And.intro (fun h => ?_) (fun h => ?_)⟩
    · have h' : (!(isiD "int" nd && !isiD "bool" nd)) = true := h
      refine And.intro (fun _ => ⟨⟨rfl, trivial⟩, _, fun _ _ e => e, gG hR one (fun n e => by subst e; cases h') _ M1 K1⟩) (fun z => nomatch z)
    have h' : (!(isiD "int" nd && !isiD "bool" nd)) = false := h
    obtain ⟨n, rfl⟩ := whole_int (show (isiD "int" nd && !isiD "bool" nd) = true by cases e : (isiD "int" nd && !isiD "bool" nd) with | true => rfl | false => rw [e] at h'; cases h')
    refine ⟨_, rfl, _, rfl, n, gapsI kvs (keysI kvs), rfl, IsL.own hb, And.intro (fun h => ?_) (fun h => ?_)⟩
    · have h2 : (!decide (n ∈ gapsI kvs (keysI kvs))) = true := h
      have h3 : n ∉ gapsI kvs (keysI kvs) := by simpa using h2
      exact ⟨⟨rfl, trivial⟩, _, fun _ _ e => e, gG hR one (fun m e => by cases e; exact h3) _ M1 K1⟩
    have hn : n ∈ gapsI kvs (keysI kvs) := by
      have h2 : (!decide (n ∈ gapsI kvs (keysI kvs))) = false := h
      simpa using h2
    refine ⟨⟨rfl, trivial⟩, _, rfl, _, rfl, s, ts, rd, rfl, isl_keep3 l K1, few, fun _ => ⟨fun run' e' _ pk M2 hpk hm2 K2 => ?_, fun hno => ?_⟩, fun z y e => by rw [hc] at e; cases e⟩
    rotate_left
    · obtain ⟨t, ht, er⟩ := hr
      exact absurd er (hno run e t ht)
    cases e.symm.trans e'
    rw [← ekv] at hm2
    have K02 := keep2 K1 K2
    have hna := gapsI_sub hn
    have hkv : dval kids (.inl n) = some (.own (f n)) := by rw [hX.eq, kidsD_val, if_pos hna]
    have hfn := keep_at K2 (hX.at_ n hna)
    have ha2 := keep_at K2 ha
    obtain ⟨ks, eks⟩ : ∃ ks, ks = kidsI kvs (keysI kvs) n := ⟨_, rfl⟩
    rw [← eks] at hfn
    have hks : ∀ m ∈ ks, dval kvs (.inl m) = some (.dat (pcK kvs m).d) := fun m h => keyV_pc P ((keysI_mem P).mp (kidsI_sub (by rw [eks] at h; exact h)))
    have lks : ks.length ≤ 64 := by
      rw [eks]
      have := List.length_filter_le (fun m => decide (aK kvs m = n)) (keysI kvs)
      rw [keysI_len] at this
      unfold kidsI
      omega
    have ksne : ks ≠ [] := by rw [eks]; exact (asksI_mem.mp hna).2
    have kpos : 0 < ks.length := List.length_pos_iff.mpr ksne
    refine ⟨_, rfl, _, rfl, c, kids, .int n, .inl n, _, rfl, keep_at K2 hcc, rfl, rfl, hkv, ?_⟩
    refine lc_mapS (fun m : Int => .dat (.int m)) (fun m => (pcK kvs m).d) (IsL.own hfn) (by omega) (fun m hm' M' k' hk hgo => ⟨_, rfl, _, rfl, pk, kvs, .int m, .inl m, _, rfl, hk pk _ hm2, rfl, rfl, hks m hm', hgo⟩) (fun _ => rfl) fun _ => ?_
    have edat : ks.map (fun m => (pcK kvs m).d) = (ks.map (pcK kvs)).map Pc.d := by rw [List.map_map] <;> rfl
    have lsA : ∀ M, IsL M (.dat (.list (ks.map fun m => (pcK kvs m).d))) (ks.map fun m => .dat (pcK kvs m).d) := fun M => by
      have := IsL.dat (M := M) (ds := ks.map fun m => (pcK kvs m).d)
      rw [List.map_map] at this
      exact this
    have htops : ∀ m ∈ topsI kvs (keysI kvs), dval kvs (.inl m) = some (.dat (pcK kvs m).d) := fun m h => keyV_pc P ((keysI_mem P).mp (kidsI_sub h))
    have gdone : ∀ l' u', IsMin (begs kvs ks ++ ends kvs (topsI kvs (keysI kvs))) l' → IsMax (helds kvs ks) u' → q (.dat (.tuple [firstD kvs (topsI kvs (keysI kvs)), .int l', .int u'])) M2 := fun l' u' h1 h2 => go hR one n rfl hn _ M2 ⟨l', u', rfl, by rw [← eks]; exact h1, by rw [← eks]; exact h2⟩ K02
    obtain ⟨tops, etops⟩ : ∃ tops, tops = topsI kvs (keysI kvs) := ⟨_, rfl⟩
    rw [← etops] at ha2 htops gdone one
    cases tops with
    | nil =>
      refine ⟨_, rfl, false, .inl ⟨_, IsL.own ha2, rfl⟩, And.intro (fun z => nomatch z) (fun _ => ?_)⟩
      refine ⟨_, rfl, ?_⟩
      refine lc_mapG (fun m => .dat (pcK kvs m).d) (fun m => .dat (.int (pcK kvs m).b)) (lsA _) (by omega) (fun m hm' M' k' hk hgo => ⟨_, rfl, _, rfl, hgo⟩) fun pf hpf => ?_
      refine ⟨_, put_dat, ?_⟩
      rw [del_put hpf]
      refine ⟨_, rfl, ?_⟩
      refine lc_mapG (fun m : Int => .dat (.int m)) (fun m => .dat (.int (pcK kvs m).e)) (IsL.own ha2) (by omega) (fun m hm' M' k' hk hgo => ⟨_, rfl, _, rfl, pk, kvs, .int m, .inl m, _, rfl, hk pk _ hm2, rfl, rfl, htops m hm', _, rfl, hgo⟩) fun pf hpf => ?_
      refine ⟨_, put_dat, ?_⟩
      rw [del_put hpf]
      refine ⟨_, _, IsL.dat, IsL.dat, by rw [List.length_map, List.length_map]; omega, ?_⟩
      refine ⟨begs kvs ks ++ ends kvs [], ?_, by rw [List.length_append]; unfold begs; rw [List.length_map]; omega, fun lo hlo hle => ?_⟩
      · have e : (begs kvs ks ++ ends kvs []).map (fun n => Sl.dat (.int n)) = ((ks.map fun m => PyData.int (pcK kvs m).b) ++ ([].map fun m => PyData.int (pcK kvs m).e)).map Sl.dat := by
          unfold begs ends
          rw [List.map_append, List.map_append, List.map_map, List.map_map, List.map_map, List.map_map]
          rfl
        rw [e]
        exact IsL.dat
      refine ⟨_, rfl, _, rfl, _, rfl, ?_⟩
      refine lc_mapG (fun m => .dat (pcK kvs m).d) (fun m => .dat (.int (pcK kvs m).held)) (lsA _) (by omega) (fun m hm' M' k' hk hgo => ⟨_, rfl, pcK kvs m, rfl, hgo⟩) fun pf hpf => ?_
      refine ⟨_, put_dat, ?_⟩
      rw [del_put hpf]
      refine ⟨helds kvs ks, ?_, by unfold helds; rw [List.length_map]; exact kpos, fun hi hhi hge => ?_⟩
      · have e : (helds kvs ks).map (fun n => Sl.dat (.int n)) = (ks.map fun m => PyData.int (pcK kvs m).held).map Sl.dat := by
          unfold helds
          rw [List.map_map, List.map_map]
          rfl
        rw [e]
        exact IsL.dat
      exact ⟨rfl, _, rfl, gdone _ _ ⟨hlo, hle⟩ ⟨hhi, hge⟩⟩
    | cons t0 tr =>
      refine ⟨_, rfl, true, .inl ⟨_, IsL.own ha2, rfl⟩, And.intro (fun _ => ?_) (fun z => nomatch z)⟩
      refine ⟨_, rfl, _, rfl, _, .dat (.int t0), ha2, at_zero, pk, kvs, .int t0, .inl t0, _, rfl, hm2, rfl, rfl, htops t0 (List.mem_cons_self ..), _, rfl, ?_⟩
      refine ⟨_, rfl, ?_⟩
      refine lc_mapG (fun m => .dat (pcK kvs m).d) (fun m => .dat (.int (pcK kvs m).b)) (lsA _) (by omega) (fun m hm' M' k' hk hgo => ⟨_, rfl, _, rfl, hgo⟩) fun pf hpf => ?_
      refine ⟨_, put_dat, ?_⟩
      rw [del_put hpf]
      refine ⟨_, rfl, ?_⟩
      refine lc_mapG (fun m : Int => .dat (.int m)) (fun m => .dat (.int (pcK kvs m).e)) (IsL.own ha2) (by omega) (fun m hm' M' k' hk hgo => ⟨_, rfl, _, rfl, pk, kvs, .int m, .inl m, _, rfl, hk pk _ hm2, rfl, rfl, htops m hm', _, rfl, hgo⟩) fun pf hpf => ?_
      refine ⟨_, put_dat, ?_⟩
      rw [del_put hpf]
      refine ⟨_, _, IsL.dat, IsL.dat, by rw [List.length_map, List.length_map]; omega, ?_⟩
      refine ⟨begs kvs ks ++ ends kvs (t0 :: tr), ?_, by rw [List.length_append]; unfold begs; rw [List.length_map]; omega, fun lo hlo hle => ?_⟩
      · have e : (begs kvs ks ++ ends kvs (t0 :: tr)).map (fun n => Sl.dat (.int n)) = ((ks.map fun m => PyData.int (pcK kvs m).b) ++ ((t0 :: tr).map fun m => PyData.int (pcK kvs m).e)).map Sl.dat := by
          unfold begs ends
          rw [List.map_append, List.map_append, List.map_map, List.map_map, List.map_map, List.map_map]
          rfl
        rw [e]
        exact IsL.dat
      refine ⟨_, rfl, _, rfl, _, rfl, ?_⟩
      refine lc_mapG (fun m => .dat (pcK kvs m).d) (fun m => .dat (.int (pcK kvs m).held)) (lsA _) (by omega) (fun m hm' M' k' hk hgo => ⟨_, rfl, pcK kvs m, rfl, hgo⟩) fun pf hpf => ?_
      refine ⟨_, put_dat, ?_⟩
      rw [del_put hpf]
      refine ⟨helds kvs ks, ?_, by unfold helds; rw [List.length_map]; exact kpos, fun hi hhi hge => ?_⟩
      · have e : (helds kvs ks).map (fun n => Sl.dat (.int n)) = (ks.map fun m => PyData.int (pcK kvs m).held).map Sl.dat := by
          unfold helds
          rw [List.map_map, List.map_map]
          rfl
        rw [e]
        exact IsL.dat
      exact ⟨rfl, _, rfl, gdone _ _ ⟨hlo, hle⟩ ⟨hhi, hge⟩⟩
end
end LW
namespace LW
open PySem PySem.Spec PyProof.Rows DL
open L2 hiding del del_ne del_same
theorem lc_filtI {s : Sl} {ns : List Int} {M1 : Mem} {Γ : Fm} {vs : List Nat} {j : Nat} {t : DB} {el : DE} {K : Addr → Mem → Prop} (f : Int → Bool) (l : IsL M1 s (li ns)) (hz : ns.length < 16777216)
    (ht : ∀ n ∈ ns, ∀ (M' : Mem) (k' : Bool → Mem → Prop), (∀ a o, M1 a = some o → M' a = some o) → k' (f n) M' → t ((wipeF Γ vs).set j (some (.dat (.int n)))) M' k')
    (he : ∀ n ∈ ns, ∀ (M' : Mem) (k' : DK), k' (.dat (.int n)) M' → el ((wipeF Γ vs).set j (some (.dat (.int n)))) M' k') (hk : ∀ p, M1 p = none → K p (put M1 p (.lst (li (ns.filter f))))) :
    ∃ xs, IsL M1 s xs ∧ ∀ p, M1 p = none → ∃ Inv : Nat → Mem → Prop, Inv 0 (put M1 p (.lst [])) ∧ (∀ i M', i ≤ xs.length → Inv i M' → IsL M' s xs) ∧
      (∀ i x M', xs[i]? = some x → Inv i M' → lcTurn p Γ vs j t el (Inv (i + 1)) x M') ∧ ∀ M', Inv xs.length M' → K p M' := by
  refine ⟨li ns, l, fun p hp => ⟨fun i M' => M' = put M1 p (.lst (li ((ns.take i).filter f))), rfl, fun i M' _ e => by rw [e]; exact l.put hp, fun i x M' hx e => ?_, fun M' e => by rw [e, List.length_map, List.take_length]; exact hk p hp⟩⟩
  subst e
  rw [List.getElem?_map] at hx
  cases hn : ns[i]? with
  | none => rw [hn] at hx; cases hx
  | some n =>
  rw [hn] at hx
  cases hx
  have hm := List.mem_of_getElem? hn
  have hi : i < ns.length := (List.getElem?_eq_some_iff.mp hn).1
  have et : ns.take (i + 1) = ns.take i ++ [n] := by rw [List.take_add_one, hn]; rfl
  have lf := List.length_filter_le f (ns.take i)
  rw [List.length_take] at lf
  refine ht n hm _ _ (fun a o h => (put_ne (ne_mem h hp)).trans h) ⟨fun hf => he n hm _ _ ⟨_, put_at, by rw [List.length_map]; omega, ?_⟩, fun hf => ?_⟩
  · show put _ p _ = put M1 p (.lst (li ((ns.take (i + 1)).filter f)))
    rw [put_put, et, List.filter_append, List.filter_cons, if_pos hf, List.filter_nil]
    exact congrArg (fun y => put M1 p (MO.lst y)) (List.map_append (l₂ := [n])).symm
  · show _ = put M1 p (.lst (li ((ns.take (i + 1)).filter f)))
    rw [et, List.filter_append, List.filter_cons, if_neg (by rw [hf]; exact Bool.false_ne_true), List.filter_nil, List.append_nil]
def pr_llwood : Pr := fun ss M q => ∃ (a : Addr) (kvs : Kvs) (ns : List Int), ss = [.own a] ∧ M a = some (.dct kvs) ∧ PcK kvs ∧ NsOf kvs ns ∧ ∀ p xs M', M p = none → M' p = some (.tup xs) → WoodX kvs ns M' xs → (∀ x, M x ≠ none → M' x = M x) → q (.own p) M'
def askN (kvs : Kvs) (ns : List Int) (i : Nat) : List Int := ((List.range i).map Int.ofNat).filter fun c => !(kidsI kvs ns c).isEmpty
theorem askN_succ (kvs : Kvs) (ns : List Int) (i : Nat) : askN kvs ns (i + 1) = if kidsI kvs ns (i : Int) = [] then askN kvs ns i else askN kvs ns i ++ [(i : Int)] := by
  unfold askN
  rw [List.range_succ, List.map_append]
  show (((List.range i).map Int.ofNat) ++ [(i : Int)]).filter _ = _
  rw [filter_snoc]
  by_cases e : kidsI kvs ns (i : Int) = []
  · rw [if_pos e, e]
    rfl
  · rw [if_neg e, if_pos]
    cases h : kidsI kvs ns (i : Int) with
    | nil => exact absurd h e
    | cons _ _ => rfl
theorem askN_lt {kvs : Kvs} {ns : List Int} {i : Nat} {c : Int} (h : c ∈ askN kvs ns i) : c < i := by
  obtain ⟨n, hn, rfl⟩ := List.mem_map.mp (List.mem_filter.mp h).1
  have := List.mem_range.mp hn
  exact Int.ofNat_lt.mpr this
theorem askN_len (kvs : Kvs) (ns : List Int) (i : Nat) : (askN kvs ns i).length ≤ i := Nat.le_trans (List.length_filter_le _ _) (by rw [List.length_map, List.length_range]; exact Nat.le_refl _)
theorem aK_eq {kvs : Kvs} {n : Int} {z : Pc} (h : dval kvs (.inl n) = some (.dat z.d)) (c : Int) : decide (z.a = c) = decide (aK kvs n = c) := by rw [aK_of h]
section
variable {P : Program} {w : World} {K : PySem.W.Frag} {mg : Str → Option Value} {base : Heap}
theorem ok_llwood (T : Tx P K mg) : Holds P w K mg base 3 T.f_llwood T.fd_llwood ["own"] pr_llwood := by
  refine holds_of T.F_llwood sc_llwood (fun ss M q h => ?len) (fun cdv A outer s H hr => (xss_cons (xs_asgN (ps_set (i := 1) sc_llwood.nd rfl (by first | exact .inl rfl | exact .inr rfl) (xe_call (ok_llring T) (hr.mono (by decide)) T.g_llring T.F_llring.kp T.b_llring (xa_cons (xv 0) xa_nil))) simLE)
      (xss_cons (xs_if (xb_cmp sim_isnot (pt_cmpR (L2.OpR.or op_notBl op_notN) (xv 1) xe_non (nomark _))) (xss_one (xs_ret (xe_tupO (xa_cons xe_str (xa_cons (xe_callB sim_tupOf (pe_callTy call_tuple_of rfl T.m_tuple (by decide +kernel) (xa_cons (xv 1) xa_nil))) xa_nil))))) xss_nil)
      (xss_cons (xs_asgN (ps_set (i := 2) sc_llwood.nd rfl (by first | exact .inl rfl | exact .inr rfl) xe_dct0) simLE)
      (xss_cons (xs_asgN (ps_set (i := 3) sc_llwood.nd rfl (by first | exact .inl rfl | exact .inr rfl) (xe_fz (xe_callB DS.sim_sortK (pe_callB (DS.cr_sortK rfl hr.rm.units) rfl T.m_sorted (by decide +kernel) (xa_cons (xv 0) xa_nil))))) simLE)
      (xss_cons (xs_forR1 (ps_for PassesOwn.never rfl (pi_range1 rfl T.m_range (xa_cons xe_int xa_nil)) (xg_name (pg_name (i := 4) sc_llwood.nd rfl (by first | exact .inl rfl | exact .inr rfl))) (xss_cons (xs_asgN (ps_setLc (i := 7) (own := [("number", 8)]) (g := gName 8) (tt := LB _) rfl sc_llwood.nd rfl rfl (sw_true rfl rfl rfl (by decide +kernel)) (pi_list (xv 3)) (blkOk_by (own := [("number", 8)]) (N := N_llwood) (sc := defScope s_llwood) (by decide +kernel)) (fun _ _ _ _ _ => pg_name (i := 8) sc_llwood.nd rfl (.inl rfl)) (fun _ _ _ _ _ => (xts_one (xb_cmp sim_eq (pt_cmpR (op_eqAll hr.rm.units) (xe_ix (xe_dix (pe_dget (Nat.lt_of_le_of_lt (Nat.add_le_add_left (by decide : 1 ≤ 64) _) hr.rm.units) (xv 0) (xv 8) (by exact fun _ _ => rfl))) xe_int) (xv 4) (nomark _))))) (fun _ _ _ _ _ => (xv 8))) (sim_lcL simLE simLB simLE (by decide)))
      (xss_one (xs_if (xb_cmp sim_ne (pt_cmpR (op_neAll hr.rm.units) (xv 7) (xe_lstD xa_nil) (nomark _))) (xss_one (xs_setD (ps_asg (xv 7) (pg_sub (xv 2) (xv 4) (set_dict (Nat.lt_of_le_of_lt (Nat.add_le_add_left (by decide : 1 ≤ 64) _) hr.rm.units)))))) xss_nil)))))
      (xss_cons (xs_asgN (ps_setLc (i := 5) (own := [("number", 8)]) (g := gName 8) (tt := LB _) rfl sc_llwood.nd rfl rfl (sw_true rfl rfl rfl (by decide +kernel)) (pi_list (xv 3)) (blkOk_by (own := [("number", 8)]) (N := N_llwood) (sc := defScope s_llwood) (by decide +kernel)) (fun _ _ _ _ _ => pg_name (i := 8) sc_llwood.nd rfl (.inl rfl)) (fun _ _ _ _ _ => (xts_one (xb_cmp sim_eq (pt_cmpR (op_eqAll hr.rm.units) (xe_ix (xe_dix (pe_dget (Nat.lt_of_le_of_lt (Nat.add_le_add_left (by decide : 1 ≤ 64) _) hr.rm.units) (xv 0) (xv 8) (by exact fun _ _ => rfl))) xe_int) (xe_neg xe_int) (nomark _))))) (fun _ _ _ _ _ => (xv 8))) (sim_lcL simLE simLB simLE (by decide)))
      (xss_cons (xs_asgNL (ps_setLc (i := 6) (own := [("number", 8)]) (g := gName 8) (tt := LB _) rfl sc_llwood.nd rfl rfl (sw_true rfl rfl rfl (by decide +kernel)) (pi_keys (xv 2)) (blkOk_by (own := [("number", 8)]) (N := N_llwood) (sc := defScope s_llwood) (by decide +kernel)) (fun _ _ _ _ _ => pg_name (i := 8) sc_llwood.nd rfl (.inl rfl)) (fun _ _ _ _ _ => (xts_one (xb_ninD (T := false) (pt_cmp (pc_dnotin (Nat.lt_of_le_of_lt (Nat.add_le_add_left (by decide : 1 ≤ 64) _) hr.rm.units) (xv 8) (xv 0)))))) (fun _ _ _ _ _ => (xv 8))) (sim_lcK simLE simLB simLE (by decide)))
      (xss_one (xs_ret (xe_tupO (xa_cons xe_str (xa_cons (xv 5) (xa_cons (xv 6) (xa_cons (xv 2) xa_nil))))))))))))))) (fun ss M q h => ?read)
  case len =>
    obtain ⟨a, kvs, ns, rfl, _⟩ := h
    rfl
  case read =>
    obtain ⟨a, kvs, ns, rfl, hm, P, NS, k⟩ := h
    have len := P.len
    refine ⟨_, rfl, a, kvs, ns, rfl, hm, P, NS, fun M1 K1 => ?_⟩
    have hm1 := keep_at K1 hm
    refine ⟨_, rfl, ?_⟩
    dsimp only [dC]
    refine isnot_dat ?_
    cases hR : RingE kvs ns with
    | some ws =>
      refine And.intro (fun _ => ?_) (fun z => nomatch z)
      exact ⟨_, rfl, ws.map .int, IsL.dat, rfl, fun p hp => k p _ _ (was_none K1 hp) put_at (.inl ⟨ws, hR, rfl⟩) (keep2 K1 (keep_put hp))⟩
    | none =>
    refine And.intro (fun z => nomatch z) (fun _ => fun pk hpk => ?_)
    have hm2 : put M1 pk (.dct []) a = some (.dct kvs) := (put_ne (ne_mem hm1 hpk)).trans hm1
    refine ⟨_, rfl, kvs, keysI kvs, hm2, keysI_inl P, by rw [keysI_len]; omega, fun every pe hperm hasc hpe => ?_⟩
    have eev : every = ns := asc_eq (asc_of hasc (hperm.nodup_iff.mpr (keysI_nd P))) NS.asc fun n => by rw [hperm.mem_iff, keysI_mem P, NS.has]
    have lev : ns.length ≤ 64 := by
      have := hperm.length_eq
      rw [keysI_len, eev] at this
      omega
    subst eev
    refine ⟨every.map .int, put_at.trans (congrArg (fun z => some (MO.lst z)) (li_dat _)), ?_⟩
    rw [del_put hpe]
    refine ⟨0, 100, rfl, ⟨by decide, by decide, by decide, by decide⟩, fun i Γ' M' => ∃ (f : Int → Addr) (x4 x7 : Option Sl), Γ' = [some (.own a), some (.dat .none), some (.own pk), some (.dat (.list (every.map .int))), x4, none, none, x7, none] ∧ M' pk = some (.dct (kidsD (askN kvs every i) f)) ∧ (∀ c ∈ askN kvs every i, M' (f c) = some (.lst (li (kidsI kvs every c)))) ∧ (∀ x, M1 x ≠ none → M' x = M1 x), ⟨fun _ => a, _, _, rfl, put_at, (fun c hc => nomatch hc), keep_put hpk⟩, ?_, ?_⟩
    · rintro i Γ' M3 hi ⟨f, x4, x7, rfl, hk3, hf3, K3⟩
      have hm3 := keep_at K3 hm1
      have hi2 : i < 100 := by omega
      refine ⟨_, rfl, lc_filtI (fun n => decide (aK kvs n = 0 + (i : Int))) isl_ints (by omega) (fun n hn M' k' hk hgo => by
        obtain ⟨s, hs⟩ := Option.isSome_iff_exists.mp ((NS.has n).mp hn)
        obtain ⟨z, rfl, _⟩ := P.pc _ _ hs
        rw [aK_of hs] at hgo
        exact ⟨_, rfl, _, rfl, a, kvs, .int n, .inl n, _, rfl, hk a _ hm3, rfl, rfl, hs, _, rfl, _, rfl, hgo⟩) (fun n hn M' k' h => ⟨_, rfl, h⟩) (fun p hp => ?_)⟩
      have e0 : (0 + (i : Int)) = i := Int.zero_add _
      obtain ⟨some_, hsome⟩ : ∃ some_, some_ = kidsI kvs every (i : Int) := ⟨_, rfl⟩
      have hsome2 : (every.filter fun n => decide (aK kvs n = 0 + (i : Int))) = some_ := by rw [hsome, e0]; rfl
      rw [hsome2]
      have askS : askN kvs every (i + 1) = if some_ = [] then askN kvs every i else askN kvs every i ++ [(i : Int)] := by
        rw [hsome]
        exact askN_succ kvs every i
      have npk3 : pk ≠ p := ne_mem hk3 hp
      refine ⟨_, rfl, rfl, _, rfl, _, _, .inr ⟨p, some_.map .int, rfl, put_at.trans (congrArg (fun z => some (MO.lst z)) (li_dat _)), rfl⟩, .inl rfl, shaped_ints some_, rfl, And.intro (fun hne => ?_) (fun heq => ?_)⟩
      · have hne' : (!PyData.eqv (.list (some_.map .int)) (.list [])) = true := hne
        rw [eqv_nil] at hne'
        have h1 : some_ ≠ [] := fun e => by rw [e] at hne'; cases hne'
        rw [if_neg h1] at askS
        have hni : (i : Int) ∉ askN kvs every i := fun h => by
          have := askN_lt h
          omega
        have hk4 : put M3 p (.lst (li some_)) pk = some (.dct (kidsD (askN kvs every i) f)) := (put_ne npk3).trans hk3
        refine ⟨_, rfl, _, rfl, _, rfl, pk, _, .int (0 + (i : Int)), .inl (0 + (i : Int)), rfl, rfl, rfl, hk4, by rw [kidsD_len]; have := askN_len kvs every i; omega, ?_⟩
        refine ⟨fun x => if x = (i : Int) then p else f x, _, _, rfl, by rw [put_at, e0, kidsD_put hni, askS], fun c hc => ?_, fun x hx => ?_⟩
        · dsimp only
          rw [askS] at hc
          by_cases e : c = (i : Int)
          · rw [if_pos e, e, put_ne npk3.symm, put_at, hsome]
          · rw [if_neg e]
            have hc2 : c ∈ askN kvs every i := (List.mem_append.mp hc).elim id fun h => absurd (List.mem_singleton.mp h) e
            have hfx := hf3 c hc2
            rw [put_ne fun e2 => (by rw [e2, hk3] at hfx; cases hfx), put_ne (ne_mem hfx hp)]
            exact hfx
        · rw [put_ne fun e => hx (by rw [e]; exact hpk), put_ne fun e => hx (by rw [e]; exact was_none K3 hp), K3 x hx]
      · have heq' : (!PyData.eqv (.list (some_.map .int)) (.list [])) = false := heq
        rw [eqv_nil] at heq'
        have h1 : some_ = [] := List.isEmpty_iff.mp (by simpa using heq')
        rw [if_pos h1] at askS
        exact ⟨f, _, _, rfl, by rw [askS, put_ne npk3]; exact hk3, fun c hc => (by rw [askS] at hc; have hfx := hf3 c hc; rw [put_ne (ne_mem hfx hp)]; exact hfx), keep2 K3 (keep_put hp)⟩
    rintro Γ' M3 ⟨f, x4, x7, rfl, hk3, hf3, K3⟩
    have hm3 := keep_at K3 hm1
    have eas : askN kvs every (100 - 0 : Int).toNat = asksI kvs every := rfl
    rw [eas] at hk3 hf3
    refine ⟨_, rfl, lc_filtI (fun n => decide (aK kvs n = -1)) isl_ints (by omega) (fun n hn M' k' hk hgo => by
        obtain ⟨s, hs⟩ := Option.isSome_iff_exists.mp ((NS.has n).mp hn)
        obtain ⟨z, rfl, _⟩ := P.pc _ _ hs
        rw [aK_of hs] at hgo
        exact ⟨_, rfl, _, rfl, a, kvs, .int n, .inl n, _, rfl, hk a _ hm3, rfl, rfl, hs, _, rfl, hgo⟩) (fun n hn M' k' h => ⟨_, rfl, h⟩) (fun pt hpt => ?_)⟩
    have etops : (every.filter fun n => decide (aK kvs n = -1)) = topsI kvs every := rfl
    rw [etops]
    have K34 := keep_put (o := .lst (li (topsI kvs every))) hpt
    have hm4 := keep_at K34 hm3
    have hk4 := keep_at K34 hk3
    have hf4 : ∀ c ∈ asksI kvs every, put M3 pt (.lst (li (topsI kvs every))) (f c) = some (.lst (li (kidsI kvs every c))) := fun c hc => keep_at K34 (hf3 c hc)
    have ht4 : put M3 pt (.lst (li (topsI kvs every))) pt = some (.lst (li (topsI kvs every))) := put_at
    have K04 := keep2 (keep2 K1 K3) K34
    obtain ⟨M4, hM4⟩ : ∃ M4, M4 = put M3 pt (.lst (li (topsI kvs every))) := ⟨_, rfl⟩
    rw [← hM4] at hm4 hk4 ht4 hf4 K04 ⊢
    refine ⟨pk, _, _, hk4, rfl, ?_⟩
    rintro _ ⟨od, ws, rfl⟩
    refine ⟨_, rfl, rfl, put_at, fun p hp => ?_⟩
    have nap : pk ≠ p := fun e => by rw [← e, put_at] at hp; cases hp
    have hpM : M4 p = none := by rw [put_ne nap.symm] at hp; exact hp
    have npk : a ≠ pk := fun e => by rw [e, hpk] at hm1; cases hm1
    refine ⟨fun j M' => M' = put (put M4 pk (.fdk od ws (kidsD (asksI kvs every) f))) p (.lst (li (((asksI kvs every).take j).filter fun c => !(dval kvs (.inl c)).isSome))), rfl, fun j M' _ e => by rw [e, put_ne nap, put_at], ?_, ?_⟩
    · rintro j d M' hd rfl
      unfold kidsD at hd
      rw [List.getElem?_map, List.getElem?_map] at hd
      cases hq : (asksI kvs every)[j]? with
      | none => rw [hq] at hd; cases hd
      | some c =>
      rw [hq] at hd
      have hj : j < (asksI kvs every).length := (List.getElem?_eq_some_iff.mp hq).1
      have la : (asksI kvs every).length ≤ 100 := askN_len kvs every 100
      have hd2 : d = .int c := (Option.some.inj hd).symm
      subst hd2
      have et : (asksI kvs every).take (j + 1) = (asksI kvs every).take j ++ [c] := by rw [List.take_add_one, hq]; rfl
      have lf := List.length_filter_le (fun c : Int => !(dval kvs (.inl c)).isSome) ((asksI kvs every).take j)
      rw [List.length_take] at lf
      refine ⟨_, rfl, _, rfl, a, kvs, .int c, .inl c, rfl, .inl ((put_ne (ne_mem hm4 hpM)).trans ((put_ne npk).trans hm4)), rfl, rfl, And.intro (fun h => ?_) (fun h => ?_)⟩
      · have h' : (!(dval kvs (.inl c)).isSome) = true := h
        refine ⟨_, rfl, _, put_at, by rw [List.length_map]; omega, ?_⟩
        dsimp only
        rw [put_put, et, filter_snoc, if_pos h', li_snoc]
      · have h' : (!(dval kvs (.inl c)).isSome) = false := h
        dsimp only
        rw [et, filter_snoc, if_neg (by rw [h']; exact Bool.false_ne_true)]
    intro M' e
    rw [List.take_of_length_le (by rw [List.length_map, kidsD_len]; exact Nat.le_refl _)] at e
    subst e
    rw [unlock_put hk4 hp]
    have eg : ((asksI kvs every).filter fun c => !(dval kvs (.inl c)).isSome) = gapsI kvs every := rfl
    rw [eg]
    have K45 := keep_put (o := .lst (li (gapsI kvs every))) hpM
    refine ⟨_, rfl, _, rfl, _, rfl, rfl, fun pw hpw => ?_⟩
    have K56 := keep_put (o := .tup [.dat (.str "wood"), .own pt, .own p, .own pk]) hpw
    have K46 := keep2 K45 K56
    exact k pw _ _ (was_none (keep2 K04 K45) hpw) put_at (.inr ⟨hR, pt, p, pk, _, f, rfl, keep_at K46 ht4, keep_at K56 put_at, keep_at K46 hk4, rfl, fun c hc => keep_at K46 (hf4 c hc)⟩) (keep2 K04 K46)
end
end LW
namespace LW
open PySem PySem.Spec PyProof.Rows DL
open L2 hiding del del_ne del_same
theorem lp_appT (xs ys : List Pc) : lp (xs ++ ys) = lp xs ++ lp ys := List.map_append
/-- one run's pieces, as the laws of gaps draw them -/
structure G46 (run : Int) (ds : List Pc) : Prop where
  rn : 0 ≤ run ∧ run ≤ 99
  run : ∀ p ∈ ds, p.r = run
  num : ∀ p ∈ ds, 0 ≤ p.n ∧ p.n ≤ 99
  place : ∀ p ∈ ds, 0 ≤ p.h ∧ p.h < 8
  cnt : ∀ p ∈ ds, 0 ≤ p.c ∧ p.c ≤ 99
  ask : ∀ p ∈ ds, -1 ≤ p.a ∧ p.a ≤ 99
  tim : ∀ p ∈ ds, (-(10 ^ 30) ≤ p.b ∧ p.b ≤ 10 ^ 30) ∧ (-(10 ^ 30) ≤ p.e ∧ p.e ≤ 10 ^ 30)
  ids : ds.Pairwise fun p q => p.n ≠ q.n ∧ ¬ (p.h = q.h ∧ p.c = q.c)
  len : ds.length ≤ 14
  ne : ds ≠ []
structure Alike (z y : Pc) : Prop where
  r : y.r = z.r
  n : y.n = z.n
  h : y.h = z.h
  c : y.c = z.c
  ask : -1 ≤ y.a ∧ y.a ≤ 99
  tim : (-(10 ^ 30) ≤ y.b ∧ y.b ≤ 10 ^ 30) ∧ (-(10 ^ 30) ≤ y.e ∧ y.e ≤ 10 ^ 30)
theorem G46.mod {run : Int} {ds es : List Pc} (G : G46 run ds) (hl : es.length = ds.length) (h : ∀ (j : Nat) (z y : Pc), ds[j]? = some z → es[j]? = some y → Alike z y) : G46 run es := by
  have at_ : ∀ y ∈ es, ∃ z ∈ ds, Alike z y := fun y hy => by
    obtain ⟨j, hj, e⟩ := List.getElem_of_mem hy
    have hj2 : j < ds.length := by rw [← hl]; exact hj
    exact ⟨ds[j], List.getElem_mem hj2, h j _ _ (List.getElem?_eq_getElem hj2) (by rw [List.getElem?_eq_getElem hj, e])⟩
  refine ⟨G.rn, fun y hy => ?_, fun y hy => ?_, fun y hy => ?_, fun y hy => ?_, fun y hy => ?_, fun y hy => ?_, ?_, by rw [hl]; exact G.len, fun e => G.ne (List.length_eq_zero_iff.mp (by rw [← hl, e]; rfl))⟩
  · obtain ⟨z, hz, a⟩ := at_ y hy
    rw [a.r]; exact G.run z hz
  · obtain ⟨z, hz, a⟩ := at_ y hy
    rw [a.n]; exact G.num z hz
  · obtain ⟨z, hz, a⟩ := at_ y hy
    rw [a.h]; exact G.place z hz
  · obtain ⟨z, hz, a⟩ := at_ y hy
    rw [a.c]; exact G.cnt z hz
  · obtain ⟨z, hz, a⟩ := at_ y hy
    exact a.ask
  · obtain ⟨z, hz, a⟩ := at_ y hy
    exact a.tim
  · rw [List.pairwise_iff_getElem]
    intro i j hi hj hij
    have hi2 : i < ds.length := by rw [← hl]; exact hi
    have hj2 : j < ds.length := by rw [← hl]; exact hj
    have a := h i _ _ (List.getElem?_eq_getElem hi2) (List.getElem?_eq_getElem hi)
    have b := h j _ _ (List.getElem?_eq_getElem hj2) (List.getElem?_eq_getElem hj)
    have := (List.pairwise_iff_getElem.mp G.ids) i j hi2 hj2 hij
    rw [a.n, b.n, a.h, b.h, a.c, b.c]
    exact this
theorem G46.sub {run : Int} {ds es : List Pc} (G : G46 run ds) (S : es.Sublist ds) (hne : es ≠ []) : G46 run es :=
  ⟨G.rn, fun p hp => G.run p (S.subset hp), fun p hp => G.num p (S.subset hp), fun p hp => G.place p (S.subset hp), fun p hp => G.cnt p (S.subset hp), fun p hp => G.ask p (S.subset hp), fun p hp => G.tim p (S.subset hp), G.ids.sublist S, Nat.le_trans S.length_le G.len, hne⟩
theorem Alike.refl {run : Int} {ds : List Pc} (G : G46 run ds) {z : Pc} (h : z ∈ ds) : Alike z z := ⟨rfl, rfl, rfl, rfl, G.ask z h, G.tim z h⟩
theorem G46.set {run : Int} {ds : List Pc} (G : G46 run ds) {j : Nat} {y : Pc} (h : ∀ z, ds[j]? = some z → Alike z y) : G46 run (ds.set j y) := by
  refine G.mod (List.length_set ..) fun i z x h1 h2 => ?_
  by_cases e : j = i
  · subst e
    have hj : j < ds.length := (List.getElem?_eq_some_iff.mp h1).1
    rw [List.getElem?_set_self hj] at h2
    cases h2
    exact h z h1
  · rw [List.getElem?_set_ne e, h1] at h2
    cases h2
    exact Alike.refl G (List.mem_of_getElem? h1)
theorem G46.ring {run : Int} {ds es : List Pc} (G : G46 run ds) (R : RingAll ds es) : G46 run es := by
  refine G.mod R.1 fun j z y h1 h2 => ?_
  have hz := List.mem_of_getElem? h1
  rcases R.2 j z y h1 h2 with rfl | ⟨one, ho, rfl⟩
  · exact Alike.refl G hz
  · have := G.num one ho
    exact ⟨rfl, rfl, rfl, rfl, ⟨by show -1 ≤ one.n; omega, by show one.n ≤ 99; omega⟩, G.tim z hz⟩
theorem G46.of {run B : Int} {houses : Int} {kvs' : Kvs} {ps : List Pc} (R : Run run houses B [] kvs' ps) (hr : 0 ≤ run ∧ run ≤ 99) (hh : houses ≤ 8) (hB : 4 ≤ B ∧ B ≤ 10 ^ 28) (hl : ps.length ≤ 14) (hne : ps ≠ []) : G46 run ps ∧ (∀ p ∈ ps, askok p) ∧ ∀ p ∈ ps, (-(10 ^ 29) * 2 ≤ p.b ∧ p.b ≤ 10 ^ 29 * 2) ∧ (-(10 ^ 29) * 2 ≤ p.e ∧ p.e ≤ 10 ^ 29 * 2) := by
  have tim : ∀ p ∈ ps, (-(10 ^ 29) * 2 ≤ p.b ∧ p.b ≤ 10 ^ 29 * 2) ∧ (-(10 ^ 29) * 2 ≤ p.e ∧ p.e ≤ 10 ^ 29 * 2) := fun p hp => by
    have h1 := R.tim p hp
    have h2 := R.grown.be p hp
    have h3 : ((ps.length : Int) + 1) * B ≤ 15 * 10 ^ 28 := Int.mul_le_mul (by omega) hB.2 (by omega) (by omega)
    omega
  have ask : ∀ p ∈ ps, askok p := fun p hp => by
    rcases R.grown.ask p hp with h | ⟨x, hx, h1, h2, h3⟩
    · exact .inl h
    · have := R.num x hx
      exact .inr ⟨by omega, by omega, by omega⟩
  refine ⟨⟨hr, R.run, R.num, fun p hp => ?_, fun p hp => ?_, fun p hp => ?_, fun p hp => ?_, ?_, hl, hne⟩, ask, tim⟩
  · have := R.place p hp
    omega
  · have h1 := R.low p hp
    have h2 := R.mono p.h
    have h0 : LW.cnt [] p.h = 0 := rfl
    omega
  · rcases ask p hp with h | h <;> omega
  · have := tim p hp
    omega
  · refine (R.grown.ids.and R.ris).imp fun {a b} h => ⟨h.1, fun e => ?_⟩
    have := h.2 e.1
    omega
def pr_lone_run : Pr := fun ss M q => ∃ (f : Addr) (n most : Int), ss = [.own f, .dat (.int most)] ∧ 1 ≤ most ∧ most ≤ 14 ∧ Feed M f n ∧ n ≤ 2 ^ 36 ∧ ∀ pp p ds run houses B kvs' M', M pp = none → M p = none → M' pp = some (.tup [.own p, .dat (.int run)]) → M' p = some (.lst (lp ds)) → 0 ≤ run ∧ run ≤ 99 → 1 ≤ houses ∧ houses ≤ 8 → 4 ≤ B ∧ B ≤ 10 ^ 28 → Run run houses B [] kvs' ds → (ds.length : Int) ≤ most → ds ≠ [] → Feed M' f (n + 5010) → Keep f M M' → q (.own pp) M'
def pr_lgapped : Pr := fun ss M q => ∃ (f : Addr) (n most : Int), ss = [.own f, .dat (.int most)] ∧ 1 ≤ most ∧ most ≤ 14 ∧ Feed M f n ∧ n ≤ 2 ^ 36 ∧ ∀ pp p ds run M', M pp = none → M p = none → M' pp = some (.tup [.own p, .dat (.int run)]) → M' p = some (.lst (lp ds)) → G46 run ds → Feed M' f (n + 20000) → Keep f M M' → q (.own pp) M'
/-- what stands beside a run-/
def Beside (run : Int) (ds bs : List Pc) : Prop := ∃ es os : List Pc, bs = es ++ os ∧ (∃ gs : List Pc, gs.Sublist ds ∧ es = gs.map fun p => ⟨(run + 2) % 100, p.n, p.a, p.h, 400 + p.c, p.b, p.e, p.j⟩) ∧
  (os = [] ∨ os = [⟨(run + 4) % 100, 1, 2, 6, 700, 0, 0, false⟩, ⟨(run + 4) % 100, 2, 1, 6, 701, 0, 0, false⟩] ∨ os = [⟨(run + 4) % 100, 1, -1, 6, 700, 0, 0, false⟩, ⟨(run + 4) % 100, 2, -1, 6, 701, 0, 0, false⟩])
def pr_lbeside : Pr := fun ss M q => ∃ (f p : Addr) (n run : Int) (ds : List Pc), ss = [.own f, .own p, .dat (.int run)] ∧ M p = some (.lst (lp ds)) ∧ 0 ≤ run ∧ run ≤ 99 ∧ ds.length ≤ 14 ∧ Feed M f n ∧ n ≤ 2 ^ 37 ∧ ∀ b bs M', M b = none → M' b = some (.lst (lp bs)) → Beside run ds bs → Feed M' f (n + 20) → Keep f M M' → q (.own b) M'
section
variable {P : Program} {w : World} {K : PySem.W.Frag} {mg : Str → Option Value} {base : Heap}
theorem ok_llone_run (T : Tx P K mg) : Holds P w K mg base 5 T.f_llone_run T.fd_llone_run ["feed", "most"] pr_lone_run := by
  refine holds_of T.F_llone_run sc_llone_run (fun ss M q h => ?len) (fun cdv A outer s H hr => (xss_cons (xs_asgN (ps_set (i := 2) sc_llone_run.nd rfl (by first | exact .inl rfl | exact .inr rfl) (xe_ix (xe_lstD (xa_cons xe_int (xa_cons xe_int (xa_cons (xe_call (ok_lldraw T) (hr.mono (by decide)) T.g_lldraw T.F_lldraw.kp T.b_lldraw (xa_cons (xv 0) (xa_cons xe_int xa_nil))) xa_nil)))) (xe_call (ok_lldraw T) (hr.mono (by decide)) T.g_lldraw T.F_lldraw.kp T.b_lldraw (xa_cons (xv 0) (xa_cons xe_int xa_nil))))) simLE)
      (xss_cons (xs_asgN (ps_set (i := 3) sc_llone_run.nd rfl (by first | exact .inl rfl | exact .inr rfl) (xe_addD xe_int (xe_call (ok_lldraw T) (hr.mono (by decide)) T.g_lldraw T.F_lldraw.kp T.b_lldraw (xa_cons (xv 0) (xa_cons (xv 1) xa_nil))))) simLE)
      (xss_one (xs_ret (xe_tupO (xa_cons (xe_call (ok_llrun T) (hr.mono (by decide)) T.g_llrun T.F_llrun.kp T.b_llrun (xa_cons (xv 0) (xa_cons xe_dct0 (xa_cons (xv 2) (xa_cons (xv 3) (xa_cons (xe_addD xe_int (xe_call (ok_lldraw T) (hr.mono (by decide)) T.g_lldraw T.F_lldraw.kp T.b_lldraw (xa_cons (xv 0) (xa_cons xe_int xa_nil)))) xa_nil)))))) (xa_cons (xv 2) xa_nil)))))))) (fun ss M q h => ?read)
  case len =>
    obtain ⟨f, n, most, rfl, _⟩ := h
    rfl
  case read =>
    obtain ⟨f, n, most, rfl, hm1, hm2, F0, hn, k⟩ := h
    refine ⟨_, rfl, f, 100, _, rfl, by decide, by decide, F0, by omega, fun r1 M1 p1 q1 F1 o1 => ?_⟩
    dsimp only [dNil]
    refine ⟨rfl, [.int 0, .int 99, .int r1], rfl, ?_⟩
    refine ⟨_, rfl, f, 3, _, rfl, by decide, by decide, F1, by omega, fun r2 M2 p2 q2 F2 o2 => ?_⟩
    obtain ⟨run, hrun, hr0, hr9⟩ : ∃ v : Int, atI [PyData.int 0, .int 99, .int r1] r2 = some (.int v) ∧ 0 ≤ v ∧ v ≤ 99 := by
      have : r2 = 0 ∨ r2 = 1 ∨ r2 = 2 := by omega
      rcases this with rfl | rfl | rfl
      · exact ⟨_, rfl, by omega, by omega⟩
      · exact ⟨_, rfl, by omega, by omega⟩
      · exact ⟨_, rfl, by omega, by omega⟩
    refine ⟨_, hrun, ?_⟩
    refine ⟨_, rfl, _, rfl, f, most, _, rfl, by omega, by omega, F2, by omega, fun r3 M3 p3 q3 F3 o3 => ?_⟩
    refine ⟨_, rfl, fun c hc => ?_⟩
    have nfc : f ≠ c := F3.ne hc
    refine ⟨_, rfl, _, rfl, _, rfl, f, 8, _, rfl, by decide, by decide, F3.put nfc, by omega, fun r4 M4 p4 q4 F4 o4 => ?_⟩
    have hc4 : M4 c = some (.dct []) := (o4 c nfc.symm).trans put_at
    refine ⟨f, c, [], _, run, 1 + r3, 1 + r4, rfl, F4, by omega, hc4, (fun h s e => nomatch e), by decide, by omega, by omega, by omega, by omega, fun pr ps kvs' B M5 hpr hm hl hB1 hB2 R hc5 F5 o5 => ?_⟩
    refine ⟨_, rfl, rfl, fun pp hpp => ?_⟩
    have K3 : Keep f M M3 := ((Keep.of o1).trans (Keep.of o2)).trans (Keep.of o3)
    have K5 : Keep f M M5 := fun x h1 h2 => by
      have h3 : M3 x ≠ none := by rw [K3 x h1 h2]; exact h2
      have nx : x ≠ c := fun e => h3 (by rw [e]; exact hc)
      have h4 : M4 x = M x := by rw [o4 x h1, put_ne nx, K3 x h1 h2]
      exact (o5 x h1 nx (by rw [h4]; exact h2)).trans h4
    have lps : (ps.length : Int) ≤ most := by omega
    have hprM : M pr = none := by
      refine K3.no (fun e => F4.ne hpr e.symm) ?_
      have h := o4 pr (fun e => F4.ne hpr e.symm)
      rw [hpr] at h
      cases e : M3 pr with
      | none => rfl
      | some o =>
        rw [put_ne (ne_mem e hc), e] at h
        cases h
    exact k pp pr ps run (1 + r4) B kvs' _ (K5.no (fun e => F5.ne hpp e.symm) hpp) hprM put_at ((put_ne (ne_mem hm hpp)).trans hm) ⟨hr0, hr9⟩ ⟨by omega, by omega⟩ ⟨hB1, hB2⟩ R lps (fun e => by rw [e] at hl; have : (0 : Nat) = (1 + r3).toNat := hl; omega) ((F5.put (F5.ne hpp)).up (by omega)) (K5.to (K5.no (fun e => F5.ne hpp e.symm) hpp))
theorem ok_llgapped (T : Tx P K mg) : Holds P w K mg base 6 T.f_llgapped T.fd_llgapped ["feed", "most"] pr_lgapped := by
  refine holds_of T.F_llgapped sc_llgapped (fun ss M q h => ?len) (fun cdv A outer s H hr => (xss_cons (xs_asg (ps_asg (xe_call (ok_llone_run T) (hr.mono (by decide)) T.g_llone_run T.F_llone_run.kp T.b_llone_run (xa_cons (xv 0) (xa_cons (xv 1) xa_nil))) (xg_tupO (pg_tup (n := 2) rfl (xgo_cons (pgs_cons (xg_name (pg_name (i := 4) sc_llgapped.nd rfl (by first | exact .inl rfl | exact .inr rfl))) (xgo_cons (pgs_cons (xg_name (pg_name (i := 5) sc_llgapped.nd rfl (by first | exact .inl rfl | exact .inr rfl))) xgo_nil))))))))
      (xss_cons (xs_forR1 (ps_for PassesOwn.never rfl (pi_range1 rfl T.m_range (xa_cons (xe_addD xe_int (xe_call (ok_lldraw T) (hr.mono (by decide)) T.g_lldraw T.F_lldraw.kp T.b_lldraw (xa_cons (xv 0) (xa_cons xe_int xa_nil)))) xa_nil)) (xg_name (pg_name (i := 2) sc_llgapped.nd rfl (by first | exact .inl rfl | exact .inr rfl))) (xss_one (xs_if (xb_cmp (sim_I0 fun _ _ _ => .bl _) (pt_cmpR op_gt (xe_callB sim_len (pe_callB call_lenA rfl T.m_len (by decide +kernel) (xa_cons (xv 4) xa_nil))) xe_int (nomark _))) (xss_one (xs_expr (xe_bmL sim_popAt (pe_bm PySem.F.plainAttrs_list PySem.F.slot_list_pop PySem.F.type_list_pop mt_popAt (xv 4) (xa_cons (xe_call (ok_lldraw T) (hr.mono (by decide)) T.g_lldraw T.F_lldraw.kp T.b_lldraw (xa_cons (xv 0) (xa_cons (xe_callB sim_len (pe_callB call_lenA rfl T.m_len (by decide +kernel) (xa_cons (xv 4) xa_nil))) xa_nil))) xa_nil))))) xss_nil))))
      (xss_cons (xs_asgN (ps_set (i := 3) sc_llgapped.nd rfl (by first | exact .inl rfl | exact .inr rfl) (xe_call (ok_lldraw T) (hr.mono (by decide)) T.g_lldraw T.F_lldraw.kp T.b_lldraw (xa_cons (xv 0) (xa_cons xe_int xa_nil)))) simLE)
      (xss_cut (xs_if (xb_cmp (sim_inT false) (pt_cmpR op_in_seq (xv 3) (xe_tup (xa_cons xe_int (xa_cons xe_int xa_nil))) rfl)) (xss_one (xs_asgN (ps_set (i := 4) sc_llgapped.nd rfl (by first | exact .inl rfl | exact .inr rfl) (xe_call (ok_llringed T) (hr.mono (by decide)) T.g_llringed T.F_llringed.kp T.b_llringed (xa_cons (xv 0) (xa_cons (xv 4) xa_nil)))) simLE)) xss_nil)
      (xss_cons (xs_forR1 (ps_for PassesOwn.never rfl (pi_range1 rfl T.m_range (xa_cons (xe_ix (xe_lstD (xa_cons xe_int (xa_cons xe_int (xa_cons xe_int (xa_cons xe_int (xa_cons xe_int (xa_cons xe_int (xa_cons xe_int (xa_cons xe_int xa_nil))))))))) (xv 3)) xa_nil)) (xg_name (pg_name (i := 2) sc_llgapped.nd rfl (by first | exact .inl rfl | exact .inr rfl))) (xss_cons (xs_asgN (ps_set (i := 6) sc_llgapped.nd rfl (by first | exact .inl rfl | exact .inr rfl) (xe_call (ok_lldraw T) (hr.mono (by decide)) T.g_lldraw T.F_lldraw.kp T.b_lldraw (xa_cons (xv 0) (xa_cons (xe_callB sim_len (pe_callB call_lenA rfl T.m_len (by decide +kernel) (xa_cons (xv 4) xa_nil))) xa_nil)))) simLE)
      (xss_one (xs_setL (ps_asg (xe_addD (xe_addD (xe_addD (xe_slD (xe_ix (xv 4) (xv 6)) xo_none (xo_some xe_int)) (xe_tup (xa_cons (xe_neg xe_int) xa_nil))) (xe_slD (xe_ix (xv 4) (xv 6)) (xo_some xe_int) (xo_some xe_int))) (xe_tup (xa_cons xe_bl xa_nil))) (pg_sub (xv 4) (xv 6) set_list)))))))
      (xss_cut (xs_if (xb_cmp sim_eq (pt_cmpR (op_eqAll hr.rm.units) (xv 3) xe_int (nomark _))) (xss_cons (xs_asgN (ps_set (i := 6) sc_llgapped.nd rfl (by first | exact .inl rfl | exact .inr rfl) (xe_call (ok_lldraw T) (hr.mono (by decide)) T.g_lldraw T.F_lldraw.kp T.b_lldraw (xa_cons (xv 0) (xa_cons (xe_callB sim_len (pe_callB call_lenA rfl T.m_len (by decide +kernel) (xa_cons (xv 4) xa_nil))) xa_nil)))) simLE)
      (xss_one (xs_setL (ps_asg (xe_call (ok_llbent_one T) (hr.mono (by decide)) T.g_llbent_one T.F_llbent_one.kp T.b_llbent_one (xa_cons (xv 0) (xa_cons (xv 4) (xa_cons (xv 6) xa_nil)))) (pg_sub (xv 4) (xv 6) set_list))))) xss_nil)
      (xss_one (xs_ret (xe_tupO (xa_cons (xv 4) (xa_cons (xv 5) xa_nil)))))))))))) (fun ss M q h => ?read)
  case len =>
    obtain ⟨f, n, most, rfl, _⟩ := h
    rfl
  case read =>
    obtain ⟨f, n, most, rfl, hm1, hm2, F0, hn, k⟩ := h
    refine ⟨_, rfl, _, rfl, f, n, most, rfl, hm1, hm2, F0, hn, fun pp p ds run houses B kvs' M1 hpp hp hmpp hm1' hrun hh hB R hl hne F1 K1 => ?_⟩
    obtain ⟨G0, A0, T0⟩ := G46.of R hrun hh.2 hB (by omega) hne
    refine ⟨_, IsT.own hmpp, rfl, ?_⟩
    refine ⟨_, rfl, f, 3, _, rfl, by decide, by decide, F1, by omega, fun r1 M2 p2 q2 F2 o2 => ?_⟩
    have nfp : p ≠ f := feed_lp F1 hm1'
    refine ⟨0, 1 + r1, rfl, ⟨by decide, by decide, by omega, by omega⟩, fun i Γ' M' => ∃ (x2 x3 x6 : Option Sl) (es : List Pc), Γ' = [some (.own f), some (.dat (.int most)), x2, x3, some (.own p), some (.dat (.int run)), x6] ∧ M' p = some (.lst (lp es)) ∧ es.Sublist ds ∧ es ≠ [] ∧ Feed M' f (n + 5011 + i) ∧ Keep f M M', ⟨_, _, _, ds, rfl, (o2 p nfp).trans hm1', List.Sublist.refl _, hne, F2.up (by omega), K1.trans (Keep.of o2)⟩, ?_, ?_⟩
    · rintro i Γ' M3 hi ⟨x2, x3, x6, es, rfl, hm, S, hne3, F3, K3⟩
      have hi3 : (i : Int) < 3 := by omega
      have les := S.length_le
      refine ⟨_, rfl, _, hm, And.intro (fun hgt => ?_) (fun _ => ?_)⟩
      · have hgt' : 1 < ((lp es).length : Int) := of_decide_eq_true hgt
        rw [lp_len] at hgt'
        refine ⟨_, rfl, ⟨_, IsL.own hm⟩, _, rfl, _, rfl, _, hm, f, ((lp es).length : Int), _, rfl, by rw [lp_len]; omega, by rw [lp_len]; omega, F3, by omega, fun r4 M4 p4 q4 F4 o4 => ?_⟩
        rw [lp_len] at q4
        obtain ⟨j, ej⟩ : ∃ j : Nat, r4 = (j : Int) := ⟨r4.toNat, by omega⟩
        subst ej
        have hj : j < es.length := by omega
        refine ⟨_, j, .dat (es[j]).d, (o4 p nfp).trans hm, rfl, by rw [List.getElem?_map, List.getElem?_eq_getElem hj] <;> rfl, by omega, ?_⟩
        refine ⟨_, _, _, es.eraseIdx j, rfl, by rw [put_at, lp_erase], (List.eraseIdx_sublist es j).trans S, fun e => ?_, (F4.up (by omega)).put nfp.symm, (K3.trans (Keep.of o4)).to hp⟩
        have l2 := List.length_eraseIdx_of_lt hj
        rw [e] at l2
        have : (0 : Nat) = es.length - 1 := l2
        omega
      · exact ⟨_, _, _, es, rfl, hm, S, hne3, F3.up (by omega), K3⟩
    rintro Γ' M3 ⟨x2, x3, x6, es, rfl, hm, S, hne3, F3, K3⟩
    have er : (((1 + r1 - 0).toNat : Nat) : Int) ≤ 3 := by omega
    have G3 := G0.sub S hne3
    have A3 : ∀ p ∈ es, askok p := fun p hp => A0 p (S.subset hp)
    have T3 := fun p hp => T0 p (S.subset hp)
    refine ⟨_, rfl, f, 8, _, rfl, by decide, by decide, F3, by omega, fun way M4 p4 q4 F4 o4 => ?_⟩
    have hm4 := (o4 p nfp).trans hm
    have K4 := K3.trans (Keep.of o4)
    refine ⟨fun Γ' M' => ∃ (p : Addr) (x2 x6 : Option Sl) (es : List Pc), Γ' = [some (.own f), some (.dat (.int most)), x2, some (.dat (.int way)), some (.own p), some (.dat (.int run)), x6] ∧ M p = none ∧ M' p = some (.lst (lp es)) ∧ G46 run es ∧ (way = 2 → (∀ p ∈ es, askok p) ∧ ∀ p ∈ es, (-(10 ^ 29) * 2 ≤ p.b ∧ p.b ≤ 10 ^ 29 * 2) ∧ (-(10 ^ 29) * 2 ≤ p.e ∧ p.e ≤ 10 ^ 29 * 2)) ∧ Feed M' f (n + 5050) ∧ Keep f M M', ?_, ?_⟩
    · refine ⟨_, rfl, rfl, _, rfl, way, [1, 3], rfl, IsT.dat, And.intro (fun h => ?_) (fun h => ?_)⟩
      · have hw : way = 1 ∨ way = 3 := by
          have h' : decide (way ∈ ([1, 3] : List Int)) = true := h
          simpa using h'
        refine ⟨_, rfl, _, rfl, f, p, _, es, rfl, hm4, hne3, by have := G3.len; omega, F4, by omega, fun p5 es5 M5 hp5 hm5 RR F5 K5 => ?_⟩
        have hp5M : M p5 = none := by
          rcases hp5 with e | e
          · rw [e]; exact hp
          · exact K4.no (fun e2 => F4.ne e e2.symm) e
        exact ⟨p5, _, _, es5, rfl, hp5M, hm5, G3.ring RR, fun e => by omega, F5.up (by omega), K4.trans K5⟩
      · exact ⟨p, _, _, es, rfl, hp, hm4, G3, fun _ => ⟨A3, T3⟩, F4.up (by omega), K4⟩
    rintro Γ' M5 ⟨p, x2, x6, es, rfl, hp, hm, G5, W5, F5, K5⟩
    have les5 := G5.len
    have pos5 : 0 < es.length := List.length_pos_iff.mpr G5.ne
    obtain ⟨tn, htn, tn0, tn1, tn2⟩ : ∃ v : Int, atI [PyData.int 1, .int 0, .int 0, .int 2, .int 0, .int 0, .int 0, .int 0] way = some (.int v) ∧ 0 ≤ v ∧ v ≤ 2 ∧ (way = 2 → v = 0) := by
      have : way = 0 ∨ way = 1 ∨ way = 2 ∨ way = 3 ∨ way = 4 ∨ way = 5 ∨ way = 6 ∨ way = 7 := by omega
      rcases this with rfl | rfl | rfl | rfl | rfl | rfl | rfl | rfl <;> exact ⟨_, rfl, by omega, by omega, by omega⟩
    refine ⟨rfl, _, rfl, _, rfl, _, htn, ?_⟩
    have nfp5 : p ≠ f := feed_lp F5 hm
    refine ⟨0, tn, rfl, ⟨by decide, by decide, by omega, by omega⟩, fun i Γ' M' => ∃ (x2 x6 : Option Sl) (fs : List Pc), Γ' = [some (.own f), some (.dat (.int most)), x2, some (.dat (.int way)), some (.own p), some (.dat (.int run)), x6] ∧ M' p = some (.lst (lp fs)) ∧ fs.length = es.length ∧ G46 run fs ∧ (i = 0 → fs = es) ∧ Feed M' f (n + 5050 + i) ∧ Keep f M M', ⟨_, _, es, rfl, hm, rfl, G5, fun _ => rfl, F5.up (by omega), K5⟩, ?_, ?_⟩
    · rintro i Γ' M6 hi ⟨x2, x6, fs, rfl, hm6, lfs, G6, _, F6, K6⟩
      have hi2 : (i : Int) < 2 := by omega
      refine ⟨_, rfl, _, rfl, _, hm6, f, ((lp fs).length : Int), _, rfl, by rw [lp_len]; omega, by rw [lp_len]; omega, F6, by omega, fun r7 M7 p7 q7 F7 o7 => ?_⟩
      rw [lp_len] at q7
      obtain ⟨j, ej⟩ : ∃ j : Nat, r7 = (j : Int) := ⟨r7.toNat, by omega⟩
      subst ej
      have hj : j < fs.length := by omega
      have hm7 := (o7 p nfp5).trans hm6
      have hat : atI (lp fs) (j : Int) = some (.dat (fs[j]).d) := by
        unfold atI
        rw [lp_len, ixN_nat hj]
        show (lp fs)[j]? = _
        rw [List.getElem?_map, List.getElem?_eq_getElem hj]
        rfl
      refine ⟨_, rfl, _, rfl, _, _, hm7, hat, rfl, _, rfl, (show 2 + 1 ≤ 16777216 by decide), ?_⟩
      refine ⟨_, rfl, _, rfl, _, _, hm7, hat, (show 3 + 4 ≤ 16777216 by decide), rfl, _, rfl, (show 7 + 1 ≤ 16777216 by decide), ?_⟩
      refine ⟨_, rfl, _, rfl, p, _, _, j, rfl, rfl, hm7, by rw [lp_len]; exact ixN_nat hj, ?_⟩
      obtain ⟨y, hy⟩ : ∃ y : Pc, y = ⟨(fs[j]).r, (fs[j]).n, -1, (fs[j]).h, (fs[j]).c, (fs[j]).b, (fs[j]).e, false⟩ := ⟨_, rfl⟩
      refine ⟨_, _, fs.set j y, rfl, by rw [put_at, ← lp_set, hy]; rfl, by rw [List.length_set]; exact lfs, G6.set fun z hz => ?_, fun e => (nomatch e), (F7.put nfp5.symm).up (by rw [Int.natCast_succ]; omega), (K6.trans (Keep.of o7)).to hp⟩
      rw [List.getElem?_eq_getElem hj] at hz
      cases hz
      rw [hy]
      exact ⟨rfl, rfl, rfl, rfl, ⟨by show (-1 : Int) ≤ -1; omega, by show (-1 : Int) ≤ 99; omega⟩, G6.tim (fs[j]) (List.getElem_mem hj)⟩
    rintro Γ' M6 ⟨x2, x6, fs, rfl, hm6, lfs, G6, same, F6, K6⟩
    have tn3 : (((tn - 0).toNat : Nat) : Int) ≤ 2 := by omega
    have F6' : Feed M6 f (n + 5060) := F6.up (by omega)
    refine ⟨fun Γ' M' => ∃ (x2 x6 : Option Sl) (gs : List Pc), Γ' = [some (.own f), some (.dat (.int most)), x2, some (.dat (.int way)), some (.own p), some (.dat (.int run)), x6] ∧ M' p = some (.lst (lp gs)) ∧ G46 run gs ∧ Feed M' f (n + 6000) ∧ Keep f M M', ?_, ?_⟩
    · refine ⟨_, rfl, And.intro (fun h => ?_) (fun h => ?_)⟩
      · have hw : way = 2 := of_decide_eq_true h
        have e0 := tn2 hw
        rw [e0] at same
        have efs := same rfl
        rw [efs] at hm6 G6
        obtain ⟨A5, T5⟩ := W5 hw
        refine ⟨_, rfl, _, rfl, _, hm6, f, ((lp es).length : Int), _, rfl, by rw [lp_len]; omega, by rw [lp_len]; omega, F6', by omega, fun r7 M7 p7 q7 F7 o7 => ?_⟩
        rw [lp_len] at q7
        obtain ⟨j, ej⟩ : ∃ j : Nat, r7 = (j : Int) := ⟨r7.toNat, by omega⟩
        subst ej
        have hj : j < es.length := by omega
        have hm7 := (o7 p nfp5).trans hm6
        refine ⟨_, rfl, _, rfl, _, rfl, f, p, _, es, j, es[j], rfl, hm7, List.getElem?_eq_getElem hj, G6.num, by omega, F7, by omega, fun y M8 bent F8 o8 => ?_⟩
        have hm8 := (o8 p nfp5).trans hm7
        refine ⟨_, rfl, _, rfl, p, _, _, j, rfl, rfl, hm8, by rw [lp_len]; exact ixN_nat hj, ?_⟩
        have hin : es[j] ∈ es := List.getElem_mem hj
        refine ⟨_, _, es.set j y, rfl, by rw [put_at, lp_set], G6.set fun z hz => ?_, (F8.put nfp5.symm).up (by omega), (((K6.trans (Keep.of o7)).trans (Keep.of o8))).to hp⟩
        rw [List.getElem?_eq_getElem hj] at hz
        cases hz
        have t5 := T5 _ hin
        have bb := bent.b
        have be := bent.e
        refine ⟨bent.r, bent.n, bent.h, bent.c, ?_, by omega⟩
        rcases bent.ask (A5 _ hin) with h | h <;> omega
      · exact ⟨_, _, fs, rfl, hm6, G6, F6'.up (by omega), K6⟩
    rintro Γ' M7 ⟨x2, x6, gs, rfl, hm7, G7, F7, K7⟩
    refine ⟨_, rfl, _, rfl, rfl, fun pw hpw => ?_⟩
    have hpwM : M pw = none := K7.no (fun e => F7.ne hpw e.symm) hpw
    exact k pw p gs run _ hpwM hp put_at ((put_ne (ne_mem hm7 hpw)).trans hm7) G7 ((F7.put (F7.ne hpw)).up (by omega)) (K7.to hpwM)
theorem ok_llbeside (T : Tx P K mg) : Holds P w K mg base 3 T.f_llbeside T.fd_llbeside ["feed", "pieces", "run"] pr_lbeside := by
  refine holds_of T.F_llbeside sc_llbeside (fun ss M q h => ?len) (fun cdv A outer s H hr => (xss_cons (xs_asgN (ps_set (i := 3) sc_llbeside.nd rfl (by first | exact .inl rfl | exact .inr rfl) (xe_lst xa_nil)) simLE)
      (xss_cons (xs_forL (ps_for PassesOwn.never rfl (pi_list (xe_fz (xe_op op_rep sim_rep (xv 1) (xe_call (ok_lldraw T) (hr.mono (by decide)) T.g_lldraw T.F_lldraw.kp T.b_lldraw (xa_cons (xv 0) (xa_cons xe_int xa_nil)))))) (xg_name (pg_name (i := 4) sc_llbeside.nd rfl (by first | exact .inl rfl | exact .inr rfl))) (xss_one (xs_if (xb_cmp (sim_I0 fun _ _ _ => .bl _) (pt_cmpR op_gt (xe_call (ok_lldraw T) (hr.mono (by decide)) T.g_lldraw T.F_lldraw.kp T.b_lldraw (xa_cons (xv 0) (xa_cons xe_int xa_nil))) xe_int (nomark _))) (xss_one (xs_expr (xe_bmL sim_app (pe_bm PySem.F.plainAttrs_list PySem.F.slot_list_append PySem.F.type_list_append mt_append (xv 3) (xa_cons (xe_addD (xe_addD (xe_addD (xe_tup (xa_cons (xe_mod (xe_addD (xv 2) xe_int) xe_int) xa_nil)) (xe_slD (xv 4) (xo_some xe_int) (xo_some xe_int))) (xe_tup (xa_cons (xe_addD xe_int (xe_ix (xv 4) xe_int)) xa_nil))) (xe_slD (xv 4) (xo_some xe_int) xo_none)) xa_nil))))) xss_nil))))
      (xss_cons (xs_asgN (ps_set (i := 5) sc_llbeside.nd rfl (by first | exact .inl rfl | exact .inr rfl) (xe_mod (xe_addD (xv 2) xe_int) xe_int)) simLE)
      (xss_cons (xs_asgN (ps_set (i := 6) sc_llbeside.nd rfl (by first | exact .inl rfl | exact .inr rfl) (xe_call (ok_lldraw T) (hr.mono (by decide)) T.g_lldraw T.F_lldraw.kp T.b_lldraw (xa_cons (xv 0) (xa_cons xe_int xa_nil)))) simLE)
      (xss_cut (xs_if (xb_cmp sim_eq (pt_cmpR (op_eqAll hr.rm.units) (xv 6) xe_int (nomark _))) (xss_one (xs_asgN (ps_set (i := 3) sc_llbeside.nd rfl (by first | exact .inl rfl | exact .inr rfl) (xe_add (xv 3) (xe_lst (xa_cons (xe_tup (xa_cons (xv 5) (xa_cons xe_int (xa_cons xe_int (xa_cons xe_int (xa_cons xe_int (xa_cons xe_int (xa_cons xe_int (xa_cons xe_bl xa_nil))))))))) (xa_cons (xe_tup (xa_cons (xv 5) (xa_cons xe_int (xa_cons xe_int (xa_cons xe_int (xa_cons xe_int (xa_cons xe_int (xa_cons xe_int (xa_cons xe_bl xa_nil))))))))) xa_nil))))) simLE)) xss_nil)
      (xss_cut (xs_if (xb_cmp sim_eq (pt_cmpR (op_eqAll hr.rm.units) (xv 6) xe_int (nomark _))) (xss_one (xs_asgN (ps_set (i := 3) sc_llbeside.nd rfl (by first | exact .inl rfl | exact .inr rfl) (xe_add (xv 3) (xe_lst (xa_cons (xe_tup (xa_cons (xv 5) (xa_cons xe_int (xa_cons (xe_neg xe_int) (xa_cons xe_int (xa_cons xe_int (xa_cons xe_int (xa_cons xe_int (xa_cons xe_bl xa_nil))))))))) (xa_cons (xe_tup (xa_cons (xv 5) (xa_cons xe_int (xa_cons (xe_neg xe_int) (xa_cons xe_int (xa_cons xe_int (xa_cons xe_int (xa_cons xe_int (xa_cons xe_bl xa_nil))))))))) xa_nil))))) simLE)) xss_nil)
      (xss_one (xs_ret (xv 3)))))))))) (fun ss M q h => ?read)
  case len =>
    obtain ⟨f, p, n, run, ds, rfl, _⟩ := h
    rfl
  case read =>
    obtain ⟨f, p, n, run, ds, rfl, hm, hr0, hr1, lds, F0, hn, k⟩ := h
    have nfp : p ≠ f := feed_lp F0 hm
    refine ⟨rfl, fun b hb => ?_⟩
    have nfb : f ≠ b := F0.ne hb
    have npb : p ≠ b := ne_mem hm hb
    refine ⟨_, rfl, _, rfl, f, 2, _, rfl, by decide, by decide, F0.put nfb, by omega, fun r1 M1 p1 q1 F1 o1 => ?_⟩
    have hm1 := (o1 p nfp).trans ((put_ne npb).trans hm)
    have hb1 : M1 b = some (.lst (lp [])) := (o1 b nfb.symm).trans put_at
    have K1 : Keep f M M1 := (Keep.born hb).trans (Keep.of o1)
    refine ⟨lp ds, r1, IsL.own hm1, rfl, p1, by omega, ?_, fun c hc => ?_⟩
    · rw [lp_len]
      have : r1.toNat ≤ 1 := by omega
      exact Nat.le_trans (Nat.mul_le_mul lds this) (by decide)
    obtain ⟨xs, exs, hxs⟩ : ∃ xs : List Pc, (List.replicate r1.toNat (lp ds)).flatten = lp xs ∧ xs.Sublist ds := by
      have : r1 = 0 ∨ r1 = 1 := by omega
      rcases this with rfl | rfl
      · exact ⟨[], rfl, List.nil_sublist _⟩
      · exact ⟨ds, by show (List.replicate 1 (lp ds)).flatten = _; simp, List.Sublist.refl _⟩
    rw [exs]
    have lxs := hxs.length_le
    have ncb : b ≠ c := ne_mem hb1 hc
    have ncp : p ≠ c := ne_mem hm1 hc
    have nfc : f ≠ c := F1.ne hc
    refine ⟨_, by rw [put_at, lp_dat], ?_⟩
    rw [del_put hc]
    refine ⟨lp xs, by rw [lp_dat]; exact IsL.dat, fun i Γ' M' => ∃ (x4 x5 x6 : Option Sl) (gs : List Pc), Γ' = [some (.own f), some (.own p), some (.dat (.int run)), some (.own b), x4, x5, x6] ∧ gs.Sublist (xs.take i) ∧ M' b = some (.lst (lp (gs.map fun p => ⟨(run + 2) % 100, p.n, p.a, p.h, 400 + p.c, p.b, p.e, p.j⟩))) ∧ Feed M' f (n + 1 + i) ∧ Keep f M M', ⟨_, _, _, [], rfl, List.nil_sublist _, hb1, F1.up (by omega), K1⟩, (fun _ _ _ _ _ => by rw [lp_dat]; exact IsL.dat), ?_, ?_⟩
    · rintro i x Γ' M2 hx ⟨x4, x5, x6, gs, rfl, S, hb2, F2, K2⟩
      obtain ⟨z, hz, rfl⟩ := lp_mem hx
      have hi : i < xs.length := (List.getElem?_eq_some_iff.mp hz).1
      have et : xs.take (i + 1) = xs.take i ++ [z] := by rw [List.take_add_one, hz]; rfl
      have lgs := S.length_le
      rw [List.length_take] at lgs
      refine ⟨_, rfl, f, 4, _, rfl, by decide, by decide, F2, by omega, fun r3 M3 p3 q3 F3 o3 => And.intro (fun _ => ?_) (fun _ => ?_)⟩
      · have hb3 := (o3 b nfb.symm).trans hb2
        refine ⟨_, rfl, ⟨_, IsL.own hb3⟩, _, rfl, (show (0 : Int) < 100 by decide), rfl, _, rfl, _, rfl, (show 1 + 3 ≤ 16777216 by decide), _, rfl, _, rfl, rfl, _, rfl, (show 4 + 1 ≤ 16777216 by decide), _, rfl, (show 5 + 3 ≤ 16777216 by decide), ?_⟩
        refine ⟨_, hb3, by rw [lp_len, List.length_map]; omega, ?_⟩
        refine ⟨_, _, _, gs ++ [z], rfl, by rw [et]; exact S.append (List.Sublist.refl _), ?_, (F3.put nfb).up (by rw [Int.natCast_succ]; omega), (K2.trans (Keep.of o3)).to hb⟩
        rw [put_at, List.map_append, lp_appT]
        rfl
      · exact ⟨_, _, _, gs, rfl, by rw [et]; exact S.trans (List.sublist_append_left _ _), (o3 b nfb.symm).trans hb2, F3.up (by rw [Int.natCast_succ]; omega), K2.trans (Keep.of o3)⟩
    rintro Γ' M2 ⟨x4, x5, x6, gs, rfl, S, hb2, F2, K2⟩
    rw [lp_len, List.take_length] at S
    rw [lp_len] at F2
    obtain ⟨es, ees⟩ : ∃ es, es = gs.map fun p : Pc => (⟨(run + 2) % 100, p.n, p.a, p.h, 400 + p.c, p.b, p.e, p.j⟩ : Pc) := ⟨_, rfl⟩
    rw [← ees] at hb2
    have les : es.length ≤ 14 := by
      rw [ees, List.length_map]
      have := S.length_le
      omega
    have SS := S.trans hxs
    have F2' : Feed M2 f (n + 15) := F2.up (by omega)
    refine ⟨_, rfl, (show (0 : Int) < 100 by decide), ?_⟩
    refine ⟨_, rfl, f, 6, _, rfl, by decide, by decide, F2', by omega, fun way M3 p3 q3 F3 o3 => ?_⟩
    have hb3 := (o3 b nfb.symm).trans hb2
    have K3 := K2.trans (Keep.of o3)
    refine ⟨fun Γ' M' => ∃ (b2 : Addr) (os : List Pc) (x4 : Option Sl), Γ' = [some (.own f), some (.own p), some (.dat (.int run)), some (.own b2), x4, some (.dat (.int ((run + 4) % 100))), some (.dat (.int way))] ∧ M b2 = none ∧ M' b2 = some (.lst (lp (es ++ os))) ∧ (os = [] ∨ (way = 0 ∧ os = [⟨(run + 4) % 100, 1, 2, 6, 700, 0, 0, false⟩, ⟨(run + 4) % 100, 2, 1, 6, 701, 0, 0, false⟩])) ∧ (way ≠ 0 → os = []) ∧ Feed M' f (n + 16) ∧ Keep f M M', ?_, ?_⟩
    · refine ⟨_, rfl, And.intro (fun h => ?_) (fun h => ?_)⟩
      · have hw : way = 0 := of_decide_eq_true h
        refine ⟨_, rfl, _, rfl, rfl, _, rfl, _, rfl, rfl, _, rfl, rfl, fun c hc => ?_⟩
        have nc : b ≠ c := ne_mem hb3 hc
        refine ⟨_, _, IsL.own ((put_ne nc).trans hb3), IsL.own put_at, by rw [lp_len]; show es.length + 2 ≤ _; omega, fun b2 hb2' => ?_⟩
        have nfb2 : f ≠ b2 := (F3.put (F3.ne hc)).ne hb2'
        have hb2M3 : M3 b2 = none := was_none (keep_put hc) hb2'
        have hb2M : M b2 = none := K3.no nfb2.symm hb2M3
        refine ⟨b2, [⟨(run + 4) % 100, 1, 2, 6, 700, 0, 0, false⟩, ⟨(run + 4) % 100, 2, 1, 6, 701, 0, 0, false⟩], _, rfl, hb2M, ?_, .inr ⟨hw, rfl⟩, fun h => absurd hw h, ((F3.put (F3.ne hc)).put nfb2).up (by omega), (K3.to (K3.no (F3.ne hc).symm hc)).to hb2M⟩
        rw [put_at, lp_appT]
        rfl
      · exact ⟨b, [], _, rfl, hb, by rw [List.append_nil]; exact hb3, .inl rfl, fun _ => rfl, F3.up (by omega), K3⟩
    rintro Γ' M4 ⟨b2, os, x4, rfl, hb2M, hb4, hos, hos2, F4, K4⟩
    have nfb2 : b2 ≠ f := feed_lp F4 hb4
    refine ⟨fun Γ' M' => ∃ (b2 : Addr) (os : List Pc) (x4 x5 : Option Sl), Γ' = [some (.own f), some (.own p), some (.dat (.int run)), some (.own b2), x4, x5, some (.dat (.int way))] ∧ M b2 = none ∧ M' b2 = some (.lst (lp (es ++ os))) ∧ (os = [] ∨ os = [⟨(run + 4) % 100, 1, 2, 6, 700, 0, 0, false⟩, ⟨(run + 4) % 100, 2, 1, 6, 701, 0, 0, false⟩] ∨ os = [⟨(run + 4) % 100, 1, -1, 6, 700, 0, 0, false⟩, ⟨(run + 4) % 100, 2, -1, 6, 701, 0, 0, false⟩]) ∧ Feed M' f (n + 17) ∧ Keep f M M', ?_, ?_⟩
    · refine ⟨_, rfl, And.intro (fun h => ?_) (fun h => ?_)⟩
      · have hw : way = 1 := of_decide_eq_true h
        have e0 : os = [] := hos2 (by omega)
        rw [e0, List.append_nil] at hb4
        refine ⟨_, rfl, _, rfl, rfl, _, rfl, _, rfl, rfl, _, rfl, rfl, fun c hc => ?_⟩
        have nc : b2 ≠ c := ne_mem hb4 hc
        refine ⟨_, _, IsL.own ((put_ne nc).trans hb4), IsL.own put_at, by rw [lp_len]; show es.length + 2 ≤ _; omega, fun b3 hb3' => ?_⟩
        have nfb3 : f ≠ b3 := (F4.put (F4.ne hc)).ne hb3'
        have hb3M3 : M4 b3 = none := was_none (keep_put hc) hb3'
        have hb3M : M b3 = none := K4.no nfb3.symm hb3M3
        refine ⟨b3, [⟨(run + 4) % 100, 1, -1, 6, 700, 0, 0, false⟩, ⟨(run + 4) % 100, 2, -1, 6, 701, 0, 0, false⟩], _, _, rfl, hb3M, ?_, .inr (.inr rfl), ((F4.put (F4.ne hc)).put nfb3).up (by omega), (K4.to (K4.no (F4.ne hc).symm hc)).to hb3M⟩
        rw [put_at, lp_appT]
        rfl
      · exact ⟨b2, os, _, _, rfl, hb2M, hb4, hos.elim .inl (fun h => .inr (.inl h.2)), F4.up (by omega), K4⟩
    rintro Γ' M5 ⟨b3, os3, x4, x5, rfl, hb3M, hb5, hos3, F5, K5⟩
    exact ⟨_, rfl, k b3 _ M5 hb3M hb5 ⟨es, os3, rfl, ⟨gs, SS, ees⟩, hos3⟩ (F5.up (by omega)) K5⟩
end
end LW
namespace LW
open PySem PySem.Spec PyProof.Rows DL
open L2 hiding del del_ne del_same
def wordO : Option (Addr × Str) → Str
  | none => ""
  | some (_, wd) => wd
section
variable (P : Program) (w : World) (K : PySem.W.Frag) (mg : Str → Option Value) (base : Heap)
/-- what is called with some things ends as o says-/
def pr_caughtO (ok : Option (Addr × Str) → Prop) : Pr := fun ss M q => ∃ (a f : Addr) (args : List Sl) (fd : FuncData) (ps : List Str) (pr : PrX) (o : Option (Addr × Str)), ss = [.own a] ∧ M a = some (.tup (.raw (.ref f) :: args)) ∧ ((∃ x y z, args = [x, y, z])) ∧ HoldsX P w K mg base 6 f fd ps pr ∧ PySem.W.keepIn K (.ref f) = true ∧ Binds K fd ps [] ∧ ok o ∧
  (∀ (q' : DK) (kx : DX), (o = none → ∀ s M2, (∀ x, M x ≠ none → M2 x = M x) → q' s M2) → (∀ C wd, o = some (C, wd) → ∀ fs M2, (∀ x, M x ≠ none → M2 x = M x) → kx C fs M2) → pr args M q' kx) ∧ ∀ M', (∀ x, M x ≠ none → M' x = M x) → q (.dat (.str (wordO o))) M'
end
def OkO (c0 c1 c2 c3 c4 : Addr) (o : Option (Addr × Str)) : Prop := o = none ∨ o = some (c0, ("run" : Str)) ∨ o = some (c1, ("clash" : Str)) ∨ o = some (c2, ("wood" : Str)) ∨ o = some (c3, ("one" : Str)) ∨ o = some (c4, ("gap" : Str))
def Uni (ps : List Pc) : Prop := ∀ p ∈ ps, ∀ q ∈ ps, p.r = q.r → p.n = q.n → p = q
theorem Sep.uni {ps : List Pc} (S : Sep ps) : Uni ps := fun p hp q hq h1 h2 => by
  refine Classical.byContradiction fun hne => ?_
  have := S.cl p hp q hq hne
  unfold cl2 at this
  simp [h1, h2] at this
theorem dput_nd {kvs : Kvs} {k : Key} {s : Sl} (h : (kvs.map (·.1)).Nodup) : ((dput kvs k s).map (·.1)).Nodup := by
  unfold dput
  by_cases e : (kvs.any fun kv => decide (kv.1 = k)) = true
  · rw [if_pos e, List.map_map]
    have : ((fun x : Key × Sl => x.1) ∘ fun kv : Key × Sl => if kv.1 = k then (kv.1, s) else kv) = fun q => q.1 := by
      funext q
      show (if q.1 = k then (q.1, s) else q).1 = q.1
      by_cases z : q.1 = k
      · rw [if_pos z]
      · rw [if_neg z]
    rw [this]
    exact h
  · rw [if_neg e, List.map_append]
    refine List.nodup_append.mpr ⟨h, by simp, fun a ha b hb => ?_⟩
    have hb2 : b = k := by simpa using hb
    rintro rfl
    obtain ⟨q, hq, e2⟩ := List.mem_map.mp ha
    exact e (List.any_eq_true.mpr ⟨q, hq, decide_eq_true (e2.trans hb2)⟩)
theorem dput_mem {kvs : Kvs} {k : Key} {s : Sl} {x : Key × Sl} (h : x ∈ dput kvs k s) : x ∈ kvs ∨ x = (k, s) := by
  unfold dput at h
  by_cases e : (kvs.any fun kv => decide (kv.1 = k)) = true
  · rw [if_pos e] at h
    obtain ⟨q, hq, rfl⟩ := List.mem_map.mp h
    by_cases z : q.1 = k
    · rw [if_pos z, z]
      exact .inr rfl
    · rw [if_neg z]
      exact .inl hq
  · rw [if_neg e] at h
    rcases List.mem_append.mp h with h | h
    · exact .inl h
    · exact .inr (List.mem_singleton.mp h)
theorem mergeD_nd : ∀ (l d : Kvs), (d.map (·.1)).Nodup → ((mergeD d l).map (·.1)).Nodup
  | [], _, h => h
  | q :: l, d, h => mergeD_nd l _ (dput_nd h)
theorem mergeD_mem : ∀ (l d : Kvs) {x : Key × Sl}, x ∈ mergeD d l → x ∈ d ∨ x ∈ l
  | [], _, _, h => .inl h
  | q :: l, d, x, h => by
    rcases mergeD_mem l (dput d q.1 q.2) h with h | h
    · rcases dput_mem h with h | h
      · exact .inl h
      · exact .inr (by rw [h]; exact List.mem_cons_self ..)
    · exact .inr (List.mem_cons_of_mem _ h)
theorem mergeD_app : ∀ (l d : Kvs), (∀ q ∈ l, ∀ x ∈ d, x.1 ≠ q.1) → (l.map (·.1)).Nodup → mergeD d l = d ++ l
  | [], d, _, _ => (List.append_nil d).symm
  | q :: l, d, h, nd => by
    rw [List.map_cons, List.nodup_cons] at nd
    have e1 : dput d q.1 q.2 = d ++ [q] := by
      unfold dput
      rw [if_neg]
      intro e
      obtain ⟨x, hx, e2⟩ := List.any_eq_true.mp e
      exact h q (List.mem_cons_self ..) x hx (of_decide_eq_true e2)
    show mergeD (dput d q.1 q.2) l = _
    rw [e1, mergeD_app l (d ++ [q]) (fun p hp x hx => ?_) nd.2, List.append_assoc]
    · rfl
    · rcases List.mem_append.mp hx with hx | hx
      · exact h p (List.mem_cons_of_mem _ hp) x hx
      · rw [List.mem_singleton.mp hx]
        intro e
        exact nd.1 (List.mem_map.mpr ⟨p, hp, e.symm⟩)
theorem ofD_mem {run : Int} {ps : List Pc} {x : Key × Sl} (h : x ∈ ofD run ps) : ∃ z ∈ ps, z.r = run ∧ x = (.inl z.n, .dat z.d) := by
  rcases mergeD_mem _ _ h with h | h
  · cases h
  · obtain ⟨z, hz, rfl⟩ := List.mem_map.mp h
    have := List.mem_filter.mp hz
    exact ⟨z, this.1, of_decide_eq_true this.2, rfl⟩
theorem pcK_of {run : Int} {ps : List Pc} (hl : ps.length < 64) (hn : ∀ p ∈ ps, 0 ≤ p.n ∧ p.n ≤ 99) (ha : ∀ p ∈ ps, -1 ≤ p.a ∧ p.a ≤ 99) : PcK (ofD run ps) := by
  refine ⟨fun q hq => ?_, fun q hq => ?_, mergeD_nd _ [] List.nodup_nil, Nat.lt_of_le_of_lt (ofD_len run ps) hl⟩
  · obtain ⟨z, hz, _, rfl⟩ := ofD_mem hq
    exact ⟨z, rfl, ha z hz⟩
  · obtain ⟨z, hz, _, rfl⟩ := ofD_mem hq
    exact ⟨z.n, rfl, hn z hz⟩
theorem ofD_at {run : Int} {ps : List Pc} (U : Uni ps) {z : Pc} (hz : z ∈ ps) (hr : z.r = run) : dval (ofD run ps) (.inl z.n) = some (.dat z.d) := by
  obtain ⟨s, hs⟩ := Option.isSome_iff_exists.mp (ofD_has hz hr)
  obtain ⟨y, hy, e1, e2, e3⟩ := ofD_val hs
  have := U z hz y hy (hr.trans e2.symm) (Sum.inl.inj e3)
  rw [hs, e1, this]
theorem leP_n {p q : Pc} (h : leP p q = true) (hr : p.r = q.r) : p.n ≤ q.n := by
  have h1 : (!PySem.W.dataLt (.tuple (pc q.r q.n q.a q.h q.c q.b q.e q.j)) (.tuple (pc p.r p.n p.a p.h p.c p.b p.e p.j))) = true := h
  unfold pc at h1
  rw [PySem.W.dataLt_tuple, PySem.W.dataLt_cons (by simp [PySem.W.alike]), PySem.W.dataLt_cons (by simp [PySem.W.alike]), if_pos (by simp [PyData.eqv, hr])] at h1
  by_cases e : q.n = p.n
  · omega
  · rw [if_neg (by simp [PyData.eqv, e]), PySem.W.dataLt_int] at h1
    have h2 : ¬ q.n < p.n := by simpa using h1
    omega
theorem ofD_asc {run : Int} {ts : List Pc} (U : Uni (clearP ts)) : (keysI (ofD run (clearP ts))).Pairwise (· < ·) := by
  obtain ⟨fs, efs⟩ : ∃ fs, fs = (clearP ts).filter fun p => decide (p.r = run) := ⟨_, rfl⟩
  have hf : ∀ p ∈ fs, p ∈ clearP ts ∧ p.r = run := fun p hp => by
    rw [efs] at hp
    have := List.mem_filter.mp hp
    exact ⟨this.1, of_decide_eq_true this.2⟩
  have asc : fs.Pairwise fun p q => p.n < q.n := by
    have h0 : ((clearP ts).filter fun p => decide (p.r = run)).Pairwise fun p q => leP p q = true ∧ p ≠ q := ((clear_pw ts).and (clear_nd ts)).filter _
    rw [← efs] at h0
    refine List.Pairwise.imp_of_mem (fun {p q} hp hq h => ?_) h0
    have h1 := leP_n h.1 ((hf p hp).2.trans (hf q hq).2.symm)
    have h2 : p.n ≠ q.n := fun e => h.2 (U p (hf p hp).1 q (hf q hq).1 ((hf p hp).2.trans (hf q hq).2.symm) e)
    omega
  have e1 : ofD run (clearP ts) = fs.map fun p => (.inl p.n, .dat p.d) := by
    unfold ofD
    rw [← efs]
    refine mergeD_app _ [] (fun q _ x hx => nomatch hx) ?_
    rw [List.map_map]
    refine List.pairwise_map.mpr (asc.imp fun {a b} h e => ?_)
    have := Sum.inl.inj e
    omega
  rw [e1]
  unfold keysI
  rw [List.map_map]
  exact List.pairwise_map.mpr asc
theorem same_at {run : Int} {es ps : List Pc} (U : Uni es) (same : ∀ z, z ∈ ps ↔ z ∈ es) (n : Int) : dval (ofD run es) (.inl n) = dval (ofD run ps) (.inl n) := by
  have U2 : Uni ps := fun p hp q hq => U p ((same p).mp hp) q ((same q).mp hq)
  cases e : dval (ofD run ps) (.inl n) with
  | some s =>
    obtain ⟨z, hz, rfl, h1, h2⟩ := ofD_val e
    cases h2
    exact ofD_at U ((same z).mp hz) h1
  | none =>
    cases e2 : dval (ofD run es) (.inl n) with
    | none => rfl
    | some s =>
      obtain ⟨z, hz, rfl, h1, h2⟩ := ofD_val e2
      cases h2
      rw [ofD_at U2 ((same z).mpr hz) h1] at e
      cases e
theorem eqv_lpS (ps : List Pc) : PyData.eqv (.list (ps.map Pc.d)) (.list (ps.map Pc.d)) = true := by
  have h : ∀ ps : List Pc, PyData.eqvAll (ps.map Pc.d) (ps.map Pc.d) = true := fun ps => by
    induction ps with
    | nil => rfl
    | cons p ps ih =>
      show (PyData.eqv p.d p.d && PyData.eqvAll (ps.map Pc.d) (ps.map Pc.d)) = true
      rw [ih, Bool.and_true, eqv_pc]
      simp
  exact h ps
theorem listK_eq {kvs : Kvs} (P : PcK kvs) : (kvs.map fun q => Sl.dat (kD q.1)) = ((keysI kvs).map PyData.int).map Sl.dat := by
  unfold keysI
  rw [List.map_map, List.map_map]
  refine List.map_congr_left fun q hq => ?_
  obtain ⟨n, hn, _⟩ := P.key q hq
  show Sl.dat (kD q.1) = Sl.dat (.int (match q.1 with | .inl n => n | .inr _ => 0))
  rw [hn]
  rfl
theorem ints_at {ns : List Int} {i : Nat} {x : Sl} (h : (ns.map fun n => Sl.dat (.int n))[i]? = some x) : ∃ n, ns[i]? = some n ∧ x = .dat (.int n) := by
  rw [List.getElem?_map] at h
  cases e : ns[i]? with
  | none => rw [e] at h; cases h
  | some c => rw [e] at h; cases h; exact ⟨c, rfl, rfl⟩
theorem neq_goes {b : Bool} {A B : Prop} (h : b = true) (hb : B) : ((!b) = true → A) ∧ ((!b) = false → B) := ⟨fun z => (by rw [h] at z; cases z), fun _ => hb⟩
/-- two dicts that tell the same -/
structure SameK (k1 k2 : Kvs) : Prop where
  hat : ∀ n : Int, dval k1 (.inl n) = dval k2 (.inl n)
  len : k1.length = k2.length
theorem SameK.st {k1 k2 : Kvs} (S : SameK k1 k2) : stK k1 = stK k2 := by
  funext n
  unfold stK
  rw [S.hat]
theorem SameK.ring {k1 k2 : Kvs} (S : SameK k1 k2) (ns : List Int) : RingE k1 ns = RingE k2 ns := by
  unfold RingE
  have : ringB k1 = ringB k2 := by
    funext n
    unfold ringB
    rw [S.st, S.len]
  rw [this, S.st, S.len]
theorem SameK.aK {k1 k2 : Kvs} (S : SameK k1 k2) : aK k1 = aK k2 := by
  funext n
  unfold LW.aK
  rw [S.hat]
theorem SameK.pcK {k1 k2 : Kvs} (S : SameK k1 k2) : pcK k1 = pcK k2 := by
  funext n
  unfold LW.pcK
  rw [S.hat]
theorem SameK.kids {k1 k2 : Kvs} (S : SameK k1 k2) : kidsI k1 = kidsI k2 := by
  funext ns c
  unfold kidsI
  rw [S.aK]
theorem SameK.asks {k1 k2 : Kvs} (S : SameK k1 k2) : asksI k1 = asksI k2 := by
  funext ns
  unfold asksI
  rw [S.kids]
theorem SameK.gaps {k1 k2 : Kvs} (S : SameK k1 k2) : gapsI k1 = gapsI k2 := by
  funext ns
  unfold gapsI
  rw [S.asks]
  refine congrArg (fun f => List.filter f (asksI k2 ns)) ?_
  funext c
  rw [S.hat]
theorem SameK.tops {k1 k2 : Kvs} (S : SameK k1 k2) : topsI k1 = topsI k2 := by
  funext ns
  unfold topsI
  rw [S.kids]
theorem SameK.gapD {k1 k2 : Kvs} (S : SameK k1 k2) {ns : List Int} {n : Int} {d : Dt} (h : GapD k1 ns n d) : GapD k2 ns n d := by
  have e : GapD k1 = GapD k2 := by
    funext ns n d
    unfold GapD firstD begs ends helds
    rw [S.tops, S.kids, S.pcK]
  rw [← e]
  exact h
/-- a heap, told, and a run of it -/
structure ToldR (ts es : List Pc) (run : Int) : Prop where
  same : ∀ z, z ∈ ts ↔ z ∈ es
  lts : ts.length ≤ 1000
  few : es.length < 64
  uni : Uni es
  free : leastC (clearP ts) = none
  num : ∀ p ∈ es, 0 ≤ p.n ∧ p.n ≤ 99
  ask : ∀ p ∈ es, -1 ≤ p.a ∧ p.a ≤ 99
  has : ∃ t ∈ es, t.r = run
theorem ToldR.same2 {ts es : List Pc} {run : Int} (H : ToldR ts es run) : ∀ z, z ∈ clearP ts ↔ z ∈ es := fun z => (clear_mem ts z).trans (H.same z)
theorem ToldR.pL {ts es : List Pc} {run : Int} (H : ToldR ts es run) : PcK (ofD run es) := pcK_of H.few H.num H.ask
theorem ToldR.pP {ts es : List Pc} {run : Int} (H : ToldR ts es run) : PcK (ofD run (clearP ts)) := pcK_of (Nat.lt_of_le_of_lt (DS.nodup_le _ es (clear_nd ts) fun x hx => (H.same2 x).mp hx) H.few) (fun p hp => H.num p ((H.same2 p).mp hp)) fun p hp => H.ask p ((H.same2 p).mp hp)
theorem ToldR.sk {ts es : List Pc} {run : Int} (H : ToldR ts es run) : SameK (ofD run es) (ofD run (clearP ts)) := by
  have hat := same_at (run := run) H.uni H.same2
  refine ⟨hat, ?_⟩
  have h1 := DS.nodup_le _ (keysI (ofD run (clearP ts))) (keysI_nd H.pL) fun v hv => (keysI_mem H.pP).mpr (by rw [← hat]; exact (keysI_mem H.pL).mp hv)
  have h2 := DS.nodup_le _ (keysI (ofD run es)) (keysI_nd H.pP) fun v hv => (keysI_mem H.pL).mpr (by rw [hat]; exact (keysI_mem H.pP).mp hv)
  rw [keysI_len, keysI_len] at h1 h2
  omega
theorem ToldR.ns {ts es : List Pc} {run : Int} (H : ToldR ts es run) : NsOf (ofD run es) (keysI (ofD run (clearP ts))) :=
  ⟨ofD_asc fun p hp q hq => H.uni p ((H.same2 p).mp hp) q ((H.same2 q).mp hq), fun n => by rw [keysI_mem H.pP, H.sk.hat]⟩
theorem ToldR.lD {ts es : List Pc} {run : Int} (H : ToldR ts es run) (M : Mem) : IsL M (.dat (.list (ts.map Pc.d))) (lp ts) := by rw [lp_dat]; exact IsL.dat
theorem ToldR.fw {ts es : List Pc} {run : Int} (H : ToldR ts es run) : ∃ D : List Pc, D.length < 64 ∧ ∀ t ∈ ts, t ∈ D := ⟨es, H.few, fun t ht => (H.same t).mp ht⟩
def pr_llbounds : Pr := fun ss M q => ∃ (a : Addr) (kvs : Kvs) (ns : List Int) (n : Int), ss = [.own a, .dat (.int n)] ∧ M a = some (.dct kvs) ∧ PcK kvs ∧ NsOf kvs ns ∧ RingE kvs ns = none ∧ (topsI kvs ns).length ≤ 1 ∧ n ∈ gapsI kvs ns ∧ ∀ d M', GapD kvs ns n d → (∀ x, M x ≠ none → M' x = M x) → q (.dat d) M'
section
variable {P : Program} {w : World} {K : PySem.W.Frag} {mg : Str → Option Value} {base : Heap}
theorem ok_llcaught (T : Tx P K mg) : Holds P w K mg base 7 T.f_llcaught T.fd_llcaught ["call"] (pr_caughtO P w K mg base (OkO T.C_NoRun T.C_Clash T.C_NoWood T.C_NotOne T.C_NoGap)) := by
  refine holds_of T.F_llcaught sc_llcaught (fun ss M q h => ?len) (fun cdv A outer s H hr => (xss_cons (xs_asgN (ps_set (i := 1) sc_llcaught.nd rfl (by first | exact .inl rfl | exact .inr rfl) xe_non) simLE)
      (xss_cons (xs_tryK (K := K) (i := 2) (j := 1) rfl rfl rfl rfl sc_llcaught.nd rfl (by rfl) rfl (by rfl) (by exact ⟨rfl, by decide, .inl T.gC_WoodError⟩) (by decide) (by decide) rfl (fun W pn xe H0 G0 kx wi2 pass => (xss_one (xs_if (xb_cmp sim_eq (pt_cmpR (op_eqAll hr.rm.units) (xe_callB sim_lenT (pe_callB call_lenA rfl T.m_len (by decide +kernel) (xa_cons (xv 0) xa_nil))) xe_int (nomark _))) (xss_one (xs_expr (xe_callXV0 (P := P) (w := w) (K := K) (mg := mg) (base := base) (i := 3) rfl rfl rfl rfl rfl wi2 (hr.mono (show 6 ≤ _ by decide)) (xe_ixT (xv 0) xe_int)))) (xss_one (xs_if (xb_cmp sim_eq (pt_cmpR (op_eqAll hr.rm.units) (xe_callB sim_lenT (pe_callB call_lenA rfl T.m_len (by decide +kernel) (xa_cons (xv 0) xa_nil))) xe_int (nomark _))) (xss_one (xs_expr (xe_callXV (P := P) (w := w) (K := K) (mg := mg) (base := base) (i := 3) rfl rfl rfl rfl rfl wi2 (hr.mono (show 6 ≤ _ by decide)) (xe_ixT (xv 0) xe_int) (xa_cons (xe_ixT (xv 0) xe_int) xa_nil)))) (xss_one (xs_if (xb_cmp sim_eq (pt_cmpR (op_eqAll hr.rm.units) (xe_callB sim_lenT (pe_callB call_lenA rfl T.m_len (by decide +kernel) (xa_cons (xv 0) xa_nil))) xe_int (nomark _))) (xss_one (xs_expr (xe_callXV (P := P) (w := w) (K := K) (mg := mg) (base := base) (i := 3) rfl rfl rfl rfl rfl wi2 (hr.mono (show 6 ≤ _ by decide)) (xe_ixT (xv 0) xe_int) (xa_cons (xe_ixT (xv 0) xe_int) (xa_cons (xe_ixT (xv 0) xe_int) xa_nil))))) (xss_one (xs_if (xb_cmp sim_eq (pt_cmpR (op_eqAll hr.rm.units) (xe_callB sim_lenT (pe_callB call_lenA rfl T.m_len (by decide +kernel) (xa_cons (xv 0) xa_nil))) xe_int (nomark _))) (xss_one (xs_expr (xe_callXV (P := P) (w := w) (K := K) (mg := mg) (base := base) (i := 3) rfl rfl rfl rfl rfl wi2 (hr.mono (show 6 ≤ _ by decide)) (xe_ixT (xv 0) xe_int) (xa_cons (xe_ixT (xv 0) xe_int) (xa_cons (xe_ixT (xv 0) xe_int) (xa_cons (xe_ixT (xv 0) xe_int) xa_nil)))))) (xss_one (xs_expr (xe_callXV (P := P) (w := w) (K := K) (mg := mg) (base := base) (i := 3) rfl rfl rfl rfl rfl wi2 (hr.mono (show 6 ≤ _ by decide)) (xe_ixT (xv 0) xe_int) (xa_cons (xe_ixT (xv 0) xe_int) (xa_cons (xe_ixT (xv 0) xe_int) (xa_cons (xe_ixT (xv 0) xe_int) (xa_cons (xe_ixT (xv 0) xe_int) (xa_cons (xe_ixT (xv 0) xe_int) xa_nil))))))))))))))))))
      (xss_one (xs_ret (xe_if (xb_cmp sim_isX (pt_cmpR (L2.OpR.or op_isBl op_isN) (xv 1) xe_non (nomark _))) xe_str (xe_call (ok_llkind T) (hr.mono (by decide)) T.g_llkind T.F_llkind.kp T.b_llkind (xa_cons (xv 1) xa_nil)))))))) (fun ss M q h => ?read)
  case len =>
    obtain ⟨a, f, args, fd, ps, pr, o, rfl, _⟩ := h
    rfl
  case read =>
    obtain ⟨a, f, args, fd, ps, pr, o, rfl, hm, ha, Fh, hk, hb, hok, hx, k⟩ := h
    intro H0
    obtain ⟨sx, sy, sz, rfl⟩ := ha
    refine ⟨_, rfl, _, IsT.own hm, And.intro (fun z => nomatch z) (fun _ => ?_)⟩
    refine ⟨_, rfl, _, IsT.own hm, And.intro (fun z => nomatch z) (fun _ => ?_)⟩
    refine ⟨_, rfl, _, IsT.own hm, And.intro (fun z => nomatch z) (fun _ => ?_)⟩
    refine ⟨_, rfl, _, IsT.own hm, And.intro (fun _ => ?_) (fun z => nomatch z)⟩
    refine ⟨⟨rfl, rfl⟩, _, rfl, [.raw (.ref f), sx, sy, sz], 0, _, IsT.own hm, rfl, rfl, f, fd, ps, pr, rfl, Fh, hk, hb, _, rfl, [.raw (.ref f), sx, sy, sz], 1, _, IsT.own hm, rfl, rfl, _, rfl, [.raw (.ref f), sx, sy, sz], 2, _, IsT.own hm, rfl, rfl, _, rfl, [.raw (.ref f), sx, sy, sz], 3, _, IsT.own hm, rfl, rfl, hx _ _ (fun eo s M2 o2 => ?_) (fun C wd eo fs M2 o2 => ?_)⟩
    · subst eo
      exact ⟨_, rfl, And.intro (fun _ => k M2 o2) (fun z => nomatch z)⟩
    · rcases hok with rfl | rfl | rfl | rfl | rfl | rfl
      · cases eo
      · cases eo
        have hcs : T.C_NoRun ∈ [T.C_NoPiece, T.C_TooMany, T.C_NoRun, T.C_NoWood, T.C_NoHouse, T.C_NoShifts, T.C_NotRight, T.C_NoMore, T.C_NotOne, T.C_NoGap, T.C_NoDealing, T.C_NoPlace, T.C_NotWhole, T.C_NoBack, T.C_NoRow, T.C_Clash, T.C_NoText] := by simp
        refine ⟨T.kinds.ew _ hcs, ?_⟩
        refine ⟨_, rfl, And.intro (fun z => nomatch z) (fun _ => ?_)⟩
        exact ⟨_, rfl, .exc T.C_NoRun fs, fun j => decide (2 = j), "run", rfl, ask_exc T.kinds rfl _, .inl ⟨2, by decide, rfl, fun M k h => ⟨T.kinds.er _ hcs, _, T.kinds.ve _ hcs, h⟩, rfl⟩, fun M17 K17 => k M17 fun x hx => (K17 x (by rw [o2 x hx]; exact hx)).trans (o2 x hx)⟩
      · cases eo
        have hcs : T.C_Clash ∈ [T.C_NoPiece, T.C_TooMany, T.C_NoRun, T.C_NoWood, T.C_NoHouse, T.C_NoShifts, T.C_NotRight, T.C_NoMore, T.C_NotOne, T.C_NoGap, T.C_NoDealing, T.C_NoPlace, T.C_NotWhole, T.C_NoBack, T.C_NoRow, T.C_Clash, T.C_NoText] := by simp
        refine ⟨T.kinds.ew _ hcs, ?_⟩
        refine ⟨_, rfl, And.intro (fun z => nomatch z) (fun _ => ?_)⟩
        exact ⟨_, rfl, .exc T.C_Clash fs, fun j => decide (15 = j), "clash", rfl, ask_exc T.kinds rfl _, .inl ⟨15, by decide, rfl, fun M k h => ⟨T.kinds.er _ hcs, _, T.kinds.ve _ hcs, h⟩, rfl⟩, fun M17 K17 => k M17 fun x hx => (K17 x (by rw [o2 x hx]; exact hx)).trans (o2 x hx)⟩
      · cases eo
        have hcs : T.C_NoWood ∈ [T.C_NoPiece, T.C_TooMany, T.C_NoRun, T.C_NoWood, T.C_NoHouse, T.C_NoShifts, T.C_NotRight, T.C_NoMore, T.C_NotOne, T.C_NoGap, T.C_NoDealing, T.C_NoPlace, T.C_NotWhole, T.C_NoBack, T.C_NoRow, T.C_Clash, T.C_NoText] := by simp
        refine ⟨T.kinds.ew _ hcs, ?_⟩
        refine ⟨_, rfl, And.intro (fun z => nomatch z) (fun _ => ?_)⟩
        exact ⟨_, rfl, .exc T.C_NoWood fs, fun j => decide (3 = j), "wood", rfl, ask_exc T.kinds rfl _, .inl ⟨3, by decide, rfl, fun M k h => ⟨T.kinds.er _ hcs, _, T.kinds.ve _ hcs, h⟩, rfl⟩, fun M17 K17 => k M17 fun x hx => (K17 x (by rw [o2 x hx]; exact hx)).trans (o2 x hx)⟩
      · cases eo
        have hcs : T.C_NotOne ∈ [T.C_NoPiece, T.C_TooMany, T.C_NoRun, T.C_NoWood, T.C_NoHouse, T.C_NoShifts, T.C_NotRight, T.C_NoMore, T.C_NotOne, T.C_NoGap, T.C_NoDealing, T.C_NoPlace, T.C_NotWhole, T.C_NoBack, T.C_NoRow, T.C_Clash, T.C_NoText] := by simp
        refine ⟨T.kinds.ew _ hcs, ?_⟩
        refine ⟨_, rfl, And.intro (fun z => nomatch z) (fun _ => ?_)⟩
        exact ⟨_, rfl, .exc T.C_NotOne fs, fun j => decide (8 = j), "one", rfl, ask_exc T.kinds rfl _, .inl ⟨8, by decide, rfl, fun M k h => ⟨T.kinds.er _ hcs, _, T.kinds.ve _ hcs, h⟩, rfl⟩, fun M17 K17 => k M17 fun x hx => (K17 x (by rw [o2 x hx]; exact hx)).trans (o2 x hx)⟩
      · cases eo
        have hcs : T.C_NoGap ∈ [T.C_NoPiece, T.C_TooMany, T.C_NoRun, T.C_NoWood, T.C_NoHouse, T.C_NoShifts, T.C_NotRight, T.C_NoMore, T.C_NotOne, T.C_NoGap, T.C_NoDealing, T.C_NoPlace, T.C_NotWhole, T.C_NoBack, T.C_NoRow, T.C_Clash, T.C_NoText] := by simp
        refine ⟨T.kinds.ew _ hcs, ?_⟩
        refine ⟨_, rfl, And.intro (fun z => nomatch z) (fun _ => ?_)⟩
        exact ⟨_, rfl, .exc T.C_NoGap fs, fun j => decide (9 = j), "gap", rfl, ask_exc T.kinds rfl _, .inl ⟨9, by decide, rfl, fun M k h => ⟨T.kinds.er _ hcs, _, T.kinds.ve _ hcs, h⟩, rfl⟩, fun M17 K17 => k M17 fun x hx => (K17 x (by rw [o2 x hx]; exact hx)).trans (o2 x hx)⟩
theorem ok_llbounds (T : Tx P K mg) : Holds P w K mg base 4 T.f_llbounds T.fd_llbounds ["own", "number"] pr_llbounds := by
  refine holds_of T.F_llbounds sc_llbounds (fun ss M q h => ?len) (fun cdv A outer s H hr => (xss_cons (xs_asgN (ps_set (i := 2) sc_llbounds.nd rfl (by first | exact .inl rfl | exact .inr rfl) (xe_call (ok_llwood T) (hr.mono (by decide)) T.g_llwood T.F_llwood.kp T.b_llwood (xa_cons (xv 0) xa_nil))) simLE)
      (xss_cons (xs_fz (i := 3) (xs_asgN (ps_setLc (i := 3) (own := [("kid", 7)]) (g := gName 7) (tt := LB _) rfl sc_llbounds.nd rfl rfl (sw_true rfl rfl rfl (by decide +kernel)) (pi_list (xe_dix (pe_dget (Nat.lt_of_le_of_lt (Nat.add_le_add_left (by decide : 1 ≤ 64) _) hr.rm.units) (xe_ixT (xv 2) xe_int) (xv 1) (by exact fun _ _ => rfl)))) (blkOk_by (own := [("kid", 7)]) (N := N_llbounds) (sc := defScope s_llbounds) (by decide +kernel)) (fun _ _ _ _ _ => pg_name (i := 7) sc_llbounds.nd rfl (.inl rfl)) (fun _ _ _ _ _ => xts_nil) (fun _ _ _ _ _ => (xe_dix (pe_dget (Nat.lt_of_le_of_lt (Nat.add_le_add_left (by decide : 1 ≤ 64) _) hr.rm.units) (xv 0) (xv 7) (by exact fun _ _ => rfl))))) (sim_lcL simLE simLB simLE (by decide))))
      (xss_cons (xs_asgN (ps_set (i := 4) sc_llbounds.nd rfl (by first | exact .inl rfl | exact .inr rfl) (xe_callB sim_minI (pe_callB (cr_min rfl) rfl T.m_min (by decide +kernel) (xa_cons (xe_fz (xe_lcL (pe_lc (own := [("kid", 7)]) (g := gName 7) (tt := LB _) rfl sc_llbounds.nd (pi_list (xv 3)) (blkOk_by (own := [("kid", 7)]) (N := N_llbounds) (sc := defScope s_llbounds) (by decide +kernel)) (fun _ _ _ _ _ => pg_name (i := 7) sc_llbounds.nd rfl (.inl rfl)) (fun _ _ _ _ _ => xts_nil) (fun _ _ _ _ _ => (xe_ix (xv 7) xe_int))) (by decide))) xa_nil)))) simLE)
      (xss_cons (xs_asgN (ps_set (i := 5) sc_llbounds.nd rfl (by first | exact .inl rfl | exact .inr rfl) (xe_callB sim_maxI (pe_callB (cr_max rfl) rfl T.m_max (by decide +kernel) (xa_cons (xe_fz (xe_lcL (pe_lc (own := [("kid", 7)]) (g := gName 7) (tt := LB _) rfl sc_llbounds.nd (pi_list (xv 3)) (blkOk_by (own := [("kid", 7)]) (N := N_llbounds) (sc := defScope s_llbounds) (by decide +kernel)) (fun _ _ _ _ _ => pg_name (i := 7) sc_llbounds.nd rfl (.inl rfl)) (fun _ _ _ _ _ => xts_nil) (fun _ _ _ _ _ => (xe_if (xb_val (xe_ix (xv 7) xe_int)) (xe_ix (xv 7) xe_int) (xe_ix (xv 7) xe_int)))) (by decide))) xa_nil)))) simLE)
      (xss_cons (xs_if (xb_cmp sim_eq (pt_cmpR (op_eqAll hr.rm.units) (xe_ixT (xv 2) xe_int) (xe_lstD xa_nil) (nomark _))) (xss_one (xs_ret (xe_tup (xa_cons xe_non (xa_cons (xv 4) (xa_cons (xv 5) xa_nil)))))) xss_nil)
      (xss_cons (xs_asgN (ps_set (i := 6) sc_llbounds.nd rfl (by first | exact .inl rfl | exact .inr rfl) (xe_dix (pe_dget (Nat.lt_of_le_of_lt (Nat.add_le_add_left (by decide : 1 ≤ 64) _) hr.rm.units) (xv 0) (xe_ix (xe_ixT (xv 2) xe_int) xe_int) (by exact fun _ _ => rfl)))) simLE)
      (xss_one (xs_ret (xe_tup (xa_cons (xe_ix (xv 6) xe_int) (xa_cons (xe_callB sim_min2 (pe_callB (call_min2 rfl) rfl T.m_min (by decide +kernel) (xa_cons (xv 4) (xa_cons (xe_ix (xv 6) xe_int) xa_nil)))) (xa_cons (xv 5) xa_nil))))))))))))) (fun ss M q h => ?read)
  case len =>
    obtain ⟨a, kvs, ns, n, rfl, _⟩ := h
    rfl
  case read =>
    obtain ⟨a, kvs, ns, n, rfl, hm, P, NS, hR, one, hn, go⟩ := h
    have len := P.len
    refine ⟨_, rfl, a, kvs, ns, rfl, hm, P, NS, fun p xs M1 hp hmp W K1 => ?_⟩
    rcases W with ⟨ws, hR2, _⟩ | ⟨_, pa, pb, pc_, kids, f, rfl, ha, hb, hcc, hX⟩
    · rw [hR] at hR2
      cases hR2
    have hm1 := keep_at K1 hm
    have hna := gapsI_sub hn
    have hkv : dval kids (.inl n) = some (.own (f n)) := by rw [hX.eq, kidsD_val, if_pos hna]
    have hfn := hX.at_ n hna
    have lns : ns.length ≤ 64 := by
      have := DS.nodup_le ns (keysI kvs) (NS.asc.imp fun h e => by omega) fun v hv => (keysI_mem P).mpr ((NS.has v).mp hv)
      rw [keysI_len] at this
      omega
    obtain ⟨ks, eks⟩ : ∃ ks, ks = kidsI kvs ns n := ⟨_, rfl⟩
    rw [← eks] at hfn
    have hks : ∀ m ∈ ks, dval kvs (.inl m) = some (.dat (pcK kvs m).d) := fun m h => keyV_pc P ((NS.has m).mp (kidsI_sub (by rw [eks] at h; exact h)))
    have lks : ks.length ≤ 64 := by
      rw [eks]
      exact Nat.le_trans (List.length_filter_le _ _) lns
    have ksne : ks ≠ [] := by rw [eks]; exact (asksI_mem.mp hna).2
    have kpos : 0 < ks.length := List.length_pos_iff.mpr ksne
    have lsA : ∀ M, IsL M (.dat (.list (ks.map fun m => (pcK kvs m).d))) (ks.map fun m => .dat (pcK kvs m).d) := fun M => by
      have := IsL.dat (M := M) (ds := ks.map fun m => (pcK kvs m).d)
      rw [List.map_map] at this
      exact this
    refine ⟨_, rfl, _, 3, _, IsT.own hmp, rfl, rfl, _, rfl, pc_, kids, .int n, .inl n, _, rfl, hcc, rfl, rfl, hkv, ?_⟩
    refine lc_mapS (fun m : Int => .dat (.int m)) (fun m => (pcK kvs m).d) (IsL.own hfn) (by omega) (fun m hm' M' k' hk hgo => ⟨_, rfl, _, rfl, a, kvs, .int m, .inl m, _, rfl, hk a _ hm1, rfl, rfl, hks m hm', hgo⟩) (fun _ => rfl) fun _ => ?_
    refine ⟨_, rfl, ?_⟩
    refine lc_mapG (fun m => .dat (pcK kvs m).d) (fun m => .dat (.int (pcK kvs m).b)) (lsA _) (by omega) (fun m hm' M' k' hk hgo => ⟨_, rfl, _, rfl, hgo⟩) fun pf hpf => ?_
    refine ⟨_, put_dat, ?_⟩
    rw [del_put hpf]
    refine ⟨begs kvs ks, ?_, by unfold begs; rw [List.length_map]; exact kpos, fun lo hlo hle => ?_⟩
    · have e : (begs kvs ks).map (fun n => Sl.dat (.int n)) = (ks.map fun m => PyData.int (pcK kvs m).b).map Sl.dat := by
        unfold begs
        rw [List.map_map, List.map_map]
        rfl
      rw [e]
      exact IsL.dat
    refine ⟨_, rfl, ?_⟩
    refine lc_mapG (fun m => .dat (pcK kvs m).d) (fun m => .dat (.int (pcK kvs m).held)) (lsA _) (by omega) (fun m hm' M' k' hk hgo => ?_) fun pf hpf => ?_
    · refine ⟨_, rfl, _, rfl, ?_⟩
      unfold Pc.held at hgo
      cases hj : (pcK kvs m).j with
      | true =>
        rw [hj, if_pos rfl] at hgo
        exact And.intro (fun _ => ⟨_, rfl, _, rfl, hgo⟩) (fun z => nomatch z)
      | false =>
        rw [hj, if_neg Bool.false_ne_true] at hgo
        exact And.intro (fun z => nomatch z) (fun _ => ⟨_, rfl, _, rfl, hgo⟩)
    refine ⟨_, put_dat, ?_⟩
    rw [del_put hpf]
    refine ⟨helds kvs ks, ?_, by unfold helds; rw [List.length_map]; exact kpos, fun hi hhi hge => ?_⟩
    · have e : (helds kvs ks).map (fun n => Sl.dat (.int n)) = (ks.map fun m => PyData.int (pcK kvs m).held).map Sl.dat := by
        unfold helds
        rw [List.map_map, List.map_map]
        rfl
      rw [e]
      exact IsL.dat
    have htops : ∀ m ∈ topsI kvs ns, dval kvs (.inl m) = some (.dat (pcK kvs m).d) := fun m h => keyV_pc P ((NS.has m).mp (kidsI_sub h))
    refine ⟨_, rfl, _, 1, _, IsT.own hmp, rfl, rfl, rfl, _, rfl, _, _, .inr ⟨pa, (topsI kvs ns).map .int, rfl, ha.trans (congrArg (fun z => some (MO.lst z)) (li_dat _)), rfl⟩, .inl rfl, shaped_ints _, rfl, And.intro (fun h => ?_) (fun h => ?_)⟩
    · have h' : PyData.eqv (.list ((topsI kvs ns).map .int)) (.list []) = true := h
      rw [eqv_nil, List.isEmpty_iff] at h'
      refine ⟨_, rfl, _, rfl, rfl, _, rfl, go _ M1 ⟨lo, hi, by rw [h']; rfl, ?_, by rw [← eks]; exact ⟨hhi, hge⟩⟩ K1⟩
      rw [h', ← eks]
      unfold ends
      rw [List.map_nil, List.append_nil]
      exact ⟨hlo, hle⟩
    · have h' : PyData.eqv (.list ((topsI kvs ns).map .int)) (.list []) = false := h
      rw [eqv_nil] at h'
      obtain ⟨t, et⟩ : ∃ t, topsI kvs ns = [t] := by
        cases e : topsI kvs ns with
        | nil => rw [e] at h'; cases h'
        | cons t r =>
          rw [e] at one
          have : r = [] := List.length_eq_zero_iff.mp (by have : r.length + 1 ≤ 1 := one; omega)
          exact ⟨t, by rw [this]⟩
      have hat := htops t (by rw [et]; exact List.mem_singleton.mpr rfl)
      rw [et] at ha
      refine ⟨_, rfl, _, rfl, _, 1, _, IsT.own hmp, rfl, rfl, _, .dat (.int t), ha, at_zero, a, kvs, .int t, .inl t, _, rfl, hm1, rfl, rfl, hat, ?_⟩
      refine ⟨_, rfl, _, rfl, _, rfl, _, rfl, _, rfl, _, rfl, rfl, _, rfl, go _ M1 ⟨min lo (pcK kvs t).e, hi, by rw [et]; rfl, ?_, by rw [← eks]; exact ⟨hhi, hge⟩⟩ K1⟩
      rw [et, ← eks]
      unfold ends
      refine ⟨?_, fun y hy => ?_⟩
      · rw [List.mem_append]
        by_cases e : lo ≤ (pcK kvs t).e
        · rw [Int.min_eq_left e]
          exact .inl hlo
        · rw [Int.min_eq_right (by omega)]
          exact .inr (List.mem_singleton.mpr rfl)
      · rcases List.mem_append.mp hy with h | h
        · have := hle y h
          omega
        · rw [List.mem_singleton.mp h]
          exact Int.min_le_right ..
end
end LW
namespace LW
open PySem PySem.Spec PyProof.Rows DL
open L2 hiding del del_ne del_same
/-- what is due of a gap asked for-/
def Due (kvs : Kvs) (ns : List Int) (due : Str) : Prop := (RingE kvs ns ≠ none ∧ due = "wood") ∨ (RingE kvs ns = none ∧ 1 < (topsI kvs ns).length ∧ due = "one") ∨ (RingE kvs ns = none ∧ (topsI kvs ns).length ≤ 1 ∧ due = "gap")
def pr_l46 : Pr := fun ss M q => ∃ (o : Addr) (ts es : List Pc) (run : Int) (odd : List Dt), ss = [.dat (.list (ts.map Pc.d)), .own o, .dat (.int run), .dat (.list odd)] ∧ M o = some (.dct (ofD run es)) ∧ ToldR ts es run ∧ (∀ p ∈ es, (-(10 ^ 30) ≤ p.b ∧ p.b ≤ 10 ^ 30) ∧ (-(10 ^ 30) ≤ p.e ∧ p.e ≤ 10 ^ 30)) ∧ (∀ n, PyData.int n ∈ odd → n ∉ asksI (ofD run (clearP ts)) (keysI (ofD run (clearP ts)))) ∧ odd.length ≤ 1000 ∧ ∀ M', (∀ x, M x ≠ none → M' x = M x) → q (.dat (.bool true)) M'
theorem d_inj2 {p q : Pc} (h : p.d = q.d) : p = q := toks_pc (congrArg PySem.W.keyToks h)
theorem gapD_show {kvs : Kvs} (P : PcK kvs) {ns : List Int} {n : Int} {d : Dt} (hns : ∀ m ∈ ns, (dval kvs (.inl m)).isSome = true) (ht : ∀ q ∈ kvs, ∀ z : Pc, q.2 = .dat z.d → (-(10 ^ 30) ≤ z.b ∧ z.b ≤ 10 ^ 30) ∧ (-(10 ^ 30) ≤ z.e ∧ z.e ≤ 10 ^ 30)) (h : GapD kvs ns n d) : d.showable = true ∧ d.shown.length ≤ 16777216 ∧ d.depth ≤ 40 := by
  have box : ∀ m ∈ ns, (-(10 ^ 30) ≤ (pcK kvs m).b ∧ (pcK kvs m).b ≤ 10 ^ 30) ∧ (-(10 ^ 30) ≤ (pcK kvs m).e ∧ (pcK kvs m).e ≤ 10 ^ 30) := fun m hm => by
    have e := keyV_pc P (hns m hm)
    exact ht _ (dval_mem e) _ rfl
  have big : ∀ x : Int, -(10 ^ 30) ≤ x → x ≤ 10 ^ 30 → Sm 0 (.int x) := fun x a b => Sm.int (Nat.lt_of_le_of_lt (show x.natAbs ≤ 10 ^ 30 by omega) (by decide))
  obtain ⟨l, u, rfl, h1, h2⟩ := h
  have S : Sm 1 (.tuple [firstD kvs (topsI kvs ns), .int l, .int u]) := by
    refine Sm.tup (fun d hd => ?_) (show 3 ≤ 38 by decide)
    simp only [List.mem_cons, List.not_mem_nil, or_false] at hd
    rcases hd with rfl | rfl | rfl
    · cases e : topsI kvs ns with
      | nil => exact Sm.none
      | cons t r =>
        have := box t (kidsI_sub (by show t ∈ topsI kvs ns; rw [e]; exact List.mem_cons_self ..))
        exact big _ this.1.1 this.1.2
    · rcases List.mem_append.mp h1.mem with h | h
      · obtain ⟨m, hm, rfl⟩ := List.mem_map.mp h
        have := box m (kidsI_sub hm)
        exact big _ this.1.1 this.1.2
      · obtain ⟨m, hm, rfl⟩ := List.mem_map.mp h
        have := box m (kidsI_sub hm)
        exact big _ this.2.1 this.2.2
    · obtain ⟨m, hm, e⟩ := List.mem_map.mp h2.mem
      have := box m (kidsI_sub hm)
      have e2 : (pcK kvs m).held = u := e
      rw [← e2]
      unfold Pc.held
      split
      · exact big _ this.2.1 this.2.2
      · exact big _ this.1.1 this.1.2
  have S2 := S.mono (k := 2) (by decide)
  exact ⟨S2.sh, S2.fits, Nat.le_trans S2.dp (by decide)⟩
section
variable {P : Program} {w : World} {K : PySem.W.Frag} {mg : Str → Option Value} {base : Heap}
theorem ok_ll_right (T : Tx P K mg) : Holds P w K mg base 8 T.f_ll_right T.fd_ll_right ["told", "own", "run", "odd"] pr_l46 := by
  refine holds_of T.F_ll_right sc_ll_right (fun ss M q h => ?len) (fun cdv A outer s H hr => (xss_cons (xs_asgN (ps_set (i := 4) sc_ll_right.nd rfl (by first | exact .inl rfl | exact .inr rfl) (xe_call (ok_llwood T) (hr.mono (by decide)) T.g_llwood T.F_llwood.kp T.b_llwood (xa_cons (xv 1) xa_nil))) simLE)
      (xss_cons (xs_asgN (ps_set (i := 5) sc_ll_right.nd rfl (by first | exact .inl rfl | exact .inr rfl) xe_str) simLE)
      (xss_cut (xs_if (xb_cmp sim_eq (pt_cmpR (op_eqAll hr.rm.units) (xe_ixT (xv 4) xe_int) xe_str (nomark _))) (xss_one (xs_asgN (ps_set (i := 5) sc_ll_right.nd rfl (by first | exact .inl rfl | exact .inr rfl) xe_str) simLE)) (xss_one (xs_if (xb_cmp (sim_I0 fun _ _ _ => .bl _) (pt_cmpR op_gt (xe_callB sim_len (pe_callB call_lenA rfl T.m_len (by decide +kernel) (xa_cons (xe_ixT (xv 4) xe_int) xa_nil))) xe_int (nomark _))) (xss_one (xs_asgN (ps_set (i := 5) sc_ll_right.nd rfl (by first | exact .inl rfl | exact .inr rfl) xe_str) simLE)) xss_nil)))
      (xss_cons (xs_asgN (ps_set (i := 6) sc_ll_right.nd rfl (by first | exact .inl rfl | exact .inr rfl) (xe_addD (xv 3) (xe_fz (xe_callB sim_listK (pe_callTy (call_list_dK rfl) rfl T.m_list (by decide +kernel) (xa_cons (xv 1) xa_nil)))))) simLE)
      (xss_cut (xs_if (xb_cmp sim_ne (pt_cmpR (op_neAll hr.rm.units) (xv 5) xe_str (nomark _))) (xss_one (xs_asgN (ps_set (i := 6) sc_ll_right.nd rfl (by first | exact .inl rfl | exact .inr rfl) (xe_addD (xv 6) (xe_fz (xe_lcK (pe_lc (own := [("number", 7)]) (g := gName 7) (tt := LB _) rfl sc_ll_right.nd (pi_keys (xv 1)) (blkOk_by (own := [("number", 7)]) (N := N_ll_right) (sc := defScope s_ll_right) (by decide +kernel)) (fun _ _ _ _ _ => pg_name (i := 7) sc_ll_right.nd rfl (.inl rfl)) (fun _ _ _ _ _ => xts_nil) (fun _ _ _ _ _ => (xe_ix (xe_dixK (pe_dget (Nat.lt_of_le_of_lt (Nat.add_le_add_left (by decide : 1 ≤ 64) _) hr.rm.units) (xv 1) (xv 7) (by exact fun _ _ => rfl))) xe_int))) (by decide))))) simLE)) xss_nil)
      (xss_cons (xs_forL (ps_for PassesOwn.never rfl (pi_list (xv 6)) (xg_name (pg_name (i := 7) sc_ll_right.nd rfl (by first | exact .inl rfl | exact .inr rfl))) (xss_one (xs_if (xb_cmp sim_ne (pt_cmpR (op_neAll hr.rm.units) (xe_call (ok_llcaught (w := w) (base := base) T) (hr.mono (by decide)) T.g_llcaught T.F_llcaught.kp T.b_llcaught (xa_cons (xe_tupO (xa_cons (xe_raw (pe_glob (v := .ref T.f_gap_of) rfl T.g_gap_of rfl)) (xa_cons (xv 0) (xa_cons (xv 2) (xa_cons (xv 7) xa_nil))))) xa_nil)) (xv 5) (nomark _))) (xss_one (xs_ret xe_bl)) xss_nil))))
      (xss_cons (xs_if (xb_cmp sim_ne (pt_cmpR (op_neAll hr.rm.units) (xv 5) xe_str (nomark _))) (xss_one (xs_ret xe_bl)) xss_nil)
      (xss_cons (xs_forL (ps_for PassesOwn.never rfl (pi_list (xe_ixT (xv 4) xe_int)) (xg_name (pg_name (i := 7) sc_ll_right.nd rfl (by first | exact .inl rfl | exact .inr rfl))) (xss_one (xs_forR1 (ps_for PassesOwn.never rfl (pi_range1 rfl T.m_range (xa_cons xe_int xa_nil)) (xg_name (pg_name (i := 8) sc_ll_right.nd rfl (by first | exact .inl rfl | exact .inr rfl))) (xss_cons (xs_asgN (ps_set (i := 9) sc_ll_right.nd rfl (by first | exact .inl rfl | exact .inr rfl) (xe_fz (xe_callB sim_list (pe_callTy call_list_of rfl T.m_list (by decide +kernel) (xa_cons (xv 0) xa_nil))))) simLE)
      (xss_cons (xs_asgN (ps_set (i := 10) sc_ll_right.nd rfl (by first | exact .inl rfl | exact .inr rfl) (xe_callN (ok_gap_of T) (hr.mono (by decide)) T.g_gap_of T.F_gap_of.kp T.b_gap_of (xa_cons (xv 9) (xa_cons (xv 2) (xa_cons (xv 7) xa_nil))))) simLE)
      (xss_one (xs_if (xb_w (xw_or (xb_cmp sim_ne (pt_cmpR (op_neAll hr.rm.units) (xe_callB sim_reprA (pe_callB (call_repr hr.gu hr.rm.units) rfl T.m_repr (by decide +kernel) (xa_cons (xv 10) xa_nil))) (xe_callB sim_reprA (pe_callB (call_repr hr.gu hr.rm.units) rfl T.m_repr (by decide +kernel) (xa_cons (xe_call (ok_llbounds T) (hr.mono (by decide)) T.g_llbounds T.F_llbounds.kp T.b_llbounds (xa_cons (xv 1) (xa_cons (xv 7) xa_nil))) xa_nil))) (nomark _))) (xw_or1 (xb_cmp sim_ne (pt_cmpR (op_neAll hr.rm.units) (xv 9) (xv 0) (nomark _)))))) (xss_one (xs_ret xe_bl)) xss_nil)))))))))
      (xss_one (xs_ret xe_bl))))))))))) (fun ss M q h => ?read)
  case len =>
    obtain ⟨o, ts, es, run, odd, rfl, _⟩ := h
    rfl
  case read =>
    obtain ⟨o, ts, es, run, odd, rfl, hm, H, tim, hodd, lodd, k⟩ := h
    obtain ⟨kvL, ekL⟩ : ∃ kvL, kvL = ofD run es := ⟨_, rfl⟩
    obtain ⟨kvP, ekP⟩ : ∃ kvP, kvP = ofD run (clearP ts) := ⟨_, rfl⟩
    have P1 : PcK kvL := by rw [ekL]; exact H.pL
    have P2 : PcK kvP := by rw [ekP]; exact H.pP
    have SK : SameK kvL kvP := by rw [ekL, ekP]; exact H.sk
    have NS : NsOf kvL (keysI kvP) := by rw [ekL, ekP]; exact H.ns
    obtain ⟨nss, ens⟩ : ∃ nss, nss = keysI kvP := ⟨_, rfl⟩
    rw [← ekL] at hm
    rw [← ekP, ← ens] at hodd
    rw [← ens] at NS
    have lns : nss.length ≤ 64 := by
      rw [ens, keysI_len]
      have := P2.len
      omega
    have len := P1.len
    have eR := SK.ring nss
    have eT : topsI kvL nss = topsI kvP nss := by rw [SK.tops]
    have eG : gapsI kvL nss = gapsI kvP nss := by rw [SK.gaps]
    refine ⟨_, rfl, o, kvL, nss, rfl, hm, P1, NS, fun p xs M1 hp hmp W K1 => ?_⟩
    have hm1 := keep_at K1 hm
    refine ⟨fun Γ' M' => ∃ due : Str, Γ' = [some (.dat (.list (ts.map Pc.d))), some (.own o), some (.dat (.int run)), some (.dat (.list odd)), some (.own p), some (.dat (.str due)), none, none, none, none, none] ∧ Due kvP nss due ∧ M1 = M', ?_, ?_⟩
    · rcases W with ⟨ws, hR, rfl⟩ | ⟨hR, a, b, c, kids, f, rfl, ha, hb, hcc, hX⟩
      · refine ⟨_, rfl, _, 0, _, IsT.own hmp, rfl, rfl, And.intro (fun _ => ?_) (fun z => nomatch z)⟩
        exact ⟨_, rfl, .inl ⟨by rw [← eR, hR]; exact nofun, rfl⟩, rfl⟩
      · rw [eR] at hR
        rw [eT] at ha
        refine ⟨_, rfl, _, 0, _, IsT.own hmp, rfl, rfl, And.intro (fun z => nomatch z) (fun _ => ?_)⟩
        refine ⟨_, rfl, _, 1, _, IsT.own hmp, rfl, rfl, _, ha, And.intro (fun h1 => ?_) (fun h1 => ?_)⟩
        · have h1' : (1 : Int) < ((li (topsI kvP nss)).length : Int) := of_decide_eq_true h1
          rw [List.length_map] at h1'
          exact ⟨_, rfl, .inr (.inl ⟨hR, by omega, rfl⟩), rfl⟩
        · have h1' : ¬ (1 : Int) < ((li (topsI kvP nss)).length : Int) := of_decide_eq_false h1
          rw [List.length_map] at h1'
          exact ⟨_, rfl, .inr (.inr ⟨hR, by omega, rfl⟩), rfl⟩
    rintro Γ' M' ⟨due, rfl, D, rfl⟩
    refine ⟨_, rfl, _, rfl, _, hm1, by omega, fun pl hpl => ?_⟩
    refine ⟨(keysI kvL).map .int, put_at.trans (congrArg (fun z => some (MO.lst z)) (listK_eq P1)), ?_⟩
    rw [del_put hpl]
    refine ⟨odd, _, IsL.dat, IsL.dat, by rw [List.length_map, keysI_len]; omega, ?_⟩
    have hsome : ∀ n, PyData.int n ∈ odd ++ (keysI kvL).map .int → n ∉ gapsI kvP nss := fun n h hg => by
      rcases List.mem_append.mp h with h | h
      · exact hodd n h (gapsI_sub hg)
      · obtain ⟨m, hm', e⟩ := List.mem_map.mp h
        cases e
        have h1 := (keysI_mem P1).mp hm'
        have h2 := (List.mem_filter.mp hg).2
        rw [← SK.hat, h1] at h2
        cases h2
    refine ⟨fun Γ' M' => ∃ (som : List Dt) (x7 : Option Sl), Γ' = [some (.dat (.list (ts.map Pc.d))), some (.own o), some (.dat (.int run)), some (.dat (.list odd)), some (.own p), some (.dat (.str due)), some (.dat (.list som)), x7, none, none, none] ∧ (due = "gap" → ∀ n, PyData.int n ∈ som → n ∉ gapsI kvP nss) ∧ M1 = M', ?_, ?_⟩
    · refine ⟨_, rfl, And.intro (fun h => ?_) (fun h => ?_)⟩
      · have hd : (!decide (due = "gap")) = true := h
        have hnd : due ≠ "gap" := by simpa using hd
        refine ⟨_, rfl, o, _, _, hm1, rfl, ?_⟩
        rintro _ ⟨od, ws, rfl⟩
        refine ⟨_, rfl, rfl, put_at, fun pz hpz => ?_⟩
        have nap : o ≠ pz := fun e => by rw [← e, put_at] at hpz; cases hpz
        have hpM : M1 pz = none := by rw [put_ne nap.symm] at hpz; exact hpz
        refine ⟨fun j M' => ∃ ys : List Dt, M' = put (put M1 o (.fdk od ws kvL)) pz (.lst (ys.map .dat)) ∧ ys.length ≤ j, ⟨[], rfl, Nat.le_refl _⟩, fun j M' _ ⟨ys, e, _⟩ => (by rw [e, put_ne nap, put_at]), ?_, ?_⟩
        · rintro j d M' hd2 ⟨ys, rfl, lys⟩
          rw [List.getElem?_map] at hd2
          cases hq : kvL[j]? with
          | none => rw [hq] at hd2; cases hd2
          | some q0 =>
          rw [hq] at hd2
          have hqm := List.mem_of_getElem? hq
          have hj : j < kvL.length := (List.getElem?_eq_some_iff.mp hq).1
          obtain ⟨n, hn, n0, n99⟩ := P1.key q0 hqm
          obtain ⟨z, hz, hza, _⟩ := P1.val q0 hqm
          have hd3 : d = .int n := (Option.some.inj hd2).symm.trans (by show kD q0.1 = _; rw [hn]; rfl)
          subst hd3
          have hv : dval kvL (.inl n) = some (.dat z.d) := by rw [← hn, dval_of P1.nd hqm, hz]
          refine And.intro (fun _ => ?_) (fun z => nomatch z)
          refine ⟨_, rfl, _, rfl, o, kvL, .int n, .inl n, _, rfl, .inr ⟨od, ws, (put_ne nap).trans put_at⟩, rfl, rfl, hv, _, rfl, _, put_at, by rw [List.length_map]; omega, ys ++ [.int z.a], ?_, ?_⟩
          · rw [put_put, List.map_append]
            rfl
          · rw [List.length_append]
            show _ + 1 ≤ _
            omega
        rintro M' ⟨ys, rfl, lys⟩
        rw [unlock_put hm1 hpz]
        refine ⟨ys, put_at, ?_⟩
        rw [del_put hpM]
        rw [List.length_map] at lys
        refine ⟨_, _, IsL.dat, IsL.dat, by rw [List.length_append, List.length_map, keysI_len]; omega, ?_⟩
        exact ⟨_, _, rfl, fun e => absurd e hnd, rfl⟩
      · exact ⟨_, _, rfl, fun _ => hsome, rfl⟩
    rintro Γ' M' ⟨som, x7, rfl, hsom, rfl⟩
    refine ⟨_, rfl, _, IsL.dat, fun i Γ' M' => ∃ x7 : Option Sl, Γ' = [some (.dat (.list (ts.map Pc.d))), some (.own o), some (.dat (.int run)), some (.dat (.list odd)), some (.own p), some (.dat (.str due)), some (.dat (.list som)), x7, none, none, none] ∧ (∀ x, M1 x ≠ none → M' x = M1 x), ⟨_, rfl, fun x _ => rfl⟩, (fun _ _ _ _ _ => IsL.dat), ?_, ?_⟩
    · rintro i x Γ' M2 hx ⟨x7, rfl, K2⟩
      obtain ⟨nd, hnd, rfl⟩ := List.mem_map.mp (List.mem_of_getElem? hx)
      refine ⟨_, rfl, _, rfl, _, rfl, rfl, fun p1 hp1 => ?_⟩
      have K12 := keep2 K2 (keep_put (o := .tup [.raw (.ref T.f_gap_of), .dat (.list (ts.map Pc.d)), .dat (.int run), .dat nd]) hp1)
      have no1 : ∀ {kx : DX} {C : Addr} {M' : Mem}, ∀ z y, leastC (clearP ts) = some (z, y) → ∀ fs M'', (∀ x, M' x ≠ none → M'' x = M' x) → kx C fs M'' := fun z y e => by rw [H.free] at e; cases e
      have no2 : ∀ {kx : DX} {C : Addr} {M' : Mem}, leastC (clearP ts) = none → (∀ run', PyData.int run = .int run' → ∀ t ∈ ts, t.r ≠ run') → ∀ fs M'', (∀ x, M' x ≠ none → M'' x = M' x) → kx C fs M'' := fun _ h => by
        obtain ⟨t, ht, er⟩ := H.has
        exact absurd er (h run rfl t ((H.same t).mpr ht))
      rcases D with ⟨hR, hdue⟩ | ⟨hR, h1, hdue⟩ | ⟨hR, h1, hdue⟩
      · subst hdue
        exact ⟨p1, T.f_gap_of, _, _, _, _, some (T.C_NoWood, "wood"), rfl, put_at, ⟨_, _, _, rfl⟩, (ok_gap_of T).mono (by decide), T.F_gap_of.kp, T.b_gap_of, .inr (.inr (.inr (.inl rfl))), fun q' kx hq hk => ⟨_, ts, _, nd, rfl, H.lD _, H.fw, no1, no2, fun run' e hc hr => by
          cases e
          exact ⟨H.pP, fun _ fs M' K' => hk _ _ rfl fs M' K', fun h => absurd h (by rw [← ekP, ← ens]; exact hR), fun h => absurd h (by rw [← ekP, ← ens]; exact hR), fun h => absurd h (by rw [← ekP, ← ens]; exact hR)⟩⟩, fun M3 K3 => ⟨_, rfl, neq_goes (b := decide (("wood" : Str) = "wood")) (decide_eq_true rfl) ⟨_, rfl, keep2 K12 K3⟩⟩⟩
      · subst hdue
        exact ⟨p1, T.f_gap_of, _, _, _, _, some (T.C_NotOne, "one"), rfl, put_at, ⟨_, _, _, rfl⟩, (ok_gap_of T).mono (by decide), T.F_gap_of.kp, T.b_gap_of, .inr (.inr (.inr (.inr (.inl rfl)))), fun q' kx hq hk => ⟨_, ts, _, nd, rfl, H.lD _, H.fw, no1, no2, fun run' e hc hr => by
          cases e
          exact ⟨H.pP, fun h => absurd (by rw [← ekP, ← ens]; exact hR) h, fun _ _ fs M' K' => hk _ _ rfl fs M' K', fun _ h => absurd h (by rw [← ekP, ← ens]; omega), fun _ h => absurd h (by rw [← ekP, ← ens]; omega)⟩⟩, fun M3 K3 => ⟨_, rfl, neq_goes (b := decide (("one" : Str) = "one")) (decide_eq_true rfl) ⟨_, rfl, keep2 K12 K3⟩⟩⟩
      · have hs := hsom hdue
        subst hdue
        have hno : ∀ n, nd = .int n → n ∉ gapsI kvP nss := fun n e => hs n (by rw [← e]; exact hnd)
        exact ⟨p1, T.f_gap_of, _, _, _, _, some (T.C_NoGap, "gap"), rfl, put_at, ⟨_, _, _, rfl⟩, (ok_gap_of T).mono (by decide), T.F_gap_of.kp, T.b_gap_of, .inr (.inr (.inr (.inr (.inr rfl)))), fun q' kx hq hk => ⟨_, ts, _, nd, rfl, H.lD _, H.fw, no1, no2, fun run' e hc hr => by
          cases e
          exact ⟨H.pP, fun h => absurd (by rw [← ekP, ← ens]; exact hR) h, fun _ h => absurd h (by rw [← ekP, ← ens]; omega), fun _ _ _ fs M' K' => hk _ _ rfl fs M' K', fun _ _ n e hn => absurd hn (by rw [← ekP, ← ens]; exact hno n e)⟩⟩, fun M3 K3 => ⟨_, rfl, neq_goes (b := decide (("gap" : Str) = "gap")) (decide_eq_true rfl) ⟨_, rfl, keep2 K12 K3⟩⟩⟩
    rintro Γ' M2 ⟨x7, rfl, K2⟩
    have K02 := keep2 K1 K2
    refine ⟨_, rfl, And.intro (fun _ => k M2 K02) (fun h => ?_)⟩
    have hd : (!decide (due = "gap")) = false := h
    have hdg : due = "gap" := by simpa using hd
    subst hdg
    obtain ⟨hR, one⟩ : RingE kvP nss = none ∧ (topsI kvP nss).length ≤ 1 := by
      rcases D with ⟨_, e⟩ | ⟨_, _, e⟩ | h
      · exact absurd e (by decide)
      · exact absurd e (by decide)
      · exact ⟨h.1, h.2.1⟩
    rcases W with ⟨ws, hR2, _⟩ | ⟨_, a, b, c, kids, f, rfl, ha, hb, hcc, hX⟩
    · rw [eR, hR] at hR2
      cases hR2
    have hmp2 := keep_at K2 hmp
    have hb2 := keep_at K2 hb
    have hm2 := keep_at K2 hm1
    rw [eG] at hb2
    have lg : (gapsI kvP nss).length ≤ 100 := Nat.le_trans (List.length_filter_le _ _) (askN_len kvP nss 100)
    refine ⟨_, rfl, _, 2, _, IsT.own hmp2, rfl, rfl, _, IsL.own hb2, fun i Γ' M' => ∃ x7 x8 x9 x10 : Option Sl, Γ' = [some (.dat (.list (ts.map Pc.d))), some (.own o), some (.dat (.int run)), some (.dat (.list odd)), some (.own p), some (.dat (.str "gap")), some (.dat (.list som)), x7, x8, x9, x10] ∧ (∀ x, M2 x ≠ none → M' x = M2 x), ⟨_, _, _, _, rfl, fun x _ => rfl⟩, (fun i Γ' M' _ ⟨_, _, _, _, _, K⟩ => IsL.own (keep_at K hb2)), ?_, ?_⟩
    rotate_left
    · rintro Γ' M3 ⟨x7, x8, x9, x10, rfl, K3⟩
      exact k M3 (keep2 K02 K3)
    rintro i x Γ' M3 hx ⟨x7, x8, x9, x10, rfl, K3⟩
    obtain ⟨c0, hc0, rfl⟩ := ints_at hx
    have hcg := List.mem_of_getElem? hc0
    refine ⟨0, 2, rfl, ⟨by decide, by decide, by decide, by decide⟩, fun i Γ' M' => ∃ x8 x9 x10 : Option Sl, Γ' = [some (.dat (.list (ts.map Pc.d))), some (.own o), some (.dat (.int run)), some (.dat (.list odd)), some (.own p), some (.dat (.str "gap")), some (.dat (.list som)), some (.dat (.int c0)), x8, x9, x10] ∧ (∀ x, M2 x ≠ none → M' x = M2 x), ⟨_, _, _, rfl, K3⟩, ?_, ?_⟩
    rotate_left
    · rintro Γ' M4 ⟨x8, x9, x10, rfl, K4⟩
      exact ⟨_, _, _, _, rfl, K4⟩
    rintro i2 Γ' M4 hi2 ⟨x8, x9, x10, rfl, K4⟩
    have lts := H.lts
    refine ⟨_, rfl, by rw [List.length_map]; omega, fun ph hph => ⟨ts.map Pc.d, put_at, ?_⟩⟩
    rw [del_put hph]
    refine ⟨_, rfl, _, rfl, _, rfl, _, ts, .int run, .int c0, rfl, H.lD _, H.fw, ⟨fun z y e => (by rw [H.free] at e; cases e), fun _ h => (by
      obtain ⟨t, ht, er⟩ := H.has
      exact absurd er (h run rfl t ((H.same t).mpr ht))), fun run' e hc hr => ?_⟩⟩
    cases e
    refine ⟨H.pP, fun h => absurd (by rw [← ekP, ← ens]; exact hR) h, fun _ h => absurd h (by rw [← ekP, ← ens]; omega), fun _ _ h => absurd (by rw [← ekP, ← ens]; exact hcg) (h c0 rfl), fun _ _ n e hn d M5 hd K5 => ?_⟩
    cases e
    rw [← ekP, ← ens] at hd
    have K25 := keep2 K4 K5
    have hm5 := keep_at K25 hm2
    have timP : ∀ q ∈ kvP, ∀ z : Pc, q.2 = .dat z.d → (-(10 ^ 30) ≤ z.b ∧ z.b ≤ 10 ^ 30) ∧ (-(10 ^ 30) ≤ z.e ∧ z.e ≤ 10 ^ 30) := fun q hq z e => by
      rw [ekP] at hq
      obtain ⟨y, hy, hr, rfl⟩ := ofD_mem hq
      injection e with e
      rw [← d_inj2 e]
      exact tim y ((H.same2 y).mp hy)
    obtain ⟨g1, g2, g3⟩ := gapD_show P2 (fun m hm => by rw [ens] at hm; exact (keysI_mem P2).mp hm) timP hd
    refine ⟨_, rfl, g1, g2, g3, _, rfl, _, rfl, o, kvL, nss, c0, rfl, hm5, P1, NS, by rw [eR]; exact hR, by rw [eT]; exact one, by rw [eG]; exact hcg, fun d2 M6 hd2 K6 => ?_⟩
    have ed : d2 = d := (SK.gapD hd2).uni hd
    subst ed
    refine ⟨g1, g2, g3, ?_⟩
    refine neq_goes (by simp) ?_
    refine ⟨_, rfl, _, rfl, _, _, .inl rfl, .inl rfl, shaped_lp ts, shaped_lp ts, neq_goes (eqv_lpS ts) ?_⟩
    exact ⟨_, _, _, rfl, keep2 K25 K6⟩
end
end LW
namespace LW
open PySem PySem.Spec PyProof.Rows DL
open L2 hiding del del_ne del_same
theorem at_ints {ns : List Int} {r : Int} (h0 : 0 ≤ r) (h1 : r < (ns.length : Int)) : ∃ v, v ∈ ns ∧ atI (ns.map PyData.int) r = some (.int v) := by
  obtain ⟨so, eo, v, hv, e⟩ := pick (P := fun d => ∃ v ∈ ns, d = PyData.int v) (xs := ns.map PyData.int) (fun d hd => by
    obtain ⟨v, hv, rfl⟩ := List.mem_map.mp hd
    exact ⟨v, hv, rfl⟩) h0 (by rw [List.length_map]; exact h1)
  exact ⟨v, hv, by rw [eo, e]⟩
theorem not_t {p : Prop} [Decidable p] (h : (!decide p) = true) : ¬ p := fun hp => by
  rw [decide_eq_true hp] at h
  cases h
theorem not_f {p : Prop} [Decidable p] (h : (!decide p) = false) : p := by
  apply Classical.byContradiction
  intro hp
  rw [decide_eq_false hp] at h
  cases h
theorem cpow39 : CPow 10 39 := ⟨by decide, by decide, by decide⟩
theorem pickL_map {α β : Type} (f : α → β) (xs : List α) (c : Int) : pickL (xs.map f) c = (pickL xs c).map f := by
  unfold pickL
  rw [List.length_map, List.map_filterMap]
  refine congrArg (fun g => List.filterMap g _) ?_
  funext j
  exact List.getElem?_map ..
theorem Beside.at_ {run : Int} {ds bs : List Pc} (B : Beside run ds bs) {y : Pc} (hy : y ∈ bs) : (∃ z ∈ ds, y = ⟨(run + 2) % 100, z.n, z.a, z.h, 400 + z.c, z.b, z.e, z.j⟩) ∨ (y.r = (run + 4) % 100 ∧ (1 ≤ y.n ∧ y.n ≤ 2) ∧ (-1 ≤ y.a ∧ y.a ≤ 2) ∧ y.h = 6 ∧ (700 ≤ y.c ∧ y.c ≤ 701) ∧ y.b = 0 ∧ y.e = 0) := by
  obtain ⟨es, os, rfl, ⟨gs, S, rfl⟩, ho⟩ := B
  rcases List.mem_append.mp hy with h | h
  · obtain ⟨z, hz, rfl⟩ := List.mem_map.mp h
    exact .inl ⟨z, S.subset hz, rfl⟩
  · right
    rcases ho with rfl | rfl | rfl
    · cases h
    all_goals
      simp only [List.mem_cons, List.not_mem_nil, or_false] at h
      rcases h with rfl | rfl <;> (refine ⟨rfl, ⟨?_, ?_⟩, ⟨?_, ?_⟩, rfl, ⟨?_, ?_⟩, rfl, rfl⟩ <;> (dsimp only; omega))
theorem Beside.sep {run : Int} {ds bs : List Pc} (G : G46 run ds) (B : Beside run ds bs) : Sep (ds ++ bs) := by
  have hrn := G.rn
  refine List.pairwise_append.mpr ⟨?_, ?_, fun x hx y hy => ?_⟩
  · exact G.ids.imp fun h => ⟨fun e => h.1 e.2, h.2⟩
  · obtain ⟨es, os, rfl, ⟨gs, S, rfl⟩, ho⟩ := B
    refine List.pairwise_append.mpr ⟨?_, ?_, fun x hx y hy => ?_⟩
    · rw [List.pairwise_map]
      refine (G.ids.sublist S).imp fun {p q} h => ⟨fun e => h.1 e.2, fun e => h.2 ⟨e.1, ?_⟩⟩
      have : 400 + p.c = 400 + q.c := e.2
      omega
    · rcases ho with rfl | rfl | rfl
      · exact List.Pairwise.nil
      all_goals
        refine List.pairwise_cons.mpr ⟨fun y hy => ?_, List.pairwise_singleton _ _⟩
        rw [List.mem_singleton.mp hy]
        exact ⟨fun e => by have := e.2; dsimp only at this; omega, fun e => by have := e.2; dsimp only at this; omega⟩
    · obtain ⟨z, hz, rfl⟩ := List.mem_map.mp hx
      have hc := G.cnt z (S.subset hz)
      rcases Beside.at_ (ds := ds) ⟨[], os, rfl, ⟨[], List.nil_sublist _, rfl⟩, ho⟩ hy with ⟨z2, _, e⟩ | h
      · exfalso
        rcases ho with rfl | rfl | rfl
        · cases hy
        all_goals
          simp only [List.mem_cons, List.not_mem_nil, or_false] at hy
          rcases hy with h | h <;> (rw [h] at e; injection e with e1 e2; omega)
      · refine ⟨fun e => ?_, fun e => ?_⟩
        · have h1 : (run + 2) % 100 = y.r := e.1
          omega
        · have h1 : 400 + z.c = y.c := e.2
          omega
  · have hr := G.run x hx
    have hc := G.cnt x hx
    rcases B.at_ hy with ⟨z, hz, rfl⟩ | h
    · have hc2 := G.cnt z hz
      refine ⟨fun e => ?_, fun e => ?_⟩
      · have h1 : x.r = (run + 2) % 100 := e.1
        omega
      · have h1 : x.c = 400 + z.c := e.2
        omega
    · refine ⟨fun e => ?_, fun e => ?_⟩
      · have h1 : x.r = y.r := e.1
        omega
      · have h1 : x.c = y.c := e.2
        omega
theorem Beside.len {run : Int} {ds bs : List Pc} (B : Beside run ds bs) : bs.length ≤ ds.length + 2 := by
  obtain ⟨es, os, rfl, ⟨gs, S, rfl⟩, ho⟩ := B
  have := S.length_le
  rw [List.length_append, List.length_map]
  rcases ho with rfl | rfl | rfl <;> simp <;> omega
theorem Beside.run {run : Int} {ds bs : List Pc} (hr : 0 ≤ run ∧ run ≤ 99) (B : Beside run ds bs) : ∀ y ∈ bs, y.r = (run + 2) % 100 ∨ y.r = (run + 4) % 100 := fun y hy => by
  rcases B.at_ hy with ⟨z, hz, rfl⟩ | h
  · exact .inl rfl
  · exact .inr h.1
theorem Beside.ofD {run : Int} {ds bs : List Pc} (hr : 0 ≤ run ∧ run ≤ 99) (B : Beside run ds bs) : ofD run (ds ++ bs) = ofD run ds := by
  unfold LW.ofD
  have : bs.filter (fun p => decide (p.r = run)) = [] := List.filter_eq_nil_iff.mpr fun y hy e => by
    have e1 : y.r = run := of_decide_eq_true e
    rcases B.run hr y hy with h | h <;> omega
  rw [List.filter_append, this, List.append_nil]
theorem toldR_of {run : Int} {ds bs ts : List Pc} (G : G46 run ds) (B : Beside run ds bs) (same : Same ts (ds ++ bs)) (lts : ts.length ≤ 1000) : ToldR ts (ds ++ bs) run := by
  have S := B.sep G
  refine ⟨same, lts, ?_, S.uni, S.free fun t ht => (same t).mp ht, fun p hp => ?_, fun p hp => ?_, ?_⟩
  · have := B.len
    have := G.len
    rw [List.length_append]
    omega
  · rcases List.mem_append.mp hp with h | h
    · exact G.num p h
    · rcases B.at_ h with ⟨z, hz, rfl⟩ | h
      · exact G.num z hz
      · omega
  · rcases List.mem_append.mp hp with h | h
    · exact G.ask p h
    · rcases B.at_ h with ⟨z, hz, rfl⟩ | h
      · exact G.ask z hz
      · omega
  · obtain ⟨z, hz⟩ := List.exists_mem_of_ne_nil _ G.ne
    exact ⟨z, List.mem_append_left _ hz, G.run z hz⟩
theorem Beside.tim {run : Int} {ds bs : List Pc} (G : G46 run ds) (B : Beside run ds bs) : ∀ p ∈ ds ++ bs, (-(10 ^ 30) ≤ p.b ∧ p.b ≤ 10 ^ 30) ∧ (-(10 ^ 30) ≤ p.e ∧ p.e ≤ 10 ^ 30) := fun p hp => by
  rcases List.mem_append.mp hp with h | h
  · exact G.tim p h
  · rcases B.at_ h with ⟨z, hz, rfl⟩ | h
    · exact G.tim z hz
    · rw [h.2.2.2.2.2.1, h.2.2.2.2.2.2]
      decide
theorem asks_in {run : Int} {ds bs ts : List Pc} (G : G46 run ds) (B : Beside run ds bs) (H : ToldR ts (ds ++ bs) run) {n : Int} (h : n ∈ asksI (ofD run (clearP ts)) (keysI (ofD run (clearP ts)))) : (0 ≤ n ∧ n ≤ 99) ∧ n ∈ ds.map (·.a) := by
  obtain ⟨h1, h2⟩ := asksI_mem.mp h
  obtain ⟨q, hq, z, e, ea⟩ := (kidsI_ne H.pP fun n => keysI_mem H.pP).mp h2
  obtain ⟨y, hy, hr, rfl⟩ := ofD_mem hq
  have ez : y.a = z.a := a_of2 e
  refine ⟨h1, List.mem_map.mpr ⟨y, ?_, ez.trans ea⟩⟩
  rcases List.mem_append.mp ((H.same2 y).mp hy) with h | h
  · exact h
  · have := G.rn
    rcases B.run G.rn y h with h | h <;> omega
section
variable {P : Program} {w : World} {K : PySem.W.Frag} {mg : Str → Option Value} {base : Heap}
theorem ok_law (T : Tx P K mg) : Holds P w K mg base 9 T.f_law T.fd_law ["script"] (prLaw K) := by
  refine holds_of T.F_law sc_law (fun ss M q h => ?len) (fun cdv A outer s H hr => (xss_cons (xs_asgN (ps_set (i := 1) sc_law.nd rfl (by first | exact .inl rfl | exact .inr rfl) (xe_call (ok_llopen T) (hr.mono (by decide)) T.g_llopen T.F_llopen.kp T.b_llopen (xa_cons (xv 0) xa_nil))) simLE)
      (xss_cons (xs_forR1 (ps_for PassesOwn.never rfl (pi_range1 rfl T.m_range (xa_cons xe_int xa_nil)) (xg_name (pg_name (i := 2) sc_law.nd rfl (by first | exact .inl rfl | exact .inr rfl))) (xss_cons (xs_asg (ps_asg (xe_call (ok_llgapped T) (hr.mono (by decide)) T.g_llgapped T.F_llgapped.kp T.b_llgapped (xa_cons (xv 1) (xa_cons xe_int xa_nil))) (xg_tupO (pg_tup (n := 2) rfl (xgo_cons (pgs_cons (xg_name (pg_name (i := 11) sc_law.nd rfl (by first | exact .inl rfl | exact .inr rfl))) (xgo_cons (pgs_cons (xg_name (pg_name (i := 12) sc_law.nd rfl (by first | exact .inl rfl | exact .inr rfl))) xgo_nil))))))))
      (xss_cons (xs_asgN (ps_set (i := 3) sc_law.nd rfl (by first | exact .inl rfl | exact .inr rfl) (xe_call (ok_lltold T) (hr.mono (by decide)) T.g_lltold T.F_lltold.kp T.b_lltold (xa_cons (xv 1) (xa_cons (xe_add (xv 11) (xe_call (ok_llbeside T) (hr.mono (by decide)) T.g_llbeside T.F_llbeside.kp T.b_llbeside (xa_cons (xv 1) (xa_cons (xv 11) (xa_cons (xv 12) xa_nil))))) xa_nil)))) simLE)
      (xss_cons (xs_asgN (ps_set (i := 4) sc_law.nd rfl (by first | exact .inl rfl | exact .inr rfl) (xe_call (ok_llof T) (hr.mono (by decide)) T.g_llof T.F_llof.kp T.b_llof (xa_cons (xv 11) (xa_cons (xv 12) xa_nil)))) simLE)
      (xss_cons (xs_asgN (ps_set (i := 5) sc_law.nd rfl (by first | exact .inl rfl | exact .inr rfl) (xe_fz (xe_lcL (pe_lc (own := [("piece", 9)]) (g := gName 9) (tt := LB _) rfl sc_law.nd (pi_list (xv 11)) (blkOk_by (own := [("piece", 9)]) (N := N_law) (sc := defScope s_law) (by decide +kernel)) (fun _ _ _ _ _ => pg_name (i := 9) sc_law.nd rfl (.inl rfl)) (fun _ _ _ _ _ => xts_nil) (fun _ _ _ _ _ => (xe_ix (xv 9) xe_int))) (by decide)))) simLE)
      (xss_cons (xs_fz (i := 6) (xs_asgN (ps_setLc (i := 6) (own := [("number", 13)]) (g := gName 13) (tt := LB _) rfl sc_law.nd rfl rfl (sw_true rfl rfl rfl (by decide +kernel)) (pi_range2 rfl T.m_range (xa_cons (xe_neg xe_int) (xa_cons xe_int xa_nil))) (blkOk_by (own := [("number", 13)]) (N := N_law) (sc := defScope s_law) (by decide +kernel)) (fun _ _ _ _ _ => pg_name (i := 13) sc_law.nd rfl (.inl rfl)) (fun _ _ _ _ _ => (xts_one (xb_ninD (T := false) (pt_cmp (pc_dnotin (Nat.lt_of_le_of_lt (Nat.add_le_add_left (by decide : 1 ≤ 64) _) hr.rm.units) (xv 13) (xv 4)))))) (fun _ _ _ _ _ => (xv 13))) (sim_lcR2 simLA simLB simLE (by decide))))
      (xss_cons (xs_asgN (ps_set (i := 7) sc_law.nd rfl (by first | exact .inl rfl | exact .inr rfl) (xe_fz (xe_stepL (by decide) (xe_fz (xe_lcL (pe_lc (own := [("number", 13)]) (g := gName 13) (tt := LB _) rfl sc_law.nd (pi_list (xv 6)) (blkOk_by (own := [("number", 13)]) (N := N_law) (sc := defScope s_law) (by decide +kernel)) (fun _ _ _ _ _ => pg_name (i := 13) sc_law.nd rfl (.inl rfl)) (fun _ _ _ _ _ => (xts_one (xb_cmp (sim_inI true) (pt_cmpR op_notIn_seq (xv 13) (xv 5) rfl)))) (fun _ _ _ _ _ => (xv 13))) (by decide)))))) simLE)
      (xss_cons (xs_asgN (ps_set (i := 7) sc_law.nd rfl (by first | exact .inl rfl | exact .inr rfl) (xe_addD (xv 7) (xe_lstD (xa_cons xe_bl (xa_cons xe_bl (xa_cons xe_non (xa_cons xe_str (xa_cons (xe_lstD (xa_cons xe_int xa_nil)) (xa_cons (xe_tup (xa_cons xe_int xa_nil)) (xa_cons (xe_pow xe_int xe_int) (xa_cons (xe_neg xe_int) xa_nil))))))))))) simLE)
      (xss_cons (xs_if (xb_not (xb_val (xe_call (ok_ll_right T) (hr.mono (by decide)) T.g_ll_right T.F_ll_right.kp T.b_ll_right (xa_cons (xv 3) (xa_cons (xv 4) (xa_cons (xv 12) (xa_cons (xv 7) xa_nil))))))) (xss_one (xs_ret xe_bl)) xss_nil)
      (xss_cons (xs_forT (ps_for PassesOwn.never rfl (pi_tup (xe_tup (xa_cons (xe_mod (xe_addD (xv 12) xe_int) xe_int) (xa_cons (xe_neg xe_int) (xa_cons xe_bl (xa_cons xe_bl (xa_cons xe_non (xa_cons xe_str (xa_cons (xe_lstD (xa_cons xe_int xa_nil)) xa_nil))))))))) (xg_name (pg_name (i := 8) sc_law.nd rfl (by first | exact .inl rfl | exact .inr rfl))) (xss_one (xs_if (xb_cmp sim_ne (pt_cmpR (op_neAll hr.rm.units) (xe_call (ok_llcaught (w := w) (base := base) T) (hr.mono (by decide)) T.g_llcaught T.F_llcaught.kp T.b_llcaught (xa_cons (xe_tupO (xa_cons (xe_raw (pe_glob (v := .ref T.f_gap_of) rfl T.g_gap_of rfl)) (xa_cons (xv 3) (xa_cons (xv 8) (xa_cons xe_int xa_nil))))) xa_nil)) xe_str (nomark _))) (xss_one (xs_ret xe_bl)) xss_nil))))
      (xss_cons (xs_if (xb_cmp sim_ne (pt_cmpR (op_neAll hr.rm.units) (xe_call (ok_llcaught (w := w) (base := base) T) (hr.mono (by decide)) T.g_llcaught T.F_llcaught.kp T.b_llcaught (xa_cons (xe_tupO (xa_cons (xe_raw (pe_glob (v := .ref T.f_gap_of) rfl T.g_gap_of rfl)) (xa_cons (xe_lstD xa_nil) (xa_cons (xv 12) (xa_cons xe_int xa_nil))))) xa_nil)) xe_str (nomark _))) (xss_one (xs_ret xe_bl)) xss_nil)
      (xss_cons (xs_asgN (ps_set (i := 9) sc_law.nd rfl (by first | exact .inl rfl | exact .inr rfl) (xe_ix (xv 11) (xe_call (ok_lldraw T) (hr.mono (by decide)) T.g_lldraw T.F_lldraw.kp T.b_lldraw (xa_cons (xv 1) (xa_cons (xe_callB sim_len (pe_callB call_lenA rfl T.m_len (by decide +kernel) (xa_cons (xv 11) xa_nil))) xa_nil))))) simLE)
      (xss_cons (xs_asgN (ps_set (i := 10) sc_law.nd rfl (by first | exact .inl rfl | exact .inr rfl) (xe_addD (xv 3) (xe_lstD (xa_cons (xe_addD (xe_slD (xv 9) xo_none (xo_some xe_int)) (xe_tup (xa_cons (xe_addD (xe_ix (xv 9) xe_int) xe_int) (xa_cons (xe_ix (xv 9) xe_int) xa_nil)))) xa_nil)))) simLE)
      (xss_one (xs_forT (ps_for PassesOwn.never rfl (pi_tup (xe_tup (xa_cons (xv 12) (xa_cons (xe_mod (xe_addD (xv 12) xe_int) xe_int) (xa_cons xe_non (xa_cons xe_str (xa_cons (xe_lstD (xa_cons xe_int xa_nil)) (xa_cons xe_bl xa_nil)))))))) (xg_name (pg_name (i := 8) sc_law.nd rfl (by first | exact .inl rfl | exact .inr rfl))) (xss_one (xs_if (xb_cmp sim_ne (pt_cmpR (op_neAll hr.rm.units) (xe_call (ok_llcaught (w := w) (base := base) T) (hr.mono (by decide)) T.g_llcaught T.F_llcaught.kp T.b_llcaught (xa_cons (xe_tupO (xa_cons (xe_raw (pe_glob (v := .ref T.f_gap_of) rfl T.g_gap_of rfl)) (xa_cons (xv 10) (xa_cons (xv 8) (xa_cons xe_non xa_nil))))) xa_nil)) xe_str (nomark _))) (xss_one (xs_ret xe_bl)) xss_nil)))))))))))))))))))
      (xss_one (xs_ret xe_bl))))) (fun ss M q h => ?read)
  case len =>
    obtain ⟨ns, rfl, _⟩ := h
    rfl
  case read =>
    obtain ⟨ns, rfl, hns, k⟩ := h
    refine ⟨_, rfl, ns, rfl, hns, fun f M0 hf F0 o0 => ?_⟩
    refine ⟨0, 4, rfl, ⟨by decide, by decide, by decide, by decide⟩, fun i Γ' M' => ∃ (x2 x3 x4 x5 x6 x7 x8 x9 x10 x11 x12 : Option Sl), Γ' = [some (.scr K ns), some (.own f), x2, x3, x4, x5, x6, x7, x8, x9, x10, x11, x12, none] ∧ Feed M' f (30000 * i), ⟨_, _, _, _, _, _, _, _, _, _, _, rfl, F0.up (by decide)⟩, ?_, ?_⟩
    rotate_left
    · rintro Γ' M1 ⟨x2, x3, x4, x5, x6, x7, x8, x9, x10, x11, x12, rfl, F1⟩
      exact k M1
    rintro i Γ' M1 hi ⟨x2, x3, x4, x5, x6, x7, x8, x9, x10, x11, x12, rfl, F1⟩
    have hi3 : (i : Int) < 4 := by omega
    refine ⟨_, rfl, f, _, 9, rfl, by decide, by decide, F1, by omega, fun pp p ds run M2 hpp hp hmpp hm G F2 K2 => ?_⟩
    refine ⟨_, IsT.own hmpp, rfl, ?_⟩
    have lds := G.len
    have hrn := G.rn
    refine ⟨_, rfl, _, rfl, _, rfl, _, rfl, _, rfl, f, p, _, run, ds, rfl, hm, hrn.1, hrn.2, lds, F2, by omega, fun b bs M3 hb hbs B F3 K3 => ?_⟩
    have nfp : p ≠ f := feed_lp F2 hm
    have hm3 : M3 p = some (.lst (lp ds)) := K3.at nfp hm
    have lbs := B.len
    refine ⟨_, _, IsL.own hm3, IsL.own hbs, by rw [lp_len, lp_len]; omega, fun c hc => ?_⟩
    have nfc : f ≠ c := F3.ne hc
    obtain ⟨es, ees⟩ : ∃ es, es = ds ++ bs := ⟨_, rfl⟩
    have les : es.length ≤ 30 := by rw [ees, List.length_append]; omega
    have hce : put M3 c (.lst (lp ds ++ lp bs)) c = some (.lst (lp es)) := by rw [put_at, ees, lp_appT]
    have hm3c : put M3 c (.lst (lp ds ++ lp bs)) p = some (.lst (lp ds)) := (put_ne (ne_mem hm3 hc)).trans hm3
    refine ⟨f, c, _, es, rfl, hce, by omega, F3.put nfc, by omega, fun ts M4 same lts F4 K4 => ?_⟩
    have hm4 := K4.at nfp hm3c
    have H : ToldR ts es run := by rw [ees]; exact toldR_of G B (by rw [← ees]; exact same) (by omega)
    refine ⟨_, rfl, _, rfl, _, ds, run, rfl, IsL.own hm4, by omega, fun o ho => ?_⟩
    have F5 := F4.put (o := .dct (ofD run ds)) (F4.ne ho)
    have hm5 : put M4 o (.dct (ofD run ds)) p = some (.lst (lp ds)) := (put_ne (ne_mem hm4 ho)).trans hm4
    have eo : ofD run ds = ofD run es := by rw [ees]; exact (B.ofD hrn).symm
    have ho5 : put M4 o (.dct (ofD run ds)) o = some (.dct (ofD run es)) := by rw [put_at, eo]
    obtain ⟨M5, hM5⟩ : ∃ M5, M5 = put M4 o (.dct (ofD run ds)) := ⟨_, rfl⟩
    rw [← hM5] at F5 hm5 ho5 ⊢
    have P1 := H.pL
    obtain ⟨askl, easkl⟩ : ∃ askl, askl = ds.map (·.a) := ⟨_, rfl⟩
    refine ⟨_, rfl, ?_⟩
    refine lc_mapG (fun z : Pc => .dat z.d) (fun z => .dat (.int z.a)) (IsL.own hm5) (by omega) (fun z hz M' k' hk hgo => ⟨_, rfl, _, rfl, hgo⟩) fun pf hpf => ?_
    refine ⟨askl.map .int, by rw [put_at, easkl, List.map_map, List.map_map]; rfl, ?_⟩
    rw [del_put hpf]
    refine ⟨-1, 102, rfl, ⟨by decide, by decide, by decide, by decide⟩, fun pz hpz => ?_⟩
    refine ⟨fun j M' => ∃ nl : List Int, M' = put M5 pz (.lst (li nl)) ∧ nl.length ≤ j, ⟨[], rfl, Nat.le_refl _⟩, ?_, ?_⟩
    · rintro j M' hj ⟨nl, rfl, lnl⟩
      have hj2 : j < 103 := by omega
      refine ⟨_, rfl, _, rfl, o, ofD run es, .int (-1 + (j : Int)), .inl (-1 + (j : Int)), rfl, .inl ((put_ne (ne_mem ho5 hpz)).trans ho5), rfl, rfl, And.intro (fun _ => ?_) (fun _ => ⟨nl, rfl, by omega⟩)⟩
      refine ⟨_, rfl, _, put_at, by rw [List.length_map]; omega, nl ++ [-1 + (j : Int)], ?_, by rw [List.length_append]; show _ + 1 ≤ _; omega⟩
      rw [put_put, li_snoc]
    rintro M' ⟨nonl, rfl, lnon⟩
    have lnon2 : nonl.length ≤ 103 := lnon
    refine ⟨pz, nonl.map .int, rfl, put_at.trans (congrArg (fun z => some (MO.lst z)) (li_dat _)), ?_⟩
    rw [del_put hpz]
    refine ⟨_, rfl, ?_⟩
    refine lc_filtG (fun n : Int => .dat (.int n)) (fun n => .dat (.int n)) (fun n => !decide (n ∈ askl)) isl_ints (by omega) (fun n hn M' k' hk hgo => ⟨_, rfl, _, rfl, n, askl, rfl, isl_ints, hgo⟩) (fun n hn M' k' hk _ hgo => ⟨_, rfl, hgo⟩) fun pf hpf => ?_
    obtain ⟨ol, eol⟩ : ∃ ol, ol = nonl.filter fun n => !decide (n ∈ askl) := ⟨_, rfl⟩
    rw [← eol]
    have lol : ol.length ≤ 103 := by
      rw [eol]
      exact Nat.le_trans (List.length_filter_le _ _) lnon2
    refine ⟨ol.map .int, put_at.trans (congrArg (fun z => some (MO.lst z)) (li_dat _)), ?_⟩
    rw [del_put hpf]
    refine ⟨_, isl_ints, by rw [List.length_map]; omega, fun ps hps => ?_⟩
    have epick : pickL (ol.map fun n => Sl.dat (.int n)) 20 = ((pickL ol 20).map PyData.int).map Sl.dat := by
      rw [pickL_map, List.map_map]
      rfl
    refine ⟨(pickL ol 20).map .int, by rw [put_at, epick], ?_⟩
    rw [del_put hps]
    refine ⟨_, rfl, rfl, _, rfl, rfl, _, rfl, cpow39, rfl, _, rfl, _, _, IsL.dat, IsL.dat, by rw [List.length_map]; have := pickL_len ol 20 (by decide); show _ + 8 ≤ _; omega, ?_⟩
    obtain ⟨oddl, eodd⟩ : ∃ oddl, oddl = (pickL ol 20).map PyData.int ++ [.bool true, .bool false, .none, .str "0", .list [.int 0], .tuple [.int 0], .int (10 ^ (39 : Int).toNat), .int (-1)] := ⟨_, rfl⟩
    rw [← eodd]
    have hodd : ∀ n, PyData.int n ∈ oddl → n ∉ asksI (ofD run (clearP ts)) (keysI (ofD run (clearP ts))) := fun n hn ha => by
      rw [ees] at H
      obtain ⟨h1, h2⟩ := asks_in G B H ha
      rw [eodd] at hn
      rcases List.mem_append.mp hn with h | h
      · obtain ⟨m, hm', e⟩ := List.mem_map.mp h
        cases e
        have h3 := pickL_mem hm'
        rw [eol] at h3
        have h4 := (List.mem_filter.mp h3).2
        rw [easkl] at h4
        simp only [Bool.not_eq_true', decide_eq_false_iff_not] at h4
        exact h4 h2
      · simp only [List.mem_cons, PyData.int.injEq, reduceCtorEq, false_or, or_false, List.not_mem_nil] at h
        rcases h with h | h
        · have : (10 : Int) ^ (39 : Int).toNat = 10 ^ 39 := rfl
          rw [this] at h
          omega
        · omega
    have lodd : oddl.length ≤ 1000 := by
      rw [eodd, List.length_append, List.length_map]
      have := pickL_len ol 20 (by decide)
      show _ + 8 ≤ _
      omega
    refine ⟨_, rfl, _, rfl, _, rfl, _, rfl, o, ts, es, run, oddl, rfl, ho5, H, by rw [ees]; exact B.tim G, hodd, lodd, fun M6 K6 => And.intro (fun z => nomatch z) (fun _ => ?_)⟩
    have hm6 := keep_at K6 hm5
    have ho6 := keep_at K6 ho5
    have F6 := feed_old F5 K6
    have runs : ∀ t ∈ ts, t.r = run ∨ t.r = (run + 2) % 100 ∨ t.r = (run + 4) % 100 := fun t ht => by
      have h := (H.same t).mp ht
      rw [ees] at h
      rcases List.mem_append.mp h with h | h
      · exact .inl (G.run t h)
      · exact .inr (B.run hrn t h)
    have hfree : leastC (clearP ts) = none := H.free
    refine ⟨_, rfl, (show (0 : Int) < 100 by decide), rfl, _, rfl, rfl, _, rfl, ?_⟩
    refine ⟨_, IsT.dat, fun j Γ' M' => ∃ (x8 x9 x10 : Option Sl), Γ' = [some (.scr K ns), some (.own f), some (.dat (.int (0 + (i : Int)))), some (.dat (.list (ts.map Pc.d))), some (.own o), some (.dat (.list (askl.map .int))), some (.dat (.list (nonl.map .int))), some (.dat (.list oddl)), x8, x9, x10, some (.own p), some (.dat (.int run)), none] ∧ (∀ x, M6 x ≠ none → M' x = M6 x), ⟨_, _, _, rfl, fun x _ => rfl⟩, fun _ _ _ _ _ => IsT.dat, ?_, ?_⟩
    · rintro j x Γ' M7 hx ⟨x8, x9, x10, rfl, K7⟩
      obtain ⟨rd, hrd, rfl⟩ := List.mem_map.mp (List.mem_of_getElem? hx)
      have hno : ∀ run', rd = .int run' → ∀ t ∈ ts, t.r ≠ run' := fun run' e t ht er => by
        subst e
        have h2 := runs t ht
        simp only [List.mem_cons, PyData.int.injEq, reduceCtorEq, false_or, or_false, List.not_mem_nil] at hrd
        rcases hrd with e | e
        · have e2 : run' = (run + 1) % 100 := e
          omega
        · have e2 : run' = -1 := e
          omega
      refine ⟨_, rfl, _, rfl, rfl, fun p1 hp1 => ?_⟩
      exact ⟨p1, T.f_gap_of, _, _, _, _, some (T.C_NoRun, "run"), rfl, put_at, ⟨_, _, _, rfl⟩, (ok_gap_of T).mono (by decide), T.F_gap_of.kp, T.b_gap_of, .inr (.inl rfl), fun q' kx hq hk => ⟨_, ts, rd, .int 0, rfl, H.lD _, H.fw, fun z y e => (by rw [hfree] at e; cases e), fun hc hno fs M' K' => hk _ _ rfl fs M' K', fun run' e hc ⟨t, ht, er⟩ => absurd er (hno run' e t ht)⟩, fun M11 K11 => neq_goes (b := decide (("run" : Str) = "run")) (decide_eq_true rfl) ⟨_, _, _, rfl, keep2 (keep2 K7 (keep_put hp1)) K11⟩⟩
    rintro Γ' M7 ⟨x8, x9, x10, rfl, K7⟩
    refine ⟨rfl, [], rfl, _, rfl, rfl, fun p1 hp1 => ?_⟩
    refine ⟨p1, T.f_gap_of, _, _, _, _, some (T.C_NoRun, "run"), rfl, put_at, ⟨_, _, _, rfl⟩, (ok_gap_of T).mono (by decide), T.F_gap_of.kp, T.b_gap_of, .inr (.inl rfl), fun q' kx hq hk => ⟨_, [], .int run, .int 0, rfl, IsL.dat (ds := []), ⟨[], by decide, fun t ht => (nomatch ht)⟩, fun z y e => (by rw [(B.sep G).free (ts := []) fun t ht => (nomatch ht)] at e; cases e), fun hc hno fs M' K' => hk _ _ rfl fs M' K', fun run' e hc ⟨t, ht, er⟩ => (nomatch ht)⟩, fun M8 K8 => neq_goes (b := decide (("run" : Str) = "run")) (decide_eq_true rfl) ?_⟩
    have K68 := keep2 K7 (keep2 (keep_put hp1) K8)
    have hm8 := keep_at K68 hm6
    have F8 := feed_old F6 K68
    have pos : 0 < ds.length := List.length_pos_iff.mpr G.ne
    refine ⟨_, rfl, _, rfl, _, rfl, _, hm8, f, _, _, rfl, by rw [lp_len]; omega, by rw [lp_len]; omega, F8, by omega, fun r9 M9 h90 h91 F9 o9 => ?_⟩
    rw [lp_len] at h91
    obtain ⟨so, eo1, one, hone, rfl⟩ := pick (P := fun s => ∃ q ∈ ds, s = Sl.dat (Pc.d q)) (xs := lp ds) (fun s hs => by
      obtain ⟨q, hq, rfl⟩ := List.mem_map.mp hs
      exact ⟨q, hq, rfl⟩) h90 (by rw [lp_len]; exact h91)
    have hm9 : M9 p = some (.lst (lp ds)) := (o9 p nfp).trans hm8
    refine ⟨_, _, hm9, eo1, ?_⟩
    have hone' : one ∈ ts := (H.same one).mpr (by rw [ees]; exact List.mem_append_left _ hone)
    obtain ⟨late, hlate⟩ : ∃ late : Pc, late = ⟨one.r, one.n, one.a, one.h, one.c, one.b, one.e + 1, one.j⟩ := ⟨_, rfl⟩
    have lts := H.lts
    refine ⟨_, rfl, _, rfl, _, rfl, _, rfl, _, rfl, _, rfl, rfl, _, rfl, (show 6 + 2 ≤ 16777216 by decide), rfl, _, rfl, ts.map Pc.d, [late.d], IsL.dat, ?_, ?_, ?_⟩
    · rw [hlate]
      exact IsL.dat
    · rw [List.length_map]
      show ts.length + 1 ≤ _
      omega
    have ebad : ts.map Pc.d ++ [late.d] = (ts ++ [late]).map Pc.d := by rw [List.map_append]; rfl
    rw [ebad]
    obtain ⟨bs2, hbs2⟩ : ∃ bs2, bs2 = ts ++ [late] := ⟨_, rfl⟩
    rw [← hbs2]
    obtain ⟨⟨mz, my⟩, hmc⟩ := clash_some (bs := bs2) (z := one) (y := late) (by rw [hbs2]; exact List.mem_append_left _ hone') (by rw [hbs2]; exact List.mem_append_right _ (List.mem_singleton.mpr rfl)) (clash_e (by rw [hlate]) (by rw [hlate]) (by rw [hlate]; dsimp only; omega))
    have noc : leastC (clearP bs2) ≠ none := by
      rw [hmc]
      exact nofun
    have fewb : ∃ D : List Pc, D.length < 64 ∧ ∀ t ∈ bs2, t ∈ D := ⟨late :: es, by rw [List.length_cons]; omega, fun t ht => by
      rw [hbs2] at ht
      rcases List.mem_append.mp ht with h | h
      · exact List.mem_cons_of_mem _ ((H.same t).mp h)
      · rw [List.mem_singleton.mp h]
        exact List.mem_cons_self ..⟩
    refine ⟨_, rfl, _, rfl, (show (0 : Int) < 100 by decide), rfl, _, rfl, rfl, _, rfl, ?_⟩
    refine ⟨_, IsT.dat, fun j Γ' M' => ∃ (x8 x9 : Option Sl), Γ' = [some (.scr K ns), some (.own f), some (.dat (.int (0 + (i : Int)))), some (.dat (.list (ts.map Pc.d))), some (.own o), some (.dat (.list (askl.map .int))), some (.dat (.list (nonl.map .int))), some (.dat (.list oddl)), x8, x9, some (.dat (.list (bs2.map Pc.d))), some (.own p), some (.dat (.int run)), none] ∧ (∀ x, M9 x ≠ none → M' x = M9 x), ⟨_, _, rfl, fun x _ => rfl⟩, fun _ _ _ _ _ => IsT.dat, ?_, ?_⟩
    · rintro j x Γ' M12 hx ⟨x8, x9, rfl, K12⟩
      obtain ⟨rd, hrd, rfl⟩ := List.mem_map.mp (List.mem_of_getElem? hx)
      refine ⟨_, rfl, _, rfl, rfl, fun p1 hp1 => ?_⟩
      exact ⟨p1, T.f_gap_of, _, _, _, _, some (T.C_Clash, "clash"), rfl, put_at, ⟨_, _, _, rfl⟩, (ok_gap_of T).mono (by decide), T.F_gap_of.kp, T.b_gap_of, .inr (.inr (.inl rfl)), fun q' kx hq hk => ⟨_, bs2, rd, .none, rfl, by rw [lp_dat]; exact IsL.dat, fewb, fun z y e fs M' K' => hk _ _ rfl fs M' K', fun hc => absurd hc noc, fun run e hc => absurd hc noc⟩, fun M13 K13 => neq_goes (b := decide (("clash" : Str) = "clash")) (decide_eq_true rfl) ⟨_, _, rfl, keep2 (keep2 K12 (keep_put hp1)) K13⟩⟩
    rintro Γ' M12 ⟨x8, x9, rfl, K12⟩
    exact ⟨_, _, _, _, _, _, _, _, _, _, _, rfl, (feed_old F9 K12).up (by rw [Int.natCast_succ]; omega)⟩
end
end LW
namespace LW
open PySem PySem.Spec PyProof.Rows DL
open L2 hiding del del_ne del_same
theorem all_mk {l : PySem.W.OpenLaw} {w : World} {K : PySem.W.Frag} {h : Heap} {mg : Str → Option Value} {fa : Addr} (X : K.In h) (G : h.Ns mainGlobals mg) (hfa : mg "law" = some (.ref fa))
    {f_is_whole : Addr} {od_is_whole an_is_whole : Option Addr} {sl_is_whole : Array (Option Value)} {oc_is_whole kV_is_whole dc_is_whole pm_is_whole cd_is_whole ct_is_whole : Value} {f_is_clash : Addr} {od_is_clash an_is_clash : Option Addr} {sl_is_clash : Array (Option Value)} {oc_is_clash kV_is_clash dc_is_clash pm_is_clash cd_is_clash ct_is_clash : Value} {f_held_till : Addr} {od_held_till an_held_till : Option Addr} {sl_held_till : Array (Option Value)} {oc_held_till kV_held_till dc_held_till pm_held_till cd_held_till ct_held_till : Value} {f_cleared : Addr} {od_cleared an_cleared : Option Addr} {sl_cleared : Array (Option Value)} {oc_cleared kV_cleared dc_cleared pm_cleared cd_cleared ct_cleared : Value} {f_least_clash : Addr} {od_least_clash an_least_clash : Option Addr} {sl_least_clash : Array (Option Value)} {oc_least_clash kV_least_clash dc_least_clash pm_least_clash cd_least_clash ct_least_clash : Value} {f_wood_of : Addr} {od_wood_of an_wood_of : Option Addr} {sl_wood_of : Array (Option Value)} {oc_wood_of kV_wood_of dc_wood_of pm_wood_of cd_wood_of ct_wood_of : Value} {f_pieces_of : Addr} {od_pieces_of an_pieces_of : Option Addr} {sl_pieces_of : Array (Option Value)} {oc_pieces_of kV_pieces_of dc_pieces_of pm_pieces_of cd_pieces_of ct_pieces_of : Value} {f_tops_of : Addr} {od_tops_of an_tops_of : Option Addr} {sl_tops_of : Array (Option Value)} {oc_tops_of kV_tops_of dc_tops_of pm_tops_of cd_tops_of ct_tops_of : Value} {f_kids_of : Addr} {od_kids_of an_kids_of : Option Addr} {sl_kids_of : Array (Option Value)} {oc_kids_of kV_kids_of dc_kids_of pm_kids_of cd_kids_of ct_kids_of : Value} {f_asker_of : Addr} {od_asker_of an_asker_of : Option Addr} {sl_asker_of : Array (Option Value)} {oc_asker_of kV_asker_of dc_asker_of pm_asker_of cd_asker_of ct_asker_of : Value} {f_numbers_up : Addr} {od_numbers_up an_numbers_up : Option Addr} {sl_numbers_up : Array (Option Value)} {oc_numbers_up kV_numbers_up dc_numbers_up pm_numbers_up cd_numbers_up ct_numbers_up : Value} {f_least_ring : Addr} {od_least_ring an_least_ring : Option Addr} {sl_least_ring : Array (Option Value)} {oc_least_ring kV_least_ring dc_least_ring pm_least_ring cd_least_ring ct_least_ring : Value} {f_gap_of : Addr} {od_gap_of an_gap_of : Option Addr} {sl_gap_of : Array (Option Value)} {oc_gap_of kV_gap_of dc_gap_of pm_gap_of cd_gap_of ct_gap_of : Value} {f_llmixed : Addr} {od_llmixed an_llmixed : Option Addr} {sl_llmixed : Array (Option Value)} {oc_llmixed kV_llmixed dc_llmixed pm_llmixed cd_llmixed ct_llmixed : Value} {f_llopen : Addr} {od_llopen an_llopen : Option Addr} {sl_llopen : Array (Option Value)} {oc_llopen kV_llopen dc_llopen pm_llopen cd_llopen ct_llopen : Value} {f_lldraw : Addr} {od_lldraw an_lldraw : Option Addr} {sl_lldraw : Array (Option Value)} {oc_lldraw kV_lldraw dc_lldraw pm_lldraw cd_lldraw ct_lldraw : Value} {f_llorder : Addr} {od_llorder an_llorder : Option Addr} {sl_llorder : Array (Option Value)} {oc_llorder kV_llorder dc_llorder pm_llorder cd_llorder ct_llorder : Value} {f_llpiece : Addr} {od_llpiece an_llpiece : Option Addr} {sl_llpiece : Array (Option Value)} {oc_llpiece kV_llpiece dc_llpiece pm_llpiece cd_llpiece ct_llpiece : Value} {f_llrun : Addr} {od_llrun an_llrun : Option Addr} {sl_llrun : Array (Option Value)} {oc_llrun kV_llrun dc_llrun pm_llrun cd_llrun ct_llrun : Value} {f_llbent_one : Addr} {od_llbent_one an_llbent_one : Option Addr} {sl_llbent_one : Array (Option Value)} {oc_llbent_one kV_llbent_one dc_llbent_one pm_llbent_one cd_llbent_one ct_llbent_one : Value} {f_lltold : Addr} {od_lltold an_lltold : Option Addr} {sl_lltold : Array (Option Value)} {oc_lltold kV_lltold dc_lltold pm_lltold cd_lltold ct_lltold : Value} {f_llcaught : Addr} {od_llcaught an_llcaught : Option Addr} {sl_llcaught : Array (Option Value)} {oc_llcaught kV_llcaught dc_llcaught pm_llcaught cd_llcaught ct_llcaught : Value} {f_llkind : Addr} {od_llkind an_llkind : Option Addr} {sl_llkind : Array (Option Value)} {oc_llkind kV_llkind dc_llkind pm_llkind cd_llkind ct_llkind : Value} {f_llof : Addr} {od_llof an_llof : Option Addr} {sl_llof : Array (Option Value)} {oc_llof kV_llof dc_llof pm_llof cd_llof ct_llof : Value} {f_llup : Addr} {od_llup an_llup : Option Addr} {sl_llup : Array (Option Value)} {oc_llup kV_llup dc_llup pm_llup cd_llup ct_llup : Value} {f_llring : Addr} {od_llring an_llring : Option Addr} {sl_llring : Array (Option Value)} {oc_llring kV_llring dc_llring pm_llring cd_llring ct_llring : Value} {f_llwood : Addr} {od_llwood an_llwood : Option Addr} {sl_llwood : Array (Option Value)} {oc_llwood kV_llwood dc_llwood pm_llwood cd_llwood ct_llwood : Value} {f_llringed : Addr} {od_llringed an_llringed : Option Addr} {sl_llringed : Array (Option Value)} {oc_llringed kV_llringed dc_llringed pm_llringed cd_llringed ct_llringed : Value} {f_llone_run : Addr} {od_llone_run an_llone_run : Option Addr} {sl_llone_run : Array (Option Value)} {oc_llone_run kV_llone_run dc_llone_run pm_llone_run cd_llone_run ct_llone_run : Value} {f_llgapped : Addr} {od_llgapped an_llgapped : Option Addr} {sl_llgapped : Array (Option Value)} {oc_llgapped kV_llgapped dc_llgapped pm_llgapped cd_llgapped ct_llgapped : Value} {f_llbounds : Addr} {od_llbounds an_llbounds : Option Addr} {sl_llbounds : Array (Option Value)} {oc_llbounds kV_llbounds dc_llbounds pm_llbounds cd_llbounds ct_llbounds : Value} {f_llbeside : Addr} {od_llbeside an_llbeside : Option Addr} {sl_llbeside : Array (Option Value)} {oc_llbeside kV_llbeside dc_llbeside pm_llbeside cd_llbeside ct_llbeside : Value} {f_ll_right : Addr} {od_ll_right an_ll_right : Option Addr} {sl_ll_right : Array (Option Value)} {oc_ll_right kV_ll_right dc_ll_right pm_ll_right cd_ll_right ct_ll_right : Value} {f_law : Addr} {od_law an_law : Option Addr} {sl_law : Array (Option Value)} {oc_law kV_law dc_law pm_law cd_law ct_law : Value} {t_RUN : Tok} {t_NUMBER : Tok} {t_ASKER : Tok} {t_HOUSE : Tok} {t_COUNT : Tok} {t_BEGIN : Tok} {t_END : Tok} {t_JOINED : Tok} {t_NO_ASKER : Tok} {C_WoodError : Addr} {C_NoPiece : Addr} {C_TooMany : Addr} {C_NoRun : Addr} {C_NoWood : Addr} {C_NoHouse : Addr} {C_NoShifts : Addr} {C_NotRight : Addr} {C_NoMore : Addr} {C_NotOne : Addr} {C_NoGap : Addr} {C_NoDealing : Addr} {C_NoPlace : Addr} {C_NotWhole : Addr} {C_NoBack : Addr} {C_NoRow : Addr} {C_Clash : Addr} {C_NoText : Addr}
    (a_is_whole : PySem.W.nsIn K mainGlobals "is_whole" = some (some (.ref f_is_whole)))
    (l_is_whole : K.lookup f_is_whole = some ⟨oc_is_whole, od_is_whole, .func (PySem.W.fnOf "is_whole" "is_whole" (defArgs s_is_whole) (defBody s_is_whole) (defScope s_is_whole) .none kV_is_whole dc_is_whole pm_is_whole an_is_whole cd_is_whole ct_is_whole), sl_is_whole⟩)
    (e_is_whole : PySem.W.codeIn K cd_is_whole "is_whole" = true)
    (k_is_whole : PySem.W.keepIn K (.ref f_is_whole) = true)
    (a_is_clash : PySem.W.nsIn K mainGlobals "is_clash" = some (some (.ref f_is_clash)))
    (l_is_clash : K.lookup f_is_clash = some ⟨oc_is_clash, od_is_clash, .func (PySem.W.fnOf "is_clash" "is_clash" (defArgs s_is_clash) (defBody s_is_clash) (defScope s_is_clash) .none kV_is_clash dc_is_clash pm_is_clash an_is_clash cd_is_clash ct_is_clash), sl_is_clash⟩)
    (e_is_clash : PySem.W.codeIn K cd_is_clash "is_clash" = true)
    (k_is_clash : PySem.W.keepIn K (.ref f_is_clash) = true)
    (a_held_till : PySem.W.nsIn K mainGlobals "held_till" = some (some (.ref f_held_till)))
    (l_held_till : K.lookup f_held_till = some ⟨oc_held_till, od_held_till, .func (PySem.W.fnOf "held_till" "held_till" (defArgs s_held_till) (defBody s_held_till) (defScope s_held_till) .none kV_held_till dc_held_till pm_held_till an_held_till cd_held_till ct_held_till), sl_held_till⟩)
    (e_held_till : PySem.W.codeIn K cd_held_till "held_till" = true)
    (k_held_till : PySem.W.keepIn K (.ref f_held_till) = true)
    (a_cleared : PySem.W.nsIn K mainGlobals "cleared" = some (some (.ref f_cleared)))
    (l_cleared : K.lookup f_cleared = some ⟨oc_cleared, od_cleared, .func (PySem.W.fnOf "cleared" "cleared" (defArgs s_cleared) (defBody s_cleared) (defScope s_cleared) .none kV_cleared dc_cleared pm_cleared an_cleared cd_cleared ct_cleared), sl_cleared⟩)
    (e_cleared : PySem.W.codeIn K cd_cleared "cleared" = true)
    (k_cleared : PySem.W.keepIn K (.ref f_cleared) = true)
    (a_least_clash : PySem.W.nsIn K mainGlobals "least_clash" = some (some (.ref f_least_clash)))
    (l_least_clash : K.lookup f_least_clash = some ⟨oc_least_clash, od_least_clash, .func (PySem.W.fnOf "least_clash" "least_clash" (defArgs s_least_clash) (defBody s_least_clash) (defScope s_least_clash) .none kV_least_clash dc_least_clash pm_least_clash an_least_clash cd_least_clash ct_least_clash), sl_least_clash⟩)
    (e_least_clash : PySem.W.codeIn K cd_least_clash "least_clash" = true)
    (k_least_clash : PySem.W.keepIn K (.ref f_least_clash) = true)
    (a_wood_of : PySem.W.nsIn K mainGlobals "wood_of" = some (some (.ref f_wood_of)))
    (l_wood_of : K.lookup f_wood_of = some ⟨oc_wood_of, od_wood_of, .func (PySem.W.fnOf "wood_of" "wood_of" (defArgs s_wood_of) (defBody s_wood_of) (defScope s_wood_of) .none kV_wood_of dc_wood_of pm_wood_of an_wood_of cd_wood_of ct_wood_of), sl_wood_of⟩)
    (e_wood_of : PySem.W.codeIn K cd_wood_of "wood_of" = true)
    (k_wood_of : PySem.W.keepIn K (.ref f_wood_of) = true)
    (a_pieces_of : PySem.W.nsIn K mainGlobals "pieces_of" = some (some (.ref f_pieces_of)))
    (l_pieces_of : K.lookup f_pieces_of = some ⟨oc_pieces_of, od_pieces_of, .func (PySem.W.fnOf "pieces_of" "pieces_of" (defArgs s_pieces_of) (defBody s_pieces_of) (defScope s_pieces_of) .none kV_pieces_of dc_pieces_of pm_pieces_of an_pieces_of cd_pieces_of ct_pieces_of), sl_pieces_of⟩)
    (e_pieces_of : PySem.W.codeIn K cd_pieces_of "pieces_of" = true)
    (k_pieces_of : PySem.W.keepIn K (.ref f_pieces_of) = true)
    (a_tops_of : PySem.W.nsIn K mainGlobals "tops_of" = some (some (.ref f_tops_of)))
    (l_tops_of : K.lookup f_tops_of = some ⟨oc_tops_of, od_tops_of, .func (PySem.W.fnOf "tops_of" "tops_of" (defArgs s_tops_of) (defBody s_tops_of) (defScope s_tops_of) .none kV_tops_of dc_tops_of pm_tops_of an_tops_of cd_tops_of ct_tops_of), sl_tops_of⟩)
    (e_tops_of : PySem.W.codeIn K cd_tops_of "tops_of" = true)
    (k_tops_of : PySem.W.keepIn K (.ref f_tops_of) = true)
    (a_kids_of : PySem.W.nsIn K mainGlobals "kids_of" = some (some (.ref f_kids_of)))
    (l_kids_of : K.lookup f_kids_of = some ⟨oc_kids_of, od_kids_of, .func (PySem.W.fnOf "kids_of" "kids_of" (defArgs s_kids_of) (defBody s_kids_of) (defScope s_kids_of) .none kV_kids_of dc_kids_of pm_kids_of an_kids_of cd_kids_of ct_kids_of), sl_kids_of⟩)
    (e_kids_of : PySem.W.codeIn K cd_kids_of "kids_of" = true)
    (k_kids_of : PySem.W.keepIn K (.ref f_kids_of) = true)
    (a_asker_of : PySem.W.nsIn K mainGlobals "asker_of" = some (some (.ref f_asker_of)))
    (l_asker_of : K.lookup f_asker_of = some ⟨oc_asker_of, od_asker_of, .func (PySem.W.fnOf "asker_of" "asker_of" (defArgs s_asker_of) (defBody s_asker_of) (defScope s_asker_of) .none kV_asker_of dc_asker_of pm_asker_of an_asker_of cd_asker_of ct_asker_of), sl_asker_of⟩)
    (e_asker_of : PySem.W.codeIn K cd_asker_of "asker_of" = true)
    (k_asker_of : PySem.W.keepIn K (.ref f_asker_of) = true)
    (a_numbers_up : PySem.W.nsIn K mainGlobals "numbers_up" = some (some (.ref f_numbers_up)))
    (l_numbers_up : K.lookup f_numbers_up = some ⟨oc_numbers_up, od_numbers_up, .func (PySem.W.fnOf "numbers_up" "numbers_up" (defArgs s_numbers_up) (defBody s_numbers_up) (defScope s_numbers_up) .none kV_numbers_up dc_numbers_up pm_numbers_up an_numbers_up cd_numbers_up ct_numbers_up), sl_numbers_up⟩)
    (e_numbers_up : PySem.W.codeIn K cd_numbers_up "numbers_up" = true)
    (k_numbers_up : PySem.W.keepIn K (.ref f_numbers_up) = true)
    (a_least_ring : PySem.W.nsIn K mainGlobals "least_ring" = some (some (.ref f_least_ring)))
    (l_least_ring : K.lookup f_least_ring = some ⟨oc_least_ring, od_least_ring, .func (PySem.W.fnOf "least_ring" "least_ring" (defArgs s_least_ring) (defBody s_least_ring) (defScope s_least_ring) .none kV_least_ring dc_least_ring pm_least_ring an_least_ring cd_least_ring ct_least_ring), sl_least_ring⟩)
    (e_least_ring : PySem.W.codeIn K cd_least_ring "least_ring" = true)
    (k_least_ring : PySem.W.keepIn K (.ref f_least_ring) = true)
    (a_gap_of : PySem.W.nsIn K mainGlobals "gap_of" = some (some (.ref f_gap_of)))
    (l_gap_of : K.lookup f_gap_of = some ⟨oc_gap_of, od_gap_of, .func (PySem.W.fnOf "gap_of" "gap_of" (defArgs s_gap_of) (defBody s_gap_of) (defScope s_gap_of) .none kV_gap_of dc_gap_of pm_gap_of an_gap_of cd_gap_of ct_gap_of), sl_gap_of⟩)
    (e_gap_of : PySem.W.codeIn K cd_gap_of "gap_of" = true)
    (k_gap_of : PySem.W.keepIn K (.ref f_gap_of) = true)
    (a_llmixed : PySem.W.nsIn K mainGlobals "_law_lmixed" = some (some (.ref f_llmixed)))
    (l_llmixed : K.lookup f_llmixed = some ⟨oc_llmixed, od_llmixed, .func (PySem.W.fnOf "_law_lmixed" "_law_lmixed" (defArgs s_llmixed) (defBody s_llmixed) (defScope s_llmixed) .none kV_llmixed dc_llmixed pm_llmixed an_llmixed cd_llmixed ct_llmixed), sl_llmixed⟩)
    (e_llmixed : PySem.W.codeIn K cd_llmixed "_law_lmixed" = true)
    (k_llmixed : PySem.W.keepIn K (.ref f_llmixed) = true)
    (a_llopen : PySem.W.nsIn K mainGlobals "_law_lopen" = some (some (.ref f_llopen)))
    (l_llopen : K.lookup f_llopen = some ⟨oc_llopen, od_llopen, .func (PySem.W.fnOf "_law_lopen" "_law_lopen" (defArgs s_llopen) (defBody s_llopen) (defScope s_llopen) .none kV_llopen dc_llopen pm_llopen an_llopen cd_llopen ct_llopen), sl_llopen⟩)
    (e_llopen : PySem.W.codeIn K cd_llopen "_law_lopen" = true)
    (k_llopen : PySem.W.keepIn K (.ref f_llopen) = true)
    (a_lldraw : PySem.W.nsIn K mainGlobals "_law_ldraw" = some (some (.ref f_lldraw)))
    (l_lldraw : K.lookup f_lldraw = some ⟨oc_lldraw, od_lldraw, .func (PySem.W.fnOf "_law_ldraw" "_law_ldraw" (defArgs s_lldraw) (defBody s_lldraw) (defScope s_lldraw) .none kV_lldraw dc_lldraw pm_lldraw an_lldraw cd_lldraw ct_lldraw), sl_lldraw⟩)
    (e_lldraw : PySem.W.codeIn K cd_lldraw "_law_ldraw" = true)
    (k_lldraw : PySem.W.keepIn K (.ref f_lldraw) = true)
    (a_llorder : PySem.W.nsIn K mainGlobals "_law_lorder" = some (some (.ref f_llorder)))
    (l_llorder : K.lookup f_llorder = some ⟨oc_llorder, od_llorder, .func (PySem.W.fnOf "_law_lorder" "_law_lorder" (defArgs s_llorder) (defBody s_llorder) (defScope s_llorder) .none kV_llorder dc_llorder pm_llorder an_llorder cd_llorder ct_llorder), sl_llorder⟩)
    (e_llorder : PySem.W.codeIn K cd_llorder "_law_lorder" = true)
    (k_llorder : PySem.W.keepIn K (.ref f_llorder) = true)
    (a_llpiece : PySem.W.nsIn K mainGlobals "_law_lpiece" = some (some (.ref f_llpiece)))
    (l_llpiece : K.lookup f_llpiece = some ⟨oc_llpiece, od_llpiece, .func (PySem.W.fnOf "_law_lpiece" "_law_lpiece" (defArgs s_llpiece) (defBody s_llpiece) (defScope s_llpiece) .none kV_llpiece dc_llpiece pm_llpiece an_llpiece cd_llpiece ct_llpiece), sl_llpiece⟩)
    (e_llpiece : PySem.W.codeIn K cd_llpiece "_law_lpiece" = true)
    (k_llpiece : PySem.W.keepIn K (.ref f_llpiece) = true)
    (a_llrun : PySem.W.nsIn K mainGlobals "_law_lrun" = some (some (.ref f_llrun)))
    (l_llrun : K.lookup f_llrun = some ⟨oc_llrun, od_llrun, .func (PySem.W.fnOf "_law_lrun" "_law_lrun" (defArgs s_llrun) (defBody s_llrun) (defScope s_llrun) .none kV_llrun dc_llrun pm_llrun an_llrun cd_llrun ct_llrun), sl_llrun⟩)
    (e_llrun : PySem.W.codeIn K cd_llrun "_law_lrun" = true)
    (k_llrun : PySem.W.keepIn K (.ref f_llrun) = true)
    (a_llbent_one : PySem.W.nsIn K mainGlobals "_law_lbent_one" = some (some (.ref f_llbent_one)))
    (l_llbent_one : K.lookup f_llbent_one = some ⟨oc_llbent_one, od_llbent_one, .func (PySem.W.fnOf "_law_lbent_one" "_law_lbent_one" (defArgs s_llbent_one) (defBody s_llbent_one) (defScope s_llbent_one) .none kV_llbent_one dc_llbent_one pm_llbent_one an_llbent_one cd_llbent_one ct_llbent_one), sl_llbent_one⟩)
    (e_llbent_one : PySem.W.codeIn K cd_llbent_one "_law_lbent_one" = true)
    (k_llbent_one : PySem.W.keepIn K (.ref f_llbent_one) = true)
    (a_lltold : PySem.W.nsIn K mainGlobals "_law_ltold" = some (some (.ref f_lltold)))
    (l_lltold : K.lookup f_lltold = some ⟨oc_lltold, od_lltold, .func (PySem.W.fnOf "_law_ltold" "_law_ltold" (defArgs s_lltold) (defBody s_lltold) (defScope s_lltold) .none kV_lltold dc_lltold pm_lltold an_lltold cd_lltold ct_lltold), sl_lltold⟩)
    (e_lltold : PySem.W.codeIn K cd_lltold "_law_ltold" = true)
    (k_lltold : PySem.W.keepIn K (.ref f_lltold) = true)
    (a_llcaught : PySem.W.nsIn K mainGlobals "_law_lcaught" = some (some (.ref f_llcaught)))
    (l_llcaught : K.lookup f_llcaught = some ⟨oc_llcaught, od_llcaught, .func (PySem.W.fnOf "_law_lcaught" "_law_lcaught" (defArgs s_llcaught) (defBody s_llcaught) (defScope s_llcaught) .none kV_llcaught dc_llcaught pm_llcaught an_llcaught cd_llcaught ct_llcaught), sl_llcaught⟩)
    (e_llcaught : PySem.W.codeIn K cd_llcaught "_law_lcaught" = true)
    (k_llcaught : PySem.W.keepIn K (.ref f_llcaught) = true)
    (a_llkind : PySem.W.nsIn K mainGlobals "_law_lkind" = some (some (.ref f_llkind)))
    (l_llkind : K.lookup f_llkind = some ⟨oc_llkind, od_llkind, .func (PySem.W.fnOf "_law_lkind" "_law_lkind" (defArgs s_llkind) (defBody s_llkind) (defScope s_llkind) .none kV_llkind dc_llkind pm_llkind an_llkind cd_llkind ct_llkind), sl_llkind⟩)
    (e_llkind : PySem.W.codeIn K cd_llkind "_law_lkind" = true)
    (k_llkind : PySem.W.keepIn K (.ref f_llkind) = true)
    (a_llof : PySem.W.nsIn K mainGlobals "_law_lof" = some (some (.ref f_llof)))
    (l_llof : K.lookup f_llof = some ⟨oc_llof, od_llof, .func (PySem.W.fnOf "_law_lof" "_law_lof" (defArgs s_llof) (defBody s_llof) (defScope s_llof) .none kV_llof dc_llof pm_llof an_llof cd_llof ct_llof), sl_llof⟩)
    (e_llof : PySem.W.codeIn K cd_llof "_law_lof" = true)
    (k_llof : PySem.W.keepIn K (.ref f_llof) = true)
    (a_llup : PySem.W.nsIn K mainGlobals "_law_lup" = some (some (.ref f_llup)))
    (l_llup : K.lookup f_llup = some ⟨oc_llup, od_llup, .func (PySem.W.fnOf "_law_lup" "_law_lup" (defArgs s_llup) (defBody s_llup) (defScope s_llup) .none kV_llup dc_llup pm_llup an_llup cd_llup ct_llup), sl_llup⟩)
    (e_llup : PySem.W.codeIn K cd_llup "_law_lup" = true)
    (k_llup : PySem.W.keepIn K (.ref f_llup) = true)
    (a_llring : PySem.W.nsIn K mainGlobals "_law_lring" = some (some (.ref f_llring)))
    (l_llring : K.lookup f_llring = some ⟨oc_llring, od_llring, .func (PySem.W.fnOf "_law_lring" "_law_lring" (defArgs s_llring) (defBody s_llring) (defScope s_llring) .none kV_llring dc_llring pm_llring an_llring cd_llring ct_llring), sl_llring⟩)
    (e_llring : PySem.W.codeIn K cd_llring "_law_lring" = true)
    (k_llring : PySem.W.keepIn K (.ref f_llring) = true)
    (a_llwood : PySem.W.nsIn K mainGlobals "_law_lwood" = some (some (.ref f_llwood)))
    (l_llwood : K.lookup f_llwood = some ⟨oc_llwood, od_llwood, .func (PySem.W.fnOf "_law_lwood" "_law_lwood" (defArgs s_llwood) (defBody s_llwood) (defScope s_llwood) .none kV_llwood dc_llwood pm_llwood an_llwood cd_llwood ct_llwood), sl_llwood⟩)
    (e_llwood : PySem.W.codeIn K cd_llwood "_law_lwood" = true)
    (k_llwood : PySem.W.keepIn K (.ref f_llwood) = true)
    (a_llringed : PySem.W.nsIn K mainGlobals "_law_lringed" = some (some (.ref f_llringed)))
    (l_llringed : K.lookup f_llringed = some ⟨oc_llringed, od_llringed, .func (PySem.W.fnOf "_law_lringed" "_law_lringed" (defArgs s_llringed) (defBody s_llringed) (defScope s_llringed) .none kV_llringed dc_llringed pm_llringed an_llringed cd_llringed ct_llringed), sl_llringed⟩)
    (e_llringed : PySem.W.codeIn K cd_llringed "_law_lringed" = true)
    (k_llringed : PySem.W.keepIn K (.ref f_llringed) = true)
    (a_llone_run : PySem.W.nsIn K mainGlobals "_law_lone_run" = some (some (.ref f_llone_run)))
    (l_llone_run : K.lookup f_llone_run = some ⟨oc_llone_run, od_llone_run, .func (PySem.W.fnOf "_law_lone_run" "_law_lone_run" (defArgs s_llone_run) (defBody s_llone_run) (defScope s_llone_run) .none kV_llone_run dc_llone_run pm_llone_run an_llone_run cd_llone_run ct_llone_run), sl_llone_run⟩)
    (e_llone_run : PySem.W.codeIn K cd_llone_run "_law_lone_run" = true)
    (k_llone_run : PySem.W.keepIn K (.ref f_llone_run) = true)
    (a_llgapped : PySem.W.nsIn K mainGlobals "_law_lgapped" = some (some (.ref f_llgapped)))
    (l_llgapped : K.lookup f_llgapped = some ⟨oc_llgapped, od_llgapped, .func (PySem.W.fnOf "_law_lgapped" "_law_lgapped" (defArgs s_llgapped) (defBody s_llgapped) (defScope s_llgapped) .none kV_llgapped dc_llgapped pm_llgapped an_llgapped cd_llgapped ct_llgapped), sl_llgapped⟩)
    (e_llgapped : PySem.W.codeIn K cd_llgapped "_law_lgapped" = true)
    (k_llgapped : PySem.W.keepIn K (.ref f_llgapped) = true)
    (a_llbounds : PySem.W.nsIn K mainGlobals "_law_lbounds" = some (some (.ref f_llbounds)))
    (l_llbounds : K.lookup f_llbounds = some ⟨oc_llbounds, od_llbounds, .func (PySem.W.fnOf "_law_lbounds" "_law_lbounds" (defArgs s_llbounds) (defBody s_llbounds) (defScope s_llbounds) .none kV_llbounds dc_llbounds pm_llbounds an_llbounds cd_llbounds ct_llbounds), sl_llbounds⟩)
    (e_llbounds : PySem.W.codeIn K cd_llbounds "_law_lbounds" = true)
    (k_llbounds : PySem.W.keepIn K (.ref f_llbounds) = true)
    (a_llbeside : PySem.W.nsIn K mainGlobals "_law_lbeside" = some (some (.ref f_llbeside)))
    (l_llbeside : K.lookup f_llbeside = some ⟨oc_llbeside, od_llbeside, .func (PySem.W.fnOf "_law_lbeside" "_law_lbeside" (defArgs s_llbeside) (defBody s_llbeside) (defScope s_llbeside) .none kV_llbeside dc_llbeside pm_llbeside an_llbeside cd_llbeside ct_llbeside), sl_llbeside⟩)
    (e_llbeside : PySem.W.codeIn K cd_llbeside "_law_lbeside" = true)
    (k_llbeside : PySem.W.keepIn K (.ref f_llbeside) = true)
    (a_ll_right : PySem.W.nsIn K mainGlobals "_law_l_right" = some (some (.ref f_ll_right)))
    (l_ll_right : K.lookup f_ll_right = some ⟨oc_ll_right, od_ll_right, .func (PySem.W.fnOf "_law_l_right" "_law_l_right" (defArgs s_ll_right) (defBody s_ll_right) (defScope s_ll_right) .none kV_ll_right dc_ll_right pm_ll_right an_ll_right cd_ll_right ct_ll_right), sl_ll_right⟩)
    (e_ll_right : PySem.W.codeIn K cd_ll_right "_law_l_right" = true)
    (k_ll_right : PySem.W.keepIn K (.ref f_ll_right) = true)
    (a_law : PySem.W.nsIn K mainGlobals "law" = some (some (.ref f_law)))
    (l_law : K.lookup f_law = some ⟨oc_law, od_law, .func (PySem.W.fnOf "law" "law" (defArgs s_law) (defBody s_law) (defScope s_law) .none kV_law dc_law pm_law an_law cd_law ct_law), sl_law⟩)
    (e_law : PySem.W.codeIn K cd_law "law" = true)
    (k_law : PySem.W.keepIn K (.ref f_law) = true)
    (v_RUN : PySem.W.nsIn K mainGlobals "RUN" = some (some (.int (0) t_RUN)))
    (v_NUMBER : PySem.W.nsIn K mainGlobals "NUMBER" = some (some (.int (1) t_NUMBER)))
    (v_ASKER : PySem.W.nsIn K mainGlobals "ASKER" = some (some (.int (2) t_ASKER)))
    (v_HOUSE : PySem.W.nsIn K mainGlobals "HOUSE" = some (some (.int (3) t_HOUSE)))
    (v_COUNT : PySem.W.nsIn K mainGlobals "COUNT" = some (some (.int (4) t_COUNT)))
    (v_BEGIN : PySem.W.nsIn K mainGlobals "BEGIN" = some (some (.int (5) t_BEGIN)))
    (v_END : PySem.W.nsIn K mainGlobals "END" = some (some (.int (6) t_END)))
    (v_JOINED : PySem.W.nsIn K mainGlobals "JOINED" = some (some (.int (7) t_JOINED)))
    (v_NO_ASKER : PySem.W.nsIn K mainGlobals "NO_ASKER" = some (some (.int (-1) t_NO_ASKER)))
    (aC_WoodError : PySem.W.nsIn K mainGlobals "WoodError" = some (some (.ref C_WoodError)))
    (eC_WoodError : errB K C_WoodError = true)
    (qC_WoodError : PySem.W.excIn K C_WoodError PySem.HandSPX.veTail "ValueError.__new__" = true)
    (aC_NoPiece : PySem.W.nsIn K mainGlobals "NoPiece" = some (some (.ref C_NoPiece)))
    (eC_NoPiece : errB K C_NoPiece = true)
    (qC_NoPiece : PySem.W.excIn K C_NoPiece PySem.HandSPX.veTail "ValueError.__new__" = true)
    (aC_TooMany : PySem.W.nsIn K mainGlobals "TooMany" = some (some (.ref C_TooMany)))
    (eC_TooMany : errB K C_TooMany = true)
    (qC_TooMany : PySem.W.excIn K C_TooMany PySem.HandSPX.veTail "ValueError.__new__" = true)
    (aC_NoRun : PySem.W.nsIn K mainGlobals "NoRun" = some (some (.ref C_NoRun)))
    (eC_NoRun : errB K C_NoRun = true)
    (qC_NoRun : PySem.W.excIn K C_NoRun PySem.HandSPX.veTail "ValueError.__new__" = true)
    (aC_NoWood : PySem.W.nsIn K mainGlobals "NoWood" = some (some (.ref C_NoWood)))
    (eC_NoWood : errB K C_NoWood = true)
    (qC_NoWood : PySem.W.excIn K C_NoWood PySem.HandSPX.veTail "ValueError.__new__" = true)
    (aC_NoHouse : PySem.W.nsIn K mainGlobals "NoHouse" = some (some (.ref C_NoHouse)))
    (eC_NoHouse : errB K C_NoHouse = true)
    (qC_NoHouse : PySem.W.excIn K C_NoHouse PySem.HandSPX.veTail "ValueError.__new__" = true)
    (aC_NoShifts : PySem.W.nsIn K mainGlobals "NoShifts" = some (some (.ref C_NoShifts)))
    (eC_NoShifts : errB K C_NoShifts = true)
    (qC_NoShifts : PySem.W.excIn K C_NoShifts PySem.HandSPX.veTail "ValueError.__new__" = true)
    (aC_NotRight : PySem.W.nsIn K mainGlobals "NotRight" = some (some (.ref C_NotRight)))
    (eC_NotRight : errB K C_NotRight = true)
    (qC_NotRight : PySem.W.excIn K C_NotRight PySem.HandSPX.veTail "ValueError.__new__" = true)
    (aC_NoMore : PySem.W.nsIn K mainGlobals "NoMore" = some (some (.ref C_NoMore)))
    (eC_NoMore : errB K C_NoMore = true)
    (qC_NoMore : PySem.W.excIn K C_NoMore PySem.HandSPX.veTail "ValueError.__new__" = true)
    (aC_NotOne : PySem.W.nsIn K mainGlobals "NotOne" = some (some (.ref C_NotOne)))
    (eC_NotOne : errB K C_NotOne = true)
    (qC_NotOne : PySem.W.excIn K C_NotOne PySem.HandSPX.veTail "ValueError.__new__" = true)
    (aC_NoGap : PySem.W.nsIn K mainGlobals "NoGap" = some (some (.ref C_NoGap)))
    (eC_NoGap : errB K C_NoGap = true)
    (qC_NoGap : PySem.W.excIn K C_NoGap PySem.HandSPX.veTail "ValueError.__new__" = true)
    (aC_NoDealing : PySem.W.nsIn K mainGlobals "NoDealing" = some (some (.ref C_NoDealing)))
    (eC_NoDealing : errB K C_NoDealing = true)
    (qC_NoDealing : PySem.W.excIn K C_NoDealing PySem.HandSPX.veTail "ValueError.__new__" = true)
    (aC_NoPlace : PySem.W.nsIn K mainGlobals "NoPlace" = some (some (.ref C_NoPlace)))
    (eC_NoPlace : errB K C_NoPlace = true)
    (qC_NoPlace : PySem.W.excIn K C_NoPlace PySem.HandSPX.veTail "ValueError.__new__" = true)
    (aC_NotWhole : PySem.W.nsIn K mainGlobals "NotWhole" = some (some (.ref C_NotWhole)))
    (eC_NotWhole : errB K C_NotWhole = true)
    (qC_NotWhole : PySem.W.excIn K C_NotWhole PySem.HandSPX.veTail "ValueError.__new__" = true)
    (aC_NoBack : PySem.W.nsIn K mainGlobals "NoBack" = some (some (.ref C_NoBack)))
    (eC_NoBack : errB K C_NoBack = true)
    (qC_NoBack : PySem.W.excIn K C_NoBack PySem.HandSPX.veTail "ValueError.__new__" = true)
    (aC_NoRow : PySem.W.nsIn K mainGlobals "NoRow" = some (some (.ref C_NoRow)))
    (eC_NoRow : errB K C_NoRow = true)
    (qC_NoRow : PySem.W.excIn K C_NoRow PySem.HandSPX.veTail "ValueError.__new__" = true)
    (aC_Clash : PySem.W.nsIn K mainGlobals "Clash" = some (some (.ref C_Clash)))
    (eC_Clash : errB K C_Clash = true)
    (sC_Clash : SupW l.prog K C_Clash "pair")
    (aC_NoText : PySem.W.nsIn K mainGlobals "NoText" = some (some (.ref C_NoText)))
    (eC_NoText : errB K C_NoText = true)
    (sC_NoText : SupW l.prog K C_NoText "at")
    (kindsE : kindsB K C_WoodError [C_NoPiece, C_TooMany, C_NoRun, C_NoWood, C_NoHouse, C_NoShifts, C_NotRight, C_NoMore, C_NotOne, C_NoGap, C_NoDealing, C_NoPlace, C_NotWhole, C_NoBack, C_NoRow, C_Clash, C_NoText] = true)
    (z_ValueError : PySem.W.nsIn K mainGlobals "ValueError" = some none)
    (z_abs : PySem.W.nsIn K mainGlobals "abs" = some none)
    (z_bool : PySem.W.nsIn K mainGlobals "bool" = some none)
    (z_dict : PySem.W.nsIn K mainGlobals "dict" = some none)
    (z_enumerate : PySem.W.nsIn K mainGlobals "enumerate" = some none)
    (z_int : PySem.W.nsIn K mainGlobals "int" = some none)
    (z_isinstance : PySem.W.nsIn K mainGlobals "isinstance" = some none)
    (z_len : PySem.W.nsIn K mainGlobals "len" = some none)
    (z_list : PySem.W.nsIn K mainGlobals "list" = some none)
    (z_max : PySem.W.nsIn K mainGlobals "max" = some none)
    (z_min : PySem.W.nsIn K mainGlobals "min" = some none)
    (z_range : PySem.W.nsIn K mainGlobals "range" = some none)
    (z_repr : PySem.W.nsIn K mainGlobals "repr" = some none)
    (z_set : PySem.W.nsIn K mainGlobals "set" = some none)
    (z_sorted : PySem.W.nsIn K mainGlobals "sorted" = some none)
    (z_super : PySem.W.nsIn K mainGlobals "super" = some none)
    (z_tuple : PySem.W.nsIn K mainGlobals "tuple" = some none) :
    ∃ fd : FuncData, (∀ (s : Shared) (v : Value), BindsTo s fd ⟨[v], []⟩ [("script", v)]) ∧ ∀ base : Heap, K.In base → base.Ns mainGlobals mg → Holds l.prog w K mg base 9 fa fd ["script"] (prLaw K) := by
  have e := (PySem.W.mg_of X G a_law).symm.trans hfa
  cases e
  let T : Tx l.prog K mg := { f_is_whole := _, fd_is_whole := _, F_is_whole := funV_mk (st := s_is_whole) l_is_whole e_is_whole k_is_whole, g_is_whole := PySem.W.mg_of X G a_is_whole, b_is_whole := (fun_mk (st := s_is_whole) l_is_whole e_is_whole k_is_whole).binds (ps := ["thing"]) (fun _ _ _ _ _ _ us hl => match us, hl with | [_], _ => rfl), f_is_clash := _, fd_is_clash := _, F_is_clash := funV_mk (st := s_is_clash) l_is_clash e_is_clash k_is_clash, g_is_clash := PySem.W.mg_of X G a_is_clash, b_is_clash := (fun_mk (st := s_is_clash) l_is_clash e_is_clash k_is_clash).binds (ps := ["one", "other"]) (fun _ _ _ _ _ _ us hl => match us, hl with | [_, _], _ => rfl), f_held_till := _, fd_held_till := _, F_held_till := funV_mk (st := s_held_till) l_held_till e_held_till k_held_till, g_held_till := PySem.W.mg_of X G a_held_till, b_held_till := (fun_mk (st := s_held_till) l_held_till e_held_till k_held_till).binds (ps := ["piece"]) (fun _ _ _ _ _ _ us hl => match us, hl with | [_], _ => rfl), f_cleared := _, fd_cleared := _, F_cleared := funV_mk (st := s_cleared) l_cleared e_cleared k_cleared, g_cleared := PySem.W.mg_of X G a_cleared, b_cleared := (fun_mk (st := s_cleared) l_cleared e_cleared k_cleared).binds (ps := ["heap"]) (fun _ _ _ _ _ _ us hl => match us, hl with | [_], _ => rfl), f_least_clash := _, fd_least_clash := _, F_least_clash := funV_mk (st := s_least_clash) l_least_clash e_least_clash k_least_clash, g_least_clash := PySem.W.mg_of X G a_least_clash, b_least_clash := (fun_mk (st := s_least_clash) l_least_clash e_least_clash k_least_clash).binds (ps := ["pieces"]) (fun _ _ _ _ _ _ us hl => match us, hl with | [_], _ => rfl), f_wood_of := _, fd_wood_of := _, F_wood_of := funV_mk (st := s_wood_of) l_wood_of e_wood_of k_wood_of, g_wood_of := PySem.W.mg_of X G a_wood_of, b_wood_of := (fun_mk (st := s_wood_of) l_wood_of e_wood_of k_wood_of).binds (ps := ["heap", "run"]) (fun _ _ _ _ _ _ us hl => match us, hl with | [_, _], _ => rfl), f_pieces_of := _, fd_pieces_of := _, F_pieces_of := funV_mk (st := s_pieces_of) l_pieces_of e_pieces_of k_pieces_of, g_pieces_of := PySem.W.mg_of X G a_pieces_of, b_pieces_of := (fun_mk (st := s_pieces_of) l_pieces_of e_pieces_of k_pieces_of).binds (ps := ["heap", "run"]) (fun _ _ _ _ _ _ us hl => match us, hl with | [_, _], _ => rfl), f_tops_of := _, fd_tops_of := _, F_tops_of := funV_mk (st := s_tops_of) l_tops_of e_tops_of k_tops_of, g_tops_of := PySem.W.mg_of X G a_tops_of, b_tops_of := (fun_mk (st := s_tops_of) l_tops_of e_tops_of k_tops_of).binds (ps := ["pieces"]) (fun _ _ _ _ _ _ us hl => match us, hl with | [_], _ => rfl), f_kids_of := _, fd_kids_of := _, F_kids_of := funV_mk (st := s_kids_of) l_kids_of e_kids_of k_kids_of, g_kids_of := PySem.W.mg_of X G a_kids_of, b_kids_of := (fun_mk (st := s_kids_of) l_kids_of e_kids_of k_kids_of).binds (ps := ["pieces"]) (fun _ _ _ _ _ _ us hl => match us, hl with | [_], _ => rfl), f_asker_of := _, fd_asker_of := _, F_asker_of := funV_mk (st := s_asker_of) l_asker_of e_asker_of k_asker_of, g_asker_of := PySem.W.mg_of X G a_asker_of, b_asker_of := (fun_mk (st := s_asker_of) l_asker_of e_asker_of k_asker_of).binds (ps := ["pieces", "number"]) (fun _ _ _ _ _ _ us hl => match us, hl with | [_, _], _ => rfl), f_numbers_up := _, fd_numbers_up := _, F_numbers_up := funV_mk (st := s_numbers_up) l_numbers_up e_numbers_up k_numbers_up, g_numbers_up := PySem.W.mg_of X G a_numbers_up, b_numbers_up := (fun_mk (st := s_numbers_up) l_numbers_up e_numbers_up k_numbers_up).binds (ps := ["pieces", "number"]) (fun _ _ _ _ _ _ us hl => match us, hl with | [_, _], _ => rfl), f_least_ring := _, fd_least_ring := _, F_least_ring := funV_mk (st := s_least_ring) l_least_ring e_least_ring k_least_ring, g_least_ring := PySem.W.mg_of X G a_least_ring, b_least_ring := (fun_mk (st := s_least_ring) l_least_ring e_least_ring k_least_ring).binds (ps := ["pieces"]) (fun _ _ _ _ _ _ us hl => match us, hl with | [_], _ => rfl), f_gap_of := _, fd_gap_of := _, F_gap_of := funV_mk (st := s_gap_of) l_gap_of e_gap_of k_gap_of, g_gap_of := PySem.W.mg_of X G a_gap_of, b_gap_of := (fun_mk (st := s_gap_of) l_gap_of e_gap_of k_gap_of).binds (ps := ["heap", "run", "number"]) (fun _ _ _ _ _ _ us hl => match us, hl with | [_, _, _], _ => rfl), f_llmixed := _, fd_llmixed := _, F_llmixed := funV_mk (st := s_llmixed) l_llmixed e_llmixed k_llmixed, g_llmixed := PySem.W.mg_of X G a_llmixed, b_llmixed := (fun_mk (st := s_llmixed) l_llmixed e_llmixed k_llmixed).binds (ps := ["cell", "at"]) (fun _ _ _ _ _ _ us hl => match us, hl with | [_, _], _ => rfl), f_llopen := _, fd_llopen := _, F_llopen := funV_mk (st := s_llopen) l_llopen e_llopen k_llopen, g_llopen := PySem.W.mg_of X G a_llopen, b_llopen := (fun_mk (st := s_llopen) l_llopen e_llopen k_llopen).binds (ps := ["script"]) (fun _ _ _ _ _ _ us hl => match us, hl with | [_], _ => rfl), f_lldraw := _, fd_lldraw := _, F_lldraw := funV_mk (st := s_lldraw) l_lldraw e_lldraw k_lldraw, g_lldraw := PySem.W.mg_of X G a_lldraw, b_lldraw := (fun_mk (st := s_lldraw) l_lldraw e_lldraw k_lldraw).binds (ps := ["feed", "many"]) (fun _ _ _ _ _ _ us hl => match us, hl with | [_, _], _ => rfl), f_llorder := _, fd_llorder := _, F_llorder := funV_mk (st := s_llorder) l_llorder e_llorder k_llorder, g_llorder := PySem.W.mg_of X G a_llorder, b_llorder := (fun_mk (st := s_llorder) l_llorder e_llorder k_llorder).binds (ps := ["feed", "many"]) (fun _ _ _ _ _ _ us hl => match us, hl with | [_, _], _ => rfl), f_llpiece := _, fd_llpiece := _, F_llpiece := funV_mk (st := s_llpiece) l_llpiece e_llpiece k_llpiece, g_llpiece := PySem.W.mg_of X G a_llpiece, b_llpiece := (fun_mk (st := s_llpiece) l_llpiece e_llpiece k_llpiece).binds (ps := ["feed", "counts", "ids", "place", "times", "joined"]) (fun _ _ _ _ _ _ us hl => match us, hl with | [_, _, _, _, _, _], _ => rfl), f_llrun := _, fd_llrun := _, F_llrun := funV_mk (st := s_llrun) l_llrun e_llrun k_llrun, g_llrun := PySem.W.mg_of X G a_llrun, b_llrun := (fun_mk (st := s_llrun) l_llrun e_llrun k_llrun).binds (ps := ["feed", "counts", "run", "many", "houses"]) (fun _ _ _ _ _ _ us hl => match us, hl with | [_, _, _, _, _], _ => rfl), f_llbent_one := _, fd_llbent_one := _, F_llbent_one := funV_mk (st := s_llbent_one) l_llbent_one e_llbent_one k_llbent_one, g_llbent_one := PySem.W.mg_of X G a_llbent_one, b_llbent_one := (fun_mk (st := s_llbent_one) l_llbent_one e_llbent_one k_llbent_one).binds (ps := ["feed", "pieces", "at"]) (fun _ _ _ _ _ _ us hl => match us, hl with | [_, _, _], _ => rfl), f_lltold := _, fd_lltold := _, F_lltold := funV_mk (st := s_lltold) l_lltold e_lltold k_lltold, g_lltold := PySem.W.mg_of X G a_lltold, b_lltold := (fun_mk (st := s_lltold) l_lltold e_lltold k_lltold).binds (ps := ["feed", "pieces"]) (fun _ _ _ _ _ _ us hl => match us, hl with | [_, _], _ => rfl), f_llcaught := _, fd_llcaught := _, F_llcaught := funV_mk (st := s_llcaught) l_llcaught e_llcaught k_llcaught, g_llcaught := PySem.W.mg_of X G a_llcaught, b_llcaught := (fun_mk (st := s_llcaught) l_llcaught e_llcaught k_llcaught).binds (ps := ["call"]) (fun _ _ _ _ _ _ us hl => match us, hl with | [_], _ => rfl), f_llkind := _, fd_llkind := _, F_llkind := funV_mk (st := s_llkind) l_llkind e_llkind k_llkind, g_llkind := PySem.W.mg_of X G a_llkind, b_llkind := (fun_mk (st := s_llkind) l_llkind e_llkind k_llkind).binds (ps := ["caught"]) (fun _ _ _ _ _ _ us hl => match us, hl with | [_], _ => rfl), f_llof := _, fd_llof := _, F_llof := funV_mk (st := s_llof) l_llof e_llof k_llof, g_llof := PySem.W.mg_of X G a_llof, b_llof := (fun_mk (st := s_llof) l_llof e_llof k_llof).binds (ps := ["pieces", "run"]) (fun _ _ _ _ _ _ us hl => match us, hl with | [_, _], _ => rfl), f_llup := _, fd_llup := _, F_llup := funV_mk (st := s_llup) l_llup e_llup k_llup, g_llup := PySem.W.mg_of X G a_llup, b_llup := (fun_mk (st := s_llup) l_llup e_llup k_llup).binds (ps := ["own", "number"]) (fun _ _ _ _ _ _ us hl => match us, hl with | [_, _], _ => rfl), f_llring := _, fd_llring := _, F_llring := funV_mk (st := s_llring) l_llring e_llring k_llring, g_llring := PySem.W.mg_of X G a_llring, b_llring := (fun_mk (st := s_llring) l_llring e_llring k_llring).binds (ps := ["own"]) (fun _ _ _ _ _ _ us hl => match us, hl with | [_], _ => rfl), f_llwood := _, fd_llwood := _, F_llwood := funV_mk (st := s_llwood) l_llwood e_llwood k_llwood, g_llwood := PySem.W.mg_of X G a_llwood, b_llwood := (fun_mk (st := s_llwood) l_llwood e_llwood k_llwood).binds (ps := ["own"]) (fun _ _ _ _ _ _ us hl => match us, hl with | [_], _ => rfl), f_llringed := _, fd_llringed := _, F_llringed := funV_mk (st := s_llringed) l_llringed e_llringed k_llringed, g_llringed := PySem.W.mg_of X G a_llringed, b_llringed := (fun_mk (st := s_llringed) l_llringed e_llringed k_llringed).binds (ps := ["feed", "pieces"]) (fun _ _ _ _ _ _ us hl => match us, hl with | [_, _], _ => rfl), f_llone_run := _, fd_llone_run := _, F_llone_run := funV_mk (st := s_llone_run) l_llone_run e_llone_run k_llone_run, g_llone_run := PySem.W.mg_of X G a_llone_run, b_llone_run := (fun_mk (st := s_llone_run) l_llone_run e_llone_run k_llone_run).binds (ps := ["feed", "most"]) (fun _ _ _ _ _ _ us hl => match us, hl with | [_, _], _ => rfl), f_llgapped := _, fd_llgapped := _, F_llgapped := funV_mk (st := s_llgapped) l_llgapped e_llgapped k_llgapped, g_llgapped := PySem.W.mg_of X G a_llgapped, b_llgapped := (fun_mk (st := s_llgapped) l_llgapped e_llgapped k_llgapped).binds (ps := ["feed", "most"]) (fun _ _ _ _ _ _ us hl => match us, hl with | [_, _], _ => rfl), f_llbounds := _, fd_llbounds := _, F_llbounds := funV_mk (st := s_llbounds) l_llbounds e_llbounds k_llbounds, g_llbounds := PySem.W.mg_of X G a_llbounds, b_llbounds := (fun_mk (st := s_llbounds) l_llbounds e_llbounds k_llbounds).binds (ps := ["own", "number"]) (fun _ _ _ _ _ _ us hl => match us, hl with | [_, _], _ => rfl), f_llbeside := _, fd_llbeside := _, F_llbeside := funV_mk (st := s_llbeside) l_llbeside e_llbeside k_llbeside, g_llbeside := PySem.W.mg_of X G a_llbeside, b_llbeside := (fun_mk (st := s_llbeside) l_llbeside e_llbeside k_llbeside).binds (ps := ["feed", "pieces", "run"]) (fun _ _ _ _ _ _ us hl => match us, hl with | [_, _, _], _ => rfl), f_ll_right := _, fd_ll_right := _, F_ll_right := funV_mk (st := s_ll_right) l_ll_right e_ll_right k_ll_right, g_ll_right := PySem.W.mg_of X G a_ll_right, b_ll_right := (fun_mk (st := s_ll_right) l_ll_right e_ll_right k_ll_right).binds (ps := ["told", "own", "run", "odd"]) (fun _ _ _ _ _ _ us hl => match us, hl with | [_, _, _, _], _ => rfl), f_law := _, fd_law := _, F_law := funV_mk (st := s_law) l_law e_law k_law, g_law := PySem.W.mg_of X G a_law, b_law := (fun_mk (st := s_law) l_law e_law k_law).binds (ps := ["script"]) (fun _ _ _ _ _ _ us hl => match us, hl with | [_], _ => rfl), t_RUN := t_RUN, c_RUN := PySem.W.mg_of X G v_RUN, t_NUMBER := t_NUMBER, c_NUMBER := PySem.W.mg_of X G v_NUMBER, t_ASKER := t_ASKER, c_ASKER := PySem.W.mg_of X G v_ASKER, t_HOUSE := t_HOUSE, c_HOUSE := PySem.W.mg_of X G v_HOUSE, t_COUNT := t_COUNT, c_COUNT := PySem.W.mg_of X G v_COUNT, t_BEGIN := t_BEGIN, c_BEGIN := PySem.W.mg_of X G v_BEGIN, t_END := t_END, c_END := PySem.W.mg_of X G v_END, t_JOINED := t_JOINED, c_JOINED := PySem.W.mg_of X G v_JOINED, t_NO_ASKER := t_NO_ASKER, c_NO_ASKER := PySem.W.mg_of X G v_NO_ASKER, C_WoodError := C_WoodError, gC_WoodError := PySem.W.mg_of X G aC_WoodError, E_WoodError := errB_ok eC_WoodError, q_WoodError := qC_WoodError, C_NoPiece := C_NoPiece, gC_NoPiece := PySem.W.mg_of X G aC_NoPiece, E_NoPiece := errB_ok eC_NoPiece, q_NoPiece := qC_NoPiece, C_TooMany := C_TooMany, gC_TooMany := PySem.W.mg_of X G aC_TooMany, E_TooMany := errB_ok eC_TooMany, q_TooMany := qC_TooMany, C_NoRun := C_NoRun, gC_NoRun := PySem.W.mg_of X G aC_NoRun, E_NoRun := errB_ok eC_NoRun, q_NoRun := qC_NoRun, C_NoWood := C_NoWood, gC_NoWood := PySem.W.mg_of X G aC_NoWood, E_NoWood := errB_ok eC_NoWood, q_NoWood := qC_NoWood, C_NoHouse := C_NoHouse, gC_NoHouse := PySem.W.mg_of X G aC_NoHouse, E_NoHouse := errB_ok eC_NoHouse, q_NoHouse := qC_NoHouse, C_NoShifts := C_NoShifts, gC_NoShifts := PySem.W.mg_of X G aC_NoShifts, E_NoShifts := errB_ok eC_NoShifts, q_NoShifts := qC_NoShifts, C_NotRight := C_NotRight, gC_NotRight := PySem.W.mg_of X G aC_NotRight, E_NotRight := errB_ok eC_NotRight, q_NotRight := qC_NotRight, C_NoMore := C_NoMore, gC_NoMore := PySem.W.mg_of X G aC_NoMore, E_NoMore := errB_ok eC_NoMore, q_NoMore := qC_NoMore, C_NotOne := C_NotOne, gC_NotOne := PySem.W.mg_of X G aC_NotOne, E_NotOne := errB_ok eC_NotOne, q_NotOne := qC_NotOne, C_NoGap := C_NoGap, gC_NoGap := PySem.W.mg_of X G aC_NoGap, E_NoGap := errB_ok eC_NoGap, q_NoGap := qC_NoGap, C_NoDealing := C_NoDealing, gC_NoDealing := PySem.W.mg_of X G aC_NoDealing, E_NoDealing := errB_ok eC_NoDealing, q_NoDealing := qC_NoDealing, C_NoPlace := C_NoPlace, gC_NoPlace := PySem.W.mg_of X G aC_NoPlace, E_NoPlace := errB_ok eC_NoPlace, q_NoPlace := qC_NoPlace, C_NotWhole := C_NotWhole, gC_NotWhole := PySem.W.mg_of X G aC_NotWhole, E_NotWhole := errB_ok eC_NotWhole, q_NotWhole := qC_NotWhole, C_NoBack := C_NoBack, gC_NoBack := PySem.W.mg_of X G aC_NoBack, E_NoBack := errB_ok eC_NoBack, q_NoBack := qC_NoBack, C_NoRow := C_NoRow, gC_NoRow := PySem.W.mg_of X G aC_NoRow, E_NoRow := errB_ok eC_NoRow, q_NoRow := qC_NoRow, C_Clash := C_Clash, gC_Clash := PySem.W.mg_of X G aC_Clash, E_Clash := errB_ok eC_Clash, S_Clash := sC_Clash mg (PySem.W.mg_none_of X G z_super), C_NoText := C_NoText, gC_NoText := PySem.W.mg_of X G aC_NoText, E_NoText := errB_ok eC_NoText, S_NoText := sC_NoText mg (PySem.W.mg_none_of X G z_super), kinds := kindsB_ok kindsE, m_ValueError := PySem.W.mg_none_of X G z_ValueError, m_abs := PySem.W.mg_none_of X G z_abs, m_bool := PySem.W.mg_none_of X G z_bool, m_dict := PySem.W.mg_none_of X G z_dict, m_enumerate := PySem.W.mg_none_of X G z_enumerate, m_int := PySem.W.mg_none_of X G z_int, m_isinstance := PySem.W.mg_none_of X G z_isinstance, m_len := PySem.W.mg_none_of X G z_len, m_list := PySem.W.mg_none_of X G z_list, m_max := PySem.W.mg_none_of X G z_max, m_min := PySem.W.mg_none_of X G z_min, m_range := PySem.W.mg_none_of X G z_range, m_repr := PySem.W.mg_none_of X G z_repr, m_set := PySem.W.mg_none_of X G z_set, m_sorted := PySem.W.mg_none_of X G z_sorted, m_super := PySem.W.mg_none_of X G z_super, m_tuple := PySem.W.mg_none_of X G z_tuple }
  exact ⟨PySem.W.fnOf "law" "law" (defArgs s_law) (defBody s_law) (defScope s_law) .none kV_law dc_law pm_law an_law cd_law ct_law, fun s v => .of_eq rfl, fun base _ _ => ok_law T⟩
end LW
open PySem PySem.W PyProof.Rows
set_option maxRecDepth 100000 in
set_option maxHeartbeats 0 in
theorem PySem.Challenge.cw_latewood_k46_gaps_told_holds : PySem.Challenge.rw_latewood_k46_gaps_told.Holds := by
  w_on; o_law; k_head; (case hw => w_witness2)
  k_fill
  refine DL.walk_law (l := PySem.Challenge.rw_latewood_k46_gaps_told) (x := "script") (k := 9) rfl rfl ⟨rfl, by decide, by decide⟩ (fun w h Y => PySem.W.kIn_of Y) ?F
  case F =>
    intro w mg fa h KX G hmg
    refine' LW.all_mk KX G hmg ?a_is_whole ?l_is_whole ?e_is_whole ?k_is_whole ?a_is_clash ?l_is_clash ?e_is_clash ?k_is_clash ?a_held_till ?l_held_till ?e_held_till ?k_held_till ?a_cleared ?l_cleared ?e_cleared ?k_cleared ?a_least_clash ?l_least_clash ?e_least_clash ?k_least_clash ?a_wood_of ?l_wood_of ?e_wood_of ?k_wood_of ?a_pieces_of ?l_pieces_of ?e_pieces_of ?k_pieces_of ?a_tops_of ?l_tops_of ?e_tops_of ?k_tops_of ?a_kids_of ?l_kids_of ?e_kids_of ?k_kids_of ?a_asker_of ?l_asker_of ?e_asker_of ?k_asker_of ?a_numbers_up ?l_numbers_up ?e_numbers_up ?k_numbers_up ?a_least_ring ?l_least_ring ?e_least_ring ?k_least_ring ?a_gap_of ?l_gap_of ?e_gap_of ?k_gap_of ?a_llmixed ?l_llmixed ?e_llmixed ?k_llmixed ?a_llopen ?l_llopen ?e_llopen ?k_llopen ?a_lldraw ?l_lldraw ?e_lldraw ?k_lldraw ?a_llorder ?l_llorder ?e_llorder ?k_llorder ?a_llpiece ?l_llpiece ?e_llpiece ?k_llpiece ?a_llrun ?l_llrun ?e_llrun ?k_llrun ?a_llbent_one ?l_llbent_one ?e_llbent_one ?k_llbent_one ?a_lltold ?l_lltold ?e_lltold ?k_lltold ?a_llcaught ?l_llcaught ?e_llcaught ?k_llcaught ?a_llkind ?l_llkind ?e_llkind ?k_llkind ?a_llof ?l_llof ?e_llof ?k_llof ?a_llup ?l_llup ?e_llup ?k_llup ?a_llring ?l_llring ?e_llring ?k_llring ?a_llwood ?l_llwood ?e_llwood ?k_llwood ?a_llringed ?l_llringed ?e_llringed ?k_llringed ?a_llone_run ?l_llone_run ?e_llone_run ?k_llone_run ?a_llgapped ?l_llgapped ?e_llgapped ?k_llgapped ?a_llbounds ?l_llbounds ?e_llbounds ?k_llbounds ?a_llbeside ?l_llbeside ?e_llbeside ?k_llbeside ?a_ll_right ?l_ll_right ?e_ll_right ?k_ll_right ?a_law ?l_law ?e_law ?k_law ?v_RUN ?v_NUMBER ?v_ASKER ?v_HOUSE ?v_COUNT ?v_BEGIN ?v_END ?v_JOINED ?v_NO_ASKER ?aC_WoodError ?eC_WoodError ?qC_WoodError ?aC_NoPiece ?eC_NoPiece ?qC_NoPiece ?aC_TooMany ?eC_TooMany ?qC_TooMany ?aC_NoRun ?eC_NoRun ?qC_NoRun ?aC_NoWood ?eC_NoWood ?qC_NoWood ?aC_NoHouse ?eC_NoHouse ?qC_NoHouse ?aC_NoShifts ?eC_NoShifts ?qC_NoShifts ?aC_NotRight ?eC_NotRight ?qC_NotRight ?aC_NoMore ?eC_NoMore ?qC_NoMore ?aC_NotOne ?eC_NotOne ?qC_NotOne ?aC_NoGap ?eC_NoGap ?qC_NoGap ?aC_NoDealing ?eC_NoDealing ?qC_NoDealing ?aC_NoPlace ?eC_NoPlace ?qC_NoPlace ?aC_NotWhole ?eC_NotWhole ?qC_NotWhole ?aC_NoBack ?eC_NoBack ?qC_NoBack ?aC_NoRow ?eC_NoRow ?qC_NoRow ?aC_Clash ?eC_Clash ?sC_Clash ?aC_NoText ?eC_NoText ?sC_NoText ?kindsE ?z_ValueError ?z_abs ?z_bool ?z_dict ?z_enumerate ?z_int ?z_isinstance ?z_len ?z_list ?z_max ?z_min ?z_range ?z_repr ?z_set ?z_sorted ?z_super ?z_tuple
    (case a_is_whole => k_is)
    (case l_is_whole => k_is)
    (case e_is_whole => k_is)
    (case k_is_whole => k_is)
    (case a_is_clash => k_is)
    (case l_is_clash => k_is)
    (case e_is_clash => k_is)
    (case k_is_clash => k_is)
    (case a_held_till => k_is)
    (case l_held_till => k_is)
    (case e_held_till => k_is)
    (case k_held_till => k_is)
    (case a_cleared => k_is)
    (case l_cleared => k_is)
    (case e_cleared => k_is)
    (case k_cleared => k_is)
    (case a_least_clash => k_is)
    (case l_least_clash => k_is)
    (case e_least_clash => k_is)
    (case k_least_clash => k_is)
    (case a_wood_of => k_is)
    (case l_wood_of => k_is)
    (case e_wood_of => k_is)
    (case k_wood_of => k_is)
    (case a_pieces_of => k_is)
    (case l_pieces_of => k_is)
    (case e_pieces_of => k_is)
    (case k_pieces_of => k_is)
    (case a_tops_of => k_is)
    (case l_tops_of => k_is)
    (case e_tops_of => k_is)
    (case k_tops_of => k_is)
    (case a_kids_of => k_is)
    (case l_kids_of => k_is)
    (case e_kids_of => k_is)
    (case k_kids_of => k_is)
    (case a_asker_of => k_is)
    (case l_asker_of => k_is)
    (case e_asker_of => k_is)
    (case k_asker_of => k_is)
    (case a_numbers_up => k_is)
    (case l_numbers_up => k_is)
    (case e_numbers_up => k_is)
    (case k_numbers_up => k_is)
    (case a_least_ring => k_is)
    (case l_least_ring => k_is)
    (case e_least_ring => k_is)
    (case k_least_ring => k_is)
    (case a_gap_of => k_is)
    (case l_gap_of => k_is)
    (case e_gap_of => k_is)
    (case k_gap_of => k_is)
    (case a_llmixed => k_is)
    (case l_llmixed => k_is)
    (case e_llmixed => k_is)
    (case k_llmixed => k_is)
    (case a_llopen => k_is)
    (case l_llopen => k_is)
    (case e_llopen => k_is)
    (case k_llopen => k_is)
    (case a_lldraw => k_is)
    (case l_lldraw => k_is)
    (case e_lldraw => k_is)
    (case k_lldraw => k_is)
    (case a_llorder => k_is)
    (case l_llorder => k_is)
    (case e_llorder => k_is)
    (case k_llorder => k_is)
    (case a_llpiece => k_is)
    (case l_llpiece => k_is)
    (case e_llpiece => k_is)
    (case k_llpiece => k_is)
    (case a_llrun => k_is)
    (case l_llrun => k_is)
    (case e_llrun => k_is)
    (case k_llrun => k_is)
    (case a_llbent_one => k_is)
    (case l_llbent_one => k_is)
    (case e_llbent_one => k_is)
    (case k_llbent_one => k_is)
    (case a_lltold => k_is)
    (case l_lltold => k_is)
    (case e_lltold => k_is)
    (case k_lltold => k_is)
    (case a_llcaught => k_is)
    (case l_llcaught => k_is)
    (case e_llcaught => k_is)
    (case k_llcaught => k_is)
    (case a_llkind => k_is)
    (case l_llkind => k_is)
    (case e_llkind => k_is)
    (case k_llkind => k_is)
    (case a_llof => k_is)
    (case l_llof => k_is)
    (case e_llof => k_is)
    (case k_llof => k_is)
    (case a_llup => k_is)
    (case l_llup => k_is)
    (case e_llup => k_is)
    (case k_llup => k_is)
    (case a_llring => k_is)
    (case l_llring => k_is)
    (case e_llring => k_is)
    (case k_llring => k_is)
    (case a_llwood => k_is)
    (case l_llwood => k_is)
    (case e_llwood => k_is)
    (case k_llwood => k_is)
    (case a_llringed => k_is)
    (case l_llringed => k_is)
    (case e_llringed => k_is)
    (case k_llringed => k_is)
    (case a_llone_run => k_is)
    (case l_llone_run => k_is)
    (case e_llone_run => k_is)
    (case k_llone_run => k_is)
    (case a_llgapped => k_is)
    (case l_llgapped => k_is)
    (case e_llgapped => k_is)
    (case k_llgapped => k_is)
    (case a_llbounds => k_is)
    (case l_llbounds => k_is)
    (case e_llbounds => k_is)
    (case k_llbounds => k_is)
    (case a_llbeside => k_is)
    (case l_llbeside => k_is)
    (case e_llbeside => k_is)
    (case k_llbeside => k_is)
    (case a_ll_right => k_is)
    (case l_ll_right => k_is)
    (case e_ll_right => k_is)
    (case k_ll_right => k_is)
    (case a_law => k_is)
    (case l_law => k_is)
    (case e_law => k_is)
    (case k_law => k_is)
    (case v_RUN => k_is)
    (case v_NUMBER => k_is)
    (case v_ASKER => k_is)
    (case v_HOUSE => k_is)
    (case v_COUNT => k_is)
    (case v_BEGIN => k_is)
    (case v_END => k_is)
    (case v_JOINED => k_is)
    (case v_NO_ASKER => k_is)
    (case aC_WoodError => k_is)
    (case eC_WoodError => kernel_rfl)
    (case qC_WoodError => kernel_rfl)
    (case aC_NoPiece => k_is)
    (case eC_NoPiece => kernel_rfl)
    (case qC_NoPiece => kernel_rfl)
    (case aC_TooMany => k_is)
    (case eC_TooMany => kernel_rfl)
    (case qC_TooMany => kernel_rfl)
    (case aC_NoRun => k_is)
    (case eC_NoRun => kernel_rfl)
    (case qC_NoRun => kernel_rfl)
    (case aC_NoWood => k_is)
    (case eC_NoWood => kernel_rfl)
    (case qC_NoWood => kernel_rfl)
    (case aC_NoHouse => k_is)
    (case eC_NoHouse => kernel_rfl)
    (case qC_NoHouse => kernel_rfl)
    (case aC_NoShifts => k_is)
    (case eC_NoShifts => kernel_rfl)
    (case qC_NoShifts => kernel_rfl)
    (case aC_NotRight => k_is)
    (case eC_NotRight => kernel_rfl)
    (case qC_NotRight => kernel_rfl)
    (case aC_NoMore => k_is)
    (case eC_NoMore => kernel_rfl)
    (case qC_NoMore => kernel_rfl)
    (case aC_NotOne => k_is)
    (case eC_NotOne => kernel_rfl)
    (case qC_NotOne => kernel_rfl)
    (case aC_NoGap => k_is)
    (case eC_NoGap => kernel_rfl)
    (case qC_NoGap => kernel_rfl)
    (case aC_NoDealing => k_is)
    (case eC_NoDealing => kernel_rfl)
    (case qC_NoDealing => kernel_rfl)
    (case aC_NoPlace => k_is)
    (case eC_NoPlace => kernel_rfl)
    (case qC_NoPlace => kernel_rfl)
    (case aC_NotWhole => k_is)
    (case eC_NotWhole => kernel_rfl)
    (case qC_NotWhole => kernel_rfl)
    (case aC_NoBack => k_is)
    (case eC_NoBack => kernel_rfl)
    (case qC_NoBack => kernel_rfl)
    (case aC_NoRow => k_is)
    (case eC_NoRow => kernel_rfl)
    (case qC_NoRow => kernel_rfl)
    (case aC_Clash => k_is)
    (case eC_Clash => kernel_rfl)
    (case sC_Clash => (refine' DL.supW_mk ?s1 ?s2 ?s3 ?s4 ?s5 ?s6 ?s7 ?s8 ?s9 ?s10 ?s11 ?s12 ?s13 ?s14 ?s15 ?s16 ?s17 ?s18 ?s19 ?s20 ?s21 ?s22 ?s23; (case s1 => k_is); (case s2 => kernel_rfl); (case s3 => kernel_rfl); (case s4 => decide +kernel); (case s5 => k_is); (case s6 => k_is); (case s7 => k_is); (case s8 => k_is); (case s9 => k_is); (case s10 => exact rfl); (case s11 => decide +kernel); (case s12 => k_is); (case s13 => exact rfl); (case s14 => exact rfl); (case s15 => decide +kernel); (case s16 => decide +kernel); (case s17 => decide +kernel); (case s18 => exact fun _ _ _ => .of_eq rfl); (case s19 => decide +kernel); (case s20 => decide +kernel); (case s21 => exact fun env => ⟨_, rfl⟩); (case s22 => exact fun env => rfl); (case s23 => exact fun env => rfl)))
    (case aC_NoText => k_is)
    (case eC_NoText => kernel_rfl)
    (case sC_NoText => (refine' DL.supW_mk ?s1 ?s2 ?s3 ?s4 ?s5 ?s6 ?s7 ?s8 ?s9 ?s10 ?s11 ?s12 ?s13 ?s14 ?s15 ?s16 ?s17 ?s18 ?s19 ?s20 ?s21 ?s22 ?s23; (case s1 => k_is); (case s2 => kernel_rfl); (case s3 => kernel_rfl); (case s4 => decide +kernel); (case s5 => k_is); (case s6 => k_is); (case s7 => k_is); (case s8 => k_is); (case s9 => k_is); (case s10 => exact rfl); (case s11 => decide +kernel); (case s12 => k_is); (case s13 => exact rfl); (case s14 => exact rfl); (case s15 => decide +kernel); (case s16 => decide +kernel); (case s17 => decide +kernel); (case s18 => exact fun _ _ _ => .of_eq rfl); (case s19 => decide +kernel); (case s20 => decide +kernel); (case s21 => exact fun env => ⟨_, rfl⟩); (case s22 => exact fun env => rfl); (case s23 => exact fun env => rfl)))
    (case kindsE => kernel_rfl)
    (case z_ValueError => k_is)
    (case z_abs => k_is)
    (case z_bool => k_is)
    (case z_dict => k_is)
    (case z_enumerate => k_is)
    (case z_int => k_is)
    (case z_isinstance => k_is)
    (case z_len => k_is)
    (case z_list => k_is)
    (case z_max => k_is)
    (case z_min => k_is)
    (case z_range => k_is)
    (case z_repr => k_is)
    (case z_set => k_is)
    (case z_sorted => k_is)
    (case z_super => k_is)
    (case z_tuple => k_is)
