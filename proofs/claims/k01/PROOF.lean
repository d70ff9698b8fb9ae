import PyProof.Rows.All
import Wide.All
import OpenK.AllK
import Wide.FinOn
import HandS.ForMost
import HandS.Evl
import HandS.IsInst
import HandS.Wide
import HandS.TupAny
import KE.LtData
import HandS.Style
import HandS.SortInts
import PyProof.ReprLen
import PySem.Challenge.RW_latewood_k01_pieces_known
set_option Elab.async false
set_option linter.all false
set_option maxRecDepth 100000
set_option maxHeartbeats 4000000
/-! A layer without heaps over HandS: what a name, an item holds is a datum, or an object of one's own that may change. -/
namespace DL
open PySem PySem.Spec PyProof.Rows L2
open Evl (Ex)
abbrev Dt := PyData
/-- what a slot or an item holds -/
inductive Sl where
  | dat (d : Dt)
  | own (a : Addr)
  | raw (v : V)
  | scr (K : PySem.W.Frag) (xs : List Int)
/-- an object of ours that may change -/
inductive MO where
  | lst (xs : List Sl)
  | dct (kvs : List (Key × Sl))
abbrev Mem := Addr → Option MO
def put (M : Mem) (a : Addr) (o : MO) : Mem := fun b => if b = a then some o else M b
def del (M : Mem) (a : Addr) : Mem := fun b => if b = a then none else M b
theorem put_at {M : Mem} {a : Addr} {o : MO} : put M a o a = some o := by unfold put; rw [if_pos rfl]
theorem put_ne {M : Mem} {a b : Addr} {o : MO} (h : b ≠ a) : put M a o b = M b := by unfold put; rw [if_neg h]
theorem del_at {M : Mem} {a : Addr} : del M a a = none := by unfold del; rw [if_pos rfl]
theorem del_ne {M : Mem} {a b : Addr} (h : b ≠ a) : del M a b = M b := by unfold del; rw [if_neg h]
theorem put_put {M : Mem} {a : Addr} {o u : MO} : put (put M a o) a u = put M a u := by
  funext b; unfold put; split <;> rfl
theorem del_put {M : Mem} {a : Addr} {o : MO} (h : M a = none) : del (put M a o) a = M := by
  funext b
  by_cases e : b = a
  · rw [e, del_at, h]
  · rw [del_ne e, put_ne e]
theorem ne_mem {M : Mem} {a b : Addr} {o : MO} (h : M a = some o) (h' : M b = none) : a ≠ b := by
  intro e; subst e; rw [h] at h'; cases h'
abbrev Fm := List (Option Sl)
mutual
/-- v is the datum d: all its lists and tuples are tracked -/
inductive Dq (H : Hp) : V → PyData → Prop
  | non : Dq H .non .none
  | bl (b : Bool) : Dq H (.bl b) (.bool b)
  | int (i : Int) : Dq H (.int i) (.int i)
  | str (x : Str) : Dq H (.str x) (.str x)
  | lst {a : Addr} {xs : List V} {ds : List PyData} : H a = some (.lst xs) → DqAll H xs ds → Dq H (.ref a) (.list ds)
  | tup {a : Addr} {xs : List V} {ds : List PyData} : H a = some (.tup xs) → DqAll H xs ds → Dq H (.ref a) (.tuple ds)
inductive DqAll (H : Hp) : List V → List PyData → Prop
  | nil : DqAll H [] []
  | cons {v : V} {vs : List V} {d : PyData} {ds : List PyData} : Dq H v d → DqAll H vs ds → DqAll H (v :: vs) (d :: ds)
end
section
/-- v is what s says, in the heap H of what stands still -/
def Rp (H : Hp) : Sl → V → Prop
  | .dat d, v => Dq H v d
  | .own a, v => v = .ref a
  | .raw u, v => v = u
  | .scr K xs, v => ∃ a, v = .ref a ∧ SqL K H a (xs.map .int)
abbrev Rps (H : Hp) : List Sl → List V → Prop := Paired (Rp H)
def RpO (H : Hp) (Hc : Option HO) : MO → Prop
  | .lst xs => xs.length ≤ sizeLine ∧ ∃ vs, Hc = some (.lst vs) ∧ Rps H xs vs
  | .dct kvs => ∃ ws, Hc = some (.dK ws) ∧ Paired (fun (p : Key × Sl) (q : Key × V) => p.1 = q.1 ∧ Rp H p.2 q.2) kvs ws
structure Own (H Hc : Hp) (M : Mem) : Prop where
  ex : Ex H Hc
  no : ∀ a o, M a = some o → H a = none
  ob : ∀ a o, M a = some o → RpO H (Hc a) o
structure Fr (H : Hp) (σ : L2.St) (Γ : Fm) : Prop where
  len : σ.length = Γ.length
  sl : ∀ (i : Nat) (s : Sl), Γ[i]? = some (some s) → ∃ v, σ[i]? = some (some v) ∧ Rp H s v
end
section
variable {H H' Hc Hc' : Hp} {M M' : Mem} {s : Sl} {v : V} {a : Addr}
mutual
theorem dp_ex (e : Ex H H') : ∀ {d : Dt} {v : V}, Dq H v d → Dq H' v d
  | .none, _, h => by cases h; exact .non
  | .bool b, _, h => by cases h; exact .bl b
  | .int i, _, h => by cases h; exact .int i
  | .str x, _, h => by cases h; exact .str x
  | .list ds, _, h => by cases h with | lst hs ha => exact .lst (e _ _ hs) (dps_ex e ha)
  | .tuple ds, _, h => by cases h with | tup hs ha => exact .tup (e _ _ hs) (dps_ex e ha)
  | .dict _, _, h => by cases h
theorem dps_ex (e : Ex H H') : ∀ {ds : List Dt} {vs : List V}, DqAll H vs ds → DqAll H' vs ds
  | [], _, h => by cases h; exact .nil
  | d :: ds, _, h => by cases h with | cons h1 h2 => exact .cons (dp_ex e h1) (dps_ex e h2)
end
mutual
theorem dq_dp {K : PySem.W.Frag} : ∀ {d : Dt} {v : V}, Dq H v d → Dp K H v d
  | .none, _, h => by cases h; exact .non
  | .bool b, _, h => by cases h; exact .bl b
  | .int i, _, h => by cases h; exact .int i
  | .str x, _, h => by cases h; exact .str x
  | .list ds, _, h => by cases h with | lst hs ha => exact .lst (SqL.of hs) (dqs_dps ha)
  | .tuple ds, _, h => by cases h with | tup hs ha => exact .tup (SqT.of hs) (dqs_dps ha)
  | .dict _, _, h => by cases h
theorem dqs_dps {K : PySem.W.Frag} : ∀ {ds : List Dt} {vs : List V}, DqAll H vs ds → DpAll K H vs ds
  | [], _, h => by cases h; exact .nil
  | d :: ds, _, h => by cases h with | cons h1 h2 => exact .cons (dq_dp h1) (dqs_dps h2)
end
theorem rp_ex (e : Ex H H') (h : Rp H s v) : Rp H' s v := by
  cases s with
  | dat d => exact dp_ex e h
  | own a => exact h
  | raw u => exact h
  | scr K xs => obtain ⟨a, h1, h2⟩ := h; exact ⟨a, h1, Evl.ex_l e h2⟩
theorem rps_ex (e : Ex H H') : ∀ {ss : List Sl} {vs : List V}, Rps H ss vs → Rps H' ss vs
  | [], _, .nil => .nil
  | _ :: _, _, .cons r t => .cons (rp_ex e r) (rps_ex e t)
theorem rpo_ex {c : Option HO} {o : MO} (e : Ex H H') (h : RpO H c o) : RpO H' c o := by
  cases o with
  | lst xs => obtain ⟨z, vs, h1, h2⟩ := h; exact ⟨z, vs, h1, rps_ex e h2⟩
  | dct kvs => obtain ⟨ws, h1, h2⟩ := h; exact ⟨ws, h1, Paired.mapP h2 fun p q r => ⟨r.1, rp_ex e r.2⟩⟩
theorem Fr.ex {σ : L2.St} {Γ : Fm} (e : Ex H H') (F : Fr H σ Γ) : Fr H' σ Γ :=
  ⟨F.len, fun i s h => by obtain ⟨v, h1, h2⟩ := F.sl i s h; exact ⟨v, h1, rp_ex e h2⟩⟩
theorem Fr.set {σ : L2.St} {Γ : Fm} (F : Fr H σ Γ) {i : Nat} (r : Rp H s v) : Fr H (σ.set i (some v)) (Γ.set i (some s)) := by
  refine ⟨by rw [List.length_set, List.length_set, F.len], fun j t h => ?_⟩
  by_cases hj : i = j
  · subst hj
    by_cases hl : i < Γ.length
    · rw [List.getElem?_set_self hl] at h
      cases h
      exact ⟨v, List.getElem?_set_self (by rw [F.len]; exact hl), r⟩
    · rw [List.getElem?_eq_none (by rw [List.length_set]; omega)] at h
      cases h
  · rw [List.getElem?_set_ne hj] at h ⊢
    exact F.sl j t h
/-- forgetting -/
theorem Fr.weak {σ : L2.St} {Γ Γ' : Fm} (F : Fr H σ Γ) (hl : Γ'.length = Γ.length) (h : ∀ (i : Nat) s, Γ'[i]? = some (some s) → Γ[i]? = some (some s)) : Fr H σ Γ' :=
  ⟨F.len.trans hl.symm, fun i s e => F.sl i s (h i s e)⟩
/-! ### the heaps grow -/
theorem Own.grow {p : Addr} {o : HO} (O : Own H Hc M) (h : Hc p = none) : Own (upd H p o) (upd Hc p o) M ∧ Ex H (upd H p o) := by
  have h0 : H p = none := Evl.fresh_back O.ex h
  have e0 : Ex H (upd H p o) := Evl.Ex.new h0
  refine ⟨⟨fun b u e => ?_, fun b u e => ?_, fun b u e => ?_⟩, e0⟩
  · by_cases hb : b = p
    · subst hb; rw [upd_same] at e ⊢; exact e
    · rw [upd_ne hb] at e ⊢; exact O.ex b u e
  · have hb : b ≠ p := by
      rintro rfl
      have := O.ob b u e
      cases u with
      | lst xs => obtain ⟨_, vs, q, _⟩ := this; rw [h] at q; cases q
      | dct kvs => obtain ⟨ws, q, _⟩ := this; rw [h] at q; cases q
    rw [upd_ne hb]; exact O.no b u e
  · have hb : b ≠ p := by
      rintro rfl
      have := O.ob b u e
      cases u with
      | lst xs => obtain ⟨_, vs, q, _⟩ := this; rw [h] at q; cases q
      | dct kvs => obtain ⟨ws, q, _⟩ := this; rw [h] at q; cases q
    rw [upd_ne hb]; exact rpo_ex e0 (O.ob b u e)
theorem Own.freeM {p : Addr} (O : Own H Hc M) (h : Hc p = none) : M p = none := by
  cases e : M p with
  | none => rfl
  | some u =>
    have := O.ob p u e
    cases u with
    | lst xs => obtain ⟨_, vs, q, _⟩ := this; rw [h] at q; cases q
    | dct kvs => obtain ⟨ws, q, _⟩ := this; rw [h] at q; cases q
/-- what nobody speaks of any more -/
theorem Own.waste {p : Addr} {o : HO} (O : Own H Hc M) (h : Hc p = none) : Own H (upd Hc p o) M := by
  have h0 : H p = none := Evl.fresh_back O.ex h
  have hm := O.freeM h
  refine ⟨fun b u e => ?_, O.no, fun b u e => ?_⟩
  · rw [upd_ne (ne_of_none e h0)]; exact O.ex b u e
  · rw [upd_ne (ne_mem e hm)]; exact O.ob b u e
/-- a new object of ours -/
theorem Own.born {p : Addr} {o : HO} {u : MO} (O : Own H Hc M) (h : Hc p = none) (r : RpO H (some o) u) : Own H (upd Hc p o) (put M p u) := by
  have h0 : H p = none := Evl.fresh_back O.ex h
  refine ⟨fun b x e => ?_, fun b x e => ?_, fun b x e => ?_⟩
  · rw [upd_ne (ne_of_none e h0)]; exact O.ex b x e
  · by_cases hb : b = p
    · subst hb; exact h0
    · rw [put_ne hb] at e; exact O.no b x e
  · by_cases hb : b = p
    · subst hb; rw [put_at] at e; cases e; rw [upd_same]; exact r
    · rw [put_ne hb] at e; rw [upd_ne hb]; exact O.ob b x e
/-- an object of ours changes -/
theorem Own.turn {p : Addr} {o : HO} {u u0 : MO} (O : Own H Hc M) (h : M p = some u0) (r : RpO H (some o) u) : Own H (upd Hc p o) (put M p u) := by
  have h0 : H p = none := O.no p u0 h
  refine ⟨fun b x e => ?_, fun b x e => ?_, fun b x e => ?_⟩
  · rw [upd_ne (ne_of_none e h0)]; exact O.ex b x e
  · by_cases hb : b = p
    · subst hb; exact h0
    · rw [put_ne hb] at e; exact O.no b x e
  · by_cases hb : b = p
    · subst hb; rw [put_at] at e; cases e; rw [upd_same]; exact r
    · rw [put_ne hb] at e; rw [upd_ne hb]; exact O.ob b x e
theorem rps_dat : ∀ {ds : List Dt} {vs : List V}, Rps H (ds.map .dat) vs → DqAll H vs ds
  | [], _, .nil => .nil
  | d :: ds, _, .cons r t => .cons r (rps_dat t)
theorem dat_rps : ∀ {ds : List Dt} {vs : List V}, DqAll H vs ds → Rps H (ds.map .dat) vs
  | [], _, .nil => .nil
  | d :: ds, _, .cons r t => .cons r (dat_rps t)
theorem dps_len : ∀ {ds : List Dt} {vs : List V}, DqAll H vs ds → vs.length = ds.length
  | [], _, .nil => rfl
  | d :: ds, _, .cons r t => congrArg (· + 1) (dps_len t)
/-- a list of ours is given away: it stands still from now on -/
theorem Own.freeze {p : Addr} {ds : List Dt} (O : Own H Hc M) (h : M p = some (.lst (ds.map .dat))) :
    ∃ H', Ex H H' ∧ Own H' Hc (del M p) ∧ Dq H' (.ref p) (.list ds) := by
  have h0 : H p = none := O.no p _ h
  obtain ⟨z, vs, h1, h2⟩ := O.ob p _ h
  have e0 : Ex H (upd H p (.lst vs)) := Evl.Ex.new h0
  refine ⟨upd H p (.lst vs), e0, ⟨fun b x e => ?_, fun b x e => ?_, fun b x e => ?_⟩, .lst upd_same (dps_ex e0 (rps_dat h2))⟩
  · by_cases hb : b = p
    · subst hb; rw [upd_same] at e; rw [h1]; exact e
    · rw [upd_ne hb] at e; exact O.ex b x e
  · by_cases hb : b = p
    · subst hb; rw [del_at] at e; cases e
    · rw [del_ne hb] at e; rw [upd_ne hb]; exact O.no b x e
  · by_cases hb : b = p
    · subst hb; rw [del_at] at e; cases e
    · rw [del_ne hb] at e; exact rpo_ex e0 (O.ob b x e)
/-- an object of ours that nobody speaks of any more -/
theorem Own.drop {p : Addr} (O : Own H Hc M) : Own H Hc (del M p) := by
  refine ⟨O.ex, fun b x e => ?_, fun b x e => ?_⟩
  · by_cases hb : b = p
    · subst hb; rw [del_at] at e; cases e
    · rw [del_ne hb] at e; exact O.no b x e
  · by_cases hb : b = p
    · subst hb; rw [del_at] at e; cases e
    · rw [del_ne hb] at e; exact O.ob b x e
end
/-! ### the judgements, by values of the heapless kind -/
abbrev DK := Sl → Mem → Prop
abbrev DE := Fm → Mem → DK → Prop
abbrev DB := Fm → Mem → (Bool → Mem → Prop) → Prop
abbrev DA := Fm → Mem → (List Sl → Mem → Prop) → Prop
structure DEnds where
  nx : Fm → Mem → Prop
  rt : DK
  bk : Fm → Mem → Prop := fun _ _ => False
  ct : Fm → Mem → Prop := fun _ _ => False
abbrev DS := DEnds → Fm → Mem → Prop
/-- the way on, asked of the heaps -/
def On (H : Hp) (k : DK) (Q : VK) : Prop := ∀ v s M' H' Hc', Ex H H' → Own H' Hc' M' → Rp H' s v → k s M' → Q v Hc'
def OnB (H : Hp) (k : Bool → Mem → Prop) (Q : Bool → Hp → Prop) : Prop := ∀ b M' H' Hc', Ex H H' → Own H' Hc' M' → k b M' → Q b Hc'
def OnA (H : Hp) (k : List Sl → Mem → Prop) (Q : List V → Hp → Prop) : Prop := ∀ vs ss M' H' Hc', Ex H H' → Own H' Hc' M' → Rps H' ss vs → k ss M' → Q vs Hc'
def OnF (H : Hp) (k : Fm → Mem → Prop) (Q : L2.St → Hp → Prop) : Prop := ∀ σ' Γ' M' H' Hc', Ex H H' → Fr H' σ' Γ' → Own H' Hc' M' → k Γ' M' → Q σ' Hc'
structure OnD (H : Hp) (D : DEnds) (E : Ends) : Prop where
  nx : OnF H D.nx E.nx
  rt : On H D.rt E.rt
  bk : OnF H D.bk E.bk
  ct : OnF H D.ct E.ct
def SimE (te : TE) (de : DE) : Prop := ∀ Γ M k σ H Hc Q, de Γ M k → Fr H σ Γ → Own H Hc M → On H k Q → te σ Hc Q
def SimB (te : TT) (de : DB) : Prop := ∀ Γ M k σ H Hc Q, de Γ M k → Fr H σ Γ → Own H Hc M → OnB H k Q → te σ Hc Q
def SimA (te : TA) (de : DA) : Prop := ∀ Γ M k σ H Hc Q, de Γ M k → Fr H σ Γ → Own H Hc M → OnA H k Q → te σ Hc Q
def SimS (ts : TS) (ds : DS) : Prop := ∀ Γ M D σ H Hc E, ds D Γ M → Fr H σ Γ → Own H Hc M → OnD H D E → ts E σ Hc
theorem On.ex {H H' : Hp} {k : DK} {Q : VK} (e : Ex H H') (h : On H k Q) : On H' k Q := fun v s M' H2 Hc' e2 => h v s M' H2 Hc' (e.trans e2)
theorem OnF.ex {H H' : Hp} {k : Fm → Mem → Prop} {Q : L2.St → Hp → Prop} (e : Ex H H') (h : OnF H k Q) : OnF H' k Q := fun v s M' H2 Hc' e2 => h v s M' H2 Hc' (e.trans e2)
theorem OnB.ex {H H' : Hp} {k : Bool → Mem → Prop} {Q : Bool → Hp → Prop} (e : Ex H H') (h : OnB H k Q) : OnB H' k Q := fun b M' H2 Hc' e2 => h b M' H2 Hc' (e.trans e2)
theorem OnA.ex {H H' : Hp} {k : List Sl → Mem → Prop} {Q : List V → Hp → Prop} (e : Ex H H') (h : OnA H k Q) : OnA H' k Q := fun v s M' H2 Hc' e2 => h v s M' H2 Hc' (e.trans e2)
theorem OnD.ex {H H' : Hp} {D : DEnds} {E : Ends} (e : Ex H H') (h : OnD H D E) : OnD H' D E := ⟨h.nx.ex e, h.rt.ex e, h.bk.ex e, h.ct.ex e⟩
/-- the heapless reading, as a reading of the layer -/
def LE (de : DE) : TE := fun σ Hc Q => ∃ Γ M H k, de Γ M k ∧ Fr H σ Γ ∧ Own H Hc M ∧ On H k Q
def LB (de : DB) : TT := fun σ Hc Q => ∃ Γ M H k, de Γ M k ∧ Fr H σ Γ ∧ Own H Hc M ∧ OnB H k Q
def LA (de : DA) : TA := fun σ Hc Q => ∃ Γ M H k, de Γ M k ∧ Fr H σ Γ ∧ Own H Hc M ∧ OnA H k Q
def LS (ds : DS) : TS := fun E σ Hc => ∃ Γ M H D, ds D Γ M ∧ Fr H σ Γ ∧ Own H Hc M ∧ OnD H D E
theorem simLE {de : DE} : SimE (LE de) de := fun Γ M k _ H _ _ h F O q => ⟨Γ, M, H, k, h, F, O, q⟩
theorem simLB {de : DB} : SimB (LB de) de := fun Γ M k _ H _ _ h F O q => ⟨Γ, M, H, k, h, F, O, q⟩
theorem simLA {de : DA} : SimA (LA de) de := fun Γ M k _ H _ _ h F O q => ⟨Γ, M, H, k, h, F, O, q⟩
theorem simLS {ds : DS} : SimS (LS ds) ds := fun Γ M D _ H _ _ h F O q => ⟨Γ, M, H, D, h, F, O, q⟩
abbrev XE (X : Cx) (e : Expr) (de : DE) : Prop := PE X e (LE de)
abbrev XB (X : Cx) (e : Expr) (de : DB) : Prop := PT X e (LB de)
abbrev XW (X : Cx) (e : Expr) (de : DB) : Prop := PW X e (LB de)
abbrev XA (X : Cx) (es : List Expr) (de : DA) : Prop := PA X es (LA de)
abbrev XS (X : Cx) (st : Stmt) (ds : DS) : Prop := PS X st (LS ds)
abbrev XSs (X : Cx) (st : List Stmt) (ds : DS) : Prop := PSs X st (LS ds)
section
variable {X : Cx}
theorem xe_of {e : Expr} {te : TE} {de : DE} (h : PE X e te) (s : SimE te de) : XE X e de :=
  ⟨fun pins st σ Hc Q I ⟨Γ, M, H, k, hd, F, O, q⟩ => h.run pins st σ Hc Q I (s Γ M k σ H Hc Q hd F O q)⟩
theorem xb_of {e : Expr} {te : TT} {de : DB} (h : PT X e te) (s : SimB te de) : XB X e de :=
  ⟨fun pins st σ Hc Q I ⟨Γ, M, H, k, hd, F, O, q⟩ => h.run pins st σ Hc Q I (s Γ M k σ H Hc Q hd F O q)⟩
theorem xw_of {e : Expr} {te : TT} {de : DB} (h : PW X e te) (s : SimB te de) : XW X e de :=
  ⟨fun wh pins st σ Hc Q I ⟨Γ, M, H, k, hd, F, O, q⟩ => h.run wh pins st σ Hc Q I (s Γ M k σ H Hc Q hd F O q)⟩
theorem xa_of {e : List Expr} {te : TA} {de : DA} (h : PA X e te) (s : SimA te de) : XA X e de :=
  ⟨fun pos pins st σ Hc Q I ⟨Γ, M, H, k, hd, F, O, q⟩ => h.run pos pins st σ Hc Q I (s Γ M k σ H Hc Q hd F O q)⟩
theorem xs_of {st : Stmt} {ts : TS} {ds : DS} (h : PS X st ts) (s : SimS ts ds) : XS X st ds :=
  ⟨fun pins sh σ Hc E I ⟨Γ, M, H, D, hd, F, O, q⟩ => h.run pins sh σ Hc E I (s Γ M D σ H Hc E hd F O q)⟩
theorem xss_of {st : List Stmt} {ts : TS} {ds : DS} (h : PSs X st ts) (s : SimS ts ds) : XSs X st ds :=
  ⟨fun pins sh σ Hc E I ⟨Γ, M, H, D, hd, F, O, q⟩ => h.run pins sh σ Hc E I (s Γ M D σ H Hc E hd F O q)⟩
end
theorem dp_int_inv {H : Hp} {v : V} {i : Int} (h : Dq H v (.int i)) : v = .int i := by cases h; rfl
theorem dp_bl_inv {H : Hp} {v : V} {i : Bool} (h : Dq H v (.bool i)) : v = .bl i := by cases h; rfl
theorem dp_str_inv {H : Hp} {v : V} {i : Str} (h : Dq H v (.str i)) : v = .str i := by cases h; rfl
theorem dp_non_inv {H : Hp} {v : V} (h : Dq H v .none) : v = .non := by cases h; rfl
theorem dp_lst_inv {H : Hp} {v : V} {ds : List Dt} (h : Dq H v (.list ds)) : ∃ a vs, v = .ref a ∧ H a = some (.lst vs) ∧ DqAll H vs ds := by cases h with | lst h1 h2 => exact ⟨_, _, rfl, h1, h2⟩
theorem dp_tup_inv {H : Hp} {v : V} {ds : List Dt} (h : Dq H v (.tuple ds)) : ∃ a vs, v = .ref a ∧ H a = some (.tup vs) ∧ DqAll H vs ds := by cases h with | tup h1 h2 => exact ⟨_, _, rfl, h1, h2⟩
end DL
namespace DL
open PySem PySem.Spec PyProof.Rows L2
open Evl (Ex)
/-- s is a list of these (a datum, or ours) -/
def IsL (M : Mem) (s : Sl) (xs : List Sl) : Prop := (∃ ds, s = .dat (.list ds) ∧ xs = ds.map .dat) ∨ ∃ a, s = .own a ∧ M a = some (.lst xs)
theorem IsL.dat {M : Mem} {ds : List Dt} : IsL M (.dat (.list ds)) (ds.map .dat) := .inl ⟨ds, rfl, rfl⟩
theorem IsL.own {M : Mem} {a : Addr} {xs : List Sl} (h : M a = some (.lst xs)) : IsL M (.own a) xs := .inr ⟨a, rfl, h⟩
theorem dqs_rps {H : Hp} : ∀ {ds : List Dt} {vs : List V}, DqAll H vs ds → Rps H (ds.map .dat) vs := dat_rps
theorem IsL.at_ {H Hc : Hp} {M : Mem} {s : Sl} {xs : List Sl} {x : V} (h : IsL M s xs) (O : Own H Hc M) (r : Rp H s x) : ∃ a vs, x = .ref a ∧ Hc a = some (.lst vs) ∧ Rps H xs vs := by
  rcases h with ⟨ds, rfl, rfl⟩ | ⟨a, rfl, h⟩
  · obtain ⟨a, vs, rfl, h1, h2⟩ := dq_lst r
    exact ⟨a, vs, rfl, O.ex _ _ h1, dat_rps h2⟩
  · cases r
    obtain ⟨_, vs, h1, h2⟩ := O.ob a _ h
    exact ⟨a, vs, rfl, h1, h2⟩
where dq_lst {H : Hp} {x : V} {ds : List Dt} (h : Rp H (.dat (.list ds)) x) : ∃ a vs, x = .ref a ∧ H a = some (.lst vs) ∧ DqAll H vs ds := dp_lst_inv h
theorem rps_len {H : Hp} : ∀ {ss : List Sl} {vs : List V}, Rps H ss vs → vs.length = ss.length
  | _, _, .nil => rfl
  | _, _, .cons _ t => congrArg (· + 1) (rps_len t)
theorem rps_get {H : Hp} : ∀ {ss : List Sl} {vs : List V} {i : Nat} {v : V}, Rps H ss vs → vs[i]? = some v → ∃ s, ss[i]? = some s ∧ Rp H s v
  | _, _, _, _, .nil, e => by simp at e
  | _, _, 0, _, .cons r _, e => by simp at e; subst e; exact ⟨_, rfl, r⟩
  | _, _, i + 1, x, .cons _ t, e => by
    obtain ⟨u, h1, h2⟩ := rps_get (i := i) (v := x) t (by simpa using e)
    exact ⟨u, by simpa using h1, h2⟩
theorem rps_get' {H : Hp} : ∀ {ss : List Sl} {vs : List V} {i : Nat} {s : Sl}, Rps H ss vs → ss[i]? = some s → ∃ v, vs[i]? = some v ∧ Rp H s v
  | _, _, _, _, .nil, e => by simp at e
  | _, _, 0, _, .cons r _, e => by simp at e; subst e; exact ⟨_, rfl, r⟩
  | _, _, i + 1, x, .cons _ t, e => by
    obtain ⟨u, h1, h2⟩ := rps_get' (i := i) (s := x) t (by simpa using e)
    exact ⟨u, by simpa using h1, h2⟩
theorem rps_app {H : Hp} : ∀ {ss ts : List Sl} {vs ws : List V}, Rps H ss vs → Rps H ts ws → Rps H (ss ++ ts) (vs ++ ws)
  | _, _, _, _, .nil, h => h
  | _, _, _, _, .cons r t, h => .cons r (rps_app t h)
theorem rps_take {H : Hp} : ∀ {ss : List Sl} {vs : List V} (n : Nat), Rps H ss vs → Rps H (ss.take n) (vs.take n)
  | _, _, 0, _ => .nil
  | _, _, _ + 1, .nil => .nil
  | _, _, n + 1, .cons r t => .cons r (rps_take n t)
theorem rps_drop {H : Hp} : ∀ {ss : List Sl} {vs : List V} (n : Nat), Rps H ss vs → Rps H (ss.drop n) (vs.drop n)
  | _, _, 0, h => h
  | _, _, _ + 1, .nil => .nil
  | _, _, n + 1, .cons _ t => rps_drop n t
theorem rps_set {H : Hp} {s : Sl} {v : V} (q : Rp H s v) : ∀ {ss : List Sl} {vs : List V} (n : Nat), Rps H ss vs → Rps H (ss.set n s) (vs.set n v)
  | _, _, _, .nil => .nil
  | _, _, 0, .cons r t => .cons q t
  | _, _, n + 1, .cons r t => .cons r (rps_set q n t)
theorem dqs_rev {H : Hp} : ∀ {ds : List Dt} {vs : List V}, DqAll H vs ds → ∀ {es : List Dt} {ws : List V}, DqAll H ws es → DqAll H (vs.reverseAux ws) (ds.reverseAux es)
  | [], _, .nil, _, _, q => q
  | d :: ds, _, .cons r t, _, _, q => dqs_rev t (.cons r q)
def cut {α : Type} (xs : List α) (lo hi : Option Int) : List α := (xs.drop (HT.sIx xs.length 0 lo)).take (HT.sIx xs.length xs.length hi - HT.sIx xs.length 0 lo)
theorem rps_cut {H : Hp} {ss : List Sl} {vs : List V} (lo hi : Option Int) (h : Rps H ss vs) : Rps H (cut ss lo hi) (cutV vs lo hi) := by
  unfold cut cutV
  rw [rps_len h]
  exact rps_take _ (rps_drop _ h)
theorem dqs_cut {H : Hp} {ds : List Dt} {vs : List V} (lo hi : Option Int) (h : DqAll H vs ds) : DqAll H (cutV vs lo hi) (cut ds lo hi) := by
  have h2 := rps_cut lo hi (dat_rps h)
  have e : cut (ds.map Sl.dat) lo hi = (cut ds lo hi).map Sl.dat := by
    unfold cut
    rw [List.length_map, List.map_take, List.map_drop]
  rw [e] at h2
  exact rps_dat h2
theorem dqs_app {H : Hp} {ds es : List Dt} {vs ws : List V} (h : DqAll H vs ds) (h' : DqAll H ws es) : DqAll H (vs ++ ws) (ds ++ es) := by
  have h2 := rps_app (dat_rps h) (dat_rps h')
  rw [← List.map_append] at h2
  exact rps_dat h2
theorem atI_rp {H : Hp} {ss : List Sl} {vs : List V} {i : Int} {s : Sl} (h : Rps H ss vs) (e : atI ss i = some s) : ∃ v, atI vs i = some v ∧ Rp H s v := by
  unfold atI at e ⊢
  rw [rps_len h]
  cases q : ixN ss.length i with
  | none => rw [q] at e; cases e
  | some j =>
    rw [q] at e
    obtain ⟨v, h1, h2⟩ := rps_get' h e
    exact ⟨v, h1, h2⟩
theorem atI_dq {H : Hp} {ds : List Dt} {vs : List V} {i : Int} {d : Dt} (h : DqAll H vs ds) (e : atI ds i = some d) : ∃ v, atI vs i = some v ∧ Dq H v d := by
  have e2 : atI (ds.map Sl.dat) i = some (.dat d) := by
    unfold atI at e ⊢
    rw [List.length_map]
    cases q : ixN ds.length i with
    | none => rw [q] at e; cases e
    | some j =>
      rw [q] at e
      have e' : ds[j]? = some d := e
      show (ds.map Sl.dat)[j]? = _
      rw [List.getElem?_map, e'] <;> rfl
  obtain ⟨v, h1, h2⟩ := atI_rp (dat_rps h) e2
  exact ⟨v, h1, h2⟩
def datOf : Sl → Option Dt
  | .dat d => some d
  | _ => none
def datsOf : List Sl → Option (List Dt)
  | [] => some []
  | s :: ss => match datOf s, datsOf ss with
    | some d, some ds => some (d :: ds)
    | _, _ => none
theorem datsOf_eq : ∀ {ss : List Sl} {ds : List Dt}, datsOf ss = some ds → ss = ds.map .dat
  | [], ds, h => by cases h; rfl
  | s :: ss, ds, h => by
    unfold datsOf at h
    cases e1 : datOf s with
    | none => rw [e1] at h; cases h
    | some d =>
      cases e2 : datsOf ss with
      | none => rw [e1, e2] at h; cases h
      | some es =>
        rw [e1, e2] at h
        cases h
        rw [datsOf_eq e2]
        cases s with
        | dat d' => cases e1; rfl
        | own a => cases e1
        | raw v => cases e1
        | scr _ _ => cases e1
section
variable {X : Cx} {e a b c : Expr} {de da db dc : DE} {pos : Pos} {es : List Expr} {das : DA}
/-! ### names and constants -/
def dV (i : Nat) : DE := fun Γ M k => ∃ s, Γ[i]? = some (some s) ∧ k s M
def dC (d : Dt) : DE := fun _ M k => k (.dat d) M
def dR (v : V) : DE := fun _ M k => k (.raw v) M
theorem xe_var {i : Nat} {x : Str} {pos : Pos} (h : PE X (.Name x pos) (tVar i)) : XE X (.Name x pos) (dV i) :=
  xe_of h fun Γ M k σ H Hc Q ⟨s, h1, h2⟩ F O q => by
    obtain ⟨v, h3, h4⟩ := F.sl i s h1
    exact ⟨v, h3, q v s M H Hc (Evl.Ex.refl H) O h4 h2⟩
theorem xv (i : Nat) {x : Str} {pos : Pos} (hN : X.N[i]? = some x := by rfl) (hv : Vis X.env.scope x := by first | exact Or.inl rfl | exact Or.inr (Or.inl rfl) | exact Or.inr (Or.inr rfl)) (hd : (x == ("__debug__" : Str)) = false := by decide)
    (hcd : (x == ("__classdict__" : Str)) = false := by decide) : XE X (.Name x pos) (dV i) := xe_var (pv i hN hv hd hcd)
theorem sim_c {v : V} {d : Dt} (h : ∀ H, Dq H v d) : SimE (tC v) (dC d) := fun Γ M k σ H Hc Q hk F O q => q v (.dat d) M H Hc (Evl.Ex.refl H) O (h H) hk
theorem xe_int {i : Int} {j pos} : XE X (.Constant (.int i) j pos) (dC (.int i)) := xe_of pe_int (sim_c fun _ => .int i)
theorem xe_bl {b : Bool} {j pos} : XE X (.Constant (.bool b) j pos) (dC (.bool b)) := xe_of pe_bl (sim_c fun _ => .bl b)
theorem xe_non {j pos} : XE X (.Constant .none j pos) (dC .none) := xe_of pe_non (sim_c fun _ => .non)
theorem xe_str {x : Str} {j pos} : XE X (.Constant (.str x) j pos) (dC (.str x)) := xe_of pe_str (sim_c fun _ => .str x)
theorem xe_globI {x : Str} {pos : Pos} {i : Int} {t : Tok} (hm : X.mg x = some (.int i t)) (hg : Gl X x := by rfl) (hdb : (x == ("__debug__" : Str)) = false := by decide) : XE X (.Name x pos) (dC (.int i)) :=
  xe_of (pe_glob (v := .int i) hg hm ⟨t, rfl⟩ hdb) (sim_c fun _ => .int i)
theorem xe_raw {v : V} (h : PE X e (tC v)) : XE X e (dR v) := xe_of h fun Γ M k σ H Hc Q hk F O q => q v (.raw v) M H Hc (Evl.Ex.refl H) O rfl hk
/-! ### two-place operations by values -/
abbrev D2 := Sl → Sl → Mem → DK → Prop
def Sim2 (r : R2) (f : D2) : Prop := ∀ s t M k x y H Hc Q, f s t M k → Rp H s x → Rp H t y → Own H Hc M → On H k Q → r x y Hc Q
def dOp (f : D2) (da db : DE) : DE := fun Γ M k => da Γ M fun s M1 => db Γ M1 fun t M2 => f s t M2 k
theorem sim_op {r : R2} {f : D2} {ta tb : TE} (hr : Sim2 r f) (ha : SimE ta da) (hb : SimE tb db) : SimE (tOp r ta tb) (dOp f da db) := by
  intro Γ M k σ H Hc Q h F O q
  refine ha Γ M _ σ H Hc _ h F O fun x s M1 H1 Hc1 e1 O1 r1 h1 => ?_
  refine hb Γ M1 _ σ H1 Hc1 _ h1 (F.ex e1) O1 fun y t M2 H2 Hc2 e2 O2 r2 h2 => ?_
  exact hr s t M2 k x y H2 Hc2 Q h2 (rp_ex e2 r1) r2 O2 (q.ex (e1.trans e2))
theorem xe_op {op : Operator} {r : R2} {f : D2} (ho : OpR X (binaryOp op) r) (hr : Sim2 r f) (ha : XE X a da) (hb : XE X b db) : XE X (.BinOp a op b pos) (dOp f da db) :=
  xe_of (pe_op ho ha hb) (sim_op hr simLE simLE)
theorem xe_cmp {op : CmpOp} {r : R2} {f : D2} (ho : OpR X (compareOp op) r) (hm : behindInMarks op b = false) (hr : Sim2 r f) (ha : XE X a da) (hb : XE X b db) : XE X (.Compare a [op] [b] pos) (dOp f da db) :=
  xe_of (pe_cmpR ho ha hb hm) (sim_op hr simLE simLE)
theorem OpR.or {f : Value → Value → Sem Value} {r r' : R2} (h : OpR X f r) (h' : OpR X f r') : OpR X f (fun x y H Q => r x y H Q ∨ r' x y H Q) := by
  intro pins s σ H x y v u Q I rx ry q
  rcases q with q | q
  · exact h pins s σ H x y v u Q I rx ry q
  · exact h' pins s σ H x y v u Q I rx ry q
/-- a datum found -/
theorem On.dat {H Hc : Hp} {M : Mem} {k : DK} {Q : VK} {v : V} {d : Dt} (q : On H k Q) (O : Own H Hc M) (r : Dq H v d) (h : k (.dat d) M) : Q v Hc := q v (.dat d) M H Hc (Evl.Ex.refl H) O r h
/-- a new tuple -/
theorem On.tup {H Hc : Hp} {M : Mem} {k : DK} {Q : VK} {vs : List V} {ds : List Dt} {p : Addr} (q : On H k Q) (O : Own H Hc M) (r : DqAll H vs ds) (hp : Hc p = none) (h : k (.dat (.tuple ds)) M) : Q (.ref p) (upd Hc p (.tup vs)) := by
  obtain ⟨O', e⟩ := O.grow (o := .tup vs) hp
  exact q _ (.dat (.tuple ds)) _ _ _ e O' (Dq.tup upd_same (dps_ex e r)) h
/-- a new list that stands still -/
theorem On.lst {H Hc : Hp} {M : Mem} {k : DK} {Q : VK} {vs : List V} {ds : List Dt} {p : Addr} (q : On H k Q) (O : Own H Hc M) (r : DqAll H vs ds) (hp : Hc p = none) (h : k (.dat (.list ds)) M) : Q (.ref p) (upd Hc p (.lst vs)) := by
  obtain ⟨O', e⟩ := O.grow (o := .lst vs) hp
  exact q _ (.dat (.list ds)) _ _ _ e O' (Dq.lst upd_same (dps_ex e r)) h
/-- a new list of ours -/
theorem On.own {H Hc : Hp} {M : Mem} {k : DK} {Q : VK} {vs : List V} {ss : List Sl} {p : Addr} (q : On H k Q) (O : Own H Hc M) (r : Rps H ss vs) (hz : ss.length ≤ sizeLine) (hp : Hc p = none) (h : k (.own p) (put M p (.lst ss))) : Q (.ref p) (upd Hc p (.lst vs)) :=
  q _ (.own p) _ H _ (Evl.Ex.refl H) (O.born (u := .lst ss) hp ⟨hz, vs, rfl, r⟩) rfl h
/-- ints by a function -/
def fI (C : Int → Int → Prop) (g : Int → Int → Dt) : D2 := fun s t M k => match s, t with
  | .dat (.int i), .dat (.int j) => C i j ∧ k (.dat (g i j)) M
  | _, _ => False
def fI0 (g : Int → Int → Dt) : D2 := fun s t M k => match s, t with
  | .dat (.int i), .dat (.int j) => k (.dat (g i j)) M
  | _, _ => False
theorem sim_I {C : Int → Int → Prop} {g : Int → Int → V} {g' : Int → Int → Dt} (hg : ∀ i j H, Dq H (g i j) (g' i j)) : Sim2 (rI C g) (fI C g') := by
  intro s t M k x y H Hc Q h rx ry O q
  unfold fI at h
  split at h
  · exact ⟨_, _, dp_int_inv rx, dp_int_inv ry, h.1, q.dat O (hg _ _ H) h.2⟩
  · exact h.elim
theorem sim_I0 {g : Int → Int → V} {g' : Int → Int → Dt} (hg : ∀ i j H, Dq H (g i j) (g' i j)) : Sim2 (rI0 g) (fI0 g') := by
  intro s t M k x y H Hc Q h rx ry O q
  unfold fI0 at h
  split at h
  · exact ⟨_, _, dp_int_inv rx, dp_int_inv ry, q.dat O (hg _ _ H) h⟩
  · exact h.elim
theorem xe_sub (ha : XE X a da) (hb : XE X b db) : XE X (.BinOp a .Sub b pos) (dOp (fI0 fun i j => .int (i - j)) da db) := xe_op op_sub (sim_I0 fun _ _ _ => .int _) ha hb
theorem xe_mul (ha : XE X a da) (hb : XE X b db) : XE X (.BinOp a .Mult b pos) (dOp (fI CMul fun i j => .int (i * j)) da db) := xe_op op_mul (sim_I fun _ _ _ => .int _) ha hb
theorem xe_mulW (ha : XE X a da) (hb : XE X b db) : XE X (.BinOp a .Mult b pos) (dOp (fI CMulW fun i j => .int (i * j)) da db) := xe_op op_mulW (sim_I fun _ _ _ => .int _) ha hb
theorem xe_mod (ha : XE X a da) (hb : XE X b db) : XE X (.BinOp a .Mod b pos) (dOp (fI (fun _ j => 0 < j) fun i j => .int (i % j)) da db) := xe_op op_mod (sim_I fun _ _ _ => .int _) ha hb
theorem xe_fdiv (ha : XE X a da) (hb : XE X b db) : XE X (.BinOp a .FloorDiv b pos) (dOp (fI CDivW fun i j => .int (i / j)) da db) := xe_op op_fdivW (sim_I fun _ _ _ => .int _) ha hb
theorem xe_pow (ha : XE X a da) (hb : XE X b db) : XE X (.BinOp a .Pow b pos) (dOp (fI CPow fun i j => .int (i ^ j.toNat)) da db) := xe_op op_pow (sim_I fun _ _ _ => .int _) ha hb
theorem xe_le (ha : XE X a da) (hb : XE X b db) : XE X (.Compare a [.LtE] [b] pos) (dOp (fI0 fun i j => .bool (decide (i ≤ j))) da db) := xe_cmp op_le (nomark _) (sim_I0 fun _ _ _ => .bl _) ha hb
theorem xe_gt (ha : XE X a da) (hb : XE X b db) : XE X (.Compare a [.Gt] [b] pos) (dOp (fI0 fun i j => .bool (decide (j < i))) da db) := xe_cmp op_gt (nomark _) (sim_I0 fun _ _ _ => .bl _) ha hb
theorem xe_ge (ha : XE X a da) (hb : XE X b db) : XE X (.Compare a [.GtE] [b] pos) (dOp (fI0 fun i j => .bool (decide (j ≤ i))) da db) := xe_cmp op_ge (nomark _) (sim_I0 fun _ _ _ => .bl _) ha hb
theorem xe_ltI (ha : XE X a da) (hb : XE X b db) : XE X (.Compare a [.Lt] [b] pos) (dOp (fI0 fun i j => .bool (decide (i < j))) da db) := xe_cmp op_lt (nomark _) (sim_I0 fun _ _ _ => .bl _) ha hb
/-! ### a + b -/
/-- new lists are ours -/
def fAdd : D2 := fun s t M k => match s, t with
  | .dat (.int i), .dat (.int j) => k (.dat (.int (i + j))) M
  | .dat (.str i), .dat (.str j) => i.length + j.length ≤ 16777216 ∧ k (.dat (.str (i ++ j))) M
  | .dat (.tuple i), .dat (.tuple j) => i.length + j.length ≤ 16777216 ∧ k (.dat (.tuple (i ++ j))) M
  | s, t => ∃ xs ys, IsL M s xs ∧ IsL M t ys ∧ xs.length + ys.length ≤ 16777216 ∧ ∀ p, M p = none → k (.own p) (put M p (.lst (xs ++ ys)))
/-- new lists stand still -/
def fAddD : D2 := fun s t M k => match s, t with
  | .dat (.int i), .dat (.int j) => k (.dat (.int (i + j))) M
  | .dat (.str i), .dat (.str j) => i.length + j.length ≤ 16777216 ∧ k (.dat (.str (i ++ j))) M
  | .dat (.tuple i), .dat (.tuple j) => i.length + j.length ≤ 16777216 ∧ k (.dat (.tuple (i ++ j))) M
  | s, t => ∃ xs ys, IsL M s (xs.map .dat) ∧ IsL M t (ys.map .dat) ∧ xs.length + ys.length ≤ 16777216 ∧ k (.dat (.list (xs ++ ys))) M
abbrev rStrAdd : R2 := fun x y H Q => ∃ i j, x = .str i ∧ y = .str j ∧ i.length + j.length ≤ sizeLine ∧ Q (.str (i ++ j)) H
theorem op_addAll : OpR X (binaryOp .Add) (fun x y H Q => (rI0 fun i j => .int (i + j)) x y H Q ∨ rStrAdd x y H Q ∨ rCatA X.K x y H Q ∨ rCat x y H Q) := OpR.or op_add (OpR.or op_add_str (OpR.or op_catA op_cat))
theorem cat_tup {K : PySem.W.Frag} {H Hc : Hp} {M : Mem} {k : DK} {Q : VK} {i j : List Dt} {x y : V} (rx : Rp H (.dat (.tuple i)) x) (ry : Rp H (.dat (.tuple j)) y) (O : Own H Hc M) (q : On H k Q) (hz : i.length + j.length ≤ sizeLine) (h : k (.dat (.tuple (i ++ j))) M) : rCatA K x y Hc Q := by
  obtain ⟨a, vs, rfl, h1, h2⟩ := dp_tup_inv rx
  obtain ⟨b, ws, rfl, h3, h4⟩ := dp_tup_inv ry
  refine ⟨a, b, vs, ws, rfl, rfl, SqT.of (O.ex _ _ h1), SqT.of (O.ex _ _ h3), by rw [dps_len h2, dps_len h4]; exact hz, fun e => ?_, fun _ e => ?_, fun _ _ p hp => ?_⟩
  · subst e
    cases h2
    exact q.dat O ry h
  · subst e
    cases h4
    rw [List.append_nil] at h
    exact q.dat O rx h
  · exact q.tup O (dqs_app h2 h4) hp h
theorem sim_add {K : PySem.W.Frag} : Sim2 (fun x y H Q => (rI0 fun i j => .int (i + j)) x y H Q ∨ rStrAdd x y H Q ∨ rCatA K x y H Q ∨ rCat x y H Q) fAdd := by
  intro s t M k x y H Hc Q h rx ry O q
  have lists : (∃ xs ys, IsL M s xs ∧ IsL M t ys ∧ xs.length + ys.length ≤ 16777216 ∧ ∀ p, M p = none → k (.own p) (put M p (.lst (xs ++ ys)))) → rCat x y Hc Q := by
    rintro ⟨xs, ys, l1, l2, hz, k1⟩
    obtain ⟨a, vs, rfl, h1, h2⟩ := l1.at_ O rx
    obtain ⟨b, ws, rfl, h3, h4⟩ := l2.at_ O ry
    exact ⟨a, b, vs, ws, rfl, rfl, h1, h3, by rw [rps_len h2, rps_len h4]; exact hz, fun p hp => q.own O (rps_app h2 h4) (by rw [List.length_append]; exact hz) hp (k1 p (O.freeM hp))⟩
  unfold fAdd at h
  split at h
  · exact .inl ⟨_, _, dp_int_inv rx, dp_int_inv ry, q.dat O (.int _) h⟩
  · exact .inr (.inl ⟨_, _, dp_str_inv rx, dp_str_inv ry, h.1, q.dat O (.str _) h.2⟩)
  · exact .inr (.inr (.inl (cat_tup rx ry O q h.1 h.2)))
  · exact .inr (.inr (.inr (lists h)))
theorem sim_addD {K : PySem.W.Frag} : Sim2 (fun x y H Q => (rI0 fun i j => .int (i + j)) x y H Q ∨ rStrAdd x y H Q ∨ rCatA K x y H Q ∨ rCat x y H Q) fAddD := by
  intro s t M k x y H Hc Q h rx ry O q
  have lists : (∃ xs ys, IsL M s (xs.map .dat) ∧ IsL M t (ys.map .dat) ∧ xs.length + ys.length ≤ 16777216 ∧ k (.dat (.list (xs ++ ys))) M) → rCat x y Hc Q := by
    rintro ⟨xs, ys, l1, l2, hz, k1⟩
    obtain ⟨a, vs, rfl, h1, h2⟩ := l1.at_ O rx
    obtain ⟨b, ws, rfl, h3, h4⟩ := l2.at_ O ry
    exact ⟨a, b, vs, ws, rfl, rfl, h1, h3, by rw [rps_len h2, rps_len h4, List.length_map, List.length_map]; exact hz, fun p hp => q.lst O (dqs_app (rps_dat h2) (rps_dat h4)) hp k1⟩
  unfold fAddD at h
  split at h
  · exact .inl ⟨_, _, dp_int_inv rx, dp_int_inv ry, q.dat O (.int _) h⟩
  · exact .inr (.inl ⟨_, _, dp_str_inv rx, dp_str_inv ry, h.1, q.dat O (.str _) h.2⟩)
  · exact .inr (.inr (.inl (cat_tup rx ry O q h.1 h.2)))
  · exact .inr (.inr (.inr (lists h)))
theorem xe_add (ha : XE X a da) (hb : XE X b db) : XE X (.BinOp a .Add b pos) (dOp fAdd da db) := xe_op op_addAll sim_add ha hb
theorem xe_addD (ha : XE X a da) (hb : XE X b db) : XE X (.BinOp a .Add b pos) (dOp fAddD da db) := xe_op op_addAll sim_addD ha hb
/-! ### a == b -/
/-- as a datum -/
def IsD (M : Mem) (s : Sl) (d : Dt) : Prop := s = .dat d ∨ ∃ a ds, s = .own a ∧ M a = some (.lst (ds.map .dat)) ∧ d = .list ds
theorem IsD.at_ {K : PySem.W.Frag} {H Hc : Hp} {M : Mem} {s : Sl} {d : Dt} {x : V} (h : IsD M s d) (O : Own H Hc M) (r : Rp H s x) : Dp K Hc x d := by
  rcases h with rfl | ⟨a, ds, rfl, h, rfl⟩
  · exact dq_dp (dp_ex O.ex r)
  · cases r
    obtain ⟨_, vs, h1, h2⟩ := O.ob a _ h
    exact .lst (SqL.of h1) (dqs_dps (dps_ex O.ex (rps_dat h2)))
def fEq (neg : Bool) : D2 := fun s t M k => match s, t with
  | .dat (.int i), .dat (.int j) => k (.dat (.bool (if neg = true then !decide (i = j) else decide (i = j)))) M
  | .dat (.str i), .dat (.str j) => k (.dat (.bool (if neg = true then !decide (i = j) else decide (i = j)))) M
  | s, t => ∃ d e, IsD M s d ∧ IsD M t e ∧ SeqAt.shaped d = true ∧ SeqAt.shaped e = true ∧ k (.dat (.bool (if neg = true then !PyData.eqv d e else PyData.eqv d e))) M
theorem op_eqAll (hu : X.A.units + 64 < cLine) : OpR X (compareOp .Eq) (fun x y H Q => rEq x y H Q ∨ rEqD X.K x y H Q) := OpR.or op_eq (op_eqD hu)
theorem op_neAll (hu : X.A.units + 64 < cLine) : OpR X (compareOp .NotEq) (fun x y H Q => rNe x y H Q ∨ rNeD X.K x y H Q) := OpR.or op_ne (op_neD hu)
theorem dec_V {i j : Int} : decide (V.int i = V.int j) = decide (i = j) := by
  by_cases h : i = j
  · rw [decide_eq_true h, decide_eq_true (by rw [h])]
  · rw [decide_eq_false h, decide_eq_false (fun q => h (V.int.inj q))]
theorem dec_VS {i j : Str} : decide (V.str i = V.str j) = decide (i = j) := by
  by_cases h : i = j
  · rw [decide_eq_true h, decide_eq_true (by rw [h])]
  · rw [decide_eq_false h, decide_eq_false (fun q => h (V.str.inj q))]
theorem sim_eq {K : PySem.W.Frag} : Sim2 (fun x y H Q => rEq x y H Q ∨ rEqD K x y H Q) (fEq false) := by
  intro s t M k x y H Hc Q h rx ry O q
  unfold fEq at h
  split at h
  · left
    rw [dp_int_inv rx, dp_int_inv ry]
    refine ⟨rfl, ?_⟩
    rw [dec_V]
    exact q.dat O (.bl _) h
  · left
    rw [dp_str_inv rx, dp_str_inv ry]
    refine ⟨rfl, ?_⟩
    rw [dec_VS]
    exact q.dat O (.bl _) h
  · right
    obtain ⟨d, e, h1, h2, s1, s2, h3⟩ := h
    exact ⟨d, e, h1.at_ O rx, h2.at_ O ry, s1, s2, q.dat O (.bl _) h3⟩
theorem sim_ne {K : PySem.W.Frag} : Sim2 (fun x y H Q => rNe x y H Q ∨ rNeD K x y H Q) (fEq true) := by
  intro s t M k x y H Hc Q h rx ry O q
  unfold fEq at h
  split at h
  · left
    rw [dp_int_inv rx, dp_int_inv ry]
    refine ⟨rfl, ?_⟩
    rw [dec_V]
    exact q.dat O (.bl _) h
  · left
    rw [dp_str_inv rx, dp_str_inv ry]
    refine ⟨rfl, ?_⟩
    rw [dec_VS]
    exact q.dat O (.bl _) h
  · right
    obtain ⟨d, e, h1, h2, s1, s2, h3⟩ := h
    exact ⟨d, e, h1.at_ O rx, h2.at_ O ry, s1, s2, q.dat O (.bl _) h3⟩
theorem xe_eq (hu : X.A.units + 64 < cLine) (ha : XE X a da) (hb : XE X b db) : XE X (.Compare a [.Eq] [b] pos) (dOp (fEq false) da db) := xe_cmp (op_eqAll hu) (nomark _) sim_eq ha hb
theorem xe_ne (hu : X.A.units + 64 < cLine) (ha : XE X a da) (hb : XE X b db) : XE X (.Compare a [.NotEq] [b] pos) (dOp (fEq true) da db) := xe_cmp (op_neAll hu) (nomark _) sim_ne ha hb
/-! ### and, or, not, if; tests -/
def dT (de : DE) : DB := fun Γ M k => de Γ M fun s M1 => match s with
  | .dat (.bool b) => k b M1
  | _ => False
theorem sim_t {te : TE} (h : SimE te de) : SimB (tB te) (dT de) := by
  intro Γ M k σ H Hc Q hd F O q
  refine h Γ M _ σ H Hc _ hd F O fun v s M1 H1 Hc1 e1 O1 r1 h1 => ?_
  split at h1
  · exact ⟨_, dp_bl_inv r1, q _ M1 H1 Hc1 e1 O1 h1⟩
  · exact h1.elim
theorem xb_val (h : XE X e de) (he : ∀ whole, isTrue e X.env whole = (do let v ← whole; standAt e.pos; holding [v] (truthy v)) := by intro _; rfl) : XB X e (dT de) := xb_of (pt_val h he) (sim_t simLE)
theorem sim_tt {te : TE} (h : SimE te de) : SimB (tTest te) (dT de) := by
  intro Γ M k σ H Hc Q hd F O q
  refine h Γ M _ σ H Hc _ hd F O fun v s M1 H1 Hc1 e1 O1 r1 h1 => ?_
  split at h1
  · exact ⟨_, dp_bl_inv r1, q _ M1 H1 Hc1 e1 O1 h1⟩
  · exact h1.elim
theorem xb_cmp {r : R2} {f : D2} (hr : Sim2 r f) (h : PT X e (tTest (tOp r (LE da) (LE db)))) : XB X e (dT (dOp f da db)) := xb_of h (sim_tt (sim_op hr simLE simLE))
def dAnd (t u : DB) : DB := fun Γ M k => t Γ M fun b M1 => (b = true → u Γ M1 k) ∧ (b = false → k false M1)
def dOr (t u : DB) : DB := fun Γ M k => t Γ M fun b M1 => (b = true → k true M1) ∧ (b = false → u Γ M1 k)
def dNot (t : DB) : DB := fun Γ M k => t Γ M fun b M1 => k (!b) M1
theorem sim_and {ta tb : TT} {ba bb : DB} (ha : SimB ta ba) (hb : SimB tb bb) : SimB (tAnd ta tb) (dAnd ba bb) := by
  intro Γ M k σ H Hc Q hd F O q
  refine ha Γ M _ σ H Hc _ hd F O fun v M1 H1 Hc1 e1 O1 h1 => ?_
  cases v with
  | true => rw [if_pos rfl]; exact hb Γ M1 k σ H1 Hc1 Q (h1.1 rfl) (F.ex e1) O1 (q.ex e1)
  | false => rw [if_neg Bool.false_ne_true]; exact q _ _ _ _ e1 O1 (h1.2 rfl)
theorem sim_or {ta tb : TT} {ba bb : DB} (ha : SimB ta ba) (hb : SimB tb bb) : SimB (tOr ta tb) (dOr ba bb) := by
  intro Γ M k σ H Hc Q hd F O q
  refine ha Γ M _ σ H Hc _ hd F O fun v M1 H1 Hc1 e1 O1 h1 => ?_
  cases v with
  | true => rw [if_pos rfl]; exact q _ _ _ _ e1 O1 (h1.1 rfl)
  | false => rw [if_neg Bool.false_ne_true]; exact hb Γ M1 k σ H1 Hc1 Q (h1.2 rfl) (F.ex e1) O1 (q.ex e1)
theorem sim_not {ta : TT} {ba : DB} (ha : SimB ta ba) : SimB (tNot ta) (dNot ba) := by
  intro Γ M k σ H Hc Q hd F O q
  exact ha Γ M _ σ H Hc _ hd F O fun v M1 H1 Hc1 e1 O1 h1 => q _ _ _ _ e1 O1 h1
section
variable {ba bb : DB} {rest : List Expr}
theorem xw_one {op} (h : XB X a ba) (h2 : PT X a (LB ba) → PW X (.BoolOp op [a] pos) (LB ba)) : XW X (.BoolOp op [a] pos) ba := h2 h
theorem xw_and1 (h : XB X a ba) : XW X (.BoolOp .And [a] pos) ba := pw_and1 h
theorem xw_or1 (h : XB X a ba) : XW X (.BoolOp .Or [a] pos) ba := pw_or1 h
theorem xw_and (ha : XB X a ba) (hb : XW X (.BoolOp .And (b :: rest) pos) bb) : XW X (.BoolOp .And (a :: b :: rest) pos) (dAnd ba bb) := xw_of (pw_and ha hb) (sim_and simLB simLB)
theorem xw_or (ha : XB X a ba) (hb : XW X (.BoolOp .Or (b :: rest) pos) bb) : XW X (.BoolOp .Or (a :: b :: rest) pos) (dOr ba bb) := xw_of (pw_or ha hb) (sim_or simLB simLB)
theorem xb_w (h : XW X e ba) : XB X e ba := h.pt
theorem xb_not (h : XB X a ba) : XB X (.UnaryOp .Not a pos) (dNot ba) := xb_of (pt_not h) (sim_not simLB)
end
/-- as values -/
def dAndV (da db : DE) : DE := fun Γ M k => dT da Γ M fun b M1 => (b = true → db Γ M1 k) ∧ (b = false → k (.dat (.bool false)) M1)
def dOrV (da db : DE) : DE := fun Γ M k => dT da Γ M fun b M1 => (b = true → k (.dat (.bool true)) M1) ∧ (b = false → db Γ M1 k)
def dNotV (da : DE) : DE := fun Γ M k => dT da Γ M fun b M1 => k (.dat (.bool (!b))) M1
theorem sim_andV {ta tb : TE} (ha : SimE ta da) (hb : SimE tb db) : SimE (tAndV ta tb) (dAndV da db) := by
  intro Γ M k σ H Hc Q hd F O q
  refine ha Γ M _ σ H Hc _ hd F O fun v s M1 H1 Hc1 e1 O1 r1 h1 => ?_
  split at h1
  · rename_i b
    refine ⟨b, dp_bl_inv r1, ?_⟩
    cases b with
    | true => rw [if_pos rfl]; exact hb Γ M1 k σ H1 Hc1 Q (h1.1 rfl) (F.ex e1) O1 (q.ex e1)
    | false => rw [if_neg Bool.false_ne_true]; exact q _ (.dat (.bool false)) _ _ _ e1 O1 (Dq.bl _) (h1.2 rfl)
  · exact h1.elim
theorem sim_orV {ta tb : TE} (ha : SimE ta da) (hb : SimE tb db) : SimE (tOrV ta tb) (dOrV da db) := by
  intro Γ M k σ H Hc Q hd F O q
  refine ha Γ M _ σ H Hc _ hd F O fun v s M1 H1 Hc1 e1 O1 r1 h1 => ?_
  split at h1
  · rename_i b
    refine ⟨b, dp_bl_inv r1, ?_⟩
    cases b with
    | true => rw [if_pos rfl]; exact q _ (.dat (.bool true)) _ _ _ e1 O1 (Dq.bl _) (h1.1 rfl)
    | false => rw [if_neg Bool.false_ne_true]; exact hb Γ M1 k σ H1 Hc1 Q (h1.2 rfl) (F.ex e1) O1 (q.ex e1)
  · exact h1.elim
theorem sim_notV {ta : TE} (ha : SimE ta da) : SimE (tNotV ta) (dNotV da) := by
  intro Γ M k σ H Hc Q hd F O q
  refine ha Γ M _ σ H Hc _ hd F O fun v s M1 H1 Hc1 e1 O1 r1 h1 => ?_
  split at h1
  · rename_i b
    exact ⟨b, dp_bl_inv r1, q _ (.dat (.bool (!b))) _ _ _ e1 O1 (Dq.bl _) h1⟩
  · exact h1.elim
theorem xe_one {op} (h : XE X a da) : XE X (.BoolOp op [a] pos) da := pe_one h
theorem xe_and {rest : List Expr} (ha : XE X a da) (hb : XE X (.BoolOp .And (b :: rest) pos) db) : XE X (.BoolOp .And (a :: b :: rest) pos) (dAndV da db) := xe_of (pe_and ha hb) (sim_andV simLE simLE)
theorem xe_or {rest : List Expr} (ha : XE X a da) (hb : XE X (.BoolOp .Or (b :: rest) pos) db) : XE X (.BoolOp .Or (a :: b :: rest) pos) (dOrV da db) := xe_of (pe_or ha hb) (sim_orV simLE simLE)
theorem xe_not (ha : XE X a da) : XE X (.UnaryOp .Not a pos) (dNotV da) := xe_of (pe_not ha) (sim_notV simLE)
def dIf (t : DB) (da db : DE) : DE := fun Γ M k => t Γ M fun b M1 => (b = true → da Γ M1 k) ∧ (b = false → db Γ M1 k)
theorem xe_if {ba : DB} (hc : XB X c ba) (ha : XE X a da) (hb : XE X b db) : XE X (.IfExp c a b pos) (dIf ba da db) := xe_of (pe_ifExp hc ha hb) (by
  intro Γ M k σ H Hc Q hd F O q
  refine simLB Γ M _ σ H Hc _ hd F O fun v M1 H1 Hc1 e1 O1 h1 => ?_
  cases v with
  | true => rw [if_pos rfl]; exact simLE Γ M1 k σ H1 Hc1 Q (h1.1 rfl) (F.ex e1) O1 (q.ex e1)
  | false => rw [if_neg Bool.false_ne_true]; exact simLE Γ M1 k σ H1 Hc1 Q (h1.2 rfl) (F.ex e1) O1 (q.ex e1))
/-- a < b < c -/
def dChain (f g : D2) (da db dc : DE) : DE := fun Γ M k => da Γ M fun s M1 => db Γ M1 fun t M2 => f s t M2 fun r M3 => match r with
  | .dat (.bool b) => (b = true → dc Γ M3 fun u M4 => g t u M4 k) ∧ (b = false → k (.dat (.bool false)) M3)
  | _ => False
theorem sim_chain {r r' : R2} {f g : D2} (hf : Sim2 r f) (hg : Sim2 r' g) : SimE (tChain r r' (LE da) (LE db) (LE dc)) (dChain f g da db dc) := by
  intro Γ M k σ H Hc Q hd F O q
  refine simLE Γ M _ σ H Hc _ hd F O fun x s M1 H1 Hc1 e1 O1 r1 h1 => ?_
  refine simLE Γ M1 _ σ H1 Hc1 _ h1 (F.ex e1) O1 fun y t M2 H2 Hc2 e2 O2 r2 h2 => ?_
  refine hf s t M2 _ x y H2 Hc2 _ h2 (rp_ex e2 r1) r2 O2 fun z u M3 H3 Hc3 e3 O3 r3 h3 => ?_
  split at h3
  · rename_i b
    refine ⟨b, dp_bl_inv r3, ?_⟩
    cases b with
    | true =>
      rw [if_pos rfl]
      refine simLE Γ M3 _ σ H3 Hc3 _ (h3.1 rfl) (F.ex (e1.trans (e2.trans e3))) O3 fun z' u' M4 H4 Hc4 e4 O4 r4 h4 => ?_
      exact hg t u' M4 k y z' H4 Hc4 Q h4 (rp_ex (e3.trans e4) r2) r4 O4 (q.ex (e1.trans (e2.trans (e3.trans e4))))
    | false =>
      rw [if_neg Bool.false_ne_true]
      exact q _ (.dat (.bool false)) _ _ _ (e1.trans (e2.trans e3)) O3 (Dq.bl _) (h3.2 rfl)
  · exact h3.elim
theorem xe_chainI {g g' : Int → Int → Bool} (h : PE X e (tChain (rI0 fun i j => .bl (g i j)) (rI0 fun i j => .bl (g' i j)) (LE da) (LE db) (LE dc))) : XE X e (dChain (fI0 fun i j => .bool (g i j)) (fI0 fun i j => .bool (g' i j)) da db dc) :=
  xe_of h (sim_chain (sim_I0 fun _ _ _ => .bl _) (sim_I0 fun _ _ _ => .bl _))
theorem xb_chainI {g g' : Int → Int → Bool} (h : PT X e (tTest (tChain (rI0 fun i j => .bl (g i j)) (rI0 fun i j => .bl (g' i j)) (LE da) (LE db) (LE dc)))) : XB X e (dT (dChain (fI0 fun i j => .bool (g i j)) (fI0 fun i j => .bool (g' i j)) da db dc)) :=
  xb_of h (sim_tt (sim_chain (sim_I0 fun _ _ _ => .bl _) (sim_I0 fun _ _ _ => .bl _)))
end
end DL
namespace DL
open PySem PySem.Spec PyProof.Rows L2
open Evl (Ex)
section
variable {X : Cx} {e a b c : Expr} {de da db dc : DE} {pos : Pos} {es : List Expr} {das : DA}
/-! ### subscripts -/
def fIx : D2 := fun s t M k => match s, t with
  | .dat (.tuple ds), .dat (.int i) => ∃ d, atI ds i = some d ∧ k (.dat d) M
  | .dat (.list ds), .dat (.int i) => ∃ d, atI ds i = some d ∧ k (.dat d) M
  | .dat (.str z), .dat (.int i) => z.length ≤ 16777216 ∧ ∃ c, atI z.cps.toList i = some c ∧ k (.dat (.str ⟨#[c]⟩)) M
  | .own a, .dat (.int i) => ∃ xs v, M a = some (.lst xs) ∧ atI xs i = some v ∧ k v M
  | _, _ => False
theorem sim_ix {K : PySem.W.Frag} : Sim2 (rIx K) fIx := by
  intro s t M k x y H Hc Q h rx ry O q
  unfold fIx at h
  split at h
  · obtain ⟨d, e1, h⟩ := h
    obtain ⟨p, vs, rfl, h1, h2⟩ := dp_tup_inv rx
    obtain ⟨v, e2, h3⟩ := atI_dq h2 e1
    exact .inr (.inl ⟨p, vs, _, v, rfl, dp_int_inv ry, SqT.of (O.ex _ _ h1), e2, q.dat O h3 h⟩)
  · obtain ⟨d, e1, h⟩ := h
    obtain ⟨p, vs, rfl, h1, h2⟩ := dp_lst_inv rx
    obtain ⟨v, e2, h3⟩ := atI_dq h2 e1
    exact .inl ⟨p, vs, _, v, rfl, dp_int_inv ry, SqL.of (O.ex _ _ h1), e2, q.dat O h3 h⟩
  · obtain ⟨hz, c, e1, h⟩ := h
    exact .inr (.inr ⟨_, _, c, dp_str_inv rx, dp_int_inv ry, by rw [sizeLine_eq]; exact hz, e1, q.dat O (.str _) h⟩)
  · obtain ⟨xs, v, e1, e2, h⟩ := h
    cases rx
    obtain ⟨_, vs, h1, h2⟩ := O.ob _ _ e1
    obtain ⟨w, e3, h3⟩ := atI_rp h2 e2
    exact .inl ⟨_, vs, _, w, rfl, dp_int_inv ry, SqL.of h1, e3, q w v M H Hc (Evl.Ex.refl H) O h3 h⟩
  · exact h.elim
theorem xe_ix (ha : XE X a da) (hb : XE X b db) (hs : PlainIx b := by exact fun _ _ => rfl) : XE X (.Subscript a b pos) (dOp fIx da db) := xe_of (pe_ix ix_seq ha hb hs) (sim_op sim_ix simLE simLE)
/-! ### slices -/
abbrev DO := Fm → Mem → (Option Int → Mem → Prop) → Prop
def SimO (t : TO) (d : DO) : Prop := ∀ Γ M (k : Option Int → Mem → Prop) σ H Hc (Q : Option Int → Hp → Prop), d Γ M k → Fr H σ Γ → Own H Hc M → (∀ o M' H' Hc', Ex H H' → Own H' Hc' M' → k o M' → Q o Hc') → t σ Hc Q
def LO (d : DO) : TO := fun σ Hc Q => ∃ Γ M H k, d Γ M k ∧ Fr H σ Γ ∧ Own H Hc M ∧ ∀ o M' H' Hc', Ex H H' → Own H' Hc' M' → k o M' → Q o Hc'
abbrev XO (X : Cx) (e : Option Expr) (d : DO) : Prop := PO X e (LO d)
def dNo : DO := fun _ M k => k none M
def dPt (de : DE) : DO := fun Γ M k => de Γ M fun s M1 => match s with
  | .dat (.int i) => k (some i) M1
  | _ => False
theorem xo_none : XO X none dNo := ⟨fun pins st σ Hc Q I ⟨Γ, M, H, k, hd, F, O, q⟩ => po_none.run pins st σ Hc Q I (q none M H Hc (Evl.Ex.refl H) O hd)⟩
theorem xo_some (h : XE X e de) : XO X (some e) (dPt de) := ⟨fun pins st σ Hc Q I ⟨Γ, M, H, k, hd, F, O, q⟩ => (po_some h).run pins st σ Hc Q I (by
  refine simLE Γ M _ σ H Hc _ hd F O fun v s M1 H1 Hc1 e1 O1 r1 h1 => ?_
  split at h1
  · exact ⟨_, dp_int_inv r1, q _ _ _ _ e1 O1 h1⟩
  · exact h1.elim)⟩
abbrev D3 := Sl → Option Int → Option Int → Mem → DK → Prop
def Sim3 (r : V → Option Int → Option Int → Hp → VK → Prop) (f : D3) : Prop := ∀ s lo hi M k x H Hc Q, f s lo hi M k → Rp H s x → Own H Hc M → On H k Q → r x lo hi Hc Q
def dSl (f : D3) (de : DE) (dl dh : DO) : DE := fun Γ M k => de Γ M fun s M1 => dl Γ M1 fun lo M2 => dh Γ M2 fun hi M3 => f s lo hi M3 k
def fSl : D3 := fun s lo hi M k => match s with
  | .dat (.tuple ds) => k (.dat (.tuple (cut ds lo hi))) M
  | .dat (.str z) => z.length ≤ 16777216 ∧ k (.dat (.str (cutS z lo hi))) M
  | s => ∃ xs, IsL M s xs ∧ xs.length ≤ 16777216 ∧ ∀ p, M p = none → k (.own p) (put M p (.lst (cut xs lo hi)))
def fSlD : D3 := fun s lo hi M k => match s with
  | .dat (.tuple ds) => k (.dat (.tuple (cut ds lo hi))) M
  | .dat (.str z) => z.length ≤ 16777216 ∧ k (.dat (.str (cutS z lo hi))) M
  | s => ∃ xs, IsL M s (xs.map .dat) ∧ k (.dat (.list (cut xs lo hi))) M
theorem cut_whole {α : Type} {xs : List α} {lo hi : Option Int} (h : HT.sIx xs.length 0 lo = 0 ∧ HT.sIx xs.length xs.length hi = xs.length) : cut xs lo hi = xs := by
  unfold cut
  rw [h.1, h.2, List.drop_zero, Nat.sub_zero, List.take_length]
theorem cut_len {α : Type} (xs : List α) (lo hi : Option Int) : (cut xs lo hi).length ≤ xs.length := by
  unfold cut
  rw [List.length_take, List.length_drop]
  omega
theorem sl_all : SlR X (fun x lo hi H Q => rSlA X.K x lo hi H Q ∨ rSlS x lo hi H Q ∨ rSlL X.K x lo hi H Q) := SlR.or sl_tupA (SlR.or sl_str sl_list)
theorem sl_tupD {K : PySem.W.Frag} {H Hc : Hp} {M : Mem} {k : DK} {Q : VK} {ds : List Dt} {lo hi : Option Int} {x : V} (rx : Rp H (.dat (.tuple ds)) x) (O : Own H Hc M) (q : On H k Q) (h : k (.dat (.tuple (cut ds lo hi))) M) : rSlA K x lo hi Hc Q := by
  obtain ⟨p, vs, rfl, h1, h2⟩ := dp_tup_inv rx
  have hl := dps_len h2
  refine ⟨p, vs, rfl, SqT.of (O.ex _ _ h1), fun w => ?_, fun _ p hp => q.tup O (dqs_cut lo hi h2) hp h⟩
  rw [hl] at w
  rw [cut_whole w] at h
  exact q.dat O rx h
theorem sim_sl {K : PySem.W.Frag} : Sim3 (fun x lo hi H Q => rSlA K x lo hi H Q ∨ rSlS x lo hi H Q ∨ rSlL K x lo hi H Q) fSl := by
  intro s lo hi M k x H Hc Q h rx O q
  unfold fSl at h
  split at h
  · exact .inl (sl_tupD rx O q h)
  · exact .inr (.inl ⟨_, dp_str_inv rx, by rw [sizeLine_eq]; exact h.1, q.dat O (.str _) h.2⟩)
  · obtain ⟨xs, l, hz, h⟩ := h
    obtain ⟨a, vs, rfl, h1, h2⟩ := l.at_ O rx
    exact .inr (.inr ⟨a, vs, rfl, SqL.of h1, fun p hp => q.own O (rps_cut lo hi h2) (by rw [sizeLine_eq]; exact Nat.le_trans (cut_len xs lo hi) hz) hp (h p (O.freeM hp))⟩)
theorem sim_slD {K : PySem.W.Frag} : Sim3 (fun x lo hi H Q => rSlA K x lo hi H Q ∨ rSlS x lo hi H Q ∨ rSlL K x lo hi H Q) fSlD := by
  intro s lo hi M k x H Hc Q h rx O q
  unfold fSlD at h
  split at h
  · exact .inl (sl_tupD rx O q h)
  · exact .inr (.inl ⟨_, dp_str_inv rx, by rw [sizeLine_eq]; exact h.1, q.dat O (.str _) h.2⟩)
  · obtain ⟨xs, l, h⟩ := h
    obtain ⟨a, vs, rfl, h1, h2⟩ := l.at_ O rx
    exact .inr (.inr ⟨a, vs, rfl, SqL.of h1, fun p hp => q.lst O (dqs_cut lo hi (rps_dat h2)) hp h⟩)
theorem xe_slF {f : D3} {lo hi : Option Expr} {dl dh : DO} {p2 : Pos} (hf : Sim3 (fun x lo hi H Q => rSlA X.K x lo hi H Q ∨ rSlS x lo hi H Q ∨ rSlL X.K x lo hi H Q) f) (he : XE X e de) (hl : XO X lo dl) (hu : XO X hi dh) : XE X (.Subscript e (.Slice lo hi none p2) pos) (dSl f de dl dh) :=
  xe_of (pe_slice sl_all he hl hu) (by
    intro Γ M k σ H Hc Q hd F O q
    refine simLE Γ M _ σ H Hc _ hd F O fun v s M1 H1 Hc1 e1 O1 r1 h1 => ?_
    refine ⟨Γ, M1, H1, _, h1, F.ex e1, O1, fun lo M2 H2 Hc2 e2 O2 h2 => ?_⟩
    refine ⟨Γ, M2, H2, _, h2, F.ex (e1.trans e2), O2, fun hi M3 H3 Hc3 e3 O3 h3 => ?_⟩
    exact hf s lo hi M3 k v H3 Hc3 Q h3 (rp_ex (e2.trans e3) r1) O3 (q.ex (e1.trans (e2.trans e3))))
theorem xe_sl {lo hi : Option Expr} {dl dh : DO} {p2 : Pos} (he : XE X e de) (hl : XO X lo dl) (hu : XO X hi dh) : XE X (.Subscript e (.Slice lo hi none p2) pos) (dSl fSl de dl dh) := xe_slF sim_sl he hl hu
theorem xe_slD {lo hi : Option Expr} {dl dh : DO} {p2 : Pos} (he : XE X e de) (hl : XO X lo dl) (hu : XO X hi dh) : XE X (.Subscript e (.Slice lo hi none p2) pos) (dSl fSlD de dl dh) := xe_slF sim_slD he hl hu
/-! ### arguments, displays -/
def dNil : DA := fun _ M k => k [] M
def dCons (de : DE) (das : DA) : DA := fun Γ M k => de Γ M fun s M1 => das Γ M1 fun ss M2 => k (s :: ss) M2
theorem xa_nil : XA X [] dNil := xa_of pa_nil fun Γ M k σ H Hc Q h F O q => q [] [] M H Hc (Evl.Ex.refl H) O .nil h
theorem xa_cons (he : XE X e de) (hr : XA X es das) (hs : starEach (e :: es) X.env = (false, eval e X.env) :: starEach es X.env := by rfl) : XA X (e :: es) (dCons de das) := xa_of (pa_cons he hr hs) (by
  intro Γ M k σ H Hc Q hd F O q
  refine simLE Γ M _ σ H Hc _ hd F O fun v s M1 H1 Hc1 e1 O1 r1 h1 => ?_
  refine simLA Γ M1 _ σ H1 Hc1 _ h1 (F.ex e1) O1 fun vs ss M2 H2 Hc2 e2 O2 r2 h2 => ?_
  exact q _ (s :: ss) _ _ _ (e1.trans e2) O2 (.cons (rp_ex e2 r1) r2) h2)
def dTup (das : DA) : DE := fun Γ M k => das Γ M fun ss M1 => Nat.ble ss.length 100000 = true ∧ ∃ ds, datsOf ss = some ds ∧ k (.dat (.tuple ds)) M1
def dLst (das : DA) : DE := fun Γ M k => das Γ M fun ss M1 => Nat.ble ss.length 100000 = true ∧ ∀ p, M1 p = none → k (.own p) (put M1 p (.lst ss))
def dLstD (das : DA) : DE := fun Γ M k => das Γ M fun ss M1 => Nat.ble ss.length 100000 = true ∧ ∃ ds, datsOf ss = some ds ∧ k (.dat (.list ds)) M1
theorem ble_size {n : Nat} (h : Nat.ble n 100000 = true) : n ≤ sizeLine := by
  have := Nat.le_of_ble_eq_true h
  rw [sizeLine_eq]; omega
theorem xe_tup {x1} (h : XA X es das) : XE X (.Tuple es x1 pos) (dTup das) := xe_of (pe_tup h) (by
  intro Γ M k σ H Hc Q hd F O q
  refine simLA Γ M _ σ H Hc _ hd F O fun vs ss M1 H1 Hc1 e1 O1 r1 h1 => ?_
  obtain ⟨hz, ds, e2, h2⟩ := h1
  have := datsOf_eq e2
  subst this
  exact ⟨by rw [rps_len r1]; exact ble_size hz, fun p hp => (q.ex e1).tup O1 (rps_dat r1) hp h2⟩)
theorem xe_lst (h : XA X es das) : XE X (.List es pos) (dLst das) := xe_of (pe_lst h) (by
  intro Γ M k σ H Hc Q hd F O q
  refine simLA Γ M _ σ H Hc _ hd F O fun vs ss M1 H1 Hc1 e1 O1 r1 h1 => ?_
  exact ⟨by rw [rps_len r1]; exact ble_size h1.1, fun p hp => (q.ex e1).own O1 r1 (ble_size h1.1) hp (h1.2 p (O1.freeM hp))⟩)
theorem xe_lstD (h : XA X es das) : XE X (.List es pos) (dLstD das) := xe_of (pe_lst h) (by
  intro Γ M k σ H Hc Q hd F O q
  refine simLA Γ M _ σ H Hc _ hd F O fun vs ss M1 H1 Hc1 e1 O1 r1 h1 => ?_
  obtain ⟨hz, ds, e2, h2⟩ := h1
  have := datsOf_eq e2
  subst this
  exact ⟨by rw [rps_len r1]; exact ble_size hz, fun p hp => (q.ex e1).lst O1 (rps_dat r1) hp h2⟩)
/-! ### calls of built-ins -/
abbrev DC := List Sl → Mem → DK → Prop
def SimC (r : List V → Hp → VK → Prop) (f : DC) : Prop := ∀ ss M k xs H Hc Q, f ss M k → Rps H ss xs → Own H Hc M → On H k Q → r xs Hc Q
def dCB (f : DC) (das : DA) : DE := fun Γ M k => das Γ M fun ss M1 => f ss M1 k
theorem sim_cb {r : List V → Hp → VK → Prop} {f : DC} {t : TA} (h : SimC r f) (ha : SimA t das) : SimE (tCB r t) (dCB f das) := by
  intro Γ M k σ H Hc Q hd F O q
  exact ha Γ M _ σ H Hc _ hd F O fun vs ss M1 H1 Hc1 e1 O1 r1 h1 => h ss M1 k vs H1 Hc1 Q h1 r1 O1 (q.ex e1)
theorem xe_callB {r : List V → Hp → VK → Prop} {f : DC} {ex : Expr} (hf : SimC r f) (h : PE X ex (tCB r (LA das))) : XE X ex (dCB f das) := xe_of h (sim_cb hf simLA)
def fLen : DC := fun ss M k => match ss with
  | [.dat (.tuple ds)] => k (.dat (.int ds.length)) M
  | [.dat (.list ds)] => k (.dat (.int ds.length)) M
  | [.own a] => ∃ xs, M a = some (.lst xs) ∧ k (.dat (.int xs.length)) M
  | [.dat (.str z)] => z.length ≤ 16777216 ∧ k (.dat (.int z.length)) M
  | _ => False
theorem CallR.or {f : Value} {r r' : List V → Hp → VK → Prop} (h : CallR X f r) (h' : CallR X f r') : CallR X f (fun x H Q => r x H Q ∨ r' x H Q) := by
  intro pins s σ H x u Q I rx q
  rcases q with q | q
  · exact h pins s σ H x u Q I rx q
  · exact h' pins s σ H x u Q I rx q
abbrev rLenA (K : PySem.W.Frag) : List V → Hp → VK → Prop := fun xs H Q => (∃ p ys, xs = [.ref p] ∧ (SqL K H p ys ∨ SqT K H p ys) ∧ Q (.int ys.length) H) ∨ ∃ z, xs = [.str z] ∧ z.length ≤ sizeLine ∧ Q (.int z.length) H
theorem call_lenA : CallR X (.builtin "len") (rLenA X.K) := CallR.or call_len_seq call_len_str
theorem rps1 {H : Hp} {s : Sl} {xs : List V} (h : Rps H [s] xs) : ∃ x, xs = [x] ∧ Rp H s x := by
  cases h with
  | cons r t => cases t; exact ⟨_, rfl, r⟩
theorem rps2 {H : Hp} {s t : Sl} {xs : List V} (h : Rps H [s, t] xs) : ∃ x y, xs = [x, y] ∧ Rp H s x ∧ Rp H t y := by
  cases h with
  | cons r q => obtain ⟨y, rfl, h2⟩ := rps1 q; exact ⟨_, _, rfl, r, h2⟩
theorem sim_len {K : PySem.W.Frag} : SimC (rLenA K) fLen := by
  intro ss M k xs H Hc Q h r O q
  unfold fLen at h
  split at h
  · obtain ⟨x, rfl, rx⟩ := rps1 r
    obtain ⟨p, vs, rfl, h1, h2⟩ := dp_tup_inv rx
    rw [← dps_len h2] at h
    exact .inl ⟨p, vs, rfl, .inr (SqT.of (O.ex _ _ h1)), q.dat O (.int _) h⟩
  · obtain ⟨x, rfl, rx⟩ := rps1 r
    obtain ⟨p, vs, rfl, h1, h2⟩ := dp_lst_inv rx
    rw [← dps_len h2] at h
    exact .inl ⟨p, vs, rfl, .inl (SqL.of (O.ex _ _ h1)), q.dat O (.int _) h⟩
  · obtain ⟨x, rfl, rx⟩ := rps1 r
    obtain ⟨ys, e1, h⟩ := h
    cases rx
    obtain ⟨_, vs, h1, h2⟩ := O.ob _ _ e1
    rw [← rps_len h2] at h
    exact .inl ⟨_, vs, rfl, .inl (SqL.of h1), q.dat O (.int _) h⟩
  · obtain ⟨x, rfl, rx⟩ := rps1 r
    exact .inr ⟨_, by rw [dp_str_inv rx], by rw [sizeLine_eq]; exact h.1, q.dat O (.int _) h.2⟩
  · exact h.elim
/-- isinstance -/
def tyD : Dt → String
  | .none => "NoneType" | .bool _ => "bool" | .int _ => "int" | .str _ => "str" | .list _ => "list" | .tuple _ => "tuple" | .dict _ => "dict"
def isiD (T : String) (d : Dt) : Bool := tyD d == T || (tyD d == "bool" && T == "int")
def fIsi : DC := fun ss M k => match ss with
  | [.dat d, .raw (.ty T)] => (T = "int" ∨ T = "bool" ∨ T = "tuple" ∨ T = "list" ∨ T = "str") ∧ k (.dat (.bool (isiD T d))) M
  | _ => False
theorem kit_tab : ∀ a ∈ ["NoneType", "bool", "int", "str", "list", "tuple"], ∀ T ∈ ["int", "bool", "tuple", "list", "str"], kitB a T = some (a == T || (a == "bool" && T == "int")) := by decide +kernel
theorem kit_all {K : PySem.W.Frag} (d : Dt) (hd : ∀ kvs, d ≠ .dict kvs) {T : String} (hT : T = "int" ∨ T = "bool" ∨ T = "tuple" ∨ T = "list" ∨ T = "str") : PySem.W.kitOne K (.type (tyD d)) (.type T) = some (isiD T d) := by
  refine kit_ty (kit_tab (tyD d) ?_ T ?_)
  · cases d with
    | dict kvs => exact absurd rfl (hd kvs)
    | _ => simp [tyD]
  · rcases hT with rfl | rfl | rfl | rfl | rfl <;> simp
theorem ty_of_dq {K : PySem.W.Frag} {H : Hp} {x : V} {d : Dt} (r : Dq H x d) : TyX K H x (.type (tyD d)) := by
  cases r with
  | non => exact .base .non
  | bl b => exact .base (.bl b)
  | int i => exact .base (.int i)
  | str x => exact .base (.str x)
  | lst h _ => exact .base (.lst h)
  | tup h _ => exact .base (.tup h)
theorem dq_no_dict {H : Hp} {x : V} {d : Dt} (r : Dq H x d) : ∀ kvs, d ≠ .dict kvs := by
  rintro kvs rfl
  cases r
theorem sim_isi {K : PySem.W.Frag} : SimC (rIsi K) fIsi := by
  intro ss M k xs H Hc Q h r O q
  unfold fIsi at h
  split at h
  · obtain ⟨x, y, rfl, rx, ry⟩ := rps2 r
    have ry' : y = V.ty _ := ry
    subst ry'
    have rc := dp_ex O.ex rx
    exact ⟨x, _, _, _, _, rfl, .ty _, ty_of_dq rc, kit_all _ (dq_no_dict rc) h.1, q.dat O (.bl _) h.2⟩
  · exact h.elim
/-- list(xs): a new one, ours -/
def fList : DC := fun ss M k => match ss with
  | [.dat (.tuple ds)] => ds.length ≤ 16777216 ∧ ∀ p, M p = none → k (.own p) (put M p (.lst (ds.map .dat)))
  | [.dat (.list ds)] => ds.length ≤ 16777216 ∧ ∀ p, M p = none → k (.own p) (put M p (.lst (ds.map .dat)))
  | [.own a] => ∃ xs, M a = some (.lst xs) ∧ xs.length ≤ 16777216 ∧ ∀ p, M p = none → k (.own p) (put M p (.lst xs))
  | _ => False
abbrev rListA (K : PySem.W.Frag) : List V → Hp → VK → Prop := fun xs H Q => ∃ p ys, xs = [.ref p] ∧ (SqL K H p ys ∨ SqT K H p ys) ∧ ∀ l, H l = none → Q (.ref l) (upd H l (.lst ys))
theorem sim_list {K : PySem.W.Frag} : SimC (rListA K) fList := by
  intro ss M k xs H Hc Q h r O q
  unfold fList at h
  split at h
  · obtain ⟨x, rfl, rx⟩ := rps1 r
    obtain ⟨p, vs, rfl, h1, h2⟩ := dp_tup_inv rx
    exact ⟨p, vs, rfl, .inr (SqT.of (O.ex _ _ h1)), fun l hl => q.own O (dat_rps h2) (by rw [sizeLine_eq, List.length_map]; exact h.1) hl (h.2 l (O.freeM hl))⟩
  · obtain ⟨x, rfl, rx⟩ := rps1 r
    obtain ⟨p, vs, rfl, h1, h2⟩ := dp_lst_inv rx
    exact ⟨p, vs, rfl, .inl (SqL.of (O.ex _ _ h1)), fun l hl => q.own O (dat_rps h2) (by rw [sizeLine_eq, List.length_map]; exact h.1) hl (h.2 l (O.freeM hl))⟩
  · obtain ⟨x, rfl, rx⟩ := rps1 r
    obtain ⟨ys, e1, hz, h⟩ := h
    cases rx
    obtain ⟨_, vs, h1, h2⟩ := O.ob _ _ e1
    exact ⟨_, vs, rfl, .inl (SqL.of h1), fun l hl => q.own O h2 (by rw [sizeLine_eq]; exact hz) hl (h l (O.freeM hl))⟩
  · exact h.elim
/-- repr -/
def fRepr : DC := fun ss M k => match ss with
  | [.dat d] => d.showable = true ∧ d.shown.length ≤ 16777216 ∧ d.depth ≤ 40 ∧ k (.dat (.str d.shown)) M
  | _ => False
def rRepr (K : PySem.W.Frag) : List V → Hp → VK → Prop := fun xs H Q => ∃ x d, xs = [x] ∧ Dq H x d ∧ d.showable = true ∧ d.shown.length ≤ 16777216 ∧ d.depth ≤ 40 ∧ Q (.str d.shown) H
theorem sim_repr {K : PySem.W.Frag} : SimC (rRepr K) fRepr := by
  intro ss M k xs H Hc Q h r O q
  unfold fRepr at h
  split at h
  · obtain ⟨x, rfl, rx⟩ := rps1 r
    exact ⟨x, _, rfl, dp_ex O.ex rx, h.1, h.2.1, h.2.2.1, q.dat O (.str _) h.2.2.2⟩
  · exact h.elim
/-- all([..]) -/
def boolsOf : List Dt → Option (List Bool)
  | [] => some []
  | .bool b :: ds => (boolsOf ds).map (b :: ·)
  | _ => none
end
end DL
namespace DL
open PySem PySem.Spec PyProof.Rows L2
open Evl (Ex)
/-! ### defs, where no repr is under way around -/
/-- room, and no repr under way -/
structure Rm (k : Nat) (A : Around) : Prop where
  rm : Room k A
  gu : A.guards = some []
theorem Rm.mono {j k : Nat} {A : Around} (r : Rm k A) (h : j ≤ k) : Rm j A := ⟨r.rm.mono h, r.gu⟩
/-- a promise without heaps: arguments, what is ours, the way on; the way out by an error -/
abbrev Pr := List Sl → Mem → DK → Prop
structure Holds (P : Program) (w : World) (K : PySem.W.Frag) (mg : Str → Option Value) (base : Heap) (k : Nat) (f : Addr) (fd : FuncData) (ps : List Str) (pr : Pr) : Prop where
  len : ∀ ss M q, pr ss M q → ss.length = ps.length
  go : ∀ (A : Around) (outer : List Env) (s : Shared) (Hc : Hp) (args : Args) (us : List Value) (vs : List V) (ss : List Sl) (M : Mem) (H : Hp) (q : DK) (Q : VK), Rm k A → Env0 P w K mg base A outer s Hc →
    BindsTo s fd args (ps.zip us) → Vals vs us → Rps H ss vs → Own H Hc M → pr ss M q → On H q Q →
    codeAny (model P w) A (.call (.ref f) args) (CR CX0 outer P w Hc s Q fun _ _ _ => False) s
theorem Holds.mono {P : Program} {w : World} {K : PySem.W.Frag} {mg : Str → Option Value} {base : Heap} {j k : Nat} {f : Addr} {fd : FuncData} {ps : List Str} {pr : Pr} (F : Holds P w K mg base j f fd ps pr) (h : j ≤ k) : Holds P w K mg base k f fd ps pr :=
  ⟨F.len, fun A outer s Hc args us vs ss M H q Q r => F.go A outer s Hc args us vs ss M H q Q (r.mono h)⟩
theorem Holds.imp {P : Program} {w : World} {K : PySem.W.Frag} {mg : Str → Option Value} {base : Heap} {k : Nat} {f : Addr} {fd : FuncData} {ps : List Str} {pr pr' : Pr} (F : Holds P w K mg base k f fd ps pr) (h : ∀ ss M q, pr' ss M q → pr ss M q) : Holds P w K mg base k f fd ps pr' :=
  ⟨fun ss M q z => F.len ss M q (h _ _ _ z), fun A outer s Hc args us vs ss M H q Q a1 a2 a3 a4 a5 a6 a7 => F.go A outer s Hc args us vs ss M H q Q a1 a2 a3 a4 a5 a6 (h _ _ _ a7)⟩
section
variable {X : Cx} {e : Expr} {es : List Expr} {de : DE} {das : DA} {pos p : Pos} {x : Str} {k : Nat} {f : Addr} {fd : FuncData} {ps : List Str} {pr : Pr}
def dCall (pr : Pr) (das : DA) : DE := fun Γ M k => das Γ M fun ss M1 => pr ss M1 k
/-- the callee goes its way -/
theorem call_go {pins : List (Addr × Obj)} {σ : L2.St} {Hc H : Hp} {M : Mem} {s : Shared} {Q : VK} {q : DK} {us : List Value} {vs : List V} {ss : List Sl} (F : Holds X.prog X.w X.K X.mg X.base k f fd ps pr) (hr : Rm k X.A) (hb : Binds X.K fd ps [])
    (I : Inv X pins σ Hc s) (r : Vals vs us) (rs : Rps H ss vs) (O : Own H Hc M) (h : pr ss M q) (on : On H q Q) : wpAny (model X.prog X.w) X.A (call (.ref f) us) (EP X pins σ Q) X.xe s := by
  have e1 : us.length = ps.length := by rw [← r.length, rps_len rs]; exact F.len _ _ _ h
  have e2 : BindsTo s fd ⟨us, []⟩ (ps.zip us) := by
    have z := hb s us I.kIn (by rw [List.append_nil]; exact e1)
    rw [List.append_nil] at z
    exact z
  refine wpAny_call (codeAny_mono (F.go X.A X.stack s Hc ⟨us, []⟩ us vs ss M H q Q hr I.env0 e2 r rs O h on) fun res s' hq => ?_)
  match res, hq with
  | .ok (.ret u), hq => exact I.after hq
theorem xe_call (F : Holds X.prog X.w X.K X.mg X.base k f fd ps pr) (hr : Rm k X.A) (hm : X.mg x = some (.ref f)) (hk : PySem.W.keepIn X.K (.ref f) = true) (hb : Binds X.K fd ps []) (ha : XA X (e :: es) das) (hg : Gl X x := by rfl)
    (hdb : (x == ("__debug__" : Str)) = false := by decide) (he : starEach (e :: es) X.env = (false, eval e X.env) :: starEach es X.env := by rfl) (hpl : (backTo pos (starEach es X.env)).any (·.1) = false := by rfl) : XE X (.Call (.Name x p) (e :: es) [] pos) (dCall pr das) := by
  refine ⟨fun pins s σ Hc Q I ⟨Γ, M, H, q, hd, F', O, on⟩ => ?_⟩
  have ha' : PA X (e :: es) (LA das) := ha
  have hR : LA das σ Hc fun vs H1 => ∃ ss M1 H2, Rps H2 ss vs ∧ Own H2 H1 M1 ∧ pr ss M1 q ∧ On H2 q Q :=
    ⟨Γ, M, H, _, hd, F', O, fun vs ss M' H' Hc' e1 O1 r1 h1 => ⟨ss, M', H', r1, O1, h1, on.ex e1⟩⟩
  refine wpAny_Call_Name_kw (ld_glob I hg hm ?_ hdb)
  refine PySem.W.callWith_K (h₀ := X.base) I.ok.mod.kin hk (thn (ha'.run pos pins s σ Hc _ I hR) fun us s1 z => ?_) he hpl
  obtain ⟨vs, H1, I1, r, ss, M1, H2, z1, z2, z3, z4⟩ := z
  exact ⟨I1.kIn, call_go F hr hb I1 r z1 z2 z3 z4⟩
theorem xe_call0 (F : Holds X.prog X.w X.K X.mg X.base k f fd ps pr) (hr : Rm k X.A) (hm : X.mg x = some (.ref f)) (hk : PySem.W.keepIn X.K (.ref f) = true) (hb : Binds X.K fd ps []) (hg : Gl X x := by rfl)
    (hdb : (x == ("__debug__" : Str)) = false := by decide) : XE X (.Call (.Name x p) [] [] pos) (dCall pr dNil) := by
  refine ⟨fun pins s σ Hc Q I ⟨Γ, M, H, q, hd, F', O, on⟩ => ?_⟩
  refine wpAny_Call_Name_kw (ld_glob I hg hm ?_ hdb)
  refine PySem.W.callWith_K0 I.kIn hk ?_
  exact call_go F hr hb (us := []) (vs := []) (ss := []) I .nil .nil O hd on
end
def startF (N : List Str) (ss : List Sl) : Fm := ss.map some ++ List.replicate (N.length - ss.length) none
theorem fr_start {H : Hp} {ss : List Sl} {vs : List V} (N : List Str) (r : Rps H ss vs) : Fr H (L2.start N vs) (startF N ss) := by
  have hl := rps_len r
  refine ⟨by unfold L2.start startF; simp [hl], fun i s h => ?_⟩
  unfold startF at h
  by_cases hi : i < ss.length
  · rw [List.getElem?_append_left (by simpa using hi), List.getElem?_map] at h
    cases e : ss[i]? with
    | none => rw [e] at h; cases h
    | some s' =>
      rw [e] at h
      cases h
      obtain ⟨v, h1, h2⟩ := rps_get' r e
      refine ⟨v, ?_, h2⟩
      unfold L2.start
      rw [List.getElem?_append_left (by simpa [hl] using hi), List.getElem?_map, h1] <;> rfl
  · rw [List.getElem?_append_right (by simpa using hi), List.getElem?_replicate] at h
    split at h <;> cases h
section
variable {P : Program} {w : World} {K : PySem.W.Frag} {mg : Str → Option Value} {base : Heap}
/-- where a body stands -/
abbrev Bd (P : Program) (w : World) (K : PySem.W.Frag) (mg : Str → Option Value) (base : Heap) (N : List Str) (qual : Str) (st : Stmt) (f : Addr) (cdv : Value) (A : Around) (outer : List Env) (s : Shared) (H : Hp) : Cx :=
  (cxOf CX0 P w K mg base N qual (defScope st) f cdv A outer s H fun _ _ _ => False).nox
/-- a def by its body: a term of rules, its reading -/
theorem holds_of {nm qual : Str} {st : Stmt} {f : Addr} {fd : FuncData} {N ps : List Str} {k : Nat} {pr : Pr} {ds : DS} (F : Fun K nm qual st f fd) (S : FnScope N ps (defScope st)) (len : ∀ ss M q, pr ss M q → ss.length = ps.length)
    (body : ∀ (cdv : Value) (A : Around) (outer : List Env) (s : Shared) (H : Hp), Rm k (Bd P w K mg base N qual st f cdv A outer s H).A → XSs (Bd P w K mg base N qual st f cdv A outer s H) (defBody st) ds)
    (read : ∀ ss M q, pr ss M q → ds { nx := fun _ M' => q (.dat .none) M', rt := q } (startF N ss) M) : Holds P w K mg base (k + 1) f fd ps pr := by
  obtain ⟨oc, od, kV, doc, pm, an, cdv, ct, osl, rfl, lk, hcd⟩ := F.ex
  refine ⟨len, fun A outer s Hc args us vs ss M H q Q hr e0 hb r rs O hp on => ?_⟩
  have gu2 : (A.deeper (envOfC qual (defScope st) s.heap.objs.size f cdv)).guards = some [] := hr.gu
  -- the library's rule at this very caller: its room, and the guards that it does not speak of
  have KX : K.In s.heap := e0.mod.kin.keeps fun b o e => (e0.bs b o e).1
  have lim : s.heap.NoLimit := e0.mod.nolimit.keeps fun b o z => (e0.bs b o z).1
  have hl : vs.length = ps.length := by rw [rps_len rs]; exact len _ _ _ hp
  have kinds : ∀ y ∈ ps.zip us, (defScope st).names.lookup y.1 = some .local ∨ ((defScope st).names.lookup y.1 = some .cell ∧ ((cellsFrom (s.heap.objs.size + 1) (defScope st).names []).lookup y.1).isSome = true) := by
    rintro ⟨n, v⟩ hy
    rcases S.par n (List.of_mem_zip hy).1 with z | z
    · exact .inl z
    · exact .inr ⟨z, PySem.W.cellsFrom_some _ _ _ (.inl z)⟩
  refine codeAny_call_function hr.rm.depth (KX _ _ lk) rfl S.co S.gen rfl (PySem.W.codeRec_of KX hcd) (hb _ _ _ _ (wpAny_newFunctionEnv_cells S.kind kinds fun env he s1 z => ?_))
  subst he
  refine ⟨lim.keeps z.toInCall.keep, codeAny_func ?_⟩
  have B := body cdv A outer s Hc ⟨hr.rm.deeper _, gu2⟩
  have I : Inv (cxOf CX0 P w K mg base N qual (defScope st) f cdv A outer s Hc fun _ _ _ => False) [] (L2.start N vs) Hc s1 := inv_start S hr.rm.hd e0 hl r z
  have B' : PSs (cxOf CX0 P w K mg base N qual (defScope st) f cdv A outer s Hc fun _ _ _ => False) (defBody st) (LS ds) := B.nox
  have here : LS ds { nx := fun _ H' => Q .non H', rt := Q } (L2.start N vs) Hc := ⟨_, M, H, _, read ss M q hp, fr_start N rs, O,
    ⟨fun σ' Γ' M' H' Hc' e1 _ O1 h1 => on .non (.dat .none) M' H' Hc' e1 O1 .non h1, on, fun _ _ _ _ _ _ _ _ h1 => h1.elim, fun _ _ _ _ _ _ _ _ h1 => h1.elim⟩⟩
  refine wpAny_mono (B'.run [] s1 (L2.start N vs) Hc _ I here) (fun fl s' hs => ?_) fun _ _ z => z
  match fl, hs with
  | .ret u, ⟨v, _, H', J, rv, h1⟩ => exact ⟨v, H', J.os, J.bare, J.base, J.hok, rv, h1⟩
  | .next, ⟨_, H', J, h1⟩ => exact ⟨.non, H', J.os, J.bare, J.base, J.hok, rfl, h1⟩
  | .brk, ⟨_, _, _, h1⟩ => exact h1.elim
  | .cont, ⟨_, _, _, h1⟩ => exact h1.elim
end
/-! ### repr -/
section
variable {X : Cx}
theorem call_repr (hg : X.A.guards = some []) (hu : X.A.units + 64 < cLine) : CallR X (.builtin "repr") (rRepr X.K) := by
  intro pins s σ H xs us Q I r h
  obtain ⟨x, d, rfl, hd, h1, h2, h3, q⟩ := h
  obtain ⟨u, rfl, ru⟩ := vals1 r
  have h2' : d.shown.length ≤ sizeLine := by rw [sizeLine_eq]; exact h2
  obtain ⟨as, rd⟩ := Dp.reads I d x u (dq_dp hd) ru
  have big : ∀ a, u = .ref a → (∀ kvs, d ≠ .dict kvs) → wpAny (model X.prog X.w) X.A (call (.builtin "repr") [u]) (EP X pins σ Q) X.xe s := fun a e nd => by
    subst e
    refine repr_of_reads' rd h1 (fun z => ?_) hg (by omega) (fun _ _ z => z) (fun h' u tk kp => ⟨.str _, H, I.kept (t' := tk) kp, ⟨_, rfl⟩, q⟩) h2'
    exact absurd z (by rw [nodict hd]; decide)
  cases hd with
  | non => cases ru; exact PySem.P.repr_of_none ⟨.str _, H, I.tok _, ⟨_, rfl⟩, q⟩
  | bl b => cases ru; exact PySem.P.repr_of_bool ⟨.str _, H, I.tok _, ⟨_, rfl⟩, q⟩
  | int i =>
    obtain ⟨t, rfl⟩ := ru
    exact PySem.P.repr_of_int (by simpa [PyData.showable] using h1) ⟨.str _, H, I.tok _, ⟨_, rfl⟩, q⟩
  | str z =>
    obtain ⟨t, rfl⟩ := ru
    exact PySem.P.repr_of_str ⟨.str _, H, I.tok _, ⟨_, rfl⟩, q⟩ h2'
  | lst _ _ => exact big _ ru fun _ z => by cases z
  | tup _ _ => exact big _ ru fun _ z => by cases z
where
  nodict {H : Hp} {x : V} {d : Dt} (h : Dq H x d) : d.hasDict = false := nd1 d x h
  nd1 {H : Hp} : ∀ (d : Dt) (x : V), Dq H x d → d.hasDict = false
    | .none, _, _ => rfl
    | .bool _, _, _ => rfl
    | .int _, _, _ => rfl
    | .str _, _, _ => rfl
    | .list ds, _, h => by cases h with | lst _ ha => unfold PyData.hasDict; exact nd2 ds _ ha
    | .tuple ds, _, h => by cases h with | tup _ ha => unfold PyData.hasDict; exact nd2 ds _ ha
    | .dict _, _, h => by cases h
  nd2 {H : Hp} : ∀ (ds : List Dt) (xs : List V), DqAll H xs ds → PyData.hasDictAll ds = false
    | [], _, _ => rfl
    | d :: ds, _, h => by cases h with | cons h1 h2 => unfold PyData.hasDictAll; rw [nd1 d _ h1, nd2 ds _ h2] <;> rfl
end
end DL
namespace DL
open PySem PySem.Spec PyProof.Rows L2
open Evl (Ex)
section
variable {X : Cx} {e a b c : Expr} {es : List Expr} {de da db : DE} {das : DA} {pos p : Pos} {st : Stmt} {rest body : List Stmt} {d1 d2 : DS} {x : Str}
/-! ### statements -/
def dNext : DS := fun D Γ M => D.nx Γ M
def dSeq (t u : DS) : DS := fun D Γ M => t { D with nx := u D } Γ M
theorem OnD.seq {H : Hp} {D : DEnds} {E : Ends} {u : TS} {v : DS} (o : OnD H D E) (h : SimS u v) : OnD H { D with nx := v D } { E with nx := u E } :=
  ⟨fun σ' Γ' M' H' Hc' e1 F1 O1 h1 => h Γ' M' D σ' H' Hc' E h1 F1 O1 (o.ex e1), o.rt, o.bk, o.ct⟩
theorem xss_nil : XSs X [] dNext := xss_of pss_nil fun Γ M D σ H Hc E h F O q => q.nx σ Γ M H Hc (Evl.Ex.refl H) F O h
theorem xss_cons (h1 : XS X st d1) (h2 : XSs X rest d2) : XSs X (st :: rest) (dSeq d1 d2) := xss_of (pss_cons h1 h2) fun Γ M D σ H Hc E h F O q => simLS Γ M _ σ H Hc _ h F O (q.seq simLS)
theorem xss_one (h1 : XS X st d1) : XSs X [st] d1 := pss_one h1
/-- a statement, then the rest from a word between them -/
def dCut (t u : DS) : DS := fun D Γ M => ∃ Mid : Fm → Mem → Prop, t { D with nx := Mid } Γ M ∧ ∀ Γ' M', Mid Γ' M' → u D Γ' M'
theorem xss_cut (h1 : XS X st d1) (h2 : XSs X rest d2) : XSs X (st :: rest) (dCut d1 d2) := xss_of (pss_cons h1 h2) fun Γ M D σ H Hc E h F O q => by
  obtain ⟨Mid, h, hm⟩ := h
  exact simLS Γ M _ σ H Hc _ h F O ⟨fun σ' Γ' M' H' Hc' e1 F1 O1 g => simLS Γ' M' D σ' H' Hc' E (hm Γ' M' g) F1 O1 (q.ex e1), q.rt, q.bk, q.ct⟩
def dDrop (de : DE) : DS := fun D Γ M => de Γ M fun _ M1 => D.nx Γ M1
theorem xs_expr (he : XE X e de) (hs : swapsWith e none pos.line X.env = pure false := by rfl) : XS X (.Expr e pos) (dDrop de) := xs_of (ps_expr he hs) fun Γ M D σ H Hc E h F O q =>
  simLE Γ M _ σ H Hc _ h F O fun v s M1 H1 Hc1 e1 O1 r1 h1 => q.nx σ Γ M1 H1 Hc1 e1 (F.ex e1) O1 h1
def dRet (de : DE) : DS := fun D Γ M => de Γ M D.rt
theorem xs_ret (he : XE X e de) : XS X (.Return (some e) pos) (dRet de) := xs_of (ps_ret he) fun Γ M D σ H Hc E h F O q => simLE Γ M _ σ H Hc _ h F O q.rt
def dRetN : DS := fun D _ M => D.rt (.dat .none) M
theorem xs_retN : XS X (.Return none pos) dRetN := xs_of ps_retN fun Γ M D σ H Hc E h F O q => q.rt .non (.dat .none) M H Hc (Evl.Ex.refl H) O .non h
def dPass : DS := fun D Γ M => D.nx Γ M
theorem xs_pass : XS X (.Pass pos) dPass := xs_of ps_pass fun Γ M D σ H Hc E h F O q => q.nx σ Γ M H Hc (Evl.Ex.refl H) F O h
def dBrk : DS := fun D Γ M => D.bk Γ M
theorem xs_brk : XS X (.Break pos) dBrk := xs_of ps_break fun Γ M D σ H Hc E h F O q => q.bk σ Γ M H Hc (Evl.Ex.refl H) F O h
def dCt : DS := fun D Γ M => D.ct Γ M
theorem xs_ct : XS X (.Continue pos) dCt := xs_of ps_continue fun Γ M D σ H Hc E h F O q => q.ct σ Γ M H Hc (Evl.Ex.refl H) F O h
def dIfS (t : DB) (u v : DS) : DS := fun D Γ M => t Γ M fun b M1 => (b = true → u D Γ M1) ∧ (b = false → v D Γ M1)
theorem xs_if {ba : DB} {sa sb : List Stmt} (hc : XB X c ba) (ha : XSs X sa d1) (hb : XSs X sb d2) : XS X (.If c sa sb pos) (dIfS ba d1 d2) := xs_of (ps_if hc ha hb) fun Γ M D σ H Hc E h F O q =>
  simLB Γ M _ σ H Hc _ h F O fun v M1 H1 Hc1 e1 O1 h1 => by
    cases v with
    | true => rw [if_pos rfl]; exact simLS Γ M1 D σ H1 Hc1 E (h1.1 rfl) (F.ex e1) O1 (q.ex e1)
    | false => rw [if_neg Bool.false_ne_true]; exact simLS Γ M1 D σ H1 Hc1 E (h1.2 rfl) (F.ex e1) O1 (q.ex e1)
/-! ### targets -/
abbrev DG := Sl → Fm → Mem → (Fm → Mem → Prop) → Prop
def LG (g : DG) : TG := fun v σ Hc Q => ∃ s Γ M H k, g s Γ M k ∧ Rp H s v ∧ Fr H σ Γ ∧ Own H Hc M ∧ OnF H k Q
abbrev XG (X : Cx) (tg : Expr) (g : DG) : Prop := PG X tg (LG g)
def gN (i : Nat) : DG := fun s Γ M k => k (Γ.set i (some s)) M
theorem pg_of {tg : Expr} {t t' : TG} (h : PG X tg t) (s : ∀ v σ Hc Q, t' v σ Hc Q → t v σ Hc Q) : PG X tg t' := by
  obtain ⟨h⟩ := h
  exact ⟨by first | exact fun a b c d e f g i j k => h a b c d e f g i j (s _ _ _ _ k) | exact fun a b c d e f g i j => h a b c d e f g i (s _ _ _ _ j) | exact fun a b c d e f g i => h a b c d e f g (s _ _ _ _ i) | exact fun a b c d e f g i j k l => h a b c d e f g i j k (s _ _ _ _ l)⟩
theorem xg_name {i : Nat} (h : PG X e (gName i)) : XG X e (gN i) := pg_of h fun v σ Hc Q ⟨s, Γ, M, H, k, h1, r, F, O, q⟩ => q _ _ M H Hc (Evl.Ex.refl H) (F.set r) O h1
abbrev DGs := List Dt → Fm → Mem → (Fm → Mem → Prop) → Prop
def LGs (g : DGs) : TGs := fun vs σ Hc Q => ∃ ds Γ M H k, g ds Γ M k ∧ DqAll H vs ds ∧ Fr H σ Γ ∧ Own H Hc M ∧ OnF H k Q
def gT (n : Nat) (g : DGs) : DG := fun s Γ M k => match s with
  | .dat (.tuple ds) => ds.length = n ∧ g ds Γ M k
  | _ => False
def gsN : DGs := fun ds Γ M k => match ds with
  | [] => k Γ M
  | _ => False
def gsC (g : DG) (gs : DGs) : DGs := fun ds Γ M k => match ds with
  | [] => False
  | d :: ds => g (.dat d) Γ M fun Γ1 M1 => gs ds Γ1 M1 k
theorem pgs_of {tg : List Expr} {t t' : TGs} (h : PGs X tg t) (s : ∀ v σ Hc Q, t' v σ Hc Q → t v σ Hc Q) : PGs X tg t' := by
  obtain ⟨h⟩ := h
  exact ⟨by first | exact fun a b c d e f g i j k => h a b c d e f g i j (s _ _ _ _ k) | exact fun a b c d e f g i j => h a b c d e f g i (s _ _ _ _ j) | exact fun a b c d e f g i => h a b c d e f g (s _ _ _ _ i) | exact fun a b c d e f g i j k l => h a b c d e f g i j k (s _ _ _ _ l)⟩
abbrev XGs (X : Cx) (tg : List Expr) (g : DGs) : Prop := PGs X tg (LGs g)
theorem xgs_nil : XGs X [] gsN := pgs_of pgs_nil fun v σ Hc Q ⟨ds, Γ, M, H, k, h1, r, F, O, q⟩ => by
  cases r with
  | nil => exact ⟨rfl, q _ _ M H Hc (Evl.Ex.refl H) F O h1⟩
  | cons _ _ => exact h1.elim
theorem xgs_cons {t : Expr} {ts : List Expr} {g : DG} {gs : DGs} (h : PGs X (t :: ts) (gCons (LG g) (LGs gs))) : XGs X (t :: ts) (gsC g gs) := pgs_of h fun v σ Hc Q ⟨ds, Γ, M, H, k, h1, r, F, O, q⟩ => by
  cases r with
  | nil => exact h1.elim
  | @cons v vs d ds r1 r2 =>
    refine ⟨v, vs, rfl, .dat d, Γ, M, H, _, h1, r1, F, O, fun σ' Γ' M' H' Hc' e1 F1 O1 h2 => ?_⟩
    exact ⟨ds, Γ', M', H', k, h2, dps_ex e1 r2, F1, O1, q.ex e1⟩
theorem xg_tup {n : Nat} {t : Expr} {gs : DGs} (h : PG X t (gTup X.K n (LGs gs))) : XG X t (gT n gs) := pg_of h fun v σ Hc Q ⟨s, Γ, M, H, k, h1, r, F, O, q⟩ => by
  unfold gT at h1
  split at h1
  · obtain ⟨a, vs, rfl, h2, h3⟩ := dp_tup_inv r
    exact ⟨a, vs, rfl, SqT.of (O.ex _ _ h2), by rw [dps_len h3]; exact h1.1, _, Γ, M, H, k, h1.2, h3, F, O, q⟩
  · exact h1.elim
def dAsg (de : DE) (g : DG) : DS := fun D Γ M => de Γ M fun s M1 => g s Γ M1 D.nx
theorem sim_asg {te : TE} {g : DG} (h : SimE te de) : SimS (tAsg te (LG g)) (dAsg de g) := fun Γ M D σ H Hc E hd F O q =>
  h Γ M _ σ H Hc _ hd F O fun v s M1 H1 Hc1 e1 O1 r1 h1 => ⟨s, Γ, M1, H1, _, h1, r1, F.ex e1, O1, q.nx.ex e1⟩
theorem xs_asg {st : Stmt} {g : DG} (h : PS X st (tAsg (LE de) (LG g))) : XS X st (dAsg de g) := xs_of h (sim_asg simLE)
/-- y = .. -/
theorem xs_asgN {st : Stmt} {te : TE} {i : Nat} (h : PS X st (tAsg te (gName i))) (s : SimE te de) : XS X st (dAsg de (gN i)) := xs_of h fun Γ M D σ H Hc E hd F O q => s Γ M _ σ H Hc _ hd F O fun v s M1 H1 Hc1 e1 O1 r1 h1 => q.nx _ _ M1 H1 Hc1 e1 ((F.ex e1).set r1) O1 h1
/-- o[i] = e: a list of ours -/
def dSetL (de do_ di : DE) : DS := fun D Γ M => de Γ M fun s M1 => do_ Γ M1 fun o M2 => di Γ M2 fun i M3 => ∃ a k xs j, o = .own a ∧ i = .dat (.int k) ∧ M3 a = some (.lst xs) ∧ ixN xs.length k = some j ∧ D.nx Γ (put M3 a (.lst (xs.set j s)))
theorem xs_setL {o i : Expr} {do_ di : DE} {p2 : Pos} (h : PS X (.Assign [.Subscript o i p2] e pos) (tAsg (LE de) (gSub (LE do_) (LE di) rSetL))) : XS X (.Assign [.Subscript o i p2] e pos) (dSetL de do_ di) := xs_of h fun Γ M D σ H Hc E hd F O q => by
  refine simLE Γ M _ σ H Hc _ hd F O fun v s M1 H1 Hc1 e1 O1 r1 h1 => ?_
  refine simLE Γ M1 _ σ H1 Hc1 _ h1 (F.ex e1) O1 fun vo so M2 H2 Hc2 e2 O2 r2 h2 => ?_
  refine simLE Γ M2 _ σ H2 Hc2 _ h2 (F.ex (e1.trans e2)) O2 fun vi si M3 H3 Hc3 e3 O3 r3 h3 => ?_
  obtain ⟨a, k, xs, j, rfl, rfl, hm, hj, hn⟩ := h3
  cases r2
  obtain ⟨hz, vs, g1, g2⟩ := O3.ob _ _ hm
  refine ⟨a, vs, k, j, rfl, dp_int_inv r3, g1, by rw [rps_len g2]; exact hj, ?_⟩
  exact q.nx σ Γ _ H3 _ (e1.trans (e2.trans e3)) (F.ex (e1.trans (e2.trans e3))) (O3.turn (u := .lst _) hm ⟨by rw [List.length_set]; exact hz, _, rfl, rps_set (rp_ex (e2.trans e3) r1) j g2⟩) hn
/-! ### methods of lists of ours -/
def dBM (f : Sl → List Sl → Mem → DK → Prop) (do_ : DE) (das : DA) : DE := fun Γ M k => do_ Γ M fun o M1 => das Γ M1 fun ss M2 => f o ss M2 k
def SimM (K : PySem.W.Frag) (T : String) (r : V → List V → Hp → VK → Prop) (f : Sl → List Sl → Mem → DK → Prop) : Prop := (∀ s ss M k x xs H Hc Q, f s ss M k → Rp H s x → Rps H ss xs → Own H Hc M → On H k Q → r x xs Hc Q)
/-- what f takes is of the type's own -/
def OfTy (T : String) (s : Sl) : Prop := match s with
  | .dat (.list _) => T = "list"
  | .dat (.str _) => T = "str"
  | .own _ => T = "list"
  | _ => False
def dBM' (T : String) (f : Sl → List Sl → Mem → DK → Prop) (do_ : DE) (das : DA) : DE := fun Γ M k => do_ Γ M fun o M1 => (∃ xs, IsL M1 o xs) ∧ das Γ M1 fun ss M2 => f o ss M2 k
theorem xe_bmL {r : V → List V → Hp → VK → Prop} {f : Sl → List Sl → Mem → DK → Prop} {do_ : DE} {ex : Expr} (hf : SimM X.K "list" r f) (h : PE X ex (tBM X.K "list" r (LE do_) (LA das))) : XE X ex (dBM' "list" f do_ das) := xe_of h fun Γ M k σ H Hc Q hd F O q => by
  refine simLE Γ M _ σ H Hc _ hd F O fun v s M1 H1 Hc1 e1 O1 r1 h1 => ?_
  obtain ⟨⟨xs, l⟩, h1⟩ := h1
  obtain ⟨a, vs, rfl, g1, _⟩ := l.at_ O1 r1
  refine ⟨.inl ⟨rfl, vs, SqL.of g1⟩, ?_⟩
  refine simLA Γ M1 _ σ H1 Hc1 _ h1 (F.ex e1) O1 fun ws ss M2 H2 Hc2 e2 O2 r2 h2 => ?_
  exact hf s ss M2 k _ ws H2 Hc2 Q h2 (rp_ex e2 r1) r2 O2 (q.ex (e1.trans e2))
def fApp : Sl → List Sl → Mem → DK → Prop := fun o ss M k => match o, ss with
  | .own a, [s] => ∃ xs, M a = some (.lst xs) ∧ xs.length < 16777216 ∧ k (.dat .none) (put M a (.lst (xs ++ [s])))
  | _, _ => False
theorem sim_app {K : PySem.W.Frag} : SimM K "list" rAppend fApp := by
  intro s ss M k x xs H Hc Q h rx rs O q
  unfold fApp at h
  split at h
  · obtain ⟨ys, hm, hz, h⟩ := h
    obtain ⟨y, rfl, ry⟩ := rps1 rs
    cases rx
    obtain ⟨z, vs, g1, g2⟩ := O.ob _ _ hm
    refine ⟨_, vs, y, rfl, rfl, g1, by rw [rps_len g2, sizeLine_eq]; exact hz, ?_⟩
    exact q _ (.dat .none) _ H _ (Evl.Ex.refl H) (O.turn (u := .lst _) hm ⟨by rw [List.length_append, sizeLine_eq]; exact hz, _, rfl, rps_app g2 (.cons ry .nil)⟩) Dq.non h
  · exact h.elim
/-! ### loops -/
/-- for g in (a list): the word Inv of the turn, what the frame and ours hold -/
def dForL (de : DE) (g : DG) (tb : DS) : DS := fun D Γ M => de Γ M fun s M1 => ∃ xs, IsL M1 s xs ∧ ∃ Inv : Nat → Fm → Mem → Prop, Inv 0 Γ M1 ∧ (∀ i Γ' M', i ≤ xs.length → Inv i Γ' M' → IsL M' s xs) ∧
  (∀ i x Γ' M', xs[i]? = some x → Inv i Γ' M' → g x Γ' M' fun Γ2 M2 => tb { D with nx := Inv (i + 1), ct := Inv (i + 1), bk := D.nx } Γ2 M2) ∧ ∀ Γ' M', Inv xs.length Γ' M' → D.nx Γ' M'
theorem OnD.loop {H : Hp} {D : DEnds} {E : Ends} {I : Fm → Mem → Prop} {P : L2.St → Hp → Prop} (o : OnD H D E) (h : OnF H I P) : OnD H { D with nx := I, ct := I, bk := D.nx } { E with nx := P, ct := P, bk := E.nx } := ⟨h, o.rt, o.nx, h⟩
theorem sim_forL {K : PySem.W.Frag} {te : TE} {g : DG} {tb : TS} (h : SimE te de) (hb : SimS tb d1) : SimS (tFor (iList K te) (LG g) tb) (dForL de g d1) := fun Γ M D σ H Hc E hd F O q => by
  refine h Γ M _ σ H Hc _ hd F O fun v s M1 H1 Hc1 e1 O1 r1 h1 => ?_
  obtain ⟨xs, l, W, w0, wl, ws, wd⟩ := h1
  obtain ⟨a, vs, rfl, g1, g2⟩ := l.at_ O1 r1
  refine ⟨a, rfl, ⟨vs, SqL.of g1⟩, fun i m σ' Hc' => m = xs.length - i ∧ i ≤ xs.length ∧ ∃ Γ' M' H', Ex H1 H' ∧ Fr H' σ' Γ' ∧ Own H' Hc' M' ∧ W i Γ' M', ⟨_, rfl, Nat.zero_le _, Γ, M1, H1, Evl.Ex.refl _, F.ex e1, O1, w0⟩, ?_⟩
  rintro i m σ' Hc' ⟨rfl, hi, Γ', M', H', e2, F2, O2, w⟩
  obtain ⟨a', vs', e3, g3, g4⟩ := (wl i Γ' M' hi w).at_ O2 (rp_ex e2 r1)
  cases e3
  have hl := rps_len g4
  rcases Nat.lt_or_ge i xs.length with hlt | hge
  · obtain ⟨x0, hx0⟩ : ∃ x0, vs'[i]? = some x0 := ⟨vs'[i]'(by omega), List.getElem?_eq_getElem (by omega)⟩
    obtain ⟨sx, hs, rx⟩ := rps_get g4 hx0
    refine .inr ⟨⟨vs', x0, SqL.of g3, hx0⟩, fun σ2 Hc2 => ∃ Γ2 M2 H2, Ex H1 H2 ∧ Fr H2 σ2 Γ2 ∧ Own H2 Hc2 M2 ∧ W (i + 1) Γ2 M2, fun σ2 Hc2 z => ⟨xs.length - (i + 1), by omega, rfl, by omega, z⟩, fun x Hy y => ?_⟩
    obtain ⟨rfl, y⟩ := y
    have ex : x = x0 := Option.some.inj ((y vs' (SqL.of g3)).symm.trans hx0)
    subst ex
    refine ⟨sx, Γ', M', H', _, ws i sx Γ' M' hs w, rx, F2, O2, fun σ2 Γ2 M2 H2 Hc2 e3 F3 O3 h3 => ?_⟩
    refine hb Γ2 M2 _ σ2 H2 Hc2 _ h3 F3 O3 ((q.ex (e1.trans (e2.trans e3))).loop fun σ4 Γ4 M4 H4 Hc4 e4 F4 O4 h4 => ?_)
    exact ⟨Γ4, M4, H4, e2.trans (e3.trans e4), F4, O4, h4⟩
  · have ei : i = xs.length := Nat.le_antisymm hi hge
    subst ei
    exact .inl ⟨⟨vs', SqL.of g3, by omega⟩, q.nx σ' Γ' M' H' Hc' (e1.trans e2) F2 O2 (wd Γ' M' w)⟩
theorem xs_forL {tg : Expr} {g : DG} (h : PS X (.For tg e body [] pos) (tFor (iList X.K (LE de)) (LG g) (LS d1))) : XS X (.For tg e body [] pos) (dForL de g d1) := xs_of h (sim_forL simLE simLS)
end
end DL
namespace DL
open PySem PySem.Spec PyProof.Rows L2
open Evl (Ex)
section
variable {X : Cx} {e a b c : Expr} {es : List Expr} {de da db : DE} {das : DA} {pos p : Pos} {st : Stmt} {rest body : List Stmt} {d1 d2 : DS} {x : Str}
/-! ### for x in range(n), range(a, b) -/
def rg1 (ss : List Sl) : Option (Int × Int) := match ss with
  | [.dat (.int j)] => some (0, j)
  | _ => none
def rg2 (ss : List Sl) : Option (Int × Int) := match ss with
  | [.dat (.int i), .dat (.int j)] => some (i, j)
  | _ => none
def dForR (rgEnds : List Sl → Option (Int × Int)) (da : DA) (g : DG) (tb : DS) : DS := fun D Γ M => da Γ M fun ss M1 => ∃ lo hi, rgEnds ss = some (lo, hi) ∧ (-(2 ^ 62) ≤ lo ∧ lo < 2 ^ 62 ∧ -(2 ^ 62) ≤ hi ∧ hi < 2 ^ 62) ∧ ∃ Inv : Nat → Fm → Mem → Prop, Inv 0 Γ M1 ∧
  (∀ (i : Nat) Γ' M', i < (hi - lo).toNat → Inv i Γ' M' → g (.dat (.int (lo + i))) Γ' M' fun Γ2 M2 => tb { D with nx := Inv (i + 1), ct := Inv (i + 1), bk := D.nx } Γ2 M2) ∧ ∀ Γ' M', Inv (hi - lo).toNat Γ' M' → D.nx Γ' M'
theorem loop_rng {lo : Int} {n : Nat} {g : DG} {tb : TS} (hb : SimS tb d1) {D : DEnds} {E : Ends} {σ : L2.St} {H1 Hc1 : Hp} {Γ : Fm} {M1 : Mem} (F : Fr H1 σ Γ) (O : Own H1 Hc1 M1) (q : OnD H1 D E) (W : Nat → Fm → Mem → Prop) (w0 : W 0 Γ M1)
    (ws : ∀ (i : Nat) Γ' M', i < n → W i Γ' M' → g (.dat (.int (lo + i))) Γ' M' fun Γ2 M2 => d1 { D with nx := W (i + 1), ct := W (i + 1), bk := D.nx } Γ2 M2) (wd : ∀ Γ' M', W n Γ' M' → D.nx Γ' M') :
    ∃ W : Nat → Nat → L2.St → Hp → Prop, (∃ m, W 0 m σ Hc1) ∧ ∀ i m σ H, W i m σ H → ((Itr lo n).stop i H ∧ E.nx σ H) ∨
      ((Itr lo n).go i H ∧ ∃ N : L2.St → Hp → Prop, (∀ σ' H', N σ' H' → ∃ m', m' < m ∧ W (i + 1) m' σ' H') ∧ ∀ x H', (Itr lo n).yld i H x H' → LG g x σ H' fun σ2 H2 => tb { E with nx := N, ct := N, bk := E.nx } σ2 H2) := by
  refine for_range (fun i σ' Hc' => ∃ Γ' M' H', Ex H1 H' ∧ Fr H' σ' Γ' ∧ Own H' Hc' M' ∧ W i Γ' M') ⟨Γ, M1, H1, Evl.Ex.refl _, F, O, w0⟩ ?_ ?_
  · rintro i σ' Hc' hi ⟨Γ', M', H', e2, F2, O2, w⟩
    refine ⟨.dat (.int (lo + i)), Γ', M', H', _, ws i Γ' M' hi w, Dq.int _, F2, O2, fun σ2 Γ2 M2 H2 Hc2 e3 F3 O3 h3 => ?_⟩
    refine hb Γ2 M2 _ σ2 H2 Hc2 _ h3 F3 O3 ((q.ex (e2.trans e3)).loop fun σ4 Γ4 M4 H4 Hc4 e4 F4 O4 h4 => ?_)
    exact ⟨Γ4, M4, H4, e2.trans (e3.trans e4), F4, O4, h4⟩
  · rintro σ' Hc' ⟨Γ', M', H', e2, F2, O2, w⟩
    exact q.nx σ' Γ' M' H' Hc' e2 F2 O2 (wd Γ' M' w)
theorem xs_forR1 {tg a : Expr} {g : DG} {p1 p2 : Pos} (h : PS X (.For tg (.Call (.Name "range" p1) [a] [] p2) body [] pos) (tFor (iRng1 (LA das)) (LG g) (LS d1))) : XS X (.For tg (.Call (.Name "range" p1) [a] [] p2) body [] pos) (dForR rg1 das g d1) := xs_of h fun Γ M D σ H Hc E hd F O q => by
  refine simLA Γ M _ σ H Hc _ hd F O fun vs ss M1 H1 Hc1 e1 O1 r1 h1 => ?_
  obtain ⟨lo, hi, er, hz, W, w0, ws, wd⟩ := h1
  unfold rg1 at er
  split at er
  · cases er
    obtain ⟨v, rfl, rv⟩ := rps1 r1
    refine ⟨hi, by rw [dp_int_inv rv], hz.2.2.1, hz.2.2.2, ?_⟩
    rw [Int.sub_zero] at ws wd
    exact loop_rng simLS (F.ex e1) O1 (q.ex e1) W w0 ws wd
  · cases er
theorem xs_forR2 {tg a b : Expr} {g : DG} {p1 p2 : Pos} (h : PS X (.For tg (.Call (.Name "range" p1) [a, b] [] p2) body [] pos) (tFor (iRng2 (LA das)) (LG g) (LS d1))) : XS X (.For tg (.Call (.Name "range" p1) [a, b] [] p2) body [] pos) (dForR rg2 das g d1) := xs_of h fun Γ M D σ H Hc E hd F O q => by
  refine simLA Γ M _ σ H Hc _ hd F O fun vs ss M1 H1 Hc1 e1 O1 r1 h1 => ?_
  obtain ⟨lo, hi, er, hz, W, w0, ws, wd⟩ := h1
  unfold rg2 at er
  split at er
  · cases er
    obtain ⟨v, u, rfl, rv, ru⟩ := rps2 r1
    exact ⟨lo, hi, by rw [dp_int_inv rv, dp_int_inv ru], hz, loop_rng simLS (F.ex e1) O1 (q.ex e1) W w0 ws wd⟩
  · cases er
/-! ### comprehensions -/
def wipeF (Γ : Fm) : List Nat → Fm
  | [] => Γ
  | v :: vs => (wipeF Γ vs).set v none
theorem Fr.forget {H : Hp} {σ : L2.St} {Γ : Fm} (F : Fr H σ Γ) (i : Nat) : Fr H (σ.set i none) (Γ.set i none) := by
  refine ⟨by rw [List.length_set, List.length_set, F.len], fun j s h => ?_⟩
  by_cases hj : i = j
  · subst hj
    by_cases hl : i < Γ.length
    · rw [List.getElem?_set_self hl] at h; cases h
    · rw [List.getElem?_eq_none (by rw [List.length_set]; omega)] at h; cases h
  · rw [List.getElem?_set_ne hj] at h ⊢
    exact F.sl j s h
theorem Fr.wipe {H : Hp} {σ : L2.St} {Γ : Fm} (F : Fr H σ Γ) : ∀ vs, Fr H (wipe σ vs) (wipeF Γ vs)
  | [] => F
  | v :: vs => (F.wipe vs).forget v
theorem wipe_none {σ : L2.St} : ∀ {vs : List Nat} {i : Nat}, i ∈ vs → i < σ.length → (wipe σ vs)[i]? = some none
  | v :: vs, i, h, hl => by
    unfold L2.wipe
    by_cases e : v = i
    · subst e
      rw [List.getElem?_set_self (by rw [wipe_length]; exact hl)]
    · rw [List.getElem?_set_ne e]
      rcases List.mem_cons.mp h with z | z
      · exact absurd z.symm e
      · exact wipe_none z hl
theorem wipe_ext {σ τ : L2.St} (vs : List Nat) (hl : σ.length = τ.length) (h : ∀ i, i ∉ vs → σ[i]? = τ[i]?) : wipe σ vs = wipe τ vs := by
  refine List.ext_getElem? fun i => ?_
  by_cases hi : i ∈ vs
  · by_cases hz : i < σ.length
    · rw [wipe_none hi hz, wipe_none hi (hl ▸ hz)]
    · rw [List.getElem?_eq_none (by rw [wipe_length]; omega), List.getElem?_eq_none (by rw [wipe_length]; omega)]
  · rw [wipe_out hi, wipe_out hi, h i hi]
theorem wipe_back {σ : L2.St} {vs : List Nat} {j : Nat} (hj : j ∈ vs) (o : Option V) : wipe ((wipe σ vs).set j o) vs = wipe σ vs := by
  refine wipe_ext vs (by rw [List.length_set, wipe_length]) fun i hi => ?_
  rw [List.getElem?_set_ne (show j ≠ i from fun z => hi (by rw [← z]; exact hj)), wipe_out hi]
/-- one turn: the item's name at j; the list that grows stands at p -/
def lcTurn (p : Addr) (Γ : Fm) (vs : List Nat) (j : Nat) (t : DB) (el : DE) (Nx : Mem → Prop) (x : Sl) (M : Mem) : Prop := t ((wipeF Γ vs).set j (some x)) M fun b M3 =>
  (b = true → el ((wipeF Γ vs).set j (some x)) M3 fun y M4 => ∃ acc, M4 p = some (.lst acc) ∧ acc.length < 16777216 ∧ Nx (put M4 p (.lst (acc ++ [y])))) ∧ (b = false → Nx M3)
def dLcL (de : DE) (j : Nat) (t : DB) (el : DE) (vs : List Nat) : DE := fun Γ M k => de Γ M fun s M1 => ∃ xs, IsL M1 s xs ∧ ∀ p, M1 p = none → ∃ Inv : Nat → Mem → Prop, Inv 0 (put M1 p (.lst [])) ∧ (∀ i M', i ≤ xs.length → Inv i M' → IsL M' s xs) ∧
  (∀ i x M', xs[i]? = some x → Inv i M' → lcTurn p Γ vs j t el (Inv (i + 1)) x M') ∧ ∀ M', Inv xs.length M' → k (.own p) M'
def dLcR (rg : List Sl → Option (Int × Int)) (da : DA) (j : Nat) (t : DB) (el : DE) (vs : List Nat) : DE := fun Γ M k => da Γ M fun ss M1 => ∃ lo hi, rg ss = some (lo, hi) ∧ (-(2 ^ 62) ≤ lo ∧ lo < 2 ^ 62 ∧ -(2 ^ 62) ≤ hi ∧ hi < 2 ^ 62) ∧
  ∀ p, M1 p = none → ∃ Inv : Nat → Mem → Prop, Inv 0 (put M1 p (.lst [])) ∧ (∀ (i : Nat) M', i < (hi - lo).toNat → Inv i M' → lcTurn p Γ vs j t el (Inv (i + 1)) (.dat (.int (lo + i))) M') ∧ ∀ M', Inv (hi - lo).toNat M' → k (.own p) M'
theorem lc_turn {p : Addr} {Γ : Fm} {vs : List Nat} {j : Nat} {t : DB} {el : DE} {tt : TT} {te : TE} (ht : SimB tt t) (hel : SimE te el) (hj : j ∈ vs) {Nx : Mem → Prop} {sx : Sl} {x : V} {M' : Mem} {σ : L2.St} {H1 H' Hc' : Hp} (e2 : Ex H1 H') (rx : Rp H' sx x) (F : Fr H' σ Γ) (O2 : Own H' Hc' M') (h : lcTurn p Γ vs j t el Nx sx M') :
    gName j x (wipe σ vs) Hc' fun σ2 H2 => wipe σ2 vs = wipe σ vs ∧ tt σ2 H2 fun b H3 => if b = true then te σ2 H3 fun y H4 => ∃ acc, H4 p = some (.lst acc) ∧ acc.length < sizeLine ∧ ∃ M5 H5, Ex H1 H5 ∧ Own H5 (upd H4 p (.lst (acc ++ [y]))) M5 ∧ Nx M5 else ∃ M5 H5, Ex H1 H5 ∧ Own H5 H3 M5 ∧ Nx M5 := by
  refine ⟨wipe_back hj _, ?_⟩
  have F2 : Fr H' ((wipe σ vs).set j (some x)) ((wipeF Γ vs).set j (some sx)) := (F.wipe vs).set rx
  refine ht _ M' _ _ H' Hc' _ h F2 O2 fun b M3 H3 Hc3 e3 O3 h3 => ?_
  cases b with
  | true =>
    rw [if_pos rfl]
    refine hel _ M3 _ _ H3 Hc3 _ (h3.1 rfl) (F2.ex e3) O3 fun y sy M4 H4 Hc4 e4 O4 r4 h4 => ?_
    obtain ⟨acc, hm, hz, hn⟩ := h4
    obtain ⟨z, ws, g1, g2⟩ := O4.ob _ _ hm
    refine ⟨ws, g1, by rw [rps_len g2, sizeLine_eq]; exact hz, _, H4, e2.trans (e3.trans e4), O4.turn (u := .lst _) hm ⟨by rw [List.length_append, sizeLine_eq]; exact hz, _, rfl, rps_app g2 (.cons r4 .nil)⟩, hn⟩
  | false =>
    rw [if_neg Bool.false_ne_true]
    exact ⟨M3, H3, e2.trans e3, O3, h3.2 rfl⟩
theorem sim_lcL {K : PySem.W.Frag} {te : TE} {j : Nat} {t : DB} {el : DE} {tt : TT} {tel : TE} {vs : List Nat} (h : SimE te de) (ht : SimB tt t) (hel : SimE tel el) (hj : j ∈ vs) : SimE (tLc (iList K te) (gName j) tt tel vs) (dLcL de j t el vs) := fun Γ M k σ H Hc Q hd F O q => by
  refine h Γ M _ σ H Hc _ hd F O fun v s M1 H1 Hc1 e1 O1 r1 h1 => ?_
  obtain ⟨xs, l, h1⟩ := h1
  obtain ⟨a, ws, rfl, g1, g2⟩ := l.at_ O1 r1
  refine ⟨a, rfl, ⟨ws, SqL.of g1⟩, fun p hp => ?_⟩
  obtain ⟨W, w0, wl, wt, wd⟩ := h1 p (O1.freeM hp)
  refine ⟨fun i m Hc' => m = xs.length - i ∧ i ≤ xs.length ∧ ∃ M' H', Ex H1 H' ∧ Own H' Hc' M' ∧ W i M', ⟨_, rfl, Nat.zero_le _, _, H1, Evl.Ex.refl _, O1.born (u := .lst []) hp ⟨Nat.zero_le _, [], rfl, .nil⟩, w0⟩, ?_⟩
  rintro i m Hc' ⟨rfl, hi, M', H', e2, O2, w⟩
  obtain ⟨a', vs', e3, g3, g4⟩ := (wl i M' hi w).at_ O2 (rp_ex e2 r1)
  cases e3
  have hl := rps_len g4
  rcases Nat.lt_or_ge i xs.length with hlt | hge
  · obtain ⟨x0, hx0⟩ : ∃ x0, vs'[i]? = some x0 := ⟨vs'[i]'(by omega), List.getElem?_eq_getElem (by omega)⟩
    obtain ⟨sx, hs, rx⟩ := rps_get g4 hx0
    refine .inr ⟨⟨vs', x0, SqL.of g3, hx0⟩, fun Hc2 => ∃ M2 H2, Ex H1 H2 ∧ Own H2 Hc2 M2 ∧ W (i + 1) M2, fun Hc2 z => ⟨xs.length - (i + 1), by omega, rfl, by omega, z⟩, fun x Hy y => ?_⟩
    obtain ⟨rfl, y⟩ := y
    have ex : x = x0 := Option.some.inj ((y vs' (SqL.of g3)).symm.trans hx0)
    subst ex
    exact lc_turn ht hel hj e2 rx (F.ex (e1.trans e2)) O2 (wt i sx M' hs w)
  · have ei : i = xs.length := Nat.le_antisymm hi hge
    subst ei
    exact .inl ⟨⟨vs', SqL.of g3, by omega⟩, q _ (.own p) M' H' Hc' (e1.trans e2) O2 rfl (wd M' w)⟩
theorem lc_rngD {lo : Int} {n : Nat} {j : Nat} {t : DB} {el : DE} {tt : TT} {tel : TE} {vs : List Nat} (ht : SimB tt t) (hel : SimE tel el) (hj : j ∈ vs) {p : Addr} {Γ : Fm} {M1 : Mem} {σ : L2.St} {H1 Hc1 : Hp} {Q : VK} {k : DK} (F : Fr H1 σ Γ) (O1 : Own H1 Hc1 M1) (q : On H1 k Q) (hp : Hc1 p = none)
    (W : Nat → Mem → Prop) (w0 : W 0 (put M1 p (.lst []))) (wt : ∀ (i : Nat) M', i < n → W i M' → lcTurn p Γ vs j t el (W (i + 1)) (.dat (.int (lo + i))) M') (wd : ∀ M', W n M' → k (.own p) M') :
    ∃ W : Nat → Nat → Hp → Prop, (∃ m, W 0 m (upd Hc1 p (.lst []))) ∧ ∀ i m H, W i m H → ((Itr lo n).stop i H ∧ Q (.ref p) H) ∨ ((Itr lo n).go i H ∧ ∃ Nx : Hp → Prop, (∀ H', Nx H' → ∃ m', m' < m ∧ W (i + 1) m' H') ∧ ∀ x H', (Itr lo n).yld i H x H' → gName j x (wipe σ vs) H' fun σ2 H2 => wipe σ2 vs = wipe σ vs ∧ tt σ2 H2 fun b H3 =>
      if b = true then tel σ2 H3 fun y H4 => ∃ acc, H4 p = some (.lst acc) ∧ acc.length < sizeLine ∧ Nx (upd H4 p (.lst (acc ++ [y]))) else Nx H3) := by
  refine lc_range (D := p) (fun i Hc' => ∃ M' H', Ex H1 H' ∧ Own H' Hc' M' ∧ W i M') ⟨_, H1, Evl.Ex.refl _, O1.born (u := .lst []) hp ⟨Nat.zero_le _, [], rfl, .nil⟩, w0⟩ ?_ ?_
  · rintro i Hc' hi ⟨M', H', e2, O2, w⟩
    exact lc_turn ht hel hj e2 (sx := .dat (.int (lo + i))) (Dq.int _) (F.ex e2) O2 (wt i M' hi w)
  · rintro Hc' ⟨M', H', e2, O2, w⟩
    exact q _ (.own p) M' H' Hc' e2 O2 rfl (wd M' w)
theorem sim_lcR1 {j : Nat} {t : DB} {el : DE} {tt : TT} {tel : TE} {vs : List Nat} {ta : TA} (h : SimA ta das) (ht : SimB tt t) (hel : SimE tel el) (hj : j ∈ vs) : SimE (tLc (iRng1 ta) (gName j) tt tel vs) (dLcR rg1 das j t el vs) := fun Γ M k σ H Hc Q hd F O q => by
  refine h Γ M _ σ H Hc _ hd F O fun ws ss M1 H1 Hc1 e1 O1 r1 h1 => ?_
  obtain ⟨lo, hi, er, hz, h1⟩ := h1
  unfold rg1 at er
  split at er
  · cases er
    obtain ⟨v, rfl, rv⟩ := rps1 r1
    refine ⟨hi, by rw [dp_int_inv rv], hz.2.2.1, hz.2.2.2, fun p hp => ?_⟩
    obtain ⟨W, w0, wt, wd⟩ := h1 p (O1.freeM hp)
    rw [Int.sub_zero] at wt wd
    exact lc_rngD ht hel hj (F.ex e1) O1 (q.ex e1) hp W w0 wt wd
  · cases er
theorem sim_lcR2 {j : Nat} {t : DB} {el : DE} {tt : TT} {tel : TE} {vs : List Nat} {ta : TA} (h : SimA ta das) (ht : SimB tt t) (hel : SimE tel el) (hj : j ∈ vs) : SimE (tLc (iRng2 ta) (gName j) tt tel vs) (dLcR rg2 das j t el vs) := fun Γ M k σ H Hc Q hd F O q => by
  refine h Γ M _ σ H Hc _ hd F O fun ws ss M1 H1 Hc1 e1 O1 r1 h1 => ?_
  obtain ⟨lo, hi, er, hz, h1⟩ := h1
  unfold rg2 at er
  split at er
  · cases er
    obtain ⟨v, u, rfl, rv, ru⟩ := rps2 r1
    refine ⟨lo, hi, by rw [dp_int_inv rv, dp_int_inv ru], hz, fun p hp => ?_⟩
    obtain ⟨W, w0, wt, wd⟩ := h1 p (O1.freeM hp)
    exact lc_rngD ht hel hj (F.ex e1) O1 (q.ex e1) hp W w0 wt wd
  · cases er
def dYes : DB := fun _ M k => k true M
theorem sim_yes : SimB tYes dYes := fun Γ M k σ H Hc Q h F O q => q true M H Hc (Evl.Ex.refl H) O h
abbrev XTs (X : Cx) (ifs : List Expr) (t : DB) : Prop := PTs X ifs (LB t)
theorem xts_nil : XTs X [] dYes := ⟨fun pins s σ Hc Q I ⟨Γ, M, H, k, hd, F, O, q⟩ => pts_nil.run pins s σ Hc Q I (sim_yes Γ M k σ H Hc Q hd F O q)⟩
theorem xts_one {c : Expr} {t : DB} (h : XB X c t) : XTs X [c] t := pts_one h
theorem xe_lcL {ex : Expr} {j : Nat} {t : DB} {el : DE} {vs : List Nat} (h : PE X ex (tLc (iList X.K (LE de)) (gName j) (LB t) (LE el) vs)) (hj : j ∈ vs) : XE X ex (dLcL de j t el vs) := xe_of h (sim_lcL simLE simLB simLE hj)
theorem xe_lcR1 {ex : Expr} {j : Nat} {t : DB} {el : DE} {vs : List Nat} (h : PE X ex (tLc (iRng1 (LA das)) (gName j) (LB t) (LE el) vs)) (hj : j ∈ vs) : XE X ex (dLcR rg1 das j t el vs) := xe_of h (sim_lcR1 simLA simLB simLE hj)
theorem xe_lcR2 {ex : Expr} {j : Nat} {t : DB} {el : DE} {vs : List Nat} (h : PE X ex (tLc (iRng2 (LA das)) (gName j) (LB t) (LE el) vs)) (hj : j ∈ vs) : XE X ex (dLcR rg2 das j t el vs) := xe_of h (sim_lcR2 simLA simLB simLE hj)
/-- what was ours is given away -/
def dFz (de : DE) : DE := fun Γ M k => de Γ M fun s M1 => match s with
  | .own a => ∃ ds, M1 a = some (.lst (ds.map .dat)) ∧ k (.dat (.list ds)) (del M1 a)
  | s => k s M1
theorem xe_fz (h : XE X e de) : XE X e (dFz de) := xe_of h fun Γ M k σ H Hc Q hd F O q => simLE Γ M _ σ H Hc _ hd F O fun v s M1 H1 Hc1 e1 O1 r1 h1 => by
  split at h1
  · obtain ⟨ds, hm, h1⟩ := h1
    obtain ⟨H2, e2, O2, r2⟩ := O1.freeze hm
    cases r1
    exact q _ (.dat (.list ds)) _ H2 Hc1 (e1.trans e2) O2 r2 h1
  · exact q _ _ _ _ _ e1 O1 r1 h1
/-- x = e, given away at once -/
def dFzS (i : Nat) (ds : DS) : DS := fun D Γ M => ds { D with nx := fun Γ1 M1 => ∃ a es, Γ1[i]? = some (some (.own a)) ∧ M1 a = some (.lst (es.map .dat)) ∧ D.nx (Γ1.set i (some (.dat (.list es)))) (del M1 a) } Γ M
theorem xs_fz {i : Nat} (h : XS X st d1) : XS X st (dFzS i d1) := xs_of h fun Γ M D σ H Hc E hd F O q => simLS Γ M _ σ H Hc E hd F O ⟨fun σ' Γ' M' H' Hc' e1 F1 O1 h1 => by
  obtain ⟨a, es, g1, g2, g3⟩ := h1
  obtain ⟨v, v1, v2⟩ := F1.sl i _ g1
  cases v2
  obtain ⟨H2, e2, O2, r2⟩ := O1.freeze g2
  have F2 : Fr H2 (σ'.set i (some (.ref a))) (Γ'.set i (some (.dat (.list es)))) := (F1.ex e2).set r2
  have same : σ'.set i (some (.ref a)) = σ' := by
    refine List.ext_getElem? fun j => ?_
    by_cases hj : i = j
    · subst hj
      rw [v1, List.getElem?_set_self (List.getElem?_eq_some_iff.mp v1).1]
    · rw [List.getElem?_set_ne hj]
  rw [same] at F2
  exact q.nx σ' _ _ H2 Hc' (e1.trans e2) F2 O2 g3, q.rt, q.bk, q.ct⟩
/-! ### all, is, sorted of whole numbers, [::-1] -/
def boolsD : List Sl → Option (List Bool)
  | [] => some []
  | .dat (.bool b) :: ds => (boolsD ds).map (b :: ·)
  | _ => none
theorem boolsD_rps {H : Hp} : ∀ {ss : List Sl} {bs : List Bool} {vs : List V}, boolsD ss = some bs → Rps H ss vs → vs = bs.map V.bl
  | [], bs, _, h, .nil => by cases h; rfl
  | .dat (.bool b) :: ss, bs, _, h, .cons r t => by
    unfold boolsD at h
    cases e : boolsD ss with
    | none => rw [e] at h; cases h
    | some cs =>
      rw [e] at h
      cases h
      rw [dp_bl_inv r, boolsD_rps e t]
      rfl
def fAll : DC := fun ss M k => match ss with
  | [.own a] => ∃ xs bs, M a = some (.lst xs) ∧ boolsD xs = some bs ∧ k (.dat (.bool (bs.all id))) (del M a)
  | [.dat (.list ds)] => ∃ bs, boolsD (ds.map .dat) = some bs ∧ k (.dat (.bool (bs.all id))) M
  | _ => False
def fAny : DC := fun ss M k => match ss with
  | [.own a] => ∃ xs bs, M a = some (.lst xs) ∧ boolsD xs = some bs ∧ k (.dat (.bool (bs.any id))) (del M a)
  | [.dat (.list ds)] => ∃ bs, boolsD (ds.map .dat) = some bs ∧ k (.dat (.bool (bs.any id))) M
  | _ => False
theorem sim_all {K : PySem.W.Frag} : SimC (rAll K) fAll := by
  intro ss M k xs H Hc Q h r O q
  unfold fAll at h
  split at h
  · obtain ⟨x, rfl, rx⟩ := rps1 r
    obtain ⟨ys, bs, hm, eb, h⟩ := h
    obtain ⟨a, vs, rfl, g1, g2⟩ := (IsL.own hm).at_ O rx
    exact ⟨a, bs, rfl, by rw [← boolsD_rps eb g2]; exact SqL.of g1, q.dat O.drop (.bl _) h⟩
  · obtain ⟨x, rfl, rx⟩ := rps1 r
    obtain ⟨bs, eb, h⟩ := h
    obtain ⟨a, vs, rfl, g1, g2⟩ := IsL.dat.at_ O rx
    exact ⟨a, bs, rfl, by rw [← boolsD_rps eb g2]; exact SqL.of g1, q.dat O (.bl _) h⟩
  · exact h.elim
theorem sim_any {K : PySem.W.Frag} : SimC (rAny K) fAny := by
  intro ss M k xs H Hc Q h r O q
  unfold fAny at h
  split at h
  · obtain ⟨x, rfl, rx⟩ := rps1 r
    obtain ⟨ys, bs, hm, eb, h⟩ := h
    obtain ⟨a, vs, rfl, g1, g2⟩ := (IsL.own hm).at_ O rx
    exact ⟨a, bs, rfl, by rw [← boolsD_rps eb g2]; exact SqL.of g1, q.dat O.drop (.bl _) h⟩
  · obtain ⟨x, rfl, rx⟩ := rps1 r
    obtain ⟨bs, eb, h⟩ := h
    obtain ⟨a, vs, rfl, g1, g2⟩ := IsL.dat.at_ O rx
    exact ⟨a, bs, rfl, by rw [← boolsD_rps eb g2]; exact SqL.of g1, q.dat O (.bl _) h⟩
  · exact h.elim
def isNoD : Dt → Bool
  | .none => true
  | _ => false
/-- x is y: of truths; of anything and None -/
def fIs (neg : Bool) : D2 := fun s t M k => match s, t with
  | .dat (.bool a), .dat (.bool b) => k (.dat (.bool (if neg = true then !decide (a = b) else decide (a = b)))) M
  | .dat d, .dat .none => k (.dat (.bool (if neg = true then !isNoD d else isNoD d))) M
  | .own _, .dat .none => k (.dat (.bool neg)) M
  | _, _ => False
theorem isNo_eq {H : Hp} {x : V} {d : Dt} (r : Dq H x d) : decide (x = V.non) = isNoD d := by
  cases r <;> simp [isNoD]
abbrev rIsA : R2 := fun x y H Q => (rIsB x y H Q) ∨ (y = .non ∧ Q (.bl (decide (x = .non))) H)
abbrev rNotA : R2 := fun x y H Q => (rNotB x y H Q) ∨ (y = .non ∧ Q (.bl (!decide (x = .non))) H)
theorem sim_is : Sim2 rIsA (fIs false) := by
  intro s t M k x y H Hc Q h rx ry O q
  unfold fIs at h
  split at h
  · exact .inl ⟨_, _, dp_bl_inv rx, dp_bl_inv ry, q.dat O (.bl _) h⟩
  · refine .inr ⟨dp_non_inv ry, ?_⟩
    rw [isNo_eq rx]
    exact q.dat O (.bl _) h
  · refine .inr ⟨dp_non_inv ry, ?_⟩
    cases rx
    rw [decide_eq_false (fun z => nomatch z)]
    exact q.dat O (.bl _) h
  · exact h.elim
theorem sim_isnot : Sim2 rNotA (fIs true) := by
  intro s t M k x y H Hc Q h rx ry O q
  unfold fIs at h
  split at h
  · exact .inl ⟨_, _, dp_bl_inv rx, dp_bl_inv ry, q.dat O (.bl _) h⟩
  · refine .inr ⟨dp_non_inv ry, ?_⟩
    rw [isNo_eq rx]
    exact q.dat O (.bl _) h
  · refine .inr ⟨dp_non_inv ry, ?_⟩
    cases rx
    rw [decide_eq_false (fun z => nomatch z)]
    exact q.dat O (.bl _) h
  · exact h.elim
theorem xe_is (ha : XE X a da) (hb : XE X b db) : XE X (.Compare a [.Is] [b] pos) (dOp (fIs false) da db) := xe_cmp (OpR.or op_isBl op_isN) (nomark _) sim_is ha hb
theorem xe_isnot (ha : XE X a da) (hb : XE X b db) : XE X (.Compare a [.IsNot] [b] pos) (dOp (fIs true) da db) := xe_cmp (OpR.or op_notBl op_notN) (nomark _) sim_isnot ha hb
/-- -n -/
def dNeg (de : DE) : DE := fun Γ M k => de Γ M fun s M1 => match s with
  | .dat (.int i) => k (.dat (.int (-i))) M1
  | _ => False
theorem xe_neg (ha : XE X a da) : XE X (.UnaryOp .USub a pos) (dNeg da) := xe_of (pe_un un_neg ha) fun Γ M k σ H Hc Q hd F O q => simLE Γ M _ σ H Hc _ hd F O fun v s M1 H1 Hc1 e1 O1 r1 h1 => by
  split at h1
  · exact ⟨_, dp_int_inv r1, (q.ex e1).dat O1 (.int _) h1⟩
  · exact h1.elim
/-- abs(n) -/
def fAbs : DC := fun ss M k => match ss with
  | [.dat (.int i)] => k (.dat (.int (if i < 0 then -i else i))) M
  | _ => False
theorem sim_abs : SimC (fun xs H Q => ∃ i, xs = [.int i] ∧ Q (.int (if i < 0 then -i else i)) H) fAbs := by
  intro ss M k xs H Hc Q h r O q
  unfold fAbs at h
  split at h
  · obtain ⟨x, rfl, rx⟩ := rps1 r
    exact ⟨_, by rw [dp_int_inv rx], q.dat O (.int _) h⟩
  · exact h.elim
/-- the script's cells -/
def fSlS (K : PySem.W.Frag) : D3 := fun s lo hi M k => match s with
  | .scr K' xs => K' = K ∧ k (.dat (.list ((cut xs lo hi).map .int))) M
  | _ => False
theorem dqs_int {H : Hp} : ∀ ns : List Int, DqAll H (ns.map V.int) (ns.map PyData.int)
  | [] => .nil
  | n :: ns => .cons (.int n) (dqs_int ns)
theorem xe_slS {lo hi : Option Expr} {dl dh : DO} {p2 : Pos} {K : PySem.W.Frag} (hK : X.K = K) (he : XE X e de) (hl : XO X lo dl) (hu : XO X hi dh) : XE X (.Subscript e (.Slice lo hi none p2) pos) (dSl (fSlS K) de dl dh) := xe_slF (f := fSlS K) (by
  subst hK
  intro s lo hi M k x H Hc Q h rx O q
  unfold fSlS at h
  split at h
  · rename_i K' ns
    obtain ⟨rfl, h⟩ := h
    obtain ⟨a, rfl, hs⟩ := rx
    refine .inr (.inr ⟨a, _, rfl, Evl.ex_l O.ex hs, fun p hp => ?_⟩)
    have e : cutV (ns.map V.int) lo hi = (cut ns lo hi).map V.int := by
      unfold cutV cut
      rw [List.length_map, List.map_take, List.map_drop]
    rw [e]
    exact q.lst O (dqs_int _) hp h
  · exact h.elim) he hl hu
end
end DL
namespace DL
open PySem PySem.Spec PyProof.Rows L2
open Evl (Ex)
/-- what a law promises: of its script True, and nothing that is ours is left to tell -/
def prLaw (K : PySem.W.Frag) : Pr := fun ss _ q => ∃ ns, ss = [.scr K ns] ∧ ns.length ≤ 63 ∧ ∀ M', q (.dat (.bool true)) M'
section
variable {P : Program} {w : World} {K : PySem.W.Frag} {mg mb : Str → Option Value} {k : Nat} {fa a : Addr} {fd : FuncData} {x : Str} {s : Shared} {vs : List Value} {ns : List Int}
/-- the script, tracked as what stands still -/
def scrH (a : Addr) (vs : List Value) (ns : List Int) : Hp := fun b => if b = a then some (.frz { cls := .type "list", data := .seq vs.toArray } (.lst (ns.map V.int))) else none
theorem scrH_at {a : Addr} {vs : List Value} {ns : List Int} : scrH a vs ns a = some (.frz { cls := .type "list", data := .seq vs.toArray } (.lst (ns.map V.int))) := if_pos rfl
theorem scrH_ne {a b : Addr} {vs : List Value} {ns : List Int} (h : b ≠ a) : scrH a vs ns b = none := if_neg h
/-- the run of a law from an abstract heap in which the script alone may stand -/
theorem law_run {H : Hp} (KX : K.In s.heap) (hns : s.heap.Ns mainGlobals mg) (hb : s.heap.Ns builtinsNs mb) (hbb : ∀ x : Str, x ≠ "__name__" → mb x = bootBuiltins x) (lim : s.heap.NoLimit) (hg : s.gens = #[]) (ha : s.heap.get? a = some { cls := .type "list", data := .seq vs.toArray })
    (hr : Room k callerA) (F : ∀ base : Heap, K.In base → base.Ns mainGlobals mg → Holds P w K mg base k fa fd [x] (prLaw K)) (bind : ∀ (s : Shared) (u : Value), BindsTo s fd ⟨[u], []⟩ [(x, u)]) (hl : ns.length ≤ 63)
    (hS : SqL K H a (ns.map V.int)) (hok : HOk P w H s.heap) (only : ∀ b u, H b = some u → b = a ∧ (∃ o z, u = .frz o z) ∧ K.lookup a = none) :
    codeAny (model P w) callerA (.call (.ref fa) ⟨[.ref a], []⟩) (fun r s' => r = .ok (.ret (.bool true)) ∧ OldK s.heap s'.heap ∧ s'.os = s.os ∧ AllBare s'.gens) s := by
  have keep : ∀ {b : Addr} {o : Obj}, s.heap.get? b = some o → H b = none → (hidT s.heap H).get? b = some o := fun h n => hidT_get h n
  have notS : ∀ {b : Addr} {o : Obj} {es : Array DictEntry} {ep : Nat}, s.heap.get? b = some o → o.data = .dict es ep → H b = none := by
    intro b o es ep h1 h2
    cases z : H b with
    | none => rfl
    | some u =>
      obtain ⟨rfl, _, _⟩ := only b u z
      rw [ha] at h1
      cases h1
      cases h2
  have dicts : ∀ {b : Addr} {m : Str → Option Value}, s.heap.Ns b m → (hidT s.heap H).Ns b m := by
    rintro b m ⟨o, es, ep, h1, h2, r⟩
    exact ⟨o, es, ep, keep h1 (notS h1 h2), h2, r⟩
  have KB : K.In (hidT s.heap H) := fun b o h1 => keep (KX b o h1) (by
    cases z : H b with
    | none => rfl
    | some u =>
      obtain ⟨rfl, _, h2⟩ := only b u z
      rw [h2] at h1
      cases h1)
  have md : Mod K mg (hidT s.heap H) := by
    obtain ⟨mc, c1, c2⟩ := lim
    exact ⟨KB, dicts hns, ⟨mb, dicts hb, hbb⟩, ⟨mc, dicts c1, c2⟩⟩
  have at0 : Env0 P w K mg (hidT s.heap H) callerA [] s H := { frames := rfl, mod := md, bs := fun b o z => of_hidT z, bsz := Nat.le_of_eq (hidT_size _ _), funs := trivial, frf := (fun b z => (nomatch z)), hok := hok, bare := .of_eq hg }
  have G := F _ KB (dicts hns)
  refine codeAny_mono (G.go callerA [] s H ⟨[.ref a], []⟩ [.ref a] [.ref a] [.scr K ns] (fun _ => none) H (fun t _ => t = .dat (.bool true)) (fun v _ => v = .bl true) ⟨hr, rfl⟩ at0 (bind s (.ref a)) (.cons rfl .nil) (.cons ⟨a, rfl, hS⟩ .nil)
    ⟨Evl.Ex.refl H, (fun _ _ z => (nomatch z)), (fun _ _ z => (nomatch z))⟩ ⟨ns, rfl, hl, fun _ => rfl⟩ (fun v t M' H' Hc' _ _ r z => by subst z; exact dp_bl_inv r)) fun r s' h => ?_
  match r, h with
  | .ok (.ret u), ⟨v, H', os, bare, un, hok', rv, hv⟩ =>
    subst hv
    cases (show u = Value.bool true from rv)
    refine ⟨rfl, OldK.of_keep fun b o h1 => ?_, os, bare⟩
    cases z : H b with
    | none => exact un.keep b o h1 z (fun y => (nomatch y)) (fun y => (nomatch y))
    | some u =>
      obtain ⟨rfl, ⟨o', z', rfl⟩, _⟩ := only b u z
      have h2 := un.frzs b _ _ z
      have q1 := (hok b _ z).1
      have q2 := (hok' b _ h2).1
      rw [h1] at q1
      cases q1
      exact q2
/-- the goal that k_head leaves -/
theorem walk_law {l : PySem.W.OpenLaw} {q : Program} {loose : List Str} {XP : (Str → Option Value) → Heap → Prop} {YP : World → Heap → Prop} {d : DefRec} {K : Params → PySem.W.Frag}
    (hn : l.most = some 63) (hdf : d.params.defaults = []) (hr : Room k callerA) (hY : ∀ (w : World) (h : Heap), YP w h → (K w.params).In h)
    (F : ∀ (w : World) (mg : Str → Option Value) (fa : Addr) (h : Heap), (K w.params).In h → h.Ns mainGlobals mg → mg d.name = some (.ref fa) →
      ∃ fd : FuncData, (∀ (s : Shared) (u : Value), BindsTo s fd ⟨[u], []⟩ [(x, u)]) ∧ ∀ base : Heap, (K w.params).In base → base.Ns mainGlobals mg → Holds l.prog w (K w.params) mg base k fa fd [x] (prLaw (K w.params))) :
    PySem.W.WalkO q loose XP YP l.row.toRowW d [] (fun f vs => PySem.call f vs) := by
  refine Att.attach_call hn hdf fun w s₀ s₁ mg mb fa o pm cd doc a vs ns G Y ho hd hcd hmg hobj hints hlen hg => ?_
  have KX := hY w _ Y
  obtain ⟨fd, bind, hF⟩ := F w mg fa _ KX G.T.g hmg
  cases hk : (K w.params).lookup a with
  | some o' =>
    have e := KX a o' hk
    rw [hobj] at e
    cases e
    refine law_run (H := fun _ => none) KX G.T.g G.T.b G.T.builtins G.T.nolimit hg hobj hr hF bind hlen (.inr ⟨_, vs.toArray, _, hk, rfl, rfl, rfl, ?_, by simpa using vals_ints hints⟩) (fun b u z => (nomatch z)) (fun b u z => (nomatch z))
    rw [List.size_toArray, hints.length, sizeLine_eq]
    omega
  | none =>
    refine law_run (H := scrH a vs ns) KX G.T.g G.T.b G.T.builtins G.T.nolimit hg hobj hr hF bind hlen (.inl (.inr ⟨_, scrH_at⟩)) (fun b u z => ?_) fun b u z => ?_
    · by_cases hb : b = a
      · subst hb
        rw [scrH_at] at z
        cases z
        exact ⟨hobj, by rw [List.length_map, sizeLine_eq]; omega, vs, _, vals_ints hints, hobj⟩
      · rw [scrH_ne hb] at z
        cases z
    · by_cases hb : b = a
      · subst hb
        rw [scrH_at] at z
        cases z
        exact ⟨rfl, ⟨_, _, rfl⟩, hk⟩
      · rw [scrH_ne hb] at z
        cases z
end
end DL
namespace DL
open PySem PySem.Spec PyProof.Rows L2
open Evl (Ex)
theorem IsL.put {M : Mem} {s : Sl} {xs : List Sl} {p : Addr} {o : MO} (l : IsL M s xs) (h : M p = none) : IsL (put M p o) s xs := by
  rcases l with ⟨ds, rfl, rfl⟩ | ⟨a, rfl, e⟩
  · exact .dat
  · exact .own ((put_ne (ne_mem e h)).trans e)
/-- a comprehension whose element is a function of the item -/
theorem lc_map {s : Sl} {xs : List Sl} {M1 : Mem} {Γ : Fm} {vs : List Nat} {j : Nat} {el : DE} {K : Addr → Mem → Prop} (f : Sl → Sl) (l : IsL M1 s xs) (hz : xs.length < 16777216)
    (he : ∀ x ∈ xs, ∀ (M' : Mem) (k' : DK), k' (f x) M' → el ((wipeF Γ vs).set j (some x)) M' k') (hk : ∀ p, M1 p = none → K p (put M1 p (.lst (xs.map f)))) :
    ∃ xs, IsL M1 s xs ∧ ∀ p, M1 p = none → ∃ Inv : Nat → Mem → Prop, Inv 0 (put M1 p (.lst [])) ∧ (∀ i M', i ≤ xs.length → Inv i M' → IsL M' s xs) ∧
      (∀ i x M', xs[i]? = some x → Inv i M' → lcTurn p Γ vs j dYes el (Inv (i + 1)) x M') ∧ ∀ M', Inv xs.length M' → K p M' := by
  refine ⟨xs, l, fun p hp => ⟨fun i M' => M' = put M1 p (.lst ((xs.take i).map f)), rfl, fun i M' _ e => by rw [e]; exact l.put hp, fun i x M' hx e => ?_, fun M' e => by rw [e, List.take_length]; exact hk p hp⟩⟩
  subst e
  refine ⟨fun _ => he x (List.mem_of_getElem? hx) _ _ ?_, fun z => nomatch z⟩
  have hi : i < xs.length := (List.getElem?_eq_some_iff.mp hx).1
  refine ⟨_, put_at, by rw [List.length_map, List.length_take]; omega, ?_⟩
  show put (put M1 p (.lst ((xs.take i).map f))) p (.lst ((xs.take i).map f ++ [f x])) = put M1 p (.lst ((xs.take (i + 1)).map f))
  rw [put_put, List.take_add_one, hx]
  simp
theorem boolsD_map {α : Type} (g : α → Bool) : ∀ xs : List α, boolsD (xs.map fun x => Sl.dat (.bool (g x))) = some (xs.map g)
  | [] => rfl
  | x :: xs => by
    show (boolsD (xs.map fun x => Sl.dat (.bool (g x)))).map (g x :: ·) = _
    rw [boolsD_map g xs] <;> rfl
theorem not_t {b : Bool} (h : (!b) = true) : b = false := by cases b <;> simp_all
theorem not_f {b : Bool} (h : (!b) = false) : b = true := by cases b <;> simp_all
theorem isi_int (d : Dt) : isiD "int" d = match d with | .int _ => true | .bool _ => true | _ => false := by cases d <;> rfl
theorem isi_bool (d : Dt) : isiD "bool" d = match d with | .bool _ => true | _ => false := by cases d <;> rfl
theorem isi_tuple (d : Dt) : isiD "tuple" d = match d with | .tuple _ => true | _ => false := by cases d <;> rfl
/-! ### over a tuple -/
section
variable {X : Cx} {de : DE} {das : DA} {d1 : DS} {body : List Stmt} {pos : Pos} {e : Expr}
def dLcT (de : DE) (j : Nat) (t : DB) (el : DE) (vs : List Nat) : DE := fun Γ M k => de Γ M fun s M1 => ∃ ds, s = .dat (.tuple ds) ∧ ∀ p, M1 p = none → ∃ Inv : Nat → Mem → Prop, Inv 0 (put M1 p (.lst [])) ∧
  (∀ i x M', ds[i]? = some x → Inv i M' → lcTurn p Γ vs j t el (Inv (i + 1)) (.dat x) M') ∧ ∀ M', Inv ds.length M' → k (.own p) M'
theorem dps_get {H : Hp} : ∀ {ds : List Dt} {vs : List V} {i : Nat} {v : V}, DqAll H vs ds → vs[i]? = some v → ∃ d, ds[i]? = some d ∧ Dq H v d
  | [], _, _, _, .nil, h => by simp at h
  | d :: ds, _, 0, _, .cons r _, h => by simp at h; subst h; exact ⟨_, rfl, r⟩
  | d :: ds, _, i + 1, v, .cons _ t, h => by
    obtain ⟨u, h1, h2⟩ := dps_get (i := i) (v := v) t (by simpa using h)
    exact ⟨u, by simpa using h1, h2⟩
theorem sim_lcT {K : PySem.W.Frag} {te : TE} {j : Nat} {t : DB} {el : DE} {tt : TT} {tel : TE} {vs : List Nat} (h : SimE te de) (ht : SimB tt t) (hel : SimE tel el) (hj : j ∈ vs) : SimE (tLc (iTup K te) (gName j) tt tel vs) (dLcT de j t el vs) := fun Γ M k σ H Hc Q hd F O q => by
  refine h Γ M _ σ H Hc _ hd F O fun v s M1 H1 Hc1 e1 O1 r1 h1 => ?_
  obtain ⟨ds, rfl, h1⟩ := h1
  obtain ⟨a, ws, rfl, g1, g2⟩ := dp_tup_inv r1
  have hl := dps_len g2
  refine ⟨a, rfl, ⟨ws, SqT.of (O1.ex _ _ g1)⟩, fun p hp => ?_⟩
  obtain ⟨W, w0, wt, wd⟩ := h1 p (O1.freeM hp)
  refine lc_tup (xs := ws) (fun i Hc' => ∃ M' H', Ex H1 H' ∧ Own H' Hc' M' ∧ W i M') ⟨_, H1, Evl.Ex.refl _, O1.born (u := .lst []) hp ⟨Nat.zero_le _, [], rfl, .nil⟩, w0⟩ ?_ ?_ ?_
  · rintro i Hc' hi ⟨M', H', e2, O2, w⟩
    exact SqT.of (O2.ex _ _ (e2 _ _ g1))
  · rintro i x Hc' hx ⟨M', H', e2, O2, w⟩
    obtain ⟨d, hd', rd⟩ := dps_get g2 hx
    exact lc_turn ht hel hj e2 (sx := .dat d) (dp_ex e2 rd) (F.ex (e1.trans e2)) O2 (wt i d M' hd' w)
  · rintro Hc' ⟨M', H', e2, O2, w⟩
    rw [hl] at w
    exact q _ (.own p) M' H' Hc' (e1.trans e2) O2 rfl (wd M' w)
theorem xe_lcT {ex : Expr} {j : Nat} {t : DB} {el : DE} {vs : List Nat} (h : PE X ex (tLc (iTup X.K (LE de)) (gName j) (LB t) (LE el) vs)) (hj : j ∈ vs) : XE X ex (dLcT de j t el vs) := xe_of h (sim_lcT simLE simLB simLE hj)
/-- a comprehension over a tuple whose element is a function of the item -/
theorem lc_mapT {ds : List Dt} {M1 : Mem} {Γ : Fm} {vs : List Nat} {j : Nat} {el : DE} {K : Addr → Mem → Prop} (f : Dt → Sl) (hz : ds.length < 16777216)
    (he : ∀ x ∈ ds, ∀ (M' : Mem) (k' : DK), k' (f x) M' → el ((wipeF Γ vs).set j (some (.dat x))) M' k') (hk : ∀ p, M1 p = none → K p (put M1 p (.lst (ds.map f)))) :
    ∃ es, Sl.dat (.tuple ds) = .dat (.tuple es) ∧ ∀ p, M1 p = none → ∃ Inv : Nat → Mem → Prop, Inv 0 (put M1 p (.lst [])) ∧
      (∀ i x M', es[i]? = some x → Inv i M' → lcTurn p Γ vs j dYes el (Inv (i + 1)) (.dat x) M') ∧ ∀ M', Inv es.length M' → K p M' := by
  refine ⟨ds, rfl, fun p hp => ⟨fun i M' => M' = put M1 p (.lst ((ds.take i).map f)), rfl, fun i x M' hx e => ?_, fun M' e => by rw [e, List.take_length]; exact hk p hp⟩⟩
  subst e
  refine ⟨fun _ => he x (List.mem_of_getElem? hx) _ _ ?_, fun z => nomatch z⟩
  have hi : i < ds.length := (List.getElem?_eq_some_iff.mp hx).1
  refine ⟨_, put_at, by rw [List.length_map, List.length_take]; omega, ?_⟩
  show put (put M1 p (.lst ((ds.take i).map f))) p (.lst ((ds.take i).map f ++ [f x])) = put M1 p (.lst ((ds.take (i + 1)).map f))
  rw [put_put, List.take_add_one, hx]
  simp
/-- t[::-1], xs[::-1] -/
def dRev (de : DE) : DE := fun Γ M k => de Γ M fun s M1 => match s with
  | .dat (.tuple ds) => k (.dat (.tuple ds.reverse)) M1
  | .dat (.list ds) => k (.dat (.list ds.reverse)) M1
  | .own a => ∃ ds : List Dt, M1 a = some (.lst (ds.map .dat)) ∧ k (.dat (.list ds.reverse)) M1
  | _ => False
end
end DL
namespace DL
open PySem PySem.Spec PyProof.Rows L2 HT
open Evl (Ex)
section
variable {prog : Program} {w : World} {A : Around} {E : Value → Shared → Prop} {s : Shared}
theorem back_bounds (n : Nat) : Builtin.Slice.sliceAdjust none none (-1) (n : Int) = ((n : Int) - 1, -1) := by
  unfold Builtin.Slice.sliceAdjust
  simp
theorem back_places (n : Nat) : Builtin.Slice.slicePlaces ((n : Int) - 1) (-1) (-1) = n := by
  unfold Builtin.Slice.slicePlaces
  simp
  try omega
theorem back_applied {sl : Addr} {vl vu vs : Value} {n : Nat} {Q : Int × Int × Nat → Shared → Prop} (hs : s.heap.IsSliceOf sl vl vu vs) (pl : IsPart vl none) (pu : IsPart vu none) (ps : IsPart vs (some (-1))) (h : Q ((n : Int) - 1, -1, n) s) :
    wpAny (model prog w) A (Builtin.Slice.sliceApplied (.ref sl) (pure (n : Int))) Q E s := by
  obtain ⟨os, h1, h2, h3⟩ := id hs
  unfold Builtin.Slice.sliceApplied Builtin.Slice.sliceFields
  refine wpAny_bind (wpAny_bind (wpAny_field h1 h3 (x := vl) rfl (wpAny_bind (wpAny_field h1 h3 (x := vu) rfl (wpAny_bind (wpAny_field h1 h3 (x := vs) rfl (wpAny_pure ?_)))))))
  refine wpAny_bind (slicePart_ ps ?_)
  show wpAny _ _ (if ((-1 : Int) == 0) = true then _ else _) _ _ s
  rw [if_neg (by decide)]
  refine wpAny_bind (slicePart_ pl (wpAny_bind (slicePart_ pu (wpAny_bind (wpAny_pure ?_)))))
  show wpAny _ _ (match Builtin.Slice.sliceAdjust none none (-1) (n : Int) with | (a, b) => pure (a, (-1 : Int), Builtin.Slice.slicePlaces a b (-1))) _ _ s
  rw [back_bounds]
  show wpAny _ _ (pure ((n : Int) - 1, (-1 : Int), Builtin.Slice.slicePlaces ((n : Int) - 1) (-1) (-1))) _ _ s
  rw [back_places]
  exact wpAny_pure h
theorem back_pick (xs : List Value) : ((List.range xs.length).filterMap fun (m : Nat) => xs.toArray[((xs.length : Int) - 1 + (m : Int) * (-1)).toNat]?) = xs.reverse := by
  refine List.ext_getElem? fun i => ?_
  have key : (List.range xs.length).filterMap (fun (m : Nat) => xs.toArray[((xs.length : Int) - 1 + (m : Int) * (-1)).toNat]?) = (List.range xs.length).map fun m => xs.getD (xs.length - 1 - m) .none := by
    have e : ∀ m ∈ List.range xs.length, xs.toArray[((xs.length : Int) - 1 + (m : Int) * (-1)).toNat]? = some (xs.getD (xs.length - 1 - m) .none) := by
      intro m hm
      have hm' := List.mem_range.mp hm
      have e1 : ((xs.length : Int) - 1 + (m : Int) * (-1)).toNat = xs.length - 1 - m := by omega
      rw [e1]
      have hlt : xs.length - 1 - m < xs.length := by omega
      simp [List.getD_eq_getElem?_getD, List.getElem?_eq_getElem hlt]
    generalize hL : List.range xs.length = L at e ⊢
    clear hL
    induction L with
    | nil => rfl
    | cons m L ih =>
      rw [List.filterMap_cons, e m List.mem_cons_self, List.map_cons]
      simp only
      rw [ih fun k hk => e k (List.mem_cons_of_mem _ hk)]
  rw [key]
  by_cases hi : i < xs.length
  · rw [List.getElem?_map, List.getElem?_range hi, List.getElem?_reverse hi]
    have hlt : xs.length - 1 - i < xs.length := by omega
    simp [List.getD_eq_getElem?_getD, List.getElem?_eq_getElem hlt]
  · rw [List.getElem?_eq_none (by simp; omega), List.getElem?_eq_none (by simp; omega)]
theorem getItem_tuple_back {t sl : Addr} {its : List Value} {vl vu vs : Value} {Q : Value → Shared → Prop} (ht : IsTup s.heap t its.toArray) (hs : s.heap.IsSliceOf sl vl vu vs) (pl : IsPart vl none) (pu : IsPart vu none) (ps : IsPart vs (some (-1))) (hz : its.length ≤ sizeLine)
    (h : Q (.ref s.heap.objs.size) { s with heap := s.heap.push { cls := .type "tuple", data := .seq its.reverse.toArray } }) : wpAny (model prog w) A (getItem (.ref t) (.ref sl)) Q E s := by
  have room : sizeOk (.seq its.reverse.toArray) := by
    show its.reverse.toArray.size ≤ sizeLine
    rw [List.size_toArray, List.length_reverse]
    exact hz
  obtain ⟨os, h1, h2, h3⟩ := id hs
  have hT : s.TypeIs (.ref sl) "slice" := ⟨os, h1, h2⟩
  unfold getItem
  try with_reducible refine wpAny_holding ?_
  first | refine wpAny_bind (wpAny_pure ?_) | skip
  refine wpAny_bind (wpAny_sequenceKey ht.typeIs (by decide) ?_)
  refine wpAny_bind (wpAny_callSpecial?_slot (name := Str.ofString "__getitem__") ht.typeIs PyProof.Rows.slot_tuple_getitem (wpAny_call_entry PyProof.Rows.slot_tuple_getitem ht.typeIs entry_tuple_getitem ?_ (args_tuple_getitem _ _)))
  show wpAny _ _ (Builtin.Tuple.tupleItemsOf (.ref t) >>= _) _ _ s
  refine wpAny_bind (tupleItemsOf_ ht ?_)
  refine wpAny_bind (wpAny_typeOf hT ?_)
  rw [if_pos (by decide)]
  refine wpAny_bind (back_applied hs pl pu ps ?_)
  have no : ¬ ((((its.toArray.size : Int) - 1 == 0) && ((-1 : Int) == 1) && (its.toArray.size == its.toArray.size)) = true) := by simp
  show wpAny _ _ (if (((its.toArray.size : Int) - 1 == 0) && ((-1 : Int) == 1) && (its.toArray.size == its.toArray.size)) = true then _ else _) _ _ s
  rw [if_neg no]
  have e := back_pick its
  have e2 : ((List.range its.toArray.size).filterMap fun (m : Nat) => its.toArray[((its.toArray.size : Int) - 1 + (m : Int) * (-1)).toNat]?).toArray = its.reverse.toArray := by
    rw [List.size_toArray, e]
  rw [e2]
  first
    | exact wpAny_bind (m := Builtin.Tuple.tupleExact _) (wpAny_newObj_type (wpAny_pure ⟨_, rfl, wpAny_pure h⟩) room)
    | exact wpAny_bind (m := Builtin.Tuple.tupleExact _) (wpAny_newObj_type (wpAny_bind (wpAny_pure (wpAny_pure ⟨_, rfl, wpAny_pure h⟩))) room)
    | exact wpAny_bind (wpAny_bind (m := Builtin.Tuple.tupleExact _) (wpAny_newObj_type (wpAny_pure (wpAny_pure ⟨_, rfl, wpAny_pure h⟩)) room))
    | exact wpAny_bind (wpAny_bind (m := Builtin.Tuple.tupleExact _) (wpAny_newObj_type (wpAny_pure ⟨_, rfl, wpAny_pure h⟩) room))
end
section
variable {X : Cx} {e : Expr} {te : TE} {de : DE}
/-- x[::-1], x a list or a tuple -/
def tBack (K : PySem.W.Frag) (te : TE) : TE := fun σ H Q => te σ H fun x H1 => ∃ a xs, x = .ref a ∧ ((SqL K H1 a xs ∧ ∀ p, H1 p = none → Q (.ref p) (upd H1 p (.lst xs.reverse))) ∨ (SqT K H1 a xs ∧ ∀ p, H1 p = none → Q (.ref p) (upd H1 p (.tup xs.reverse))))
theorem pe_back {k : Nat} {p1 p2 p3 pos : Pos} (he : PE X e te) : PE X (.Subscript e (.Slice none none (some (.UnaryOp .USub (.Constant (.int 1) k p1) p2)) p3) pos) (tBack X.K te) := by
  have step : PO X (some (.UnaryOp .USub (.Constant (.int 1) k p1) p2)) (tPart (tUn (rU fun i => .int (-i)) (tC (.int 1)))) := po_some (pe_un un_neg pe_int)
  constructor
  intro pins s σ H Q I h
  refine Subscript_ (thn (he.run pins s σ H _ I h) fun v s1 ⟨x, H1, I1, r1, a, xs, hx, q⟩ => ?_)
  subst hx
  cases r1
  refine wpAny_Slice (thn (po_none.run pins s1 σ H1 (fun o G => o = none ∧ G = H1) I1 ⟨rfl, rfl⟩) fun u1 s2 z1 => ?_)
  obtain ⟨_, _, I2, w1, rfl, rfl⟩ := z1
  refine thn (po_none.run pins s2 σ _ (fun o G => o = none ∧ G = _) I2 ⟨rfl, rfl⟩) fun u2 s3 z2 => ?_
  obtain ⟨_, _, I3, w2, rfl, rfl⟩ := z2
  refine thn (step.run pins s3 σ _ (fun o G => o = some (-1) ∧ G = _) I3 ⟨1, rfl, -1, rfl, rfl, rfl⟩) fun u3 s4 z3 => ?_
  obtain ⟨_, G, I4, w3, rfl, rfl⟩ := z3
  have I5 : Inv X pins σ G { s4 with heap := s4.heap.push { cls := .type "slice", data := .fields #[u1, u2, u3] } } := I4.kept (t' := s4.toks) fun b ob z => Heap.get?_push_of_some _ z
  rcases q with ⟨hq, q⟩ | ⟨hq, q⟩
  · obtain ⟨its, r, ht, hz⟩ := I5.list hq
    have hlen := r.length
    refine tail_any (ops := [.ref a, .ref s4.heap.objs.size]) ht.isList.typeIs (PySem.slot_list_getitem.lookup) ?_ (by with_unfolding_all rfl)
    refine wpAny_getItem_list_slice ht.isList (Heap.IsSliceOf.new _ u1 u2 u3) w1 w2 w3 (by decide) ?_ (by rw [List.size_toArray]; omega)
    rw [PySem.W.krv_pick]
    refine ⟨.ref _, upd G _ (.lst xs.reverse), I5.laid (t' := s4.toks) (o := .lst xs.reverse) (fun b ob z => Heap.get?_push_of_some _ z) (Nat.le_refl _) ⟨by rw [List.length_reverse]; exact hz, _, 0, r.reverse, Heap.get?_push_size _ rfl⟩, rfl, q _ (I5.hok.fresh (Nat.le_refl _))⟩
  · obtain ⟨its, r, ht, hz⟩ := I5.tuple hq
    have hlen := r.length
    refine tail_any (ops := [.ref a, .ref s4.heap.objs.size]) ht.typeIs (PyProof.Rows.slot_tuple_getitem.lookup) ?_ (by with_unfolding_all rfl)
    refine getItem_tuple_back ht (Heap.IsSliceOf.new _ u1 u2 u3) w1 w2 w3 (by omega) ?_
    exact ⟨.ref _, upd G _ (.tup xs.reverse), I5.laid (t' := s4.toks) (o := .tup xs.reverse) (fun b ob z => Heap.get?_push_of_some _ z) (Nat.le_refl _) ⟨by rw [List.length_reverse]; exact hz, _, r.reverse, IsTup.new _ _⟩, rfl, q _ (I5.hok.fresh (Nat.le_refl _))⟩
theorem dqs_reverse {H : Hp} {ds : List Dt} {vs : List V} (h : DqAll H vs ds) : DqAll H vs.reverse ds.reverse := by
  exact dqs_rev h (.nil : DqAll H [] [])
theorem xe_rev {k : Nat} {p1 p2 p3 pos : Pos} (he : XE X e de) : XE X (.Subscript e (.Slice none none (some (.UnaryOp .USub (.Constant (.int 1) k p1) p2)) p3) pos) (dRev de) := xe_of (pe_back he) fun Γ M k σ H Hc Q hd F O q => simLE Γ M _ σ H Hc _ hd F O fun v s M1 H1 Hc1 e1 O1 r1 h1 => by
  split at h1
  · obtain ⟨a, vs, rfl, g1, g2⟩ := dp_tup_inv r1
    exact ⟨a, vs, rfl, .inr ⟨SqT.of (O1.ex _ _ g1), fun p hp => (q.ex e1).tup O1 (dqs_reverse g2) hp h1⟩⟩
  · obtain ⟨a, vs, rfl, g1, g2⟩ := dp_lst_inv r1
    exact ⟨a, vs, rfl, .inl ⟨SqL.of (O1.ex _ _ g1), fun p hp => (q.ex e1).lst O1 (dqs_reverse g2) hp h1⟩⟩
  · obtain ⟨ds, hm, h1⟩ := h1
    cases r1
    obtain ⟨_, vs, g1, g2⟩ := O1.ob _ _ hm
    exact ⟨_, vs, rfl, .inl ⟨SqL.of g1, fun p hp => (q.ex e1).lst O1 (dqs_reverse (rps_dat g2)) hp h1⟩⟩
  · exact h1.elim
end
/-! ### sorted of whole numbers -/
def fSortI : DC := fun ss M k => match ss with
  | [s] => ∃ ns : List Int, IsL M s (ns.map fun n => .dat (.int n)) ∧ ns.length ≤ 1000000 ∧ ∀ (ns' : List Int) p, ns'.Perm ns → ns'.Pairwise (· ≤ ·) → M p = none → k (.own p) (put M p (.lst (ns'.map fun n => .dat (.int n))))
  | _ => False
theorem rps_ints {H : Hp} : ∀ {ns : List Int} {vs : List V}, Rps H (ns.map fun n => Sl.dat (.int n)) vs → vs = ns.map V.int
  | [], _, .nil => rfl
  | n :: ns, _, .cons r t => by rw [dp_int_inv r, rps_ints t] <;> rfl
theorem ints_rps {H : Hp} : ∀ ns : List Int, Rps H (ns.map fun n => Sl.dat (.int n)) (ns.map V.int)
  | [] => .nil
  | n :: ns => .cons (Dq.int n) (ints_rps ns)
theorem sim_sortI {K : PySem.W.Frag} : SimC (rSortedI K) fSortI := by
  intro ss M k xs H Hc Q h r O q
  unfold fSortI at h
  split at h
  · obtain ⟨x, rfl, rx⟩ := rps1 r
    obtain ⟨ns, l, hz, h⟩ := h
    obtain ⟨a, vs, rfl, g1, g2⟩ := l.at_ O rx
    rw [rps_ints g2] at g1
    refine ⟨a, ns, rfl, SqL.of g1, fun ns' p h1 h2 hp => ?_⟩
    exact q.own O (ints_rps ns') (by rw [List.length_map, h1.length_eq, sizeLine_eq]; omega) hp (h ns' p h1 h2 (O.freeM hp))
  · exact h.elim
/-! ### how long a repr is -/
mutual
def sz : Dt → Nat
  | .none => 4
  | .bool _ => 5
  | .int _ => 2000
  | .str x => (reprText x).length
  | .list xs => szAll xs + 3
  | .tuple xs => szAll xs + 3
  | .dict _ => 0
def szAll : List Dt → Nat
  | [] => 0
  | x :: xs => sz x + 2 + szAll xs
end
def noDict : Dt → Bool
  | .dict _ => false
  | _ => true
mutual
theorem shown_sz : ∀ d : Dt, d.showable = true → d.hasDict = false → d.shown.length ≤ sz d
  | .none, _, _ => by decide +kernel
  | .bool b, _, _ => by cases b <;> decide +kernel
  | .int i, h, _ => by
    have e : i.natAbs.log2 < 1920 := by simpa [PyData.showable] using h
    have := int_text_len_1921 e
    show (Str.ofString (toString i)).length ≤ 2000
    omega
  | .str x, _, _ => Nat.le_refl _
  | .list xs, h, h2 => by
    have z := shown_szAll xs (by simpa [PyData.showable] using h) (by simpa [PyData.hasDict] using h2)
    have y := listText_len_le (PyData.shownAll xs)
    show (listText (PyData.shownAll xs)).length ≤ szAll xs + 3
    omega
  | .tuple xs, h, h2 => by
    have z := shown_szAll xs (by simpa [PyData.showable] using h) (by simpa [PyData.hasDict] using h2)
    have y := tupleText_len_le (PyData.shownAll xs)
    show (tupleText (PyData.shownAll xs)).length ≤ szAll xs + 3
    omega
  | .dict _, _, h => by simp [PyData.hasDict] at h
theorem shown_szAll : ∀ ds : List Dt, PyData.showableAll ds = true → PyData.hasDictAll ds = false → ((PyData.shownAll ds).map (·.length)).sum + 2 * (PyData.shownAll ds).length ≤ szAll ds
  | [], _, _ => Nat.le_refl _
  | d :: ds, h, h2 => by
    rw [PyData.showableAll, Bool.and_eq_true] at h
    rw [PyData.hasDictAll, Bool.or_eq_false_iff] at h2
    have a := shown_sz d h.1 h2.1
    have b := shown_szAll ds h.2 h2.2
    show ((d.shown :: PyData.shownAll ds).map (·.length)).sum + 2 * (d.shown :: PyData.shownAll ds).length ≤ sz d + 2 + szAll ds
    rw [List.map_cons, List.sum_cons, List.length_cons]
    omega
end
/-- small enough to be shown: k levels -/
structure Sm (k : Nat) (d : Dt) : Prop where
  sh : d.showable = true
  nd : d.hasDict = false
  sz : sz d ≤ 3000 * 40 ^ k
  dp : d.depth ≤ k
theorem Sm.mono {j k : Nat} {d : Dt} (h : Sm j d) (le : j ≤ k) : Sm k d := ⟨h.sh, h.nd, Nat.le_trans h.sz (Nat.mul_le_mul_left _ (Nat.pow_le_pow_right (by decide) le)), Nat.le_trans h.dp le⟩
theorem Sm.int {i : Int} (h : i.natAbs < 2 ^ 1000) : Sm 0 (.int i) := by
  refine ⟨?_, rfl, (show 2000 ≤ 3000 * 40 ^ 0 by decide), Nat.le_refl _⟩
  have e : i.natAbs.log2 < 1920 := Nat.lt_of_lt_of_le (PySem.Flt.log2_lt_of (by decide) h) (by decide)
  simpa [PyData.showable] using e
theorem Sm.bool {b : Bool} : Sm 0 (.bool b) := ⟨rfl, rfl, by show 5 ≤ 3000 * 40 ^ 0; decide, Nat.le_refl _⟩
theorem Sm.none : Sm 0 .none := ⟨rfl, rfl, by show 4 ≤ 3000 * 40 ^ 0; decide, Nat.le_refl _⟩
theorem Sm.str {x : Str} (h : (reprText x).length ≤ 3000) : Sm 0 (.str x) := ⟨rfl, rfl, h, Nat.le_refl _⟩
theorem sm_all {k : Nat} : ∀ {ds : List Dt}, (∀ d ∈ ds, Sm k d) → PyData.showableAll ds = true ∧ PyData.hasDictAll ds = false ∧ szAll ds ≤ ds.length * (3000 * 40 ^ k + 2) ∧ PyData.depthAll ds ≤ k
  | [], _ => ⟨rfl, rfl, Nat.zero_le _, Nat.zero_le _⟩
  | d :: ds, h => by
    obtain ⟨a, b, c, e⟩ := sm_all fun x hx => h x (List.mem_cons_of_mem _ hx)
    have g := h d List.mem_cons_self
    refine ⟨?_, ?_, ?_, ?_⟩
    · rw [PyData.showableAll, g.sh, a] <;> rfl
    · rw [PyData.hasDictAll, g.nd, b] <;> rfl
    · show sz d + 2 + szAll ds ≤ (ds.length + 1) * (3000 * 40 ^ k + 2)
      rw [Nat.succ_mul]
      have := g.sz
      omega
    · show max d.depth (PyData.depthAll ds) ≤ k
      have := g.dp
      omega
theorem sm_bound (k n : Nat) (h : n ≤ 38) : n * (3000 * 40 ^ k + 2) + 3 ≤ 3000 * 40 ^ (k + 1) := by
  have e : 1 ≤ 40 ^ k := Nat.pos_of_ne_zero (by simp)
  rw [Nat.pow_succ]
  have : n * (3000 * 40 ^ k + 2) ≤ 38 * (3000 * 40 ^ k + 2) := Nat.mul_le_mul_right _ h
  omega
theorem Sm.tup {k : Nat} {ds : List Dt} (h : ∀ d ∈ ds, Sm k d) (hl : ds.length ≤ 38) : Sm (k + 1) (.tuple ds) := by
  obtain ⟨a, b, c, e⟩ := sm_all h
  refine ⟨a, b, ?_, Nat.succ_le_succ e⟩
  show szAll ds + 3 ≤ _
  have := sm_bound k ds.length hl
  omega
theorem Sm.list {k : Nat} {ds : List Dt} (h : ∀ d ∈ ds, Sm k d) (hl : ds.length ≤ 38) : Sm (k + 1) (.list ds) := by
  obtain ⟨a, b, c, e⟩ := sm_all h
  refine ⟨a, b, ?_, Nat.succ_le_succ e⟩
  show szAll ds + 3 ≤ _
  have := sm_bound k ds.length hl
  omega
theorem Sm.fits {d : Dt} (h : Sm 2 d) : d.shown.length ≤ 16777216 := Nat.le_trans (shown_sz d h.sh h.nd) (Nat.le_trans h.sz (by decide))
theorem cut_mem {α : Type} {xs : List α} {lo hi : Option Int} {x : α} (h : x ∈ cut xs lo hi) : x ∈ xs := by
  unfold cut at h
  exact List.mem_of_mem_drop (List.mem_of_mem_take h)
/-- an item of a list at a drawn place -/
theorem pick {α : Type} {P : α → Prop} {xs : List α} {i : Int} (h : ∀ x ∈ xs, P x) (h0 : 0 ≤ i) (h1 : i < xs.length) : ∃ x, atI xs i = some x ∧ P x := by
  obtain ⟨j, rfl⟩ := Int.eq_ofNat_of_zero_le h0
  have hj : j < xs.length := by omega
  exact ⟨xs[j], atI_nat (List.getElem?_eq_getElem hj), h _ (List.getElem_mem hj)⟩
theorem pickI {P : Int → Prop} {xs : List Int} {i : Int} (h : ∀ x ∈ xs, P x) (h0 : 0 ≤ i) (h1 : i < xs.length) : ∃ x, atI (xs.map PyData.int) i = some (.int x) ∧ P x := by
  obtain ⟨j, rfl⟩ := Int.eq_ofNat_of_zero_le h0
  have hj : j < xs.length := by omega
  exact ⟨xs[j], atI_nat (by rw [List.getElem?_map, List.getElem?_eq_getElem hj] <;> rfl), h _ (List.getElem_mem hj)⟩
end DL
namespace LW
open PySem PySem.Spec PyProof.Rows L2 DL
def top (i : Nat) : Stmt := PySem.Challenge.pw_latewood_k01_pieces_known.main.body.getD i (.Pass ⟨0, 0, 0, 0⟩)
abbrev s_is_whole : Stmt := top 15
abbrev N_is_whole : List Str := ["thing"]
theorem sc_is_whole : FnScope N_is_whole ["thing"] (defScope s_is_whole) := ⟨rfl, rfl, rfl, by decide +kernel, rfl, by decide +kernel, by decide +kernel⟩
abbrev s_is_piece : Stmt := top 16
abbrev N_is_piece : List Str := ["thing", "part"]
theorem sc_is_piece : FnScope N_is_piece ["thing"] (defScope s_is_piece) := ⟨rfl, rfl, rfl, by decide +kernel, rfl, by decide +kernel, by decide +kernel⟩
abbrev s_stands_well : Stmt := top 17
abbrev N_stands_well : List Str := ["piece"]
theorem sc_stands_well : FnScope N_stands_well ["piece"] (defScope s_stands_well) := ⟨rfl, rfl, rfl, by decide +kernel, rfl, by decide +kernel, by decide +kernel⟩
abbrev s_asked_well : Stmt := top 18
abbrev N_asked_well : List Str := ["piece"]
theorem sc_asked_well : FnScope N_asked_well ["piece"] (defScope s_asked_well) := ⟨rfl, rfl, rfl, by decide +kernel, rfl, by decide +kernel, by decide +kernel⟩
abbrev s_llmixed : Stmt := top 20
abbrev N_llmixed : List Str := ["cell", "at", "one", "two", "three"]
theorem sc_llmixed : FnScope N_llmixed ["cell", "at"] (defScope s_llmixed) := ⟨rfl, rfl, rfl, by decide +kernel, rfl, by decide +kernel, by decide +kernel⟩
abbrev s_llopen : Stmt := top 21
abbrev N_llopen : List Str := ["script"]
theorem sc_llopen : FnScope N_llopen ["script"] (defScope s_llopen) := ⟨rfl, rfl, rfl, by decide +kernel, rfl, by decide +kernel, by decide +kernel⟩
abbrev s_lldraw : Stmt := top 22
abbrev N_lldraw : List Str := ["feed", "many", "drawn", "at", "cell"]
theorem sc_lldraw : FnScope N_lldraw ["feed", "many"] (defScope s_lldraw) := ⟨rfl, rfl, rfl, by decide +kernel, rfl, by decide +kernel, by decide +kernel⟩
abbrev s_llwhole : Stmt := top 23
abbrev N_llwhole : List Str := ["thing"]
theorem sc_llwhole : FnScope N_llwhole ["thing"] (defScope s_llwhole) := ⟨rfl, rfl, rfl, by decide +kernel, rfl, by decide +kernel, by decide +kernel⟩
abbrev s_ll_due : Stmt := top 24
abbrev N_ll_due : List Str := ["thing", "run", "number", "asker", "place", "count", "one"]
theorem sc_ll_due : FnScope N_ll_due ["thing"] (defScope s_ll_due) := ⟨rfl, rfl, rfl, by decide +kernel, rfl, by decide +kernel, by decide +kernel⟩
abbrev s_ll_drawn : Stmt := top 25
abbrev N_ll_drawn : List Str := ["feed", "run", "number", "asker", "place", "count", "far", "times", "joined", "turn"]
theorem sc_ll_drawn : FnScope N_ll_drawn ["feed"] (defScope s_ll_drawn) := ⟨rfl, rfl, rfl, by decide +kernel, rfl, by decide +kernel, by decide +kernel⟩
abbrev s_ll_bent : Stmt := top 26
abbrev N_ll_bent : List Str := ["feed", "piece", "found", "odd", "at", "other", "one", "bent", "two"]
theorem sc_ll_bent : FnScope N_ll_bent ["feed", "piece"] (defScope s_ll_bent) := ⟨rfl, rfl, rfl, by decide +kernel, rfl, by decide +kernel, by decide +kernel⟩
abbrev s_law : Stmt := top 27
abbrev N_law : List Str := ["script", "feed", "turn", "piece", "thing", "seen", "found"]
theorem sc_law : FnScope N_law ["script"] (defScope s_law) := ⟨rfl, rfl, rfl, by decide +kernel, rfl, by decide +kernel, by decide +kernel⟩
structure Tx (K : PySem.W.Frag) (mg : Str → Option Value) where
  f_is_whole : Addr
  fd_is_whole : FuncData
  F_is_whole : Fun K "is_whole" "is_whole" s_is_whole f_is_whole fd_is_whole
  g_is_whole : mg "is_whole" = some (.ref f_is_whole)
  b_is_whole : Binds K fd_is_whole ["thing"] []
  f_is_piece : Addr
  fd_is_piece : FuncData
  F_is_piece : Fun K "is_piece" "is_piece" s_is_piece f_is_piece fd_is_piece
  g_is_piece : mg "is_piece" = some (.ref f_is_piece)
  b_is_piece : Binds K fd_is_piece ["thing"] []
  f_stands_well : Addr
  fd_stands_well : FuncData
  F_stands_well : Fun K "stands_well" "stands_well" s_stands_well f_stands_well fd_stands_well
  g_stands_well : mg "stands_well" = some (.ref f_stands_well)
  b_stands_well : Binds K fd_stands_well ["piece"] []
  f_asked_well : Addr
  fd_asked_well : FuncData
  F_asked_well : Fun K "asked_well" "asked_well" s_asked_well f_asked_well fd_asked_well
  g_asked_well : mg "asked_well" = some (.ref f_asked_well)
  b_asked_well : Binds K fd_asked_well ["piece"] []
  f_llmixed : Addr
  fd_llmixed : FuncData
  F_llmixed : Fun K "_law_lmixed" "_law_lmixed" s_llmixed f_llmixed fd_llmixed
  g_llmixed : mg "_law_lmixed" = some (.ref f_llmixed)
  b_llmixed : Binds K fd_llmixed ["cell", "at"] []
  f_llopen : Addr
  fd_llopen : FuncData
  F_llopen : Fun K "_law_lopen" "_law_lopen" s_llopen f_llopen fd_llopen
  g_llopen : mg "_law_lopen" = some (.ref f_llopen)
  b_llopen : Binds K fd_llopen ["script"] []
  f_lldraw : Addr
  fd_lldraw : FuncData
  F_lldraw : Fun K "_law_ldraw" "_law_ldraw" s_lldraw f_lldraw fd_lldraw
  g_lldraw : mg "_law_ldraw" = some (.ref f_lldraw)
  b_lldraw : Binds K fd_lldraw ["feed", "many"] []
  f_llwhole : Addr
  fd_llwhole : FuncData
  F_llwhole : Fun K "_law_lwhole" "_law_lwhole" s_llwhole f_llwhole fd_llwhole
  g_llwhole : mg "_law_lwhole" = some (.ref f_llwhole)
  b_llwhole : Binds K fd_llwhole ["thing"] []
  f_ll_due : Addr
  fd_ll_due : FuncData
  F_ll_due : Fun K "_law_l_due" "_law_l_due" s_ll_due f_ll_due fd_ll_due
  g_ll_due : mg "_law_l_due" = some (.ref f_ll_due)
  b_ll_due : Binds K fd_ll_due ["thing"] []
  f_ll_drawn : Addr
  fd_ll_drawn : FuncData
  F_ll_drawn : Fun K "_law_l_drawn" "_law_l_drawn" s_ll_drawn f_ll_drawn fd_ll_drawn
  g_ll_drawn : mg "_law_l_drawn" = some (.ref f_ll_drawn)
  b_ll_drawn : Binds K fd_ll_drawn ["feed"] []
  f_ll_bent : Addr
  fd_ll_bent : FuncData
  F_ll_bent : Fun K "_law_l_bent" "_law_l_bent" s_ll_bent f_ll_bent fd_ll_bent
  g_ll_bent : mg "_law_l_bent" = some (.ref f_ll_bent)
  b_ll_bent : Binds K fd_ll_bent ["feed", "piece"] []
  f_law : Addr
  fd_law : FuncData
  F_law : Fun K "law" "law" s_law f_law fd_law
  g_law : mg "law" = some (.ref f_law)
  b_law : Binds K fd_law ["script"] []
  t_RUN : Tok
  c_RUN : mg "RUN" = some (.int (0) t_RUN)
  t_NUMBER : Tok
  c_NUMBER : mg "NUMBER" = some (.int (1) t_NUMBER)
  t_ASKER : Tok
  c_ASKER : mg "ASKER" = some (.int (2) t_ASKER)
  t_HOUSE : Tok
  c_HOUSE : mg "HOUSE" = some (.int (3) t_HOUSE)
  t_COUNT : Tok
  c_COUNT : mg "COUNT" = some (.int (4) t_COUNT)
  t_BEGIN : Tok
  c_BEGIN : mg "BEGIN" = some (.int (5) t_BEGIN)
  t_END : Tok
  c_END : mg "END" = some (.int (6) t_END)
  t_JOINED : Tok
  c_JOINED : mg "JOINED" = some (.int (7) t_JOINED)
  t_PLACES : Tok
  c_PLACES : mg "PLACES" = some (.int (8) t_PLACES)
  t_NO_ASKER : Tok
  c_NO_ASKER : mg "NO_ASKER" = some (.int (-1) t_NO_ASKER)
  t_GREATEST_RUN : Tok
  c_GREATEST_RUN : mg "GREATEST_RUN" = some (.int (99) t_GREATEST_RUN)
  t_GREATEST_NUMBER : Tok
  c_GREATEST_NUMBER : mg "GREATEST_NUMBER" = some (.int (99) t_GREATEST_NUMBER)
  t_GREATEST_HOUSE : Tok
  c_GREATEST_HOUSE : mg "GREATEST_HOUSE" = some (.int (7) t_GREATEST_HOUSE)
  t_GREATEST_COUNT : Tok
  c_GREATEST_COUNT : mg "GREATEST_COUNT" = some (.int (999) t_GREATEST_COUNT)
  m_all : mg "all" = none
  m_bool : mg "bool" = none
  m_int : mg "int" = none
  m_isinstance : mg "isinstance" = none
  m_len : mg "len" = none
  m_list : mg "list" = none
  m_range : mg "range" = none
  m_repr : mg "repr" = none
  m_sorted : mg "sorted" = none
  m_tuple : mg "tuple" = none
end LW
namespace LW
open PySem PySem.Spec PyProof.Rows L2 DL
/-- feed: its cells, how often it was filled, what is left -/
def Feed (M : Mem) (f : Addr) (n : Int) : Prop := ∃ (cs : List Int) (at_ left : Int), M f = some (.lst [.dat (.list (cs.map .int)), .dat (.int at_), .dat (.int left)]) ∧ cs.length ≤ 60 ∧ 0 ≤ at_ ∧ at_ ≤ n
theorem cut60 {ns : List Int} (h : ns.length ≤ 63) : (cut ns none (some 60)).length ≤ 60 := by
  unfold cut
  rw [List.length_take]
  have : HT.sIx ns.length ns.length (some 60) ≤ 60 := by
    unfold HT.sIx
    simp
    omega
  omega
def pr_llmixed : Pr := fun ss M q => ∃ c a : Int, ss = [.dat (.int c), .dat (.int a)] ∧ 0 ≤ a ∧ a ≤ 2 ^ 40 ∧ ∀ r : Int, q (.dat (.int r)) M
def pr_llopen (K : PySem.W.Frag) : Pr := fun ss M q => ∃ ns, ss = [.scr K ns] ∧ ns.length ≤ 63 ∧ ∀ f M', M f = none → Feed M' f 0 → (∀ a, a ≠ f → M' a = M a) → q (.own f) M'
def pr_lldraw : Pr := fun ss M q => ∃ (f : Addr) (many n : Int), ss = [.own f, .dat (.int many)] ∧ 0 < many ∧ many < 2 ^ 200 ∧ Feed M f n ∧ n ≤ 2 ^ 39 ∧ ∀ (r : Int) M', 0 ≤ r → r < many → Feed M' f (n + 1) → (∀ a, a ≠ f → M' a = M a) → q (.dat (.int r)) M'
theorem feed_put {M : Mem} {f : Addr} {cs : List Int} {at_ left n : Int} (h1 : cs.length ≤ 60) (h2 : 0 ≤ at_) (h3 : at_ ≤ n) : Feed (put M f (.lst [.dat (.list (cs.map .int)), .dat (.int at_), .dat (.int left)])) f n := ⟨cs, at_, left, put_at, h1, h2, h3⟩
theorem eqv_nil {cs : List Int} : PyData.eqv (.list (cs.map .int)) (.list []) = cs.isEmpty := by
  cases cs with
  | nil => rfl
  | cons c cs => rfl
theorem canLay_ints : ∀ cs : List Int, PyData.canLayAll0 (cs.map .int) = true
  | [] => rfl
  | c :: cs => by
    show (PyData.canLay0 (.int c) && PyData.canLayAll0 (cs.map .int)) = true
    rw [canLay_ints cs] <;> rfl
theorem depth_ints : ∀ cs : List Int, PyData.depthAll (cs.map .int) ≤ 1
  | [] => by decide
  | c :: cs => by
    show max (PyData.depth (.int c)) (PyData.depthAll (cs.map .int)) ≤ 1
    have := depth_ints cs
    have e : PyData.depth (.int c) = 0 := rfl
    omega
theorem shaped_ints (cs : List Int) : SeqAt.shaped (.list (cs.map .int)) = true := by
  unfold SeqAt.shaped
  rw [Bool.and_eq_true]
  refine ⟨canLay_ints cs, decide_eq_true ?_⟩
  have := depth_ints cs
  show PyData.depthAll (cs.map .int) + 1 ≤ 64
  omega
section
variable {P : Program} {w : World} {K : PySem.W.Frag} {mg : Str → Option Value} {base : Heap}
theorem ok_llmixed (T : Tx K mg) : Holds P w K mg base 1 T.f_llmixed T.fd_llmixed ["cell", "at"] pr_llmixed := by
  refine holds_of T.F_llmixed sc_llmixed (fun ss M q h => ?len) (fun cdv A outer s H hr => (xss_cons (xs_asgN (ps_set (i := 2) sc_llmixed.nd rfl (by first | exact .inl rfl | exact .inr rfl) (xe_mod (xe_addD (xe_addD (xe_mul (xe_mod (xv 0) xe_int) xe_int) (xe_mul (xv 1) xe_int)) xe_int) xe_int)) simLE)
      (xss_cons (xs_asgN (ps_set (i := 3) sc_llmixed.nd rfl (by first | exact .inl rfl | exact .inr rfl) (xe_mod (xe_addD (xe_addD (xe_mul (xv 2) (xv 2)) (xe_mul (xe_mul (xv 1) (xv 1)) xe_int)) xe_int) xe_int)) simLE)
      (xss_cons (xs_asgN (ps_set (i := 4) sc_llmixed.nd rfl (by first | exact .inl rfl | exact .inr rfl) (xe_mod (xe_addD (xe_addD (xe_mul (xv 3) (xv 3)) (xv 2)) (xv 1)) xe_int)) simLE)
      (xss_one (xs_ret (xe_addD (xe_mul (xe_addD (xe_mul (xv 4) xe_int) (xv 3)) xe_int) (xv 2)))))))) (fun ss M q h => ?read)
  case len =>
    obtain ⟨c, a, rfl, _⟩ := h
    rfl
  case read =>
    obtain ⟨c, a, rfl, h0, h1, k⟩ := h
    refine ⟨_, rfl, (show (0 : Int) < 2147483647 by decide), ?_⟩
    have e0 := Int.emod_nonneg c (show (2147483647 : Int) ≠ 0 by decide)
    have e1 := Int.emod_lt_of_pos c (show (0 : Int) < 2147483647 by decide)
    refine ⟨.inl ⟨by omega, by omega⟩, ?_⟩
    refine ⟨_, rfl, ⟨.inl ⟨by omega, by omega⟩, ?_⟩⟩
    refine ⟨(show (0 : Int) < 2147483629 by decide), ?_⟩
    generalize hone : (c % 2147483647 * 48271 + a * 7919 + 11) % 2147483629 = one
    have f0 : 0 ≤ one := by rw [← hone]; exact Int.emod_nonneg _ (by decide)
    have f1 : one < 2147483629 := by rw [← hone]; exact Int.emod_lt_of_pos _ (by decide)
    refine ⟨_, rfl, _, rfl, ⟨.inl ⟨by omega, by omega⟩, ?_⟩⟩
    refine ⟨_, rfl, _, rfl, ⟨.inl ⟨by omega, by omega⟩, ?_⟩⟩
    refine ⟨.inr ⟨by decide, by decide⟩, ?_⟩
    refine ⟨(show (0 : Int) < 2147483587 by decide), ?_⟩
    generalize htwo : (one * one + a * a * 31 + 5) % 2147483587 = two
    have g0 : 0 ≤ two := by rw [← htwo]; exact Int.emod_nonneg _ (by decide)
    have g1 : two < 2147483587 := by rw [← htwo]; exact Int.emod_lt_of_pos _ (by decide)
    refine ⟨_, rfl, _, rfl, ⟨.inl ⟨by omega, by omega⟩, ?_⟩⟩
    refine ⟨_, rfl, ?_⟩
    refine ⟨_, rfl, ?_⟩
    refine ⟨(show (0 : Int) < 2147483563 by decide), ?_⟩
    generalize hthree : (two * two + one + a) % 2147483563 = three
    have j0 : 0 ≤ three := by rw [← hthree]; exact Int.emod_nonneg _ (by decide)
    have j1 : three < 2147483563 := by rw [← hthree]; exact Int.emod_lt_of_pos _ (by decide)
    refine ⟨_, rfl, ⟨.inl ⟨by omega, by omega⟩, ?_⟩⟩
    refine ⟨_, rfl, ?_⟩
    refine ⟨.inl ⟨by omega, by omega⟩, ?_⟩
    refine ⟨_, rfl, ?_⟩
    exact k _
theorem ok_llopen (T : Tx K mg) : Holds P w K mg base 1 T.f_llopen T.fd_llopen ["script"] (pr_llopen K) := by
  refine holds_of T.F_llopen sc_llopen (fun ss M q h => ?len) (fun cdv A outer s H hr => (xss_one (xs_ret (xe_lst (xa_cons (xe_fz (xe_callB sim_list (pe_callTy call_list_of rfl T.m_list (by decide +kernel) (xa_cons (xe_slS (K := K) rfl (xv 0) xo_none (xo_some xe_int)) xa_nil)))) (xa_cons xe_int (xa_cons xe_int xa_nil))))))) (fun ss M q h => ?read)
  case len =>
    obtain ⟨c, rfl, _⟩ := h
    rfl
  case read =>
    obtain ⟨ns, rfl, hn, k⟩ := h
    refine ⟨_, rfl, rfl, ?_⟩
    have hz := cut60 hn
    refine ⟨by rw [List.length_map]; omega, fun p hp => ?_⟩
    refine ⟨_, put_at, ?_⟩
    rw [del_put hp]
    refine ⟨rfl, fun f hf => ?_⟩
    exact k f _ hf ⟨_, 0, 0, put_at, hz, by decide, by decide⟩ fun a ha => put_ne ha
theorem ok_lldraw (T : Tx K mg) : Holds P w K mg base 2 T.f_lldraw T.fd_lldraw ["feed", "many"] pr_lldraw := by
  refine holds_of T.F_lldraw sc_lldraw (fun ss M q h => ?len) (fun cdv A outer s H hr => (xss_cut (xs_if (xb_cmp (sim_I0 fun _ _ _ => .bl _) (pt_cmpR op_lt (xe_ix (xv 0) xe_int) (xv 1) (nomark _))) (xss_cons (xs_asgN (ps_set (i := 3) sc_lldraw.nd rfl (by first | exact .inl rfl | exact .inr rfl) (xe_ix (xv 0) xe_int)) simLE)
      (xss_cons (xs_asgN (ps_set (i := 4) sc_lldraw.nd rfl (by first | exact .inl rfl | exact .inr rfl) (xe_mul (xv 3) xe_int)) simLE)
      (xss_cut (xs_if (xb_cmp sim_ne (pt_cmpR (op_neAll hr.rm.units) (xe_ix (xv 0) xe_int) (xe_lstD xa_nil) (nomark _))) (xss_one (xs_asgN (ps_set (i := 4) sc_lldraw.nd rfl (by first | exact .inl rfl | exact .inr rfl) (xe_ix (xe_ix (xv 0) xe_int) (xe_mod (xv 3) (xe_callB sim_len (pe_callB call_lenA rfl T.m_len (by decide +kernel) (xa_cons (xe_ix (xv 0) xe_int) xa_nil)))))) simLE)) xss_nil)
      (xss_cons (xs_setL (ps_asg (xe_addD (xv 3) xe_int) (pg_sub (xv 0) xe_int set_list)))
      (xss_cons (xs_setL (ps_asg (xv 4) (pg_sub (xv 0) xe_int set_list)))
      (xss_one (xs_if (xb_w (xw_or (xb_cmp (sim_I0 fun _ _ _ => .bl _) (pt_cmpR op_lt (xv 4) (xe_pow xe_int xe_int) (nomark _))) (xw_or1 (xb_cmp (sim_I0 fun _ _ _ => .bl _) (pt_cmpR op_ge (xv 3) (xe_callB sim_len (pe_callB call_lenA rfl T.m_len (by decide +kernel) (xa_cons (xe_ix (xv 0) xe_int) xa_nil))) (nomark _)))))) (xss_one (xs_setL (ps_asg (xe_call (ok_llmixed T) (hr.mono (by decide)) T.g_llmixed T.F_llmixed.kp T.b_llmixed (xa_cons (xv 4) (xa_cons (xv 3) xa_nil))) (pg_sub (xv 0) xe_int set_list)))) xss_nil))))))) xss_nil)
      (xss_cons (xs_asgN (ps_set (i := 2) sc_lldraw.nd rfl (by first | exact .inl rfl | exact .inr rfl) (xe_mod (xe_ix (xv 0) xe_int) (xv 1))) simLE)
      (xss_cons (xs_setL (ps_asg (xe_fdiv (xe_ix (xv 0) xe_int) (xv 1)) (pg_sub (xv 0) xe_int set_list)))
      (xss_one (xs_ret (xv 2))))))) (fun ss M q h => ?read)
  case len =>
    obtain ⟨f, many, n, rfl, _⟩ := h
    rfl
  case read =>
    obtain ⟨f, many, n, rfl, hm0, hm1, ⟨cs, at_, left, hM, hc, ha0, ha1⟩, hn, k⟩ := h
    refine ⟨fun Γ' M' => ∃ (at2 left2 : Int) (x y z : Option Sl), Γ' = [some (.own f), some (.dat (.int many)), x, y, z] ∧ M' f = some (.lst [.dat (.list (cs.map .int)), .dat (.int at2), .dat (.int left2)]) ∧ 0 ≤ at2 ∧ at2 ≤ n + 1 ∧ ∀ a, a ≠ f → M' a = M a, ?_, ?_⟩
    · refine ⟨_, rfl, _, _, hM, rfl, _, rfl, fun hlt => ?_, fun hlt => ?_⟩
      · refine ⟨_, rfl, _, _, hM, rfl, ?_⟩
        refine ⟨_, rfl, .inr ⟨by decide, by decide⟩, ?_⟩
        refine ⟨fun Γ' M' => ∃ c : Int, Γ' = [some (.own f), some (.dat (.int many)), none, some (.dat (.int at_)), some (.dat (.int c))] ∧ M' = M, ?_, ?_⟩
        · refine ⟨_, rfl, _, _, hM, rfl, rfl, _, rfl, _, _, .inl rfl, .inl rfl, shaped_ints cs, rfl, ?_⟩
          refine ⟨fun hne => ?_, fun _ => ⟨_, rfl, rfl⟩⟩
          refine ⟨_, rfl, _, _, hM, rfl, _, rfl, _, rfl, _, _, hM, rfl, ?_⟩
          have hpos : 0 < cs.length := by
            cases cs with
            | nil => cases hne
            | cons _ _ => exact Nat.succ_pos _
          have hL : (cs.map PyData.int).length = cs.length := List.length_map ..
          have e0 := Int.emod_nonneg at_ (show ((cs.map PyData.int).length : Int) ≠ 0 by omega)
          have e1 := Int.emod_lt_of_pos at_ (show (0 : Int) < ((cs.map PyData.int).length : Int) by omega)
          refine ⟨(show (0 : Int) < ((cs.map PyData.int).length : Int) by omega), ?_⟩
          obtain ⟨j, ej⟩ : ∃ j : Nat, at_ % ((cs.map PyData.int).length : Int) = (j : Int) := ⟨(at_ % ((cs.map PyData.int).length : Int)).toNat, by omega⟩
          have hj : j < cs.length := by omega
          refine ⟨.int cs[j], (congrArg (atI _) ej).trans (atI_nat (by rw [List.getElem?_map, List.getElem?_eq_getElem hj] <;> rfl)), ?_⟩
          exact ⟨_, rfl, rfl⟩
        · rintro Γ' M' ⟨c, rfl, eM⟩
          have eM' := eM.symm
          subst eM'
          refine ⟨_, rfl, _, rfl, f, 1, _, 1, rfl, rfl, hM, rfl, ?_⟩
          refine ⟨_, rfl, _, rfl, f, 2, _, 2, rfl, rfl, put_at, rfl, ?_⟩
          rw [put_put]
          have wrap : ∀ (left2 : Int) (M' : Mem), M' f = some (.lst [.dat (.list (cs.map .int)), .dat (.int (at_ + 1)), .dat (.int left2)]) → (∀ a, a ≠ f → M' a = M a) → ∀ x y z : Option Sl, ∃ (at2 left2 : Int) (x' y' z' : Option Sl), ([some (.own f), some (.dat (.int many)), x, y, z] : Fm) = [some (.own f), some (.dat (.int many)), x', y', z'] ∧ M' f = some (.lst [.dat (.list (cs.map .int)), .dat (.int at2), .dat (.int left2)]) ∧ 0 ≤ at2 ∧ at2 ≤ n + 1 ∧ ∀ a, a ≠ f → M' a = M a :=
            fun left2 M' h1 h2 x y z => ⟨at_ + 1, left2, x, y, z, rfl, h1, by omega, by omega, h2⟩
          have mixed : ∀ r : Int, ∃ (at2 left2 : Int) (x y z : Option Sl), ([some (.own f), some (.dat (.int many)), none, some (.dat (.int at_)), some (.dat (.int c))] : Fm) = [some (.own f), some (.dat (.int many)), x, y, z] ∧ (put (put M f (.lst [.dat (.list (cs.map .int)), .dat (.int (at_ + 1)), .dat (.int c)])) f (.lst [.dat (.list (cs.map .int)), .dat (.int (at_ + 1)), .dat (.int r)])) f = some (.lst [.dat (.list (cs.map .int)), .dat (.int at2), .dat (.int left2)]) ∧ 0 ≤ at2 ∧ at2 ≤ n + 1 ∧ ∀ a, a ≠ f → (put (put M f (.lst [.dat (.list (cs.map .int)), .dat (.int (at_ + 1)), .dat (.int c)])) f (.lst [.dat (.list (cs.map .int)), .dat (.int (at_ + 1)), .dat (.int r)])) a = M a :=
            fun r => ⟨at_ + 1, r, _, _, _, rfl, put_at, by omega, by omega, fun a ha => by rw [put_ne ha, put_ne ha]⟩
          refine ⟨_, rfl, ⟨by decide, by decide, by decide⟩, ?_⟩
          refine ⟨fun hlt => ?_, fun hge => ?_⟩
          · refine ⟨fun _ => ?_, fun z => nomatch z⟩
            refine ⟨_, rfl, _, rfl, c, at_, rfl, ha0, by omega, fun r => ?_⟩
            exact ⟨_, rfl, f, 2, _, 2, rfl, rfl, put_at, rfl, mixed r⟩
          · refine ⟨_, rfl, _, rfl, _, _, put_at, rfl, ?_⟩
            refine ⟨fun hge2 => ?_, fun hlt2 => ?_⟩
            · refine ⟨_, rfl, _, rfl, c, at_, rfl, ha0, by omega, fun r => ?_⟩
              exact ⟨_, rfl, f, 2, _, 2, rfl, rfl, put_at, rfl, mixed r⟩
            · exact wrap c _ put_at (fun a ha => put_ne ha) _ _ _
      · exact ⟨at_, left, _, _, _, rfl, hM, ha0, by omega, fun _ _ => rfl⟩
    · rintro Γ' M' ⟨at2, left2, x, y, z, rfl, hM2, h20, h21, hoth⟩
      refine ⟨_, rfl, _, _, hM2, rfl, _, rfl, hm0, ?_⟩
      have e0 := Int.emod_nonneg left2 (show many ≠ 0 by omega)
      have e1 := Int.emod_lt_of_pos left2 hm0
      refine ⟨_, rfl, _, _, hM2, rfl, _, rfl, wide_div (b := 200) hm0 (by omega) (by decide) (by decide), ?_⟩
      refine ⟨_, rfl, f, 2, _, 2, rfl, rfl, hM2, rfl, ?_⟩
      refine ⟨_, rfl, ?_⟩
      exact k _ _ e0 e1 ⟨cs, at2, _, put_at, hc, h20, h21⟩ fun a ha => by rw [put_ne ha]; exact hoth a ha
end
end LW
namespace LW
open PySem PySem.Spec PyProof.Rows L2 DL
def isInt : Dt → Bool
  | .int _ => true
  | _ => false
def isIntS : Sl → Bool
  | .dat d => isInt d
  | _ => false
def pr_is_whole : Pr := fun ss M q => ∃ d, ss = [.dat d] ∧ q (.dat (.bool (isInt d))) M
/-- a piece's own numbers -/
def okP (r n a h c b e : Int) (j : Bool) : Prop := (0 ≤ r ∧ r ≤ 99) ∧ (0 ≤ n ∧ n ≤ 99) ∧ (0 ≤ h ∧ h ≤ 7) ∧ (0 ≤ c ∧ c ≤ 999) ∧ ((a = -1 ∧ j = false) ∨ (0 ≤ a ∧ a ≤ 99 ∧ a ≠ n)) ∧ b ≤ e
instance (r n a h c b e : Int) (j : Bool) : Decidable (okP r n a h c b e j) := by unfold okP; infer_instance
def isP : Dt → Bool
  | .tuple [.int r, .int n, .int a, .int h, .int c, .int b, .int e, .bool j] => decide (okP r n a h c b e j)
  | _ => false
theorem isP_len {ds : List Dt} (h : ds.length ≠ 8) : isP (.tuple ds) = false := by
  unfold isP
  split
  · rename_i heq
    injection heq with heq
    subst heq
    exact absurd rfl h
  · rfl
theorem len8 {α : Type} {l : List α} (h : l.length = 8) : ∃ a b c d e f g i, l = [a, b, c, d, e, f, g, i] := by
  match l, h with
  | [a, b, c, d, e, f, g, i], _ => exact ⟨a, b, c, d, e, f, g, i, rfl⟩
theorem isP_ints {d0 d1 d2 d3 d4 d5 d6 d7 : Dt} (h : ([d0, d1, d2, d3, d4, d5, d6].map isInt).all id = false) : isP (.tuple [d0, d1, d2, d3, d4, d5, d6, d7]) = false := by
  unfold isP
  split
  · rename_i heq
    injection heq with heq
    cases heq
    cases h
  · rfl
theorem isP_bool {d0 d1 d2 d3 d4 d5 d6 d7 : Dt} (h : isiD "bool" d7 = false) : isP (.tuple [d0, d1, d2, d3, d4, d5, d6, d7]) = false := by
  unfold isP
  split
  · rename_i heq
    injection heq with heq
    cases heq
    rw [isi_bool] at h
    cases h
  · rfl
theorem int_of {d : Dt} (h : isInt d = true) : ∃ i, d = .int i := by
  cases d <;> first | exact ⟨_, rfl⟩ | cases h
theorem ints7 {d0 d1 d2 d3 d4 d5 d6 : Dt} (h : ([d0, d1, d2, d3, d4, d5, d6].map isInt).all id = true) : ∃ i0 i1 i2 i3 i4 i5 i6 : Int, d0 = .int i0 ∧ d1 = .int i1 ∧ d2 = .int i2 ∧ d3 = .int i3 ∧ d4 = .int i4 ∧ d5 = .int i5 ∧ d6 = .int i6 := by
  simp only [List.map_cons, List.map_nil, List.all_cons, List.all_nil, Bool.and_true, Bool.and_eq_true, id_eq] at h
  obtain ⟨h0, h1, h2, h3, h4, h5, h6⟩ := h
  obtain ⟨i0, rfl⟩ := int_of h0
  obtain ⟨i1, rfl⟩ := int_of h1
  obtain ⟨i2, rfl⟩ := int_of h2
  obtain ⟨i3, rfl⟩ := int_of h3
  obtain ⟨i4, rfl⟩ := int_of h4
  obtain ⟨i5, rfl⟩ := int_of h5
  obtain ⟨i6, rfl⟩ := int_of h6
  exact ⟨i0, i1, i2, i3, i4, i5, i6, rfl, rfl, rfl, rfl, rfl, rfl, rfl⟩
theorem bool_of {d : Dt} (h : isiD "bool" d = true) : ∃ b, d = .bool b := by
  rw [isi_bool] at h
  cases d <;> first | exact ⟨_, rfl⟩ | cases h
def pr_is_piece : Pr := fun ss M q => ∃ d, ss = [.dat d] ∧ q (.dat (.bool (isP d))) M
def pr_stands_well : Pr := fun ss M q => ∃ (r n a h c b e : Int) (j : Bool), ss = [.dat (.tuple [.int r, .int n, .int a, .int h, .int c, .int b, .int e, .bool j])] ∧ q (.dat (.bool (decide ((0 ≤ r ∧ r ≤ 99) ∧ (0 ≤ n ∧ n ≤ 99) ∧ (0 ≤ h ∧ h ≤ 7) ∧ (0 ≤ c ∧ c ≤ 999))))) M
def pr_asked_well : Pr := fun ss M q => ∃ (r n a h c b e : Int) (j : Bool), ss = [.dat (.tuple [.int r, .int n, .int a, .int h, .int c, .int b, .int e, .bool j])] ∧ q (.dat (.bool (decide ((a = -1 ∧ j = false) ∨ (0 ≤ a ∧ a ≤ 99 ∧ a ≠ n))))) M
section
variable {P : Program} {w : World} {K : PySem.W.Frag} {mg : Str → Option Value} {base : Heap}
theorem ok_is_whole (T : Tx K mg) : Holds P w K mg base 1 T.f_is_whole T.fd_is_whole ["thing"] pr_is_whole := by
  refine holds_of T.F_is_whole sc_is_whole (fun ss M q h => ?len) (fun cdv A outer s H hr => (xss_one (xs_ret (xe_and (xe_callB sim_isi (pe_callB call_isi rfl T.m_isinstance (by decide +kernel) (xa_cons (xv 0) (xa_cons (xe_raw (pe_bltn (v := .ty "int") rfl T.m_int (by decide +kernel) rfl)) xa_nil)))) (xe_one (xe_not (xe_callB sim_isi (pe_callB call_isi rfl T.m_isinstance (by decide +kernel) (xa_cons (xv 0) (xa_cons (xe_raw (pe_bltn (v := .ty "bool") rfl T.m_bool (by decide +kernel) rfl)) xa_nil)))))))))) (fun ss M q h => ?read)
  case len =>
    obtain ⟨d, rfl, _⟩ := h
    rfl
  case read =>
    obtain ⟨d, rfl, k⟩ := h
    refine ⟨_, rfl, .inl rfl, ?_⟩
    rw [show (isiD "int" d) = _ from isi_int d]
    refine ⟨fun hi => ⟨_, rfl, .inr (.inl rfl), ?_⟩, fun hi => ?_⟩
    · rw [show (isiD "bool" d) = _ from isi_bool d]
      cases d <;> first | exact k | cases hi
    · cases d <;> first | exact k | cases hi
theorem ok_stands_well (T : Tx K mg) : Holds P w K mg base 1 T.f_stands_well T.fd_stands_well ["piece"] pr_stands_well := by
  refine holds_of T.F_stands_well sc_stands_well (fun ss M q h => ?len) (fun cdv A outer s H hr => (xss_cons (xs_if (xb_not (xb_w (xw_and (xb_chainI (pt_chain op_le op_le xe_int (xe_ix (xv 0) (xe_globI T.c_RUN)) (xe_globI T.c_GREATEST_RUN))) (xw_and1 (xb_chainI (pt_chain op_le op_le xe_int (xe_ix (xv 0) (xe_globI T.c_NUMBER)) (xe_globI T.c_GREATEST_NUMBER))))))) (xss_one (xs_ret xe_bl)) xss_nil)
      (xss_one (xs_ret (xe_and (xe_chainI (pe_chain op_le op_le xe_int (xe_ix (xv 0) (xe_globI T.c_HOUSE)) (xe_globI T.c_GREATEST_HOUSE))) (xe_one (xe_chainI (pe_chain op_le op_le xe_int (xe_ix (xv 0) (xe_globI T.c_COUNT)) (xe_globI T.c_GREATEST_COUNT))))))))) (fun ss M q h => ?read)
  case len =>
    obtain ⟨r, n, a, h, c, b, e, j, rfl, _⟩ := h
    rfl
  case read =>
    obtain ⟨r, n, a, h, c, b, e, j, rfl, k⟩ := h
    repeat' (first | refine ⟨_, rfl, ?_⟩ | refine And.intro (fun _ => ?_) (fun _ => ?_) | fail "")
    all_goals (refine (congrArg (fun z => q (.dat (.bool z)) M) (Bool.eq_iff_iff.mpr ?_)).mp k; simp only [decide_eq_true_eq, decide_eq_false_iff_not, Bool.false_eq_true, Bool.not_eq_true', Bool.not_true, Bool.not_false, iff_false, iff_true, reduceCtorEq, if_false, if_true, reduceIte, true_and, and_true, false_or, or_false, and_false, false_and, false_iff, not_and, not_or, Bool.true_eq_false, forall_const, Bool.not_eq_eq_eq_not, Bool.decide_eq_true, Bool.decide_eq_false, not_true_eq_false, not_false_eq_true] at * <;> omega)
theorem ok_asked_well (T : Tx K mg) : Holds P w K mg base 1 T.f_asked_well T.fd_asked_well ["piece"] pr_asked_well := by
  refine holds_of T.F_asked_well sc_asked_well (fun ss M q h => ?len) (fun cdv A outer s H hr => (xss_cons (xs_if (xb_cmp sim_eq (pt_cmpR (op_eqAll hr.rm.units) (xe_ix (xv 0) (xe_globI T.c_ASKER)) (xe_globI T.c_NO_ASKER) (nomark _))) (xss_one (xs_ret (xe_not (xe_ix (xv 0) (xe_globI T.c_JOINED))))) xss_nil)
      (xss_one (xs_ret (xe_and (xe_chainI (pe_chain op_le op_le xe_int (xe_ix (xv 0) (xe_globI T.c_ASKER)) (xe_globI T.c_GREATEST_NUMBER))) (xe_one (xe_ne hr.rm.units (xe_ix (xv 0) (xe_globI T.c_ASKER)) (xe_ix (xv 0) (xe_globI T.c_NUMBER))))))))) (fun ss M q h => ?read)
  case len =>
    obtain ⟨r, n, a, h, c, b, e, j, rfl, _⟩ := h
    rfl
  case read =>
    obtain ⟨r, n, a, h, c, b, e, j, rfl, k⟩ := h
    cases j
    all_goals
      repeat' (first | refine ⟨_, rfl, ?_⟩ | refine And.intro (fun _ => ?_) (fun _ => ?_) | fail "")
      all_goals (refine (congrArg (fun z => q (.dat (.bool z)) M) (Bool.eq_iff_iff.mpr ?_)).mp k; simp only [decide_eq_true_eq, decide_eq_false_iff_not, Bool.false_eq_true, Bool.not_eq_true', Bool.not_true, Bool.not_false, iff_false, iff_true, reduceCtorEq, if_false, if_true, reduceIte, true_and, and_true, false_or, or_false, and_false, false_and, false_iff, not_and, not_or, Bool.true_eq_false, forall_const, Bool.not_eq_eq_eq_not, Bool.decide_eq_true, Bool.decide_eq_false, not_true_eq_false, not_false_eq_true] at * <;> omega)
theorem ok_is_piece (T : Tx K mg) : Holds P w K mg base 2 T.f_is_piece T.fd_is_piece ["thing"] pr_is_piece := by
  refine holds_of T.F_is_piece sc_is_piece (fun ss M q h => ?len) (fun cdv A outer s H hr => (xss_cons (xs_if (xb_w (xw_or (xb_not (xb_val (xe_callB sim_isi (pe_callB call_isi rfl T.m_isinstance (by decide +kernel) (xa_cons (xv 0) (xa_cons (xe_raw (pe_bltn (v := .ty "tuple") rfl T.m_tuple (by decide +kernel) rfl)) xa_nil)))))) (xw_or1 (xb_cmp sim_ne (pt_cmpR (op_neAll hr.rm.units) (xe_callB sim_len (pe_callB call_lenA rfl T.m_len (by decide +kernel) (xa_cons (xv 0) xa_nil))) (xe_globI T.c_PLACES) (nomark _)))))) (xss_one (xs_ret xe_bl)) xss_nil)
      (xss_cons (xs_if (xb_w (xw_or (xb_not (xb_val (xe_callB sim_all (pe_callB (cr_all rfl) rfl T.m_all (by decide +kernel) (xa_cons (xe_lcT (pe_lc (own := [("part", 1)]) (g := gName 1) (tt := LB _) rfl sc_is_piece.nd (pi_tup (xe_slD (xv 0) xo_none (xo_some (xe_globI T.c_JOINED)))) (blkOk_by (own := [("part", 1)]) (N := N_is_piece) (sc := defScope s_is_piece) (by decide +kernel)) (fun _ _ _ _ _ => pg_name (i := 1) sc_is_piece.nd rfl (.inl rfl)) (fun _ _ _ _ _ => xts_nil) (fun _ _ _ _ _ => (xe_call (ok_is_whole T) (hr.mono (by decide)) T.g_is_whole T.F_is_whole.kp T.b_is_whole (xa_cons (xv 1) xa_nil)))) (by decide)) xa_nil))))) (xw_or1 (xb_not (xb_val (xe_callB sim_isi (pe_callB call_isi rfl T.m_isinstance (by decide +kernel) (xa_cons (xe_ix (xv 0) (xe_globI T.c_JOINED)) (xa_cons (xe_raw (pe_bltn (v := .ty "bool") rfl T.m_bool (by decide +kernel) rfl)) xa_nil))))))))) (xss_one (xs_ret xe_bl)) xss_nil)
      (xss_one (xs_ret (xe_and (xe_call (ok_stands_well T) (hr.mono (by decide)) T.g_stands_well T.F_stands_well.kp T.b_stands_well (xa_cons (xv 0) xa_nil)) (xe_and (xe_call (ok_asked_well T) (hr.mono (by decide)) T.g_asked_well T.F_asked_well.kp T.b_asked_well (xa_cons (xv 0) xa_nil)) (xe_one (xe_le (xe_ix (xv 0) (xe_globI T.c_BEGIN)) (xe_ix (xv 0) (xe_globI T.c_END))))))))))) (fun ss M q h => ?read)
  case len =>
    obtain ⟨d, rfl, _⟩ := h
    rfl
  case read =>
    obtain ⟨d, rfl, k⟩ := h
    refine ⟨_, rfl, .inr (.inr (.inl rfl)), ?_⟩
    rw [show (isiD "tuple" d) = _ from isi_tuple d]
    cases d with
    | tuple ds =>
      refine And.intro (fun z => nomatch z) (fun _ => ⟨_, rfl, And.intro (fun hn => ?_) (fun hn => ?_)⟩)
      · have hl : ds.length ≠ 8 := by
          intro z
          rw [z] at hn
          revert hn
          decide
        rw [isP_len hl] at k
        exact k
      · have hl : ds.length = 8 := by
          have z : (!decide ((ds.length : Int) = 8)) = false := hn
          simp at z
          omega
        obtain ⟨d0, d1, d2, d3, d4, d5, d6, d7, rfl⟩ := len8 hl
        refine ⟨_, rfl, ?_⟩
        have hcut : cut [d0, d1, d2, d3, d4, d5, d6, d7] none (some 7) = [d0, d1, d2, d3, d4, d5, d6] := rfl
        refine lc_mapT (ds := cut [d0, d1, d2, d3, d4, d5, d6, d7] none (some 7)) (fun d => .dat (.bool (isInt d))) (by rw [hcut]; exact (show 7 < 16777216 by decide)) (fun x hx M' k' hk => ⟨_, rfl, x, rfl, hk⟩) fun p hp => ?_
        refine ⟨_, _, put_at, boolsD_map isInt _, ?_⟩
        rw [del_put hp]
        refine And.intro (fun h1 => And.intro (fun _ => ?_) (fun z => nomatch z)) (fun h1 => ?_)
        all_goals rw [hcut] at h1
        · have h2 : ([d0, d1, d2, d3, d4, d5, d6].map isInt).all id = false := not_t h1
          rw [isP_ints h2] at k
          exact k
        · have h2 : ([d0, d1, d2, d3, d4, d5, d6].map isInt).all id = true := not_f h1
          refine ⟨_, rfl, _, rfl, .inr (.inl rfl), ?_⟩
          refine And.intro (fun h3 => ?_) (fun h3 => ?_)
          · rw [isP_bool (not_t h3)] at k
            exact k
          · obtain ⟨r, n, a, h, c, b, e, rfl, rfl, rfl, rfl, rfl, rfl, rfl⟩ := ints7 h2
            obtain ⟨j, rfl⟩ := bool_of (d := d7) (not_f h3)
            refine ⟨_, rfl, r, n, a, h, c, b, e, j, rfl, ?_⟩
            refine And.intro (fun g1 => ?_) (fun g1 => ?_)
            · refine ⟨_, rfl, r, n, a, h, c, b, e, j, rfl, ?_⟩
              refine And.intro (fun g2 => ?_) (fun g2 => ?_)
              · refine ⟨_, rfl, _, rfl, _, rfl, _, rfl, ?_⟩
                have z1 := of_decide_eq_true g1
                have z2 := of_decide_eq_true g2
                have z : isP (.tuple [.int r, .int n, .int a, .int h, .int c, .int b, .int e, .bool j]) = decide (b ≤ e) := by
                  show decide (okP r n a h c b e j) = decide (b ≤ e)
                  refine Bool.eq_iff_iff.mpr ?_
                  rw [decide_eq_true_eq, decide_eq_true_eq]
                  exact ⟨fun w => w.2.2.2.2.2, fun w => ⟨z1.1, z1.2.1, z1.2.2.1, z1.2.2.2, z2, w⟩⟩
                rw [z] at k
                exact k
              · have z : isP (.tuple [.int r, .int n, .int a, .int h, .int c, .int b, .int e, .bool j]) = false := decide_eq_false fun w => of_decide_eq_false g2 w.2.2.2.2.1
                rw [z] at k
                exact k
            · have z : isP (.tuple [.int r, .int n, .int a, .int h, .int c, .int b, .int e, .bool j]) = false := decide_eq_false fun w => of_decide_eq_false g1 ⟨w.1, w.2.1, w.2.2.1, w.2.2.2.1⟩
              rw [z] at k
              exact k
    | _ => exact And.intro (fun _ => And.intro (fun _ => k) (fun z => nomatch z)) (fun z => nomatch z)
theorem ok_llwhole (T : Tx K mg) : Holds P w K mg base 1 T.f_llwhole T.fd_llwhole ["thing"] pr_is_whole := by
  refine holds_of T.F_llwhole sc_llwhole (fun ss M q h => ?len) (fun cdv A outer s H hr => (xss_one (xs_ret (xe_and (xe_callB sim_isi (pe_callB call_isi rfl T.m_isinstance (by decide +kernel) (xa_cons (xv 0) (xa_cons (xe_raw (pe_bltn (v := .ty "int") rfl T.m_int (by decide +kernel) rfl)) xa_nil)))) (xe_one (xe_not (xe_callB sim_isi (pe_callB call_isi rfl T.m_isinstance (by decide +kernel) (xa_cons (xv 0) (xa_cons (xe_raw (pe_bltn (v := .ty "bool") rfl T.m_bool (by decide +kernel) rfl)) xa_nil)))))))))) (fun ss M q h => ?read)
  case len =>
    obtain ⟨d, rfl, _⟩ := h
    rfl
  case read =>
    obtain ⟨d, rfl, k⟩ := h
    refine ⟨_, rfl, .inl rfl, ?_⟩
    rw [show (isiD "int" d) = _ from isi_int d]
    refine ⟨fun hi => ⟨_, rfl, .inr (.inl rfl), ?_⟩, fun hi => ?_⟩
    · rw [show (isiD "bool" d) = _ from isi_bool d]
      cases d <;> first | exact k | cases hi
    · cases d <;> first | exact k | cases hi
theorem ok_ll_due (T : Tx K mg) : Holds P w K mg base 2 T.f_ll_due T.fd_ll_due ["thing"] pr_is_piece := by
  refine holds_of T.F_ll_due sc_ll_due (fun ss M q h => ?len) (fun cdv A outer s H hr => (xss_cons (xs_if (xb_w (xw_or (xb_not (xb_val (xe_callB sim_isi (pe_callB call_isi rfl T.m_isinstance (by decide +kernel) (xa_cons (xv 0) (xa_cons (xe_raw (pe_bltn (v := .ty "tuple") rfl T.m_tuple (by decide +kernel) rfl)) xa_nil)))))) (xw_or1 (xb_cmp sim_ne (pt_cmpR (op_neAll hr.rm.units) (xe_callB sim_len (pe_callB call_lenA rfl T.m_len (by decide +kernel) (xa_cons (xv 0) xa_nil))) xe_int (nomark _)))))) (xss_one (xs_ret xe_bl)) xss_nil)
      (xss_cons (xs_if (xb_not (xb_val (xe_callB sim_all (pe_callB (cr_all rfl) rfl T.m_all (by decide +kernel) (xa_cons (xe_lcT (pe_lc (own := [("one", 6)]) (g := gName 6) (tt := LB _) rfl sc_ll_due.nd (pi_tup (xe_slD (xv 0) xo_none (xo_some xe_int))) (blkOk_by (own := [("one", 6)]) (N := N_ll_due) (sc := defScope s_ll_due) (by decide +kernel)) (fun _ _ _ _ _ => pg_name (i := 6) sc_ll_due.nd rfl (.inl rfl)) (fun _ _ _ _ _ => xts_nil) (fun _ _ _ _ _ => (xe_call (ok_llwhole T) (hr.mono (by decide)) T.g_llwhole T.F_llwhole.kp T.b_llwhole (xa_cons (xv 6) xa_nil)))) (by decide)) xa_nil))))) (xss_one (xs_ret xe_bl)) xss_nil)
      (xss_cons (xs_if (xb_not (xb_val (xe_callB sim_isi (pe_callB call_isi rfl T.m_isinstance (by decide +kernel) (xa_cons (xe_ix (xv 0) xe_int) (xa_cons (xe_raw (pe_bltn (v := .ty "bool") rfl T.m_bool (by decide +kernel) rfl)) xa_nil)))))) (xss_one (xs_ret xe_bl)) xss_nil)
      (xss_cons (xs_asg (ps_asg (xe_slD (xv 0) xo_none (xo_some xe_int)) (xg_tup (pg_tup (n := 5) rfl (xgs_cons (pgs_cons (xg_name (pg_name (i := 1) sc_ll_due.nd rfl (by first | exact .inl rfl | exact .inr rfl))) (xgs_cons (pgs_cons (xg_name (pg_name (i := 2) sc_ll_due.nd rfl (by first | exact .inl rfl | exact .inr rfl))) (xgs_cons (pgs_cons (xg_name (pg_name (i := 3) sc_ll_due.nd rfl (by first | exact .inl rfl | exact .inr rfl))) (xgs_cons (pgs_cons (xg_name (pg_name (i := 4) sc_ll_due.nd rfl (by first | exact .inl rfl | exact .inr rfl))) (xgs_cons (pgs_cons (xg_name (pg_name (i := 5) sc_ll_due.nd rfl (by first | exact .inl rfl | exact .inr rfl))) xgs_nil))))))))))))))
      (xss_cons (xs_if (xb_w (xw_or (xb_not (xb_chainI (pt_chain op_le op_lt xe_int (xv 1) xe_int))) (xw_or (xb_not (xb_chainI (pt_chain op_le op_lt xe_int (xv 2) xe_int))) (xw_or1 (xb_not (xb_chainI (pt_chain op_le op_lt xe_int (xv 4) xe_int))))))) (xss_one (xs_ret xe_bl)) xss_nil)
      (xss_cons (xs_if (xb_w (xw_or (xb_not (xb_chainI (pt_chain op_le op_lt xe_int (xv 5) xe_int))) (xw_or (xb_not (xb_chainI (pt_chain op_le op_lt (xe_neg xe_int) (xv 3) xe_int))) (xw_or1 (xb_cmp sim_eq (pt_cmpR (op_eqAll hr.rm.units) (xv 3) (xv 2) (nomark _))))))) (xss_one (xs_ret xe_bl)) xss_nil)
      (xss_one (xs_ret (xe_and (xe_le (xe_ix (xv 0) xe_int) (xe_ix (xv 0) xe_int)) (xe_one (xe_not (xe_and (xe_eq hr.rm.units (xv 3) (xe_neg xe_int)) (xe_one (xe_ix (xv 0) xe_int))))))))))))))) (fun ss M q h => ?read)
  case len =>
    obtain ⟨d, rfl, _⟩ := h
    rfl
  case read =>
    obtain ⟨d, rfl, k⟩ := h
    refine ⟨_, rfl, .inr (.inr (.inl rfl)), ?_⟩
    rw [show (isiD "tuple" d) = _ from isi_tuple d]
    cases d with
    | tuple ds =>
      refine And.intro (fun z => nomatch z) (fun _ => ⟨_, rfl, And.intro (fun hn => ?_) (fun hn => ?_)⟩)
      · have hl : ds.length ≠ 8 := by
          intro z
          rw [z] at hn
          revert hn
          decide
        rw [isP_len hl] at k
        exact k
      · have hl : ds.length = 8 := by
          have z : (!decide ((ds.length : Int) = 8)) = false := hn
          simp at z
          omega
        obtain ⟨d0, d1, d2, d3, d4, d5, d6, d7, rfl⟩ := len8 hl
        refine ⟨_, rfl, ?_⟩
        have hcut : cut [d0, d1, d2, d3, d4, d5, d6, d7] none (some 7) = [d0, d1, d2, d3, d4, d5, d6] := rfl
        refine lc_mapT (ds := cut [d0, d1, d2, d3, d4, d5, d6, d7] none (some 7)) (fun d => .dat (.bool (isInt d))) (by rw [hcut]; exact (show 7 < 16777216 by decide)) (fun x hx M' k' hk => ⟨_, rfl, x, rfl, hk⟩) fun p hp => ?_
        refine ⟨_, _, put_at, boolsD_map isInt _, ?_⟩
        rw [del_put hp]
        refine And.intro (fun h1 => ?_) (fun h1 => ?_)
        all_goals rw [hcut] at h1
        · rw [isP_ints (not_t h1)] at k
          exact k
        · refine ⟨_, rfl, _, rfl, .inr (.inl rfl), ?_⟩
          refine And.intro (fun h3 => ?_) (fun h3 => ?_)
          · rw [isP_bool (not_t h3)] at k
            exact k
          · obtain ⟨r, n, a, h, c, b, e, rfl, rfl, rfl, rfl, rfl, rfl, rfl⟩ := ints7 (not_f h1)
            obtain ⟨j, rfl⟩ := bool_of (d := d7) (not_f h3)
            have kT : okP r n a h c b e j → q (.dat (.bool true)) M := fun w => by
              have z : isP (.tuple [.int r, .int n, .int a, .int h, .int c, .int b, .int e, .bool j]) = true := decide_eq_true w
              rw [z] at k
              exact k
            have kF : ¬ okP r n a h c b e j → q (.dat (.bool false)) M := fun w => by
              have z : isP (.tuple [.int r, .int n, .int a, .int h, .int c, .int b, .int e, .bool j]) = false := decide_eq_false w
              rw [z] at k
              exact k
            unfold okP at kT kF
            refine ⟨_, rfl, rfl, ?_⟩
            repeat' (first | refine ⟨_, rfl, ?_⟩ | refine And.intro (fun _ => ?_) (fun _ => ?_) | fail "")
            all_goals (cases j <;> first | (refine kF ?_; simp only [decide_eq_true_eq, decide_eq_false_iff_not, Bool.false_eq_true, Bool.not_eq_true, Bool.not_true, Bool.not_false, iff_false, iff_true, reduceCtorEq, if_false, if_true, reduceIte, true_and, and_true, false_or, or_false, and_false, false_and, false_iff, not_and, not_or, Bool.true_eq_false, forall_const, Bool.not_eq_eq_eq_not, not_true_eq_false, not_false_eq_true] at * <;> omega) | (refine kT ?_; simp only [decide_eq_true_eq, decide_eq_false_iff_not, Bool.false_eq_true, Bool.not_eq_true, Bool.not_true, Bool.not_false, iff_false, iff_true, reduceCtorEq, if_false, if_true, reduceIte, true_and, and_true, false_or, or_false, and_false, false_and, false_iff, not_and, not_or, Bool.true_eq_false, forall_const, Bool.not_eq_eq_eq_not, not_true_eq_false, not_false_eq_true] at * <;> omega))
    | _ => exact And.intro (fun _ => And.intro (fun _ => k) (fun z => nomatch z)) (fun z => nomatch z)
end
end LW
namespace LW
open PySem PySem.Spec PyProof.Rows L2 DL
abbrev pc (r n a h c b e : Int) (j : Bool) : List Dt := [.int r, .int n, .int a, .int h, .int c, .int b, .int e, .bool j]
/-- the items are small -/
def far (b : Int) : Prop := b.natAbs < 2 ^ 200
def pr_drawn : Pr := fun ss M q => ∃ (f : Addr) (n : Int), ss = [.own f] ∧ Feed M f n ∧ n ≤ 2 ^ 38 ∧ ∀ (r m a h c b e : Int) (j : Bool) M', okP r m a h c b e j → far b → far e → Feed M' f (n + 20) → (∀ x, x ≠ f → M' x = M x) → q (.dat (.tuple (pc r m a h c b e j))) M'
theorem Feed.up {M : Mem} {f : Addr} {n m : Int} (h : Feed M f n) (le : n ≤ m) : Feed M f m := by
  obtain ⟨cs, a, l, h1, h2, h3, h4⟩ := h
  exact ⟨cs, a, l, h1, h2, h3, by omega⟩
theorem Feed.put {M : Mem} {f p : Addr} {n : Int} {o : MO} (h : Feed M f n) (ne : f ≠ p) : Feed (put M p o) f n := by
  obtain ⟨cs, a, l, h1, h2⟩ := h
  exact ⟨cs, a, l, (put_ne ne).trans h1, h2⟩
theorem Feed.del {M : Mem} {f p : Addr} {n : Int} (h : Feed M f n) (ne : f ≠ p) : Feed (del M p) f n := by
  obtain ⟨cs, a, l, h1, h2⟩ := h
  exact ⟨cs, a, l, (del_ne ne).trans h1, h2⟩
theorem Feed.ne {M : Mem} {f p : Addr} {n : Int} (h : Feed M f n) (hp : M p = none) : f ≠ p := by
  obtain ⟨cs, a, l, h1, h2⟩ := h
  exact ne_mem h1 hp
theorem isl_ints {M : Mem} {ns : List Int} : IsL M (.dat (.list (ns.map .int))) (ns.map fun n => .dat (.int n)) := by
  have h := IsL.dat (M := M) (ds := ns.map .int)
  rw [List.map_map] at h
  exact h
theorem ints_dat (ns : List Int) : ns.map (fun n => Sl.dat (.int n)) = (ns.map PyData.int).map Sl.dat := by
  rw [List.map_map] <;> rfl
theorem two_sorted {ns : List Int} {x y : Int} (p : ns.Perm [x, y]) (s : ns.Pairwise (· ≤ ·)) : ∃ u v, ns = [u, v] ∧ u ≤ v ∧ (u = x ∨ u = y) ∧ (v = x ∨ v = y) := by
  have hl := p.length_eq
  match ns, hl with
  | [u, v], _ =>
    refine ⟨u, v, rfl, ?_, ?_, ?_⟩
    · simpa using s
    · have := p.mem_iff.mp (List.mem_cons_self (a := u) (l := [v]))
      simpa using this
    · have := p.mem_iff.mp (show v ∈ [u, v] by simp)
      simpa using this
section
variable {P : Program} {w : World} {K : PySem.W.Frag} {mg : Str → Option Value} {base : Heap}
theorem ok_ll_drawn (T : Tx K mg) : Holds P w K mg base 3 T.f_ll_drawn T.fd_ll_drawn ["feed"] pr_drawn := by
  refine holds_of T.F_ll_drawn sc_ll_drawn (fun ss M q h => ?len) (fun cdv A outer s H hr => (xss_cons (xs_asgN (ps_set (i := 1) sc_ll_drawn.nd rfl (by first | exact .inl rfl | exact .inr rfl) (xe_ix (xe_lstD (xa_cons xe_int (xa_cons xe_int (xa_cons (xe_call (ok_lldraw T) (hr.mono (by decide)) T.g_lldraw T.F_lldraw.kp T.b_lldraw (xa_cons (xv 0) (xa_cons xe_int xa_nil))) xa_nil)))) (xe_call (ok_lldraw T) (hr.mono (by decide)) T.g_lldraw T.F_lldraw.kp T.b_lldraw (xa_cons (xv 0) (xa_cons xe_int xa_nil))))) simLE)
      (xss_cons (xs_asgN (ps_set (i := 2) sc_ll_drawn.nd rfl (by first | exact .inl rfl | exact .inr rfl) (xe_ix (xe_lstD (xa_cons xe_int (xa_cons xe_int (xa_cons (xe_call (ok_lldraw T) (hr.mono (by decide)) T.g_lldraw T.F_lldraw.kp T.b_lldraw (xa_cons (xv 0) (xa_cons xe_int xa_nil))) xa_nil)))) (xe_call (ok_lldraw T) (hr.mono (by decide)) T.g_lldraw T.F_lldraw.kp T.b_lldraw (xa_cons (xv 0) (xa_cons xe_int xa_nil))))) simLE)
      (xss_cons (xs_asgN (ps_set (i := 3) sc_ll_drawn.nd rfl (by first | exact .inl rfl | exact .inr rfl) (xe_ix (xe_lstD (xa_cons (xe_neg xe_int) (xa_cons xe_int (xa_cons xe_int (xa_cons (xe_call (ok_lldraw T) (hr.mono (by decide)) T.g_lldraw T.F_lldraw.kp T.b_lldraw (xa_cons (xv 0) (xa_cons xe_int xa_nil))) xa_nil))))) (xe_call (ok_lldraw T) (hr.mono (by decide)) T.g_lldraw T.F_lldraw.kp T.b_lldraw (xa_cons (xv 0) (xa_cons xe_int xa_nil))))) simLE)
      (xss_cut (xs_if (xb_cmp sim_eq (pt_cmpR (op_eqAll hr.rm.units) (xv 3) (xv 2) (nomark _))) (xss_one (xs_asgN (ps_set (i := 3) sc_ll_drawn.nd rfl (by first | exact .inl rfl | exact .inr rfl) (xe_ix (xe_lstD (xa_cons (xe_neg xe_int) (xa_cons (xe_mod (xe_addD (xv 2) xe_int) xe_int) xa_nil))) (xe_call (ok_lldraw T) (hr.mono (by decide)) T.g_lldraw T.F_lldraw.kp T.b_lldraw (xa_cons (xv 0) (xa_cons xe_int xa_nil))))) simLE)) xss_nil)
      (xss_cons (xs_asgN (ps_set (i := 4) sc_ll_drawn.nd rfl (by first | exact .inl rfl | exact .inr rfl) (xe_call (ok_lldraw T) (hr.mono (by decide)) T.g_lldraw T.F_lldraw.kp T.b_lldraw (xa_cons (xv 0) (xa_cons xe_int xa_nil)))) simLE)
      (xss_cons (xs_asgN (ps_set (i := 5) sc_ll_drawn.nd rfl (by first | exact .inl rfl | exact .inr rfl) (xe_ix (xe_lstD (xa_cons xe_int (xa_cons xe_int (xa_cons (xe_call (ok_lldraw T) (hr.mono (by decide)) T.g_lldraw T.F_lldraw.kp T.b_lldraw (xa_cons (xv 0) (xa_cons xe_int xa_nil))) xa_nil)))) (xe_call (ok_lldraw T) (hr.mono (by decide)) T.g_lldraw T.F_lldraw.kp T.b_lldraw (xa_cons (xv 0) (xa_cons xe_int xa_nil))))) simLE)
      (xss_cons (xs_asgN (ps_set (i := 6) sc_ll_drawn.nd rfl (by first | exact .inl rfl | exact .inr rfl) (xe_ix (xe_lstD (xa_cons xe_int (xa_cons xe_int (xa_cons (xe_pow xe_int xe_int) xa_nil)))) (xe_call (ok_lldraw T) (hr.mono (by decide)) T.g_lldraw T.F_lldraw.kp T.b_lldraw (xa_cons (xv 0) (xa_cons xe_int xa_nil))))) simLE)
      (xss_cons (xs_asgN (ps_set (i := 7) sc_ll_drawn.nd rfl (by first | exact .inl rfl | exact .inr rfl) (xe_fz (xe_callB sim_sortI (pe_callB cr_sortedI rfl T.m_sorted (by decide +kernel) (xa_cons (xe_fz (xe_lcR1 (pe_lc (own := [("turn", 9)]) (g := gName 9) (tt := LB _) rfl sc_ll_drawn.nd (pi_range1 rfl T.m_range (xa_cons xe_int xa_nil)) (blkOk_by (own := [("turn", 9)]) (N := N_ll_drawn) (sc := defScope s_ll_drawn) (by decide +kernel)) (fun _ _ _ _ _ => pg_name (i := 9) sc_ll_drawn.nd rfl (.inl rfl)) (fun _ _ _ _ _ => xts_nil) (fun _ _ _ _ _ => (xe_addD (xe_sub (xe_call (ok_lldraw T) (hr.mono (by decide)) T.g_lldraw T.F_lldraw.kp T.b_lldraw (xa_cons (xv 0) (xa_cons (xe_sub (xe_mul xe_int (xv 6)) xe_int) xa_nil))) (xv 6)) xe_int))) (by decide))) xa_nil))))) simLE)
      (xss_cons (xs_asgN (ps_set (i := 8) sc_ll_drawn.nd rfl (by first | exact .inl rfl | exact .inr rfl) (xe_and (xe_ge (xv 3) xe_int) (xe_one (xe_eq hr.rm.units (xe_call (ok_lldraw T) (hr.mono (by decide)) T.g_lldraw T.F_lldraw.kp T.b_lldraw (xa_cons (xv 0) (xa_cons xe_int xa_nil))) xe_int)))) simLE)
      (xss_one (xs_ret (xe_tup (xa_cons (xv 1) (xa_cons (xv 2) (xa_cons (xv 3) (xa_cons (xv 4) (xa_cons (xv 5) (xa_cons (xe_ix (xv 7) xe_int) (xa_cons (xe_ix (xv 7) xe_int) (xa_cons (xv 8) xa_nil))))))))))))))))))))) (fun ss M q h => ?read)
  case len =>
    obtain ⟨f, n, rfl, _⟩ := h
    rfl
  case read =>
    obtain ⟨f, n, rfl, F0, hn, k⟩ := h
    refine ⟨_, rfl, f, 100, _, rfl, by decide, by decide, F0, by omega, fun r1 M1 p1 q1 F1 o1 => ?_⟩
    refine ⟨rfl, _, rfl, _, rfl, f, 3, _, rfl, by decide, by decide, F1, by omega, fun r2 M2 p2 q2 F2 o2 => ?_⟩
    obtain ⟨run, er, hrun⟩ := pickI (P := fun v => 0 ≤ v ∧ v ≤ 99) (xs := [0, 99, r1]) (by simp; omega) p2 q2
    refine ⟨_, er, ?_⟩
    refine ⟨_, rfl, f, 100, _, rfl, by decide, by decide, F2, by omega, fun r3 M3 p3 q3 F3 o3 => ?_⟩
    refine ⟨rfl, _, rfl, _, rfl, f, 3, _, rfl, by decide, by decide, F3, by omega, fun r4 M4 p4 q4 F4 o4 => ?_⟩
    obtain ⟨num, en, hnum⟩ := pickI (P := fun v => 0 ≤ v ∧ v ≤ 99) (xs := [0, 99, r3]) (by simp; omega) p4 q4
    refine ⟨_, en, ?_⟩
    refine ⟨_, rfl, f, 100, _, rfl, by decide, by decide, F4, by omega, fun r5 M5 p5 q5 F5 o5 => ?_⟩
    refine ⟨rfl, _, rfl, _, rfl, f, 4, _, rfl, by decide, by decide, F5, by omega, fun r6 M6 p6 q6 F6 o6 => ?_⟩
    obtain ⟨ask, ea, hask⟩ := pickI (P := fun v => -1 ≤ v ∧ v ≤ 99) (xs := [-1, 0, 99, r5]) (by simp; omega) p6 q6
    refine ⟨_, ea, ?_⟩
    refine ⟨fun Γ' M' => ∃ a2 : Int, Γ' = [some (.own f), some (.dat (.int run)), some (.dat (.int num)), some (.dat (.int a2)), none, none, none, none, none, none] ∧ (-1 ≤ a2 ∧ a2 ≤ 99 ∧ a2 ≠ num) ∧ Feed M' f (n + 7) ∧ ∀ x, x ≠ f → M' x = M x, ?_, ?_⟩
    · refine ⟨_, rfl, _, rfl, fun he => ?_, fun he => ?_⟩
      · refine ⟨_, rfl, (show (0 : Int) < 100 by decide), ?_⟩
        refine ⟨rfl, _, rfl, _, rfl, f, 2, _, rfl, by decide, by decide, F6, by omega, fun r7 M7 p7 q7 F7 o7 => ?_⟩
        have em := Int.emod_nonneg (num + 1) (show (100 : Int) ≠ 0 by decide)
        have em2 := Int.emod_lt_of_pos (num + 1) (show (0 : Int) < 100 by decide)
        obtain ⟨a2, e2, h2⟩ := pickI (P := fun v => -1 ≤ v ∧ v ≤ 99 ∧ v ≠ num) (xs := [-1, (num + 1) % 100]) (by simp; omega) p7 q7
        exact ⟨_, e2, a2, rfl, h2, F7.up (by omega), fun x hx => by rw [o7 x hx, o6 x hx, o5 x hx, o4 x hx, o3 x hx, o2 x hx, o1 x hx]⟩
      · have he' : ask ≠ num := of_decide_eq_false he
        exact ⟨ask, rfl, ⟨hask.1, hask.2, he'⟩, F6.up (by omega), fun x hx => by rw [o6 x hx, o5 x hx, o4 x hx, o3 x hx, o2 x hx, o1 x hx]⟩
    · rintro Γ' M' ⟨a2, rfl, ha2, F7, oM⟩
      clear F1 F2 F3 F4 F5 F6 o1 o2 o3 o4 o5 o6
      refine ⟨_, rfl, f, 8, _, rfl, by decide, by decide, F7, by omega, fun hs M8 p8 q8 F8 o8 => ?_⟩
      refine ⟨_, rfl, f, 1000, _, rfl, by decide, by decide, F8, by omega, fun r9 M9 p9 q9 F9 o9 => ?_⟩
      refine ⟨rfl, _, rfl, _, rfl, f, 3, _, rfl, by decide, by decide, F9, by omega, fun r10 M10 p10 q10 F10 o10 => ?_⟩
      obtain ⟨cnt, ec, hcnt⟩ := pickI (P := fun v => 0 ≤ v ∧ v ≤ 999) (xs := [0, 999, r9]) (by simp; omega) p10 q10
      refine ⟨_, ec, ?_⟩
      refine ⟨⟨by decide, by decide, by decide⟩, ?_⟩
      refine ⟨rfl, _, rfl, _, rfl, f, 3, _, rfl, by decide, by decide, F10, by omega, fun r11 M11 p11 q11 F11 o11 => ?_⟩
      obtain ⟨fr, ef, hfr⟩ := pickI (P := fun v => 2 ≤ v ∧ v ≤ 10 ^ 30) (xs := [2, 100, 10 ^ (30 : Int).toNat]) (by intro x hx; simp at hx; rcases hx with rfl | rfl | rfl <;> decide) p11 q11
      refine ⟨_, ef, ?_⟩
      refine ⟨0, 2, rfl, by decide, fun p hp => ?_⟩
      have nfp : f ≠ p := F11.ne hp
      refine ⟨fun i M' => ∃ ns : List Int, M' p = some (.lst (ns.map fun n => .dat (.int n))) ∧ ns.length = i ∧ (∀ x ∈ ns, far x) ∧ Feed M' f (n + 11 + i) ∧ ∀ x, x ≠ f → x ≠ p → M' x = M11 x, ⟨[], put_at, rfl, by simp, (F11.up (by omega)).put nfp, fun x _ h2 => put_ne h2⟩, ?_, ?_⟩
      · rintro i M' hi ⟨ns, hm, hl, hb, FF, oo⟩
        have hi2 : i < 2 := hi
        refine ⟨fun _ => ?_, fun z => nomatch z⟩
        refine ⟨_, rfl, _, rfl, .inl ⟨by decide, by decide⟩, ?_⟩
        refine ⟨f, 2 * fr - 1, _, rfl, by omega, by omega, FF, by omega, fun rr M2 p2 q2 F2 o2 => ?_⟩
        refine ⟨_, rfl, ?_⟩
        refine ⟨_, (o2 p nfp.symm).trans hm, by rw [List.length_map]; omega, ?_⟩
        refine ⟨ns ++ [rr - fr + 1], ?_, by rw [List.length_append, hl]; rfl, ?_, (F2.up (by omega)).put nfp, fun x h1 h2 => by rw [put_ne h2, o2 x h1]; exact oo x h1 h2⟩
        · rw [List.map_append]
          exact put_at
        · intro x hx
          rcases List.mem_append.mp hx with z | z
          · exact hb x z
          · have : x = rr - fr + 1 := by simpa using z
            subst this
            unfold far
            omega
      · rintro M12 ⟨ns, hm, hl, hb, F12, o12⟩
        refine ⟨ns.map .int, by rw [hm, ints_dat], ?_⟩
        refine ⟨ns, isl_ints, by rw [hl]; decide, fun ns' p2 hperm hsort hp2 => ?_⟩
        refine ⟨ns'.map .int, by rw [put_at, ints_dat], ?_⟩
        rw [del_put hp2]
        obtain ⟨x, y, rfl⟩ : ∃ x y, ns = [x, y] := by
          match ns, hl with
          | [x, y], _ => exact ⟨x, y, rfl⟩
        obtain ⟨u, v, rfl, huv, hu, hv⟩ := two_sorted hperm hsort
        have fu : far u := by rcases hu with rfl | rfl <;> exact hb _ (by simp)
        have fv : far v := by rcases hv with rfl | rfl <;> exact hb _ (by simp)
        have F13 : Feed (del M12 p) f (n + 13) := (F12.up (by show n + 11 + ((2 : Nat) : Int) ≤ n + 13; omega)).del nfp
        have o13 : ∀ x, x ≠ f → (del M12 p) x = M x := fun x hx => by
          by_cases hxp : x = p
          · subst hxp
            rw [del_at, ← oM x hx, ← o8 x hx, ← o9 x hx, ← o10 x hx, ← o11 x hx]
            exact hp.symm
          · rw [del_ne hxp, o12 x hx hxp, o11 x hx, o10 x hx, o9 x hx, o8 x hx, oM x hx]
        refine ⟨_, rfl, ?_⟩
        refine And.intro (fun hge => ?_) (fun hlt => ?_)
        · have hge' : 0 ≤ a2 := of_decide_eq_true hge
          refine ⟨_, rfl, f, 2, _, rfl, by decide, by decide, F13, by omega, fun r14 M14 p14 q14 F14 o14 => ?_⟩
          refine ⟨_, rfl, _, rfl, _, rfl, _, rfl, _, rfl, ?_⟩
          refine ⟨_, rfl, _, rfl, _, rfl, _, rfl, _, rfl, ?_⟩
          refine ⟨rfl, _, rfl, ?_⟩
          exact k run num a2 hs cnt u v (decide (r14 = 0)) M14 ⟨hrun, hnum, by omega, hcnt, .inr ⟨hge', ha2.2.1, ha2.2.2⟩, huv⟩ fu fv (F14.up (by omega)) fun x hx => by rw [o14 x hx, o13 x hx]
        · have hlt' : ¬ 0 ≤ a2 := of_decide_eq_false hlt
          refine ⟨_, rfl, _, rfl, _, rfl, _, rfl, _, rfl, ?_⟩
          refine ⟨_, rfl, _, rfl, _, rfl, _, rfl, _, rfl, ?_⟩
          refine ⟨rfl, _, rfl, ?_⟩
          exact k run num a2 hs cnt u v false _ ⟨hrun, hnum, by omega, hcnt, .inl ⟨by omega, rfl⟩, huv⟩ fu fv (F13.up (by omega)) o13
end
end LW
namespace LW
open PySem PySem.Spec PyProof.Rows L2 DL
theorem swap_rd {i j l : Nat} {Γ : Fm} {M : Mem} {k : DK} {ds : List Dt} {one : Dt} {at_ : Int} (h1 : Γ[i]? = some (some (.dat (.tuple ds)))) (h2 : Γ[j]? = some (some (.dat (.int at_)))) (h3 : Γ[l]? = some (some (.dat one))) (hz : ds.length ≤ 100) (q : k (.dat (.tuple (cut ds none (some at_) ++ [one] ++ cut ds (some (at_ + 1)) none))) M) :
    dOp fAddD (dOp fAddD (dSl fSlD (dV i) dNo (dPt (dV j))) (dTup (dCons (dV l) dNil))) (dSl fSlD (dV i) (dPt (dOp fAddD (dV j) (dC (.int 1)))) dNo) Γ M k := by
  have c1 := cut_len ds none (some at_)
  have c2 := cut_len ds (some (at_ + 1)) none
  refine ⟨_, h1, _, h2, _, h3, rfl, _, rfl, ?_, ?_⟩
  · show (cut ds none (some at_)).length + 1 ≤ _
    omega
  refine ⟨_, h1, _, h2, ?_⟩
  refine ⟨?_, q⟩
  rw [List.length_append]
  show (cut ds none (some at_)).length + 1 + (cut ds (some (at_ + 1)) none).length ≤ _
  omega
theorem swap_sm {ds : List Dt} {one : Dt} {at_ : Int} {k : Nat} (h : ∀ d ∈ ds, Sm k d) (h1 : Sm k one) : ∀ d ∈ cut ds none (some at_) ++ [one] ++ cut ds (some (at_ + 1)) none, Sm k d := by
  intro d hd
  rcases List.mem_append.mp hd with z | z
  · rcases List.mem_append.mp z with z | z
    · exact h d (cut_mem z)
    · have : d = one := by simpa using z
      rw [this]
      exact h1
  · exact h d (cut_mem z)
theorem swap_len {ds : List Dt} {one : Dt} {at_ : Int} : (cut ds none (some at_) ++ [one] ++ cut ds (some (at_ + 1)) none).length ≤ ds.length + 1 + ds.length := by
  have c1 := cut_len ds none (some at_)
  have c2 := cut_len ds (some (at_ + 1)) none
  rw [List.length_append, List.length_append]
  show (cut ds none (some at_)).length + 1 + (cut ds (some (at_ + 1)) none).length ≤ _
  omega
theorem pc_sm {r m a h c b e : Int} {j : Bool} (o : okP r m a h c b e j) (fb : far b) (fe : far e) : ∀ d ∈ pc r m a h c b e j, Sm 0 d := by
  obtain ⟨h1, h2, h3, h4, h5, _⟩ := o
  unfold far at fb fe
  have big : ∀ x : Int, x.natAbs < 2 ^ 200 → Sm 0 (.int x) := fun x hx => Sm.int (Nat.lt_of_lt_of_le hx (by decide))
  have sml : ∀ x : Int, x.natAbs < 5000 → Sm 0 (.int x) := fun x hx => big x (Nat.lt_of_lt_of_le hx (by decide))
  intro d hd
  simp only [pc, List.mem_cons, List.not_mem_nil, or_false] at hd
  rcases hd with rfl | rfl | rfl | rfl | rfl | rfl | rfl | rfl
  · exact sml _ (by omega)
  · exact sml _ (by omega)
  · exact sml _ (by rcases h5 with z | z <;> omega)
  · exact sml _ (by omega)
  · exact sml _ (by omega)
  · exact big _ fb
  · exact big _ fe
  · exact Sm.bool
def pr_bent : Pr := fun ss M q => ∃ (f : Addr) (n r m a h c b e : Int) (j : Bool), ss = [.own f, .dat (.tuple (pc r m a h c b e j))] ∧ okP r m a h c b e j ∧ far b ∧ far e ∧ Feed M f n ∧ n ≤ 2 ^ 37 ∧ ∀ (p : Addr) (things : List Dt) M', M p = none → M' p = some (.lst (things.map .dat)) → (∀ d ∈ things, Sm 2 d) → things.length ≤ 1000 → Feed M' f (n + 10) → (∀ x, x ≠ f → M x ≠ none → M' x = M x) → q (.own p) M'
abbrev odds (b e m : Int) : List Dt := [.int 0, .int 1, .int (-1), .int (-2), .int 7, .int 8, .int 99, .int 100, .int 999, .int 1000, .bool true, .bool false, .none, .str "0", .str "", .tuple [.int 0], .tuple [], .list [.int 0], .list [], .int (10 ^ (39 : Int).toNat), .int (0 - 10 ^ (39 : Int).toNat), .int (b - 1), .int (e + 1), .int m]
theorem odds_sm {b e m : Int} (fb : far b) (fe : far e) (hm : 0 ≤ m ∧ m ≤ 99) : ∀ d ∈ odds b e m, Sm 1 d := by
  unfold far at fb fe
  have big : ∀ x : Int, x.natAbs < 2 ^ 201 → Sm 1 (.int x) := fun x hx => (Sm.int (Nat.lt_of_lt_of_le hx (by decide))).mono (by decide)
  have one : Sm 0 (.int 0) := Sm.int (by decide)
  intro d hd
  simp only [odds, List.mem_cons, List.not_mem_nil, or_false] at hd
  rcases hd with rfl | rfl | rfl | rfl | rfl | rfl | rfl | rfl | rfl | rfl | rfl | rfl | rfl | rfl | rfl | rfl | rfl | rfl | rfl | rfl | rfl | rfl | rfl | rfl
  all_goals first
    | exact big _ (by decide)
    | exact Sm.bool.mono (by decide)
    | exact Sm.none.mono (by decide)
    | exact (Sm.str (by decide +kernel)).mono (by decide)
    | exact big _ (by omega)
    | exact Sm.tup (k := 0) (fun d hd => absurd hd List.not_mem_nil) (by decide)
    | exact Sm.list (k := 0) (fun d hd => absurd hd List.not_mem_nil) (by decide)
    | exact Sm.tup (k := 0) (fun d hd => by cases (List.mem_singleton.mp hd); exact one) (by decide)
    | exact Sm.list (k := 0) (fun d hd => by cases (List.mem_singleton.mp hd); exact one) (by decide)
theorem mem_map_dat {ds : List Dt} {i : Nat} {x : Sl} (h : (ds.map Sl.dat)[i]? = some x) : ∃ d, d ∈ ds ∧ x = .dat d := by
  rw [List.getElem?_map] at h
  cases z : ds[i]? with
  | none =>
    rw [z] at h
    cases h
  | some d =>
    rw [z] at h
    cases h
    exact ⟨d, List.mem_of_getElem? z, rfl⟩
section
variable {P : Program} {w : World} {K : PySem.W.Frag} {mg : Str → Option Value} {base : Heap}
theorem ok_ll_bent (T : Tx K mg) : Holds P w K mg base 3 T.f_ll_bent T.fd_ll_bent ["feed", "piece"] pr_bent := by
  refine holds_of T.F_ll_bent sc_ll_bent (fun ss M q h => ?len) (fun cdv A outer s H hr => (xss_cons (xs_asgN (ps_set (i := 2) sc_ll_bent.nd rfl (by first | exact .inl rfl | exact .inr rfl) (xe_lst (xa_cons (xe_slD (xv 1) xo_none (xo_some xe_int)) (xa_cons (xe_addD (xv 1) (xe_tup (xa_cons xe_int xa_nil))) (xa_cons (xe_rev (xv 1)) (xa_cons (xe_fz (xe_callB sim_list (pe_callTy call_list_of rfl T.m_list (by decide +kernel) (xa_cons (xv 1) xa_nil)))) (xa_cons (xe_tup (xa_cons (xv 1) xa_nil)) (xa_cons (xe_slD (xv 1) (xo_some xe_int) xo_none) xa_nil)))))))) simLE)
      (xss_cut (xs_asgN (ps_set (i := 2) sc_ll_bent.nd rfl (by first | exact .inl rfl | exact .inr rfl) (xe_add (xv 2) (xe_lstD (xa_cons xe_non (xa_cons xe_bl (xa_cons xe_int (xa_cons xe_str (xa_cons xe_str (xa_cons (xe_tup xa_nil) (xa_cons (xe_lstD xa_nil) (xa_cons (xe_lstD (xa_cons (xv 1) xa_nil)) (xa_cons (xe_pow xe_int xe_int) xa_nil)))))))))))) simLE)
      (xss_cons (xs_asgN (ps_set (i := 3) sc_ll_bent.nd rfl (by first | exact .inl rfl | exact .inr rfl) (xe_lstD (xa_cons xe_int (xa_cons xe_int (xa_cons (xe_neg xe_int) (xa_cons (xe_neg xe_int) (xa_cons xe_int (xa_cons xe_int (xa_cons xe_int (xa_cons xe_int (xa_cons xe_int (xa_cons xe_int (xa_cons xe_bl (xa_cons xe_bl (xa_cons xe_non (xa_cons xe_str (xa_cons xe_str (xa_cons (xe_tup (xa_cons xe_int xa_nil)) (xa_cons (xe_tup xa_nil) xa_nil))))))))))))))))))) simLE)
      (xss_cut (xs_asgN (ps_set (i := 3) sc_ll_bent.nd rfl (by first | exact .inl rfl | exact .inr rfl) (xe_addD (xv 3) (xe_lstD (xa_cons (xe_lstD (xa_cons xe_int xa_nil)) (xa_cons (xe_lstD xa_nil) (xa_cons (xe_pow xe_int xe_int) (xa_cons (xe_sub xe_int (xe_pow xe_int xe_int)) (xa_cons (xe_sub (xe_ix (xv 1) xe_int) xe_int) (xa_cons (xe_addD (xe_ix (xv 1) xe_int) xe_int) (xa_cons (xe_ix (xv 1) xe_int) xa_nil)))))))))) simLE)
      (xss_cons (xs_forR1 (ps_for PassesOwn.never rfl (pi_range1 rfl T.m_range (xa_cons xe_int xa_nil)) (xg_name (pg_name (i := 4) sc_ll_bent.nd rfl (by first | exact .inl rfl | exact .inr rfl))) (xss_one (xs_forL (ps_for PassesOwn.never rfl (pi_list (xv 3)) (xg_name (pg_name (i := 6) sc_ll_bent.nd rfl (by first | exact .inl rfl | exact .inr rfl))) (xss_one (xs_expr (xe_bmL sim_app (pe_bm PySem.F.plainAttrs_list PySem.F.slot_list_append PySem.F.type_list_append mt_append (xv 2) (xa_cons (xe_addD (xe_addD (xe_slD (xv 1) xo_none (xo_some (xv 4))) (xe_tup (xa_cons (xv 6) xa_nil))) (xe_slD (xv 1) (xo_some (xe_addD (xv 4) xe_int)) xo_none)) xa_nil))))))))))
      (xss_cons (xs_expr (xe_bmL sim_app (pe_bm PySem.F.plainAttrs_list PySem.F.slot_list_append PySem.F.type_list_append mt_append (xv 2) (xa_cons (xe_addD (xe_slD (xv 1) xo_none (xo_some xe_int)) (xe_tup (xa_cons (xe_ix (xv 1) xe_int) (xa_cons (xe_ix (xv 1) xe_int) (xa_cons (xe_ix (xv 1) xe_int) xa_nil))))) xa_nil))))
      (xss_cons (xs_expr (xe_bmL sim_app (pe_bm PySem.F.plainAttrs_list PySem.F.slot_list_append PySem.F.type_list_append mt_append (xv 2) (xa_cons (xe_addD (xe_addD (xe_addD (xe_slD (xv 1) xo_none (xo_some xe_int)) (xe_tup (xa_cons (xe_neg xe_int) xa_nil))) (xe_slD (xv 1) (xo_some xe_int) (xo_some xe_int))) (xe_tup (xa_cons xe_bl xa_nil))) xa_nil))))
      (xss_cons (xs_asgN (ps_set (i := 4) sc_ll_bent.nd rfl (by first | exact .inl rfl | exact .inr rfl) (xe_call (ok_lldraw T) (hr.mono (by decide)) T.g_lldraw T.F_lldraw.kp T.b_lldraw (xa_cons (xv 0) (xa_cons xe_int xa_nil)))) simLE)
      (xss_cons (xs_asgN (ps_set (i := 5) sc_ll_bent.nd rfl (by first | exact .inl rfl | exact .inr rfl) (xe_call (ok_lldraw T) (hr.mono (by decide)) T.g_lldraw T.F_lldraw.kp T.b_lldraw (xa_cons (xv 0) (xa_cons xe_int xa_nil)))) simLE)
      (xss_cons (xs_asgN (ps_set (i := 6) sc_ll_bent.nd rfl (by first | exact .inl rfl | exact .inr rfl) (xe_ix (xv 3) (xe_call (ok_lldraw T) (hr.mono (by decide)) T.g_lldraw T.F_lldraw.kp T.b_lldraw (xa_cons (xv 0) (xa_cons (xe_callB sim_len (pe_callB call_lenA rfl T.m_len (by decide +kernel) (xa_cons (xv 3) xa_nil))) xa_nil))))) simLE)
      (xss_cons (xs_asgN (ps_set (i := 7) sc_ll_bent.nd rfl (by first | exact .inl rfl | exact .inr rfl) (xe_addD (xe_addD (xe_slD (xv 1) xo_none (xo_some (xv 4))) (xe_tup (xa_cons (xv 6) xa_nil))) (xe_slD (xv 1) (xo_some (xe_addD (xv 4) xe_int)) xo_none))) simLE)
      (xss_cons (xs_asgN (ps_set (i := 8) sc_ll_bent.nd rfl (by first | exact .inl rfl | exact .inr rfl) (xe_ix (xv 3) (xe_call (ok_lldraw T) (hr.mono (by decide)) T.g_lldraw T.F_lldraw.kp T.b_lldraw (xa_cons (xv 0) (xa_cons (xe_callB sim_len (pe_callB call_lenA rfl T.m_len (by decide +kernel) (xa_cons (xv 3) xa_nil))) xa_nil))))) simLE)
      (xss_cons (xs_expr (xe_bmL sim_app (pe_bm PySem.F.plainAttrs_list PySem.F.slot_list_append PySem.F.type_list_append mt_append (xv 2) (xa_cons (xe_addD (xe_addD (xe_slD (xv 7) xo_none (xo_some (xv 5))) (xe_tup (xa_cons (xv 8) xa_nil))) (xe_slD (xv 7) (xo_some (xe_addD (xv 5) xe_int)) xo_none)) xa_nil))))
      (xss_one (xs_ret (xv 2))))))))))))))))) (fun ss M q h => ?read)
  case len =>
    obtain ⟨f, n, r, m, a, h, c, b, e, j, rfl, _⟩ := h
    rfl
  case read =>
    obtain ⟨f, n, r, m, a, h, c, b, e, j, rfl, ok, fb, fe, F0, hn, k⟩ := h
    have hp0 := pc_sm ok fb fe
    have ho := odds_sm fb fe ok.2.1
    have hp1 : ∀ d ∈ pc r m a h c b e j, Sm 1 d := fun d hd => (hp0 d hd).mono (by decide)
    have st : ∀ (i : Nat) (M2 : Mem), True := fun _ _ => trivial
    obtain ⟨ds0, e0, l0, s0⟩ : ∃ ds0 : List Dt, ds0 = ([.tuple (cut (pc r m a h c b e j) none (some 7)), .tuple (pc r m a h c b e j ++ [.int 0]), .tuple (pc r m a h c b e j).reverse, .list (pc r m a h c b e j), .tuple [.tuple (pc r m a h c b e j)], .tuple (cut (pc r m a h c b e j) (some 1) none)] : List Dt) ++ ([.none, .bool true, .int 0, .str "", .str "piece", .tuple [], .list [], .list [.tuple (pc r m a h c b e j)], .int (10 ^ (39 : Int).toNat)] : List Dt) ∧ ds0.length = 15 ∧ ∀ d ∈ ds0, Sm 2 d := by
      refine ⟨_, rfl, rfl, ?_⟩
      have wh : Sm 1 (.tuple (pc r m a h c b e j)) := Sm.tup hp0 (show 8 ≤ 38 by decide)
      intro d hd
      simp only [List.cons_append, List.nil_append, List.mem_cons, List.not_mem_nil, or_false] at hd
      rcases hd with rfl | rfl | rfl | rfl | rfl | rfl | rfl | rfl | rfl | rfl | rfl | rfl | rfl | rfl | rfl
      · exact (Sm.tup (fun d hd => hp0 d (cut_mem hd)) (Nat.le_trans (cut_len _ _ _) (show 8 ≤ 38 by decide))).mono (by decide)
      · have w9 : ∀ d ∈ pc r m a h c b e j ++ [PyData.int 0], Sm 0 d := fun d hd => by
          rcases List.mem_append.mp hd with z | z
          · exact hp0 d z
          · cases List.mem_singleton.mp z
            exact Sm.int (by decide)
        exact (Sm.tup w9 (show 8 + 1 ≤ 38 by decide)).mono (by decide)
      · exact (Sm.tup (fun d hd => hp0 d (List.mem_reverse.mp hd)) (show 8 ≤ 38 by decide)).mono (by decide)
      · exact (Sm.list hp0 (show 8 ≤ 38 by decide)).mono (by decide)
      · refine Sm.tup (fun d hd => ?_) (show 1 ≤ 38 by decide)
        cases List.mem_singleton.mp hd
        exact wh
      · exact (Sm.tup (fun d hd => hp0 d (cut_mem hd)) (Nat.le_trans (cut_len _ _ _) (show 8 ≤ 38 by decide))).mono (by decide)
      · exact Sm.none.mono (by decide)
      · exact Sm.bool.mono (by decide)
      · exact (Sm.int (by decide)).mono (by decide)
      · exact (Sm.str (by decide +kernel)).mono (by decide)
      · exact (Sm.str (by decide +kernel)).mono (by decide)
      · exact (Sm.tup (k := 0) (fun d hd => absurd hd List.not_mem_nil) (by decide)).mono (by decide)
      · exact (Sm.list (k := 0) (fun d hd => absurd hd List.not_mem_nil) (by decide)).mono (by decide)
      · refine Sm.list (fun d hd => ?_) (show 1 ≤ 38 by decide)
        cases List.mem_singleton.mp hd
        exact wh
      · exact (Sm.int (by decide)).mono (by decide)
    refine ⟨_, rfl, ?_⟩
    refine ⟨_, rfl, rfl, _, rfl, (show 8 + 1 ≤ 16777216 by decide), ?_⟩
    refine ⟨_, rfl, ?_⟩
    refine ⟨_, rfl, (show 8 ≤ 16777216 by decide), fun p0 hp0' => ?_⟩
    refine ⟨_, put_at, ?_⟩
    rw [del_put hp0']
    refine ⟨_, rfl, rfl, _, rfl, ?_⟩
    refine ⟨_, rfl, ?_⟩
    refine ⟨rfl, fun p1 hp1' => ?_⟩
    refine ⟨fun Γ' M' => ∃ p, Γ' = [some (.own f), some (.dat (.tuple (pc r m a h c b e j))), some (.own p), none, none, none, none, none, none] ∧ M p = none ∧ M' p = some (.lst (ds0.map .dat)) ∧ ∀ x, M x ≠ none → M' x = M x, ?_, ?_⟩
    · refine ⟨_, rfl, ?_⟩
      refine ⟨rfl, _, rfl, ?_⟩
      refine ⟨rfl, _, rfl, ?_⟩
      refine ⟨_, rfl, rfl, _, rfl, ?_⟩
      refine ⟨⟨by decide, by decide, by decide⟩, ?_⟩
      refine ⟨rfl, _, rfl, ?_⟩
      refine ⟨_, _, IsL.own put_at, IsL.dat, (show 6 + 9 ≤ 16777216 by decide), fun p hp => ?_⟩
      obtain ⟨np, pM⟩ : p ≠ p1 ∧ M p = none := by
        by_cases e : p = p1
        · rw [e, put_at] at hp
          cases hp
        · exact ⟨e, by rw [put_ne e] at hp; exact hp⟩
      refine ⟨p, rfl, pM, ?_, fun x hx => ?_⟩
      · rw [e0]
        exact put_at
      · have n1 : x ≠ p := fun z => hx (z ▸ pM)
        have n2 : x ≠ p1 := fun z => hx (z ▸ hp1')
        rw [put_ne n1, put_ne n2]
    · rintro Γ' M1 ⟨p, rfl, pM, hM1, oM1⟩
      have F1 : Feed M1 f n := by
        obtain ⟨cs, at_, left, z1, z2⟩ := F0
        exact ⟨cs, at_, left, (oM1 f (by rw [z1]; exact nofun)).trans z1, z2⟩
      have nfp : f ≠ p := F0.ne pM
      clear F0 e0
      refine ⟨rfl, _, rfl, ?_⟩
      refine ⟨rfl, _, rfl, ?_⟩
      refine ⟨rfl, _, rfl, ?_⟩
      refine ⟨fun Γ' M' => Γ' = [some (.own f), some (.dat (.tuple (pc r m a h c b e j))), some (.own p), some (.dat (.list (odds b e m))), none, none, none, none, none] ∧ M' = M1, ?_, ?_⟩
      · refine ⟨_, rfl, ?_⟩
        refine ⟨rfl, _, rfl, ?_⟩
        refine ⟨rfl, _, rfl, ?_⟩
        refine ⟨⟨by decide, by decide, by decide⟩, ?_⟩
        refine ⟨⟨by decide, by decide, by decide⟩, ?_⟩
        refine ⟨_, rfl, _, rfl, ?_⟩
        refine ⟨_, rfl, _, rfl, ?_⟩
        refine ⟨_, rfl, _, rfl, ?_⟩
        refine ⟨rfl, _, rfl, ?_⟩
        refine ⟨_, _, IsL.dat, IsL.dat, (show 17 + 7 ≤ 16777216 by decide), ?_⟩
        exact ⟨rfl, rfl⟩
      · rintro Γ' Mb ⟨rfl, rfl⟩
        have pcl : (pc r m a h c b e j).length ≤ 100 := (show 8 ≤ 100 by decide)
        have e24 : (List.map Sl.dat (odds b e m)).length = 24 := rfl
        refine ⟨0, 8, rfl, by decide, fun i Γ' M' => ∃ (x4 x6 : Option Sl) (ds : List Dt), Γ' = [some (.own f), some (.dat (.tuple (pc r m a h c b e j))), some (.own p), some (.dat (.list (odds b e m))), x4, none, x6, none, none] ∧ M' p = some (.lst (ds.map .dat)) ∧ ds.length = 15 + 24 * i ∧ (∀ d ∈ ds, Sm 2 d) ∧ ∀ x, x ≠ p → M' x = Mb x, ⟨none, none, ds0, rfl, hM1, l0, s0, fun _ _ => rfl⟩, ?_, ?_⟩
        · rintro i Γ' M' hi ⟨x4, x6, ds, rfl, hm, hl, hs, hoth⟩
          have hi2 : i < 8 := hi
          refine ⟨_, rfl, _, IsL.dat, fun i2 Γ' M' => ∃ (x6 : Option Sl) (ds : List Dt), Γ' = [some (.own f), some (.dat (.tuple (pc r m a h c b e j))), some (.own p), some (.dat (.list (odds b e m))), some (.dat (.int (0 + (i : Int)))), none, x6, none, none] ∧ M' p = some (.lst (ds.map .dat)) ∧ ds.length = 15 + 24 * i + i2 ∧ (∀ d ∈ ds, Sm 2 d) ∧ ∀ x, x ≠ p → M' x = Mb x, ⟨x6, ds, rfl, hm, hl, hs, hoth⟩, ?_, ?_, ?_⟩
          · exact fun _ _ _ _ _ => IsL.dat
          · rintro i2 x Γ' M' hx ⟨x6, ds, rfl, hm, hl, hs, hoth⟩
            obtain ⟨d, hd, rfl⟩ := mem_map_dat hx
            have hi3 : i2 < 24 := (List.getElem?_eq_some_iff.mp hx).1
            refine ⟨_, rfl, ⟨_, IsL.own hm⟩, swap_rd rfl rfl rfl pcl ?_⟩
            refine ⟨_, hm, by rw [List.length_map]; omega, _, ds ++ [.tuple (cut (pc r m a h c b e j) none (some (0 + (i : Int))) ++ [d] ++ cut (pc r m a h c b e j) (some (0 + (i : Int) + 1)) none)], rfl, ?_, ?_, ?_, ?_⟩
            · rw [List.map_append]
              exact put_at
            · rw [List.length_append, hl]
              exact Nat.add_assoc _ _ _
            · intro y hy
              rcases List.mem_append.mp hy with z | z
              · exact hs y z
              · cases List.mem_singleton.mp z
                exact Sm.tup (swap_sm hp1 (ho d hd)) (Nat.le_trans swap_len (show 8 + 1 + 8 ≤ 38 by decide))
            · intro y hy
              rw [put_ne hy]
              exact hoth y hy
          · rintro Γ' M' ⟨x6, ds, rfl, hm, hl, hs, hoth⟩
            exact ⟨_, x6, ds, rfl, hm, by rw [hl, e24]; omega, hs, hoth⟩
        · rintro Γ' M2 ⟨x4, x6, ds, rfl, hm, hl, hs, hoth⟩
          have hl2 : ds.length = 207 := hl
          refine ⟨_, rfl, ⟨_, IsL.own hm⟩, ?_⟩
          refine ⟨_, rfl, ?_⟩
          refine ⟨_, rfl, _, rfl, _, rfl, _, rfl, _, rfl, _, rfl, ?_⟩
          refine ⟨rfl, _, rfl, Nat.le_trans (Nat.add_le_add_right (cut_len _ _ _) _) (show 8 + 3 ≤ 16777216 by decide), ?_⟩
          refine ⟨_, hm, by rw [List.length_map]; omega, ?_⟩
          refine ⟨_, rfl, ⟨_, IsL.own put_at⟩, ?_⟩
          refine ⟨_, rfl, ?_⟩
          refine ⟨rfl, _, rfl, Nat.le_trans (Nat.add_le_add_right (cut_len _ _ _) _) (show 8 + 1 ≤ 16777216 by decide), ?_⟩
          refine ⟨_, rfl, ?_⟩
          have g1 := cut_len (pc r m a h c b e j) none (some 2)
          have g3 := cut_len (pc r m a h c b e j) none (some 5)
          have g2 := cut_len (pc r m a h c b e j) (some 3) (some 7)
          have g0 : (pc r m a h c b e j).length = 8 := rfl
          refine ⟨by rw [List.length_append]; show _ + 1 + _ ≤ _; omega, ?_⟩
          refine ⟨rfl, _, rfl, by rw [List.length_append, List.length_append]; show _ + 1 + _ + 1 ≤ _; omega, ?_⟩
          refine ⟨_, put_at, by rw [List.length_append, List.length_map]; show _ + 1 < _; omega, ?_⟩
          rw [put_put]
          have F3 : Feed M2 f n := by
            obtain ⟨cs, at_, left, z1, z2⟩ := F1
            exact ⟨cs, at_, left, (hoth f nfp).trans z1, z2⟩
          refine ⟨_, rfl, f, 8, _, rfl, by decide, by decide, F3.put nfp, by omega, fun r4 M4 p4 q4 F4 o4 => ?_⟩
          refine ⟨_, rfl, f, 8, _, rfl, by decide, by decide, F4, by omega, fun r5 M5 p5 q5 F5 o5 => ?_⟩
          refine ⟨_, rfl, _, rfl, _, rfl, f, 24, _, rfl, by decide, by decide, F5, by omega, fun r6 M6 p6 q6 F6 o6 => ?_⟩
          obtain ⟨one, eo, so⟩ := pick (P := Sm 1) ho p6 q6
          refine ⟨_, eo, ?_⟩
          refine swap_rd rfl rfl rfl pcl ?_
          refine ⟨_, rfl, _, rfl, _, rfl, f, 24, _, rfl, by decide, by decide, F6, by omega, fun r7 M7 p7 q7 F7 o7 => ?_⟩
          obtain ⟨two, et, s2⟩ := pick (P := Sm 1) ho p7 q7
          refine ⟨_, et, ?_⟩
          have c8 : (cut (pc r m a h c b e j) none (some r4) ++ [one] ++ cut (pc r m a h c b e j) (some (r4 + 1)) none).length ≤ 17 := Nat.le_trans swap_len (show 8 + 1 + 8 ≤ 17 by decide)
          have m7 := (o7 p nfp.symm).trans ((o6 p nfp.symm).trans ((o5 p nfp.symm).trans (o4 p nfp.symm)))
          rw [put_at] at m7
          refine ⟨_, rfl, ⟨_, IsL.own m7⟩, swap_rd rfl rfl rfl (Nat.le_trans c8 (by decide)) ?_⟩
          refine ⟨_, m7, by rw [List.length_append, List.length_append, List.length_map]; show _ + 1 + 1 < _; omega, ?_⟩
          refine ⟨_, rfl, ?_⟩
          have t0 : ∀ d ∈ pc r m a h c b e j, Sm 0 d := hp0
          have t1 : Sm 2 (.tuple (cut (pc r m a h c b e j) none (some 5) ++ [.int e, .int b, .bool j])) := by
            refine (Sm.tup (k := 0) (fun d hd => ?_) (by rw [List.length_append]; show _ + 3 ≤ _; omega)).mono (by decide)
            rcases List.mem_append.mp hd with z | z
            · exact hp0 d (cut_mem z)
            · refine hp0 d ?_
              simp only [List.mem_cons, List.not_mem_nil, or_false] at z ⊢
              rcases z with rfl | rfl | rfl <;> simp
          have t2 : Sm 2 (.tuple (cut (pc r m a h c b e j) none (some 2) ++ [.int (-1)] ++ cut (pc r m a h c b e j) (some 3) (some 7) ++ [.bool true])) := by
            refine (Sm.tup (k := 0) (fun d hd => ?_) (by rw [List.length_append, List.length_append, List.length_append]; show _ + 1 + _ + 1 ≤ _; omega)).mono (by decide)
            rcases List.mem_append.mp hd with z | z
            · rcases List.mem_append.mp z with z | z
              · rcases List.mem_append.mp z with z | z
                · exact hp0 d (cut_mem z)
                · cases List.mem_singleton.mp z
                  exact Sm.int (by decide)
              · exact hp0 d (cut_mem z)
            · cases List.mem_singleton.mp z
              exact Sm.bool
          have t3 := Sm.tup (swap_sm (at_ := r5) (swap_sm (at_ := r4) hp1 so) s2) (Nat.le_trans swap_len (Nat.le_trans (Nat.add_le_add (Nat.add_le_add_right c8 1) c8) (by decide)))
          refine k p (ds ++ [.tuple (cut (pc r m a h c b e j) none (some 5) ++ [.int e, .int b, .bool j])] ++ [.tuple (cut (pc r m a h c b e j) none (some 2) ++ [.int (-1)] ++ cut (pc r m a h c b e j) (some 3) (some 7) ++ [.bool true])] ++ [.tuple (cut (cut (pc r m a h c b e j) none (some r4) ++ [one] ++ cut (pc r m a h c b e j) (some (r4 + 1)) none) none (some r5) ++ [two] ++ cut (cut (pc r m a h c b e j) none (some r4) ++ [one] ++ cut (pc r m a h c b e j) (some (r4 + 1)) none) (some (r5 + 1)) none)]) _ pM (by rw [put_at]; simp only [List.map_append, List.map_cons, List.map_nil]) ?_ ?_ ((F7.put nfp).up (by omega)) ?_
          · intro d hd
            rcases List.mem_append.mp hd with z | z
            · rcases List.mem_append.mp z with z | z
              · rcases List.mem_append.mp z with z | z
                · exact hs d z
                · cases List.mem_singleton.mp z
                  exact t1
              · cases List.mem_singleton.mp z
                exact t2
            · cases List.mem_singleton.mp z
              exact t3
          · rw [List.length_append, List.length_append, List.length_append, hl2]
            exact (show 207 + 1 + 1 + 1 ≤ 1000 by decide)
          · intro x hx hn
            have n1 : x ≠ p := fun z => hn (z ▸ pM)
            rw [put_ne n1, o7 x hx, o6 x hx, o5 x hx, o4 x hx, put_ne n1, hoth x n1, oM1 x hn]
end
end LW
namespace LW
open PySem PySem.Spec PyProof.Rows L2 DL
section
variable {P : Program} {w : World} {K : PySem.W.Frag} {mg : Str → Option Value} {base : Heap}
theorem ok_law (T : Tx K mg) : Holds P w K mg base 4 T.f_law T.fd_law ["script"] (prLaw K) := by
  refine holds_of T.F_law sc_law (fun ss M q h => ?len) (fun cdv A outer s H hr => (xss_cons (xs_asgN (ps_set (i := 1) sc_law.nd rfl (by first | exact .inl rfl | exact .inr rfl) (xe_call (ok_llopen T) (hr.mono (by decide)) T.g_llopen T.F_llopen.kp T.b_llopen (xa_cons (xv 0) xa_nil))) simLE)
      (xss_cons (xs_forR1 (ps_for PassesOwn.never rfl (pi_range1 rfl T.m_range (xa_cons xe_int xa_nil)) (xg_name (pg_name (i := 2) sc_law.nd rfl (by first | exact .inl rfl | exact .inr rfl))) (xss_cons (xs_asgN (ps_set (i := 3) sc_law.nd rfl (by first | exact .inl rfl | exact .inr rfl) (xe_call (ok_ll_drawn T) (hr.mono (by decide)) T.g_ll_drawn T.F_ll_drawn.kp T.b_ll_drawn (xa_cons (xv 1) xa_nil))) simLE)
      (xss_cons (xs_if (xb_cmp sim_isnot (pt_cmpR (L2.OpR.or op_notBl op_notN) (xe_call (ok_is_piece T) (hr.mono (by decide)) T.g_is_piece T.F_is_piece.kp T.b_is_piece (xa_cons (xv 3) xa_nil)) xe_bl (nomark _))) (xss_one (xs_ret xe_bl)) xss_nil)
      (xss_one (xs_forL (ps_for PassesOwn.never rfl (pi_list (xe_call (ok_ll_bent T) (hr.mono (by decide)) T.g_ll_bent T.F_ll_bent.kp T.b_ll_bent (xa_cons (xv 1) (xa_cons (xv 3) xa_nil)))) (xg_name (pg_name (i := 4) sc_law.nd rfl (by first | exact .inl rfl | exact .inr rfl))) (xss_cons (xs_asgN (ps_set (i := 5) sc_law.nd rfl (by first | exact .inl rfl | exact .inr rfl) (xe_callB sim_repr (pe_callB (call_repr hr.gu hr.rm.units) rfl T.m_repr (by decide +kernel) (xa_cons (xv 4) xa_nil)))) simLE)
      (xss_cons (xs_asgN (ps_set (i := 6) sc_law.nd rfl (by first | exact .inl rfl | exact .inr rfl) (xe_call (ok_is_piece T) (hr.mono (by decide)) T.g_is_piece T.F_is_piece.kp T.b_is_piece (xa_cons (xv 4) xa_nil))) simLE)
      (xss_one (xs_if (xb_w (xw_or (xb_cmp sim_ne (pt_cmpR (op_neAll hr.rm.units) (xe_callB sim_repr (pe_callB (call_repr hr.gu hr.rm.units) rfl T.m_repr (by decide +kernel) (xa_cons (xv 6) xa_nil))) (xe_callB sim_repr (pe_callB (call_repr hr.gu hr.rm.units) rfl T.m_repr (by decide +kernel) (xa_cons (xe_call (ok_ll_due T) (hr.mono (by decide)) T.g_ll_due T.F_ll_due.kp T.b_ll_due (xa_cons (xv 4) xa_nil)) xa_nil))) (nomark _))) (xw_or1 (xb_cmp sim_ne (pt_cmpR (op_neAll hr.rm.units) (xe_callB sim_repr (pe_callB (call_repr hr.gu hr.rm.units) rfl T.m_repr (by decide +kernel) (xa_cons (xv 4) xa_nil))) (xv 5) (nomark _)))))) (xss_one (xs_ret xe_bl)) xss_nil)))))))))))
      (xss_one (xs_ret xe_bl))))) (fun ss M q h => ?read)
  case len =>
    obtain ⟨ns, rfl, _⟩ := h
    rfl
  case read =>
    obtain ⟨ns, rfl, hn, k⟩ := h
    refine ⟨_, rfl, ns, rfl, hn, fun f M1 hf F1 o1 => ?_⟩
    refine ⟨0, 4, rfl, by decide, fun i Γ' M' => ∃ x2 x3 x4 x5 x6 : Option Sl, Γ' = [some (.scr K ns), some (.own f), x2, x3, x4, x5, x6] ∧ Feed M' f (100 * i), ⟨_, _, _, _, _, rfl, F1.up (by decide)⟩, ?_, ?_⟩
    · rintro i Γ' M' hi ⟨x2, x3, x4, x5, x6, rfl, FF⟩
      have hi4 : i < 4 := hi
      refine ⟨_, rfl, f, _, rfl, FF, by omega, fun r m a h c b e j M2 ok fb fe F2 o2 => ?_⟩
      have hP : isP (.tuple (pc r m a h c b e j)) = true := decide_eq_true ok
      refine ⟨_, rfl, _, rfl, ?_⟩
      refine And.intro (fun ht => absurd ht (by rw [hP]; decide)) (fun _ => ?_)
      refine ⟨_, rfl, _, rfl, f, _, r, m, a, h, c, b, e, j, rfl, ok, fb, fe, F2, by omega, fun p things M3 hp hM3 sm3 hl3 F3 o3 => ?_⟩
      refine ⟨_, IsL.own hM3, fun i2 Γ' M' => ∃ x4 x5 x6 : Option Sl, Γ' = [some (.scr K ns), some (.own f), some (.dat (.int (0 + (i : Int)))), some (.dat (.tuple (pc r m a h c b e j))), x4, x5, x6] ∧ M' = M3, ⟨_, _, _, rfl, rfl⟩, ?_, ?_, ?_⟩
      · rintro i2 Γ' M' _ ⟨_, _, _, rfl, rfl⟩
        exact IsL.own hM3
      · rintro i2 x Γ' M' hx ⟨x4, x5, x6, rfl, eM⟩
        have eM' := eM.symm
        subst eM'
        obtain ⟨d, hd, rfl⟩ := mem_map_dat hx
        have sd := sm3 d hd
        have sb : ∀ z : Bool, (PyData.bool z).shown.length ≤ 16777216 := fun z => (Sm.bool.mono (by decide)).fits
        refine ⟨_, rfl, sd.sh, sd.fits, Nat.le_trans sd.dp (by decide), ?_⟩
        refine ⟨_, rfl, d, rfl, ?_⟩
        refine ⟨_, rfl, rfl, sb _, (by decide : (0 : Nat) ≤ 40), ?_⟩
        refine ⟨_, rfl, d, rfl, rfl, sb _, (by decide : (0 : Nat) ≤ 40), ?_⟩
        refine And.intro (fun z => absurd z (by simp)) (fun _ => ?_)
        refine ⟨_, rfl, sd.sh, sd.fits, Nat.le_trans sd.dp (by decide), ?_⟩
        refine ⟨_, rfl, ?_⟩
        refine And.intro (fun z => absurd z (by simp)) (fun _ => ?_)
        exact ⟨_, _, _, rfl, rfl⟩
      · rintro Γ' M' ⟨x4, x5, x6, rfl, rfl⟩
        exact ⟨_, _, _, _, _, rfl, F3.up (by omega)⟩
    · rintro Γ' M' _
      exact k M'
end
end LW
namespace LW
open PySem PySem.Spec PyProof.Rows L2 DL
theorem all_mk {l : PySem.W.OpenLaw} {w : World} {K : PySem.W.Frag} {h : Heap} {mg : Str → Option Value} {fa : Addr} (X : K.In h) (G : h.Ns mainGlobals mg) (hfa : mg "law" = some (.ref fa))
    {f_is_whole : Addr} {od_is_whole an_is_whole : Option Addr} {sl_is_whole : Array (Option Value)} {oc_is_whole kV_is_whole dc_is_whole pm_is_whole cd_is_whole ct_is_whole : Value} {f_is_piece : Addr} {od_is_piece an_is_piece : Option Addr} {sl_is_piece : Array (Option Value)} {oc_is_piece kV_is_piece dc_is_piece pm_is_piece cd_is_piece ct_is_piece : Value} {f_stands_well : Addr} {od_stands_well an_stands_well : Option Addr} {sl_stands_well : Array (Option Value)} {oc_stands_well kV_stands_well dc_stands_well pm_stands_well cd_stands_well ct_stands_well : Value} {f_asked_well : Addr} {od_asked_well an_asked_well : Option Addr} {sl_asked_well : Array (Option Value)} {oc_asked_well kV_asked_well dc_asked_well pm_asked_well cd_asked_well ct_asked_well : Value} {f_llmixed : Addr} {od_llmixed an_llmixed : Option Addr} {sl_llmixed : Array (Option Value)} {oc_llmixed kV_llmixed dc_llmixed pm_llmixed cd_llmixed ct_llmixed : Value} {f_llopen : Addr} {od_llopen an_llopen : Option Addr} {sl_llopen : Array (Option Value)} {oc_llopen kV_llopen dc_llopen pm_llopen cd_llopen ct_llopen : Value} {f_lldraw : Addr} {od_lldraw an_lldraw : Option Addr} {sl_lldraw : Array (Option Value)} {oc_lldraw kV_lldraw dc_lldraw pm_lldraw cd_lldraw ct_lldraw : Value} {f_llwhole : Addr} {od_llwhole an_llwhole : Option Addr} {sl_llwhole : Array (Option Value)} {oc_llwhole kV_llwhole dc_llwhole pm_llwhole cd_llwhole ct_llwhole : Value} {f_ll_due : Addr} {od_ll_due an_ll_due : Option Addr} {sl_ll_due : Array (Option Value)} {oc_ll_due kV_ll_due dc_ll_due pm_ll_due cd_ll_due ct_ll_due : Value} {f_ll_drawn : Addr} {od_ll_drawn an_ll_drawn : Option Addr} {sl_ll_drawn : Array (Option Value)} {oc_ll_drawn kV_ll_drawn dc_ll_drawn pm_ll_drawn cd_ll_drawn ct_ll_drawn : Value} {f_ll_bent : Addr} {od_ll_bent an_ll_bent : Option Addr} {sl_ll_bent : Array (Option Value)} {oc_ll_bent kV_ll_bent dc_ll_bent pm_ll_bent cd_ll_bent ct_ll_bent : Value} {f_law : Addr} {od_law an_law : Option Addr} {sl_law : Array (Option Value)} {oc_law kV_law dc_law pm_law cd_law ct_law : Value} {t_RUN : Tok} {t_NUMBER : Tok} {t_ASKER : Tok} {t_HOUSE : Tok} {t_COUNT : Tok} {t_BEGIN : Tok} {t_END : Tok} {t_JOINED : Tok} {t_PLACES : Tok} {t_NO_ASKER : Tok} {t_GREATEST_RUN : Tok} {t_GREATEST_NUMBER : Tok} {t_GREATEST_HOUSE : Tok} {t_GREATEST_COUNT : Tok}
    (a_is_whole : PySem.W.nsIn K mainGlobals "is_whole" = some (some (.ref f_is_whole)))
    (l_is_whole : K.lookup f_is_whole = some ⟨oc_is_whole, od_is_whole, .func (PySem.W.fnOf "is_whole" "is_whole" (defArgs s_is_whole) (defBody s_is_whole) (defScope s_is_whole) .none kV_is_whole dc_is_whole pm_is_whole an_is_whole cd_is_whole ct_is_whole), sl_is_whole⟩)
    (e_is_whole : PySem.W.codeIn K cd_is_whole "is_whole" = true)
    (k_is_whole : PySem.W.keepIn K (.ref f_is_whole) = true)
    (a_is_piece : PySem.W.nsIn K mainGlobals "is_piece" = some (some (.ref f_is_piece)))
    (l_is_piece : K.lookup f_is_piece = some ⟨oc_is_piece, od_is_piece, .func (PySem.W.fnOf "is_piece" "is_piece" (defArgs s_is_piece) (defBody s_is_piece) (defScope s_is_piece) .none kV_is_piece dc_is_piece pm_is_piece an_is_piece cd_is_piece ct_is_piece), sl_is_piece⟩)
    (e_is_piece : PySem.W.codeIn K cd_is_piece "is_piece" = true)
    (k_is_piece : PySem.W.keepIn K (.ref f_is_piece) = true)
    (a_stands_well : PySem.W.nsIn K mainGlobals "stands_well" = some (some (.ref f_stands_well)))
    (l_stands_well : K.lookup f_stands_well = some ⟨oc_stands_well, od_stands_well, .func (PySem.W.fnOf "stands_well" "stands_well" (defArgs s_stands_well) (defBody s_stands_well) (defScope s_stands_well) .none kV_stands_well dc_stands_well pm_stands_well an_stands_well cd_stands_well ct_stands_well), sl_stands_well⟩)
    (e_stands_well : PySem.W.codeIn K cd_stands_well "stands_well" = true)
    (k_stands_well : PySem.W.keepIn K (.ref f_stands_well) = true)
    (a_asked_well : PySem.W.nsIn K mainGlobals "asked_well" = some (some (.ref f_asked_well)))
    (l_asked_well : K.lookup f_asked_well = some ⟨oc_asked_well, od_asked_well, .func (PySem.W.fnOf "asked_well" "asked_well" (defArgs s_asked_well) (defBody s_asked_well) (defScope s_asked_well) .none kV_asked_well dc_asked_well pm_asked_well an_asked_well cd_asked_well ct_asked_well), sl_asked_well⟩)
    (e_asked_well : PySem.W.codeIn K cd_asked_well "asked_well" = true)
    (k_asked_well : PySem.W.keepIn K (.ref f_asked_well) = true)
    (a_llmixed : PySem.W.nsIn K mainGlobals "_law_lmixed" = some (some (.ref f_llmixed)))
    (l_llmixed : K.lookup f_llmixed = some ⟨oc_llmixed, od_llmixed, .func (PySem.W.fnOf "_law_lmixed" "_law_lmixed" (defArgs s_llmixed) (defBody s_llmixed) (defScope s_llmixed) .none kV_llmixed dc_llmixed pm_llmixed an_llmixed cd_llmixed ct_llmixed), sl_llmixed⟩)
    (e_llmixed : PySem.W.codeIn K cd_llmixed "_law_lmixed" = true)
    (k_llmixed : PySem.W.keepIn K (.ref f_llmixed) = true)
    (a_llopen : PySem.W.nsIn K mainGlobals "_law_lopen" = some (some (.ref f_llopen)))
    (l_llopen : K.lookup f_llopen = some ⟨oc_llopen, od_llopen, .func (PySem.W.fnOf "_law_lopen" "_law_lopen" (defArgs s_llopen) (defBody s_llopen) (defScope s_llopen) .none kV_llopen dc_llopen pm_llopen an_llopen cd_llopen ct_llopen), sl_llopen⟩)
    (e_llopen : PySem.W.codeIn K cd_llopen "_law_lopen" = true)
    (k_llopen : PySem.W.keepIn K (.ref f_llopen) = true)
    (a_lldraw : PySem.W.nsIn K mainGlobals "_law_ldraw" = some (some (.ref f_lldraw)))
    (l_lldraw : K.lookup f_lldraw = some ⟨oc_lldraw, od_lldraw, .func (PySem.W.fnOf "_law_ldraw" "_law_ldraw" (defArgs s_lldraw) (defBody s_lldraw) (defScope s_lldraw) .none kV_lldraw dc_lldraw pm_lldraw an_lldraw cd_lldraw ct_lldraw), sl_lldraw⟩)
    (e_lldraw : PySem.W.codeIn K cd_lldraw "_law_ldraw" = true)
    (k_lldraw : PySem.W.keepIn K (.ref f_lldraw) = true)
    (a_llwhole : PySem.W.nsIn K mainGlobals "_law_lwhole" = some (some (.ref f_llwhole)))
    (l_llwhole : K.lookup f_llwhole = some ⟨oc_llwhole, od_llwhole, .func (PySem.W.fnOf "_law_lwhole" "_law_lwhole" (defArgs s_llwhole) (defBody s_llwhole) (defScope s_llwhole) .none kV_llwhole dc_llwhole pm_llwhole an_llwhole cd_llwhole ct_llwhole), sl_llwhole⟩)
    (e_llwhole : PySem.W.codeIn K cd_llwhole "_law_lwhole" = true)
    (k_llwhole : PySem.W.keepIn K (.ref f_llwhole) = true)
    (a_ll_due : PySem.W.nsIn K mainGlobals "_law_l_due" = some (some (.ref f_ll_due)))
    (l_ll_due : K.lookup f_ll_due = some ⟨oc_ll_due, od_ll_due, .func (PySem.W.fnOf "_law_l_due" "_law_l_due" (defArgs s_ll_due) (defBody s_ll_due) (defScope s_ll_due) .none kV_ll_due dc_ll_due pm_ll_due an_ll_due cd_ll_due ct_ll_due), sl_ll_due⟩)
    (e_ll_due : PySem.W.codeIn K cd_ll_due "_law_l_due" = true)
    (k_ll_due : PySem.W.keepIn K (.ref f_ll_due) = true)
    (a_ll_drawn : PySem.W.nsIn K mainGlobals "_law_l_drawn" = some (some (.ref f_ll_drawn)))
    (l_ll_drawn : K.lookup f_ll_drawn = some ⟨oc_ll_drawn, od_ll_drawn, .func (PySem.W.fnOf "_law_l_drawn" "_law_l_drawn" (defArgs s_ll_drawn) (defBody s_ll_drawn) (defScope s_ll_drawn) .none kV_ll_drawn dc_ll_drawn pm_ll_drawn an_ll_drawn cd_ll_drawn ct_ll_drawn), sl_ll_drawn⟩)
    (e_ll_drawn : PySem.W.codeIn K cd_ll_drawn "_law_l_drawn" = true)
    (k_ll_drawn : PySem.W.keepIn K (.ref f_ll_drawn) = true)
    (a_ll_bent : PySem.W.nsIn K mainGlobals "_law_l_bent" = some (some (.ref f_ll_bent)))
    (l_ll_bent : K.lookup f_ll_bent = some ⟨oc_ll_bent, od_ll_bent, .func (PySem.W.fnOf "_law_l_bent" "_law_l_bent" (defArgs s_ll_bent) (defBody s_ll_bent) (defScope s_ll_bent) .none kV_ll_bent dc_ll_bent pm_ll_bent an_ll_bent cd_ll_bent ct_ll_bent), sl_ll_bent⟩)
    (e_ll_bent : PySem.W.codeIn K cd_ll_bent "_law_l_bent" = true)
    (k_ll_bent : PySem.W.keepIn K (.ref f_ll_bent) = true)
    (a_law : PySem.W.nsIn K mainGlobals "law" = some (some (.ref f_law)))
    (l_law : K.lookup f_law = some ⟨oc_law, od_law, .func (PySem.W.fnOf "law" "law" (defArgs s_law) (defBody s_law) (defScope s_law) .none kV_law dc_law pm_law an_law cd_law ct_law), sl_law⟩)
    (e_law : PySem.W.codeIn K cd_law "law" = true)
    (k_law : PySem.W.keepIn K (.ref f_law) = true)
    (v_RUN : PySem.W.nsIn K mainGlobals "RUN" = some (some (.int (0) t_RUN)))
    (v_NUMBER : PySem.W.nsIn K mainGlobals "NUMBER" = some (some (.int (1) t_NUMBER)))
    (v_ASKER : PySem.W.nsIn K mainGlobals "ASKER" = some (some (.int (2) t_ASKER)))
    (v_HOUSE : PySem.W.nsIn K mainGlobals "HOUSE" = some (some (.int (3) t_HOUSE)))
    (v_COUNT : PySem.W.nsIn K mainGlobals "COUNT" = some (some (.int (4) t_COUNT)))
    (v_BEGIN : PySem.W.nsIn K mainGlobals "BEGIN" = some (some (.int (5) t_BEGIN)))
    (v_END : PySem.W.nsIn K mainGlobals "END" = some (some (.int (6) t_END)))
    (v_JOINED : PySem.W.nsIn K mainGlobals "JOINED" = some (some (.int (7) t_JOINED)))
    (v_PLACES : PySem.W.nsIn K mainGlobals "PLACES" = some (some (.int (8) t_PLACES)))
    (v_NO_ASKER : PySem.W.nsIn K mainGlobals "NO_ASKER" = some (some (.int (-1) t_NO_ASKER)))
    (v_GREATEST_RUN : PySem.W.nsIn K mainGlobals "GREATEST_RUN" = some (some (.int (99) t_GREATEST_RUN)))
    (v_GREATEST_NUMBER : PySem.W.nsIn K mainGlobals "GREATEST_NUMBER" = some (some (.int (99) t_GREATEST_NUMBER)))
    (v_GREATEST_HOUSE : PySem.W.nsIn K mainGlobals "GREATEST_HOUSE" = some (some (.int (7) t_GREATEST_HOUSE)))
    (v_GREATEST_COUNT : PySem.W.nsIn K mainGlobals "GREATEST_COUNT" = some (some (.int (999) t_GREATEST_COUNT)))
    (z_all : PySem.W.nsIn K mainGlobals "all" = some none)
    (z_bool : PySem.W.nsIn K mainGlobals "bool" = some none)
    (z_int : PySem.W.nsIn K mainGlobals "int" = some none)
    (z_isinstance : PySem.W.nsIn K mainGlobals "isinstance" = some none)
    (z_len : PySem.W.nsIn K mainGlobals "len" = some none)
    (z_list : PySem.W.nsIn K mainGlobals "list" = some none)
    (z_range : PySem.W.nsIn K mainGlobals "range" = some none)
    (z_repr : PySem.W.nsIn K mainGlobals "repr" = some none)
    (z_sorted : PySem.W.nsIn K mainGlobals "sorted" = some none)
    (z_tuple : PySem.W.nsIn K mainGlobals "tuple" = some none) :
    ∃ fd : FuncData, (∀ (s : Shared) (v : Value), BindsTo s fd ⟨[v], []⟩ [("script", v)]) ∧ ∀ base : Heap, K.In base → base.Ns mainGlobals mg → Holds l.prog w K mg base 4 fa fd ["script"] (prLaw K) := by
  have e := (PySem.W.mg_of X G a_law).symm.trans hfa
  cases e
  let T : Tx K mg := { f_is_whole := _, fd_is_whole := _, F_is_whole := fun_mk (st := s_is_whole) l_is_whole e_is_whole k_is_whole, g_is_whole := PySem.W.mg_of X G a_is_whole, b_is_whole := (fun_mk (st := s_is_whole) l_is_whole e_is_whole k_is_whole).binds (ps := ["thing"]) (fun _ _ _ _ _ _ us hl => match us, hl with | [_], _ => rfl), f_is_piece := _, fd_is_piece := _, F_is_piece := fun_mk (st := s_is_piece) l_is_piece e_is_piece k_is_piece, g_is_piece := PySem.W.mg_of X G a_is_piece, b_is_piece := (fun_mk (st := s_is_piece) l_is_piece e_is_piece k_is_piece).binds (ps := ["thing"]) (fun _ _ _ _ _ _ us hl => match us, hl with | [_], _ => rfl), f_stands_well := _, fd_stands_well := _, F_stands_well := fun_mk (st := s_stands_well) l_stands_well e_stands_well k_stands_well, g_stands_well := PySem.W.mg_of X G a_stands_well, b_stands_well := (fun_mk (st := s_stands_well) l_stands_well e_stands_well k_stands_well).binds (ps := ["piece"]) (fun _ _ _ _ _ _ us hl => match us, hl with | [_], _ => rfl), f_asked_well := _, fd_asked_well := _, F_asked_well := fun_mk (st := s_asked_well) l_asked_well e_asked_well k_asked_well, g_asked_well := PySem.W.mg_of X G a_asked_well, b_asked_well := (fun_mk (st := s_asked_well) l_asked_well e_asked_well k_asked_well).binds (ps := ["piece"]) (fun _ _ _ _ _ _ us hl => match us, hl with | [_], _ => rfl), f_llmixed := _, fd_llmixed := _, F_llmixed := fun_mk (st := s_llmixed) l_llmixed e_llmixed k_llmixed, g_llmixed := PySem.W.mg_of X G a_llmixed, b_llmixed := (fun_mk (st := s_llmixed) l_llmixed e_llmixed k_llmixed).binds (ps := ["cell", "at"]) (fun _ _ _ _ _ _ us hl => match us, hl with | [_, _], _ => rfl), f_llopen := _, fd_llopen := _, F_llopen := fun_mk (st := s_llopen) l_llopen e_llopen k_llopen, g_llopen := PySem.W.mg_of X G a_llopen, b_llopen := (fun_mk (st := s_llopen) l_llopen e_llopen k_llopen).binds (ps := ["script"]) (fun _ _ _ _ _ _ us hl => match us, hl with | [_], _ => rfl), f_lldraw := _, fd_lldraw := _, F_lldraw := fun_mk (st := s_lldraw) l_lldraw e_lldraw k_lldraw, g_lldraw := PySem.W.mg_of X G a_lldraw, b_lldraw := (fun_mk (st := s_lldraw) l_lldraw e_lldraw k_lldraw).binds (ps := ["feed", "many"]) (fun _ _ _ _ _ _ us hl => match us, hl with | [_, _], _ => rfl), f_llwhole := _, fd_llwhole := _, F_llwhole := fun_mk (st := s_llwhole) l_llwhole e_llwhole k_llwhole, g_llwhole := PySem.W.mg_of X G a_llwhole, b_llwhole := (fun_mk (st := s_llwhole) l_llwhole e_llwhole k_llwhole).binds (ps := ["thing"]) (fun _ _ _ _ _ _ us hl => match us, hl with | [_], _ => rfl), f_ll_due := _, fd_ll_due := _, F_ll_due := fun_mk (st := s_ll_due) l_ll_due e_ll_due k_ll_due, g_ll_due := PySem.W.mg_of X G a_ll_due, b_ll_due := (fun_mk (st := s_ll_due) l_ll_due e_ll_due k_ll_due).binds (ps := ["thing"]) (fun _ _ _ _ _ _ us hl => match us, hl with | [_], _ => rfl), f_ll_drawn := _, fd_ll_drawn := _, F_ll_drawn := fun_mk (st := s_ll_drawn) l_ll_drawn e_ll_drawn k_ll_drawn, g_ll_drawn := PySem.W.mg_of X G a_ll_drawn, b_ll_drawn := (fun_mk (st := s_ll_drawn) l_ll_drawn e_ll_drawn k_ll_drawn).binds (ps := ["feed"]) (fun _ _ _ _ _ _ us hl => match us, hl with | [_], _ => rfl), f_ll_bent := _, fd_ll_bent := _, F_ll_bent := fun_mk (st := s_ll_bent) l_ll_bent e_ll_bent k_ll_bent, g_ll_bent := PySem.W.mg_of X G a_ll_bent, b_ll_bent := (fun_mk (st := s_ll_bent) l_ll_bent e_ll_bent k_ll_bent).binds (ps := ["feed", "piece"]) (fun _ _ _ _ _ _ us hl => match us, hl with | [_, _], _ => rfl), f_law := _, fd_law := _, F_law := fun_mk (st := s_law) l_law e_law k_law, g_law := PySem.W.mg_of X G a_law, b_law := (fun_mk (st := s_law) l_law e_law k_law).binds (ps := ["script"]) (fun _ _ _ _ _ _ us hl => match us, hl with | [_], _ => rfl), t_RUN := t_RUN, c_RUN := PySem.W.mg_of X G v_RUN, t_NUMBER := t_NUMBER, c_NUMBER := PySem.W.mg_of X G v_NUMBER, t_ASKER := t_ASKER, c_ASKER := PySem.W.mg_of X G v_ASKER, t_HOUSE := t_HOUSE, c_HOUSE := PySem.W.mg_of X G v_HOUSE, t_COUNT := t_COUNT, c_COUNT := PySem.W.mg_of X G v_COUNT, t_BEGIN := t_BEGIN, c_BEGIN := PySem.W.mg_of X G v_BEGIN, t_END := t_END, c_END := PySem.W.mg_of X G v_END, t_JOINED := t_JOINED, c_JOINED := PySem.W.mg_of X G v_JOINED, t_PLACES := t_PLACES, c_PLACES := PySem.W.mg_of X G v_PLACES, t_NO_ASKER := t_NO_ASKER, c_NO_ASKER := PySem.W.mg_of X G v_NO_ASKER, t_GREATEST_RUN := t_GREATEST_RUN, c_GREATEST_RUN := PySem.W.mg_of X G v_GREATEST_RUN, t_GREATEST_NUMBER := t_GREATEST_NUMBER, c_GREATEST_NUMBER := PySem.W.mg_of X G v_GREATEST_NUMBER, t_GREATEST_HOUSE := t_GREATEST_HOUSE, c_GREATEST_HOUSE := PySem.W.mg_of X G v_GREATEST_HOUSE, t_GREATEST_COUNT := t_GREATEST_COUNT, c_GREATEST_COUNT := PySem.W.mg_of X G v_GREATEST_COUNT, m_all := PySem.W.mg_none_of X G z_all, m_bool := PySem.W.mg_none_of X G z_bool, m_int := PySem.W.mg_none_of X G z_int, m_isinstance := PySem.W.mg_none_of X G z_isinstance, m_len := PySem.W.mg_none_of X G z_len, m_list := PySem.W.mg_none_of X G z_list, m_range := PySem.W.mg_none_of X G z_range, m_repr := PySem.W.mg_none_of X G z_repr, m_sorted := PySem.W.mg_none_of X G z_sorted, m_tuple := PySem.W.mg_none_of X G z_tuple }
  exact ⟨PySem.W.fnOf "law" "law" (defArgs s_law) (defBody s_law) (defScope s_law) .none kV_law dc_law pm_law an_law cd_law ct_law, fun s v => .of_eq rfl, fun base _ _ => ok_law T⟩
end LW
open PySem PySem.W PyProof.Rows
set_option maxRecDepth 100000 in
set_option maxHeartbeats 0 in
theorem PySem.Challenge.cw_latewood_k01_pieces_known_holds : PySem.Challenge.rw_latewood_k01_pieces_known.Holds := by
  w_on; o_law; k_head; (case hw => w_witness2)
  k_fill
  refine DL.walk_law (l := PySem.Challenge.rw_latewood_k01_pieces_known) (x := "script") (k := 4) rfl rfl ⟨rfl, by decide, by decide⟩ (fun w h Y => PySem.W.kIn_of Y) ?F
  case F =>
    intro w mg fa h KX G hmg
    refine' LW.all_mk KX G hmg ?a_is_whole ?l_is_whole ?e_is_whole ?k_is_whole ?a_is_piece ?l_is_piece ?e_is_piece ?k_is_piece ?a_stands_well ?l_stands_well ?e_stands_well ?k_stands_well ?a_asked_well ?l_asked_well ?e_asked_well ?k_asked_well ?a_llmixed ?l_llmixed ?e_llmixed ?k_llmixed ?a_llopen ?l_llopen ?e_llopen ?k_llopen ?a_lldraw ?l_lldraw ?e_lldraw ?k_lldraw ?a_llwhole ?l_llwhole ?e_llwhole ?k_llwhole ?a_ll_due ?l_ll_due ?e_ll_due ?k_ll_due ?a_ll_drawn ?l_ll_drawn ?e_ll_drawn ?k_ll_drawn ?a_ll_bent ?l_ll_bent ?e_ll_bent ?k_ll_bent ?a_law ?l_law ?e_law ?k_law ?v_RUN ?v_NUMBER ?v_ASKER ?v_HOUSE ?v_COUNT ?v_BEGIN ?v_END ?v_JOINED ?v_PLACES ?v_NO_ASKER ?v_GREATEST_RUN ?v_GREATEST_NUMBER ?v_GREATEST_HOUSE ?v_GREATEST_COUNT ?z_all ?z_bool ?z_int ?z_isinstance ?z_len ?z_list ?z_range ?z_repr ?z_sorted ?z_tuple
    (case a_is_whole => k_is)
    (case l_is_whole => k_is)
    (case e_is_whole => k_is)
    (case k_is_whole => k_is)
    (case a_is_piece => k_is)
    (case l_is_piece => k_is)
    (case e_is_piece => k_is)
    (case k_is_piece => k_is)
    (case a_stands_well => k_is)
    (case l_stands_well => k_is)
    (case e_stands_well => k_is)
    (case k_stands_well => k_is)
    (case a_asked_well => k_is)
    (case l_asked_well => k_is)
    (case e_asked_well => k_is)
    (case k_asked_well => k_is)
    (case a_llmixed => k_is)
    (case l_llmixed => k_is)
    (case e_llmixed => k_is)
    (case k_llmixed => k_is)
    (case a_llopen => k_is)
    (case l_llopen => k_is)
    (case e_llopen => k_is)
    (case k_llopen => k_is)
    (case a_lldraw => k_is)
    (case l_lldraw => k_is)
    (case e_lldraw => k_is)
    (case k_lldraw => k_is)
    (case a_llwhole => k_is)
    (case l_llwhole => k_is)
    (case e_llwhole => k_is)
    (case k_llwhole => k_is)
    (case a_ll_due => k_is)
    (case l_ll_due => k_is)
    (case e_ll_due => k_is)
    (case k_ll_due => k_is)
    (case a_ll_drawn => k_is)
    (case l_ll_drawn => k_is)
    (case e_ll_drawn => k_is)
    (case k_ll_drawn => k_is)
    (case a_ll_bent => k_is)
    (case l_ll_bent => k_is)
    (case e_ll_bent => k_is)
    (case k_ll_bent => k_is)
    (case a_law => k_is)
    (case l_law => k_is)
    (case e_law => k_is)
    (case k_law => k_is)
    (case v_RUN => k_is)
    (case v_NUMBER => k_is)
    (case v_ASKER => k_is)
    (case v_HOUSE => k_is)
    (case v_COUNT => k_is)
    (case v_BEGIN => k_is)
    (case v_END => k_is)
    (case v_JOINED => k_is)
    (case v_PLACES => k_is)
    (case v_NO_ASKER => k_is)
    (case v_GREATEST_RUN => k_is)
    (case v_GREATEST_NUMBER => k_is)
    (case v_GREATEST_HOUSE => k_is)
    (case v_GREATEST_COUNT => k_is)
    (case z_all => k_is)
    (case z_bool => k_is)
    (case z_int => k_is)
    (case z_isinstance => k_is)
    (case z_len => k_is)
    (case z_list => k_is)
    (case z_range => k_is)
    (case z_repr => k_is)
    (case z_sorted => k_is)
    (case z_tuple => k_is)
