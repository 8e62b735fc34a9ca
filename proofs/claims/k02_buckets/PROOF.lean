import PyProof.Rows.All
import Wide.All
import OpenK.AllK
import Wide.FinOn
import HandS.ForMost
import HandS.TupAny
import HandS.IsInst
import HandS.Wide
import HandS.Deep
import HandS.Codes
import HandS.Style
import HandS.Conv
import KE.KSortedM
import PySem.Challenge.RW_heldflows_k02_buckets
set_option Elab.async false
set_option linter.all false
set_option maxRecDepth 100000
/-! trees, states, and what a reading over them is worth -/
namespace Wp
open PySem PySem.Spec PyProof.Rows L2

/-- a value as a tree: tuples by their items, frozen lists by theirs, all that changes by its address -/
inductive T where
  | non | bl (b : Bool) | int (i : Int) | str (s : Str) | tup (ts : List T) | fl (ts : List T) | ref (a : Addr)

/-- a list that never changes: known, or of the written part -/
def FzL (K : PySem.W.Frag) (H : Hp) (a : Addr) (xs : List V) : Prop :=
  (∃ o, H a = some (.frz o (.lst xs))) ∨
    ∃ (o : Obj) (its : Array Value) (n : Nat), K.lookup a = some o ∧ o.cls = .type "list" ∧ o.dict = none ∧ o.data = .seq its n ∧ its.size ≤ sizeLine ∧ Vals xs its.toList
theorem FzL.sq {K : PySem.W.Frag} {H : Hp} {a : Addr} {xs : List V} (h : FzL K H a xs) : SqL K H a xs := by
  rcases h with ⟨o, h⟩ | h
  · exact .inl (.inr ⟨o, h⟩)
  · exact .inr h

mutual
inductive Rep (K : PySem.W.Frag) (H : Hp) : T → V → Prop
  | non : Rep K H .non .non
  | bl (b : Bool) : Rep K H (.bl b) (.bl b)
  | int (i : Int) : Rep K H (.int i) (.int i)
  | str (x : Str) : Rep K H (.str x) (.str x)
  | ref (a : Addr) : Rep K H (.ref a) (.ref a)
  | tup {a : Addr} {xs : List V} {ts : List T} : SqT K H a xs → Reps K H ts xs → Rep K H (.tup ts) (.ref a)
  | fl {a : Addr} {xs : List V} {ts : List T} : FzL K H a xs → Reps K H ts xs → Rep K H (.fl ts) (.ref a)
inductive Reps (K : PySem.W.Frag) (H : Hp) : List T → List V → Prop
  | nil : Reps K H [] []
  | cons {t : T} {ts : List T} {v : V} {vs : List V} : Rep K H t v → Reps K H ts vs → Reps K H (t :: ts) (v :: vs)
end

/-- what stays -/
structure Ext (H H' : Hp) : Prop where
  tups : ∀ b xs, H b = some (.tup xs) → H' b = some (.tup xs)
  frzs : ∀ b o u, H b = some (.frz o u) → H' b = some (.frz o u)
theorem Ext.refl (H : Hp) : Ext H H := ⟨fun _ _ h => h, fun _ _ _ h => h⟩
theorem Ext.trans {H H1 H2 : Hp} (a : Ext H H1) (b : Ext H1 H2) : Ext H H2 := ⟨fun x xs h => b.tups x xs (a.tups x xs h), fun x o u h => b.frzs x o u (a.frzs x o u h)⟩
theorem Ext.new {H : Hp} {p : Addr} {o : HO} (h : H p = none) : Ext H (upd H p o) :=
  ⟨fun b xs e => by rw [upd_ne (ne_of_none e h)]; exact e, fun b o u e => by rw [upd_ne (ne_of_none e h)]; exact e⟩
/-- what may be written over -/
def Soft : HO → Prop
  | .tup _ => False
  | .frz _ _ => False
  | _ => True
theorem Ext.put {H : Hp} {p : Addr} {o u : HO} (h : H p = some u) (hs : Soft u) : Ext H (upd H p o) :=
  ⟨fun b xs e => by
    rw [upd_ne]
    · exact e
    · intro z; subst z; rw [h] at e; cases e; exact hs,
   fun b o u e => by
    rw [upd_ne]
    · exact e
    · intro z; subst z; rw [h] at e; cases e; exact hs⟩
theorem Ext.sqT {K : PySem.W.Frag} {H H' : Hp} {a : Addr} {xs : List V} (e : Ext H H') (h : SqT K H a xs) : SqT K H' a xs := by
  rcases h with (h | ⟨o, h⟩) | h
  · exact .inl (.inl (e.tups _ _ h))
  · exact .inl (.inr ⟨o, e.frzs _ _ _ h⟩)
  · exact .inr h
theorem Ext.fzL {K : PySem.W.Frag} {H H' : Hp} {a : Addr} {xs : List V} (e : Ext H H') (h : FzL K H a xs) : FzL K H' a xs := by
  rcases h with ⟨o, h⟩ | h
  · exact .inl ⟨o, e.frzs _ _ _ h⟩
  · exact .inr h
mutual
theorem Rep.mono {K : PySem.W.Frag} {H H' : Hp} (e : Ext H H') : ∀ (t : T) (v : V), Rep K H t v → Rep K H' t v
  | .non, _, h => by cases h; exact .non
  | .bl b, _, h => by cases h; exact .bl b
  | .int i, _, h => by cases h; exact .int i
  | .str x, _, h => by cases h; exact .str x
  | .ref a, _, h => by cases h; exact .ref a
  | .tup ts, _, h => by
    cases h with
    | tup h1 h2 => exact .tup (e.sqT h1) (Reps.mono e ts _ h2)
  | .fl ts, _, h => by
    cases h with
    | fl h1 h2 => exact .fl (e.fzL h1) (Reps.mono e ts _ h2)
theorem Reps.mono {K : PySem.W.Frag} {H H' : Hp} (e : Ext H H') : ∀ (ts : List T) (vs : List V), Reps K H ts vs → Reps K H' ts vs
  | [], _, h => by cases h; exact .nil
  | t :: ts, _, h => by
    cases h with
    | cons h1 h2 => exact .cons (Rep.mono e t _ h1) (Reps.mono e ts _ h2)
end
section
variable {K : PySem.W.Frag} {H : Hp}
theorem Reps.length : ∀ {ts : List T} {vs : List V}, Reps K H ts vs → ts.length = vs.length
  | [], _, h => by cases h; rfl
  | t :: ts, _, h => by
    cases h with
    | cons h1 h2 => rw [List.length_cons, List.length_cons, Reps.length h2]
theorem Reps.get : ∀ {ts : List T} {vs : List V} {i : Nat} {t : T}, Reps K H ts vs → ts[i]? = some t → ∃ v, vs[i]? = some v ∧ Rep K H t v
  | [], _, _, _, _, e => by simp at e
  | t :: ts, _, 0, x, h, e => by
    cases h with
    | cons h1 h2 =>
      simp at e
      subst e
      exact ⟨_, rfl, h1⟩
  | t :: ts, _, i + 1, x, h, e => by
    cases h with
    | cons h1 h2 =>
      obtain ⟨v, e1, e2⟩ := Reps.get (i := i) h2 (by simpa using e)
      exact ⟨v, by simpa using e1, e2⟩
theorem Reps.getV : ∀ {ts : List T} {vs : List V} {i : Nat} {v : V}, Reps K H ts vs → vs[i]? = some v → ∃ t, ts[i]? = some t ∧ Rep K H t v
  | [], _, _, _, h, e => by cases h; simp at e
  | t :: ts, _, 0, x, h, e => by
    cases h with
    | cons h1 h2 =>
      simp at e
      subst e
      exact ⟨_, rfl, h1⟩
  | t :: ts, _, i + 1, x, h, e => by
    cases h with
    | cons h1 h2 =>
      obtain ⟨v, e1, e2⟩ := Reps.getV (i := i) h2 (by simpa using e)
      exact ⟨v, by simpa using e1, e2⟩
theorem Reps.append : ∀ {ts us : List T} {vs ws : List V}, Reps K H ts vs → Reps K H us ws → Reps K H (ts ++ us) (vs ++ ws)
  | [], _, _, _, h, g => by cases h; exact g
  | t :: ts, _, _, _, h, g => by
    cases h with
    | cons h1 h2 => exact .cons h1 (Reps.append h2 g)
theorem Reps.take : ∀ {ts : List T} {vs : List V} (n : Nat), Reps K H ts vs → Reps K H (ts.take n) (vs.take n)
  | _, _, 0, _ => .nil
  | [], _, n + 1, h => by cases h; exact .nil
  | t :: ts, _, n + 1, h => by
    cases h with
    | cons h1 h2 => exact .cons h1 (Reps.take n h2)
theorem Reps.drop : ∀ {ts : List T} {vs : List V} (n : Nat), Reps K H ts vs → Reps K H (ts.drop n) (vs.drop n)
  | _, _, 0, h => h
  | [], _, n + 1, h => by cases h; exact .nil
  | t :: ts, _, n + 1, h => by
    cases h with
    | cons h1 h2 => exact Reps.drop n h2
theorem Reps.set {t : T} {v : V} (r : Rep K H t v) : ∀ {ts : List T} {vs : List V} (i : Nat), Reps K H ts vs → Reps K H (ts.set i t) (vs.set i v)
  | [], _, _, h => by cases h; exact .nil
  | t :: ts, _, 0, h => by
    cases h with
    | cons h1 h2 => exact .cons r h2
  | t :: ts, _, i + 1, h => by
    cases h with
    | cons h1 h2 => exact .cons h1 (Reps.set r i h2)
theorem Reps.reverse : ∀ {ts : List T} {vs : List V}, Reps K H ts vs → Reps K H ts.reverse vs.reverse
  | [], _, h => by cases h; exact .nil
  | t :: ts, _, h => by
    cases h with
    | cons h1 h2 =>
      rw [List.reverse_cons, List.reverse_cons]
      exact Reps.append (Reps.reverse h2) (.cons h1 .nil)
theorem Reps.ints : ∀ (ns : List Int), Reps K H (ns.map T.int) (ns.map V.int)
  | [] => .nil
  | n :: ns => .cons (.int n) (Reps.ints ns)
theorem Reps.intsV : ∀ {ns : List Int} {vs : List V}, Reps K H (ns.map T.int) vs → vs = ns.map V.int
  | [], _, h => by cases h; rfl
  | n :: ns, _, h => by
    cases h with
    | cons h1 h2 =>
      cases h1
      rw [Reps.intsV h2]
      rfl
theorem Reps.blsV : ∀ {ns : List Bool} {vs : List V}, Reps K H (ns.map T.bl) vs → vs = ns.map V.bl
  | [], _, h => by cases h; rfl
  | n :: ns, _, h => by
    cases h with
    | cons h1 h2 =>
      cases h1
      rw [Reps.blsV h2]
      rfl
theorem Reps.strsV : ∀ {ns : List Str} {vs : List V}, Reps K H (ns.map T.str) vs → vs = ns.map V.str
  | [], _, h => by cases h; rfl
  | n :: ns, _, h => by
    cases h with
    | cons h1 h2 =>
      cases h1
      rw [Reps.strsV h2]
      rfl
end

/-! ### the state: what may change -/
inductive O where
  | lst (ts : List T)
  | ins (C : Addr) (fs : List (Str × T))
abbrev Sta := Addr → Option O
def upS (S : Sta) (a : Addr) (o : O) : Sta := fun b => if b = a then some o else S b
theorem upS_same {S : Sta} {a : Addr} {o : O} : upS S a o a = some o := by unfold upS; rw [if_pos rfl]
theorem upS_ne {S : Sta} {a b : Addr} {o : O} (h : b ≠ a) : upS S a o b = S b := by unfold upS; rw [if_neg h]
theorem upS_upS {S : Sta} {a : Addr} {o u : O} : upS (upS S a o) a u = upS S a u := by
  funext b; unfold upS; split <;> rfl
theorem upS_self {S : Sta} {a : Addr} {o : O} (h : S a = some o) : upS S a o = S := by
  funext b; unfold upS; split
  · rename_i e; subst e; exact h.symm
  · rfl
inductive FRep (K : PySem.W.Frag) (H : Hp) : List (Str × T) → List (Str × V) → Prop
  | nil : FRep K H [] []
  | cons {f : Str} {t : T} {v : V} {fs : List (Str × T)} {gs : List (Str × V)} : Rep K H t v → FRep K H fs gs → FRep K H ((f, t) :: fs) ((f, v) :: gs)
theorem FRep.mono {K : PySem.W.Frag} {H H' : Hp} (e : Ext H H') : ∀ {fs : List (Str × T)} {gs : List (Str × V)}, FRep K H fs gs → FRep K H' fs gs
  | _, _, .nil => .nil
  | _, _, .cons h1 h2 => .cons (Rep.mono e _ _ h1) (FRep.mono e h2)
theorem FRep.length {K : PySem.W.Frag} {H : Hp} : ∀ {fs : List (Str × T)} {gs : List (Str × V)}, FRep K H fs gs → fs.length = gs.length
  | _, _, .nil => rfl
  | _, _, .cons h1 h2 => by rw [List.length_cons, List.length_cons, FRep.length h2]
def ORep (K : PySem.W.Frag) (H : Hp) (a : Addr) : O → Prop
  | .lst ts => ∃ xs, H a = some (.lst xs) ∧ Reps K H ts xs
  | .ins C fs => ∃ dx gs, H a = some (.ins C dx gs) ∧ FRep K H fs gs
def St (K : PySem.W.Frag) (S : Sta) (H : Hp) : Prop := ∀ a o, S a = some o → ORep K H a o
section
variable {K : PySem.W.Frag} {S : Sta} {H H' : Hp} {a p : Addr}
theorem St.has (h : St K S H) {o : O} (e : S a = some o) : ∃ u, H a = some u ∧ Soft u := by
  have q := h a o e
  cases o with
  | lst ts => obtain ⟨xs, e, _⟩ := q; exact ⟨_, e, trivial⟩
  | ins C fs => obtain ⟨dx, gs, e, _⟩ := q; exact ⟨_, e, trivial⟩
theorem St.free (h : St K S H) (e : H p = none) : S p = none := by
  cases q : S p with
  | none => rfl
  | some o =>
    obtain ⟨u, hu, _⟩ := h.has q
    rw [e] at hu
    cases hu
/-- all that S speaks of stays as it is -/
theorem St.keep (h : St K S H) (e : Ext H H') (k : ∀ a o, S a = some o → H' a = H a) : St K S H' := fun a o q => by
  have r := h a o q
  have z := k a o q
  cases o with
  | lst ts => obtain ⟨xs, e1, e2⟩ := r; exact ⟨xs, z.trans e1, Reps.mono e _ _ e2⟩
  | ins C fs => obtain ⟨dx, gs, e1, e2⟩ := r; exact ⟨dx, gs, z.trans e1, FRep.mono e e2⟩
theorem St.new (h : St K S H) (e : H p = none) (u : HO) : St K S (upd H p u) :=
  h.keep (Ext.new e) fun a o q => by
    obtain ⟨u', hu, _⟩ := h.has q
    exact upd_ne (ne_of_none hu e)
theorem St.put (h : St K S H') {o : O} (g : ORep K H' a o) : St K (upS S a o) H' := fun b u q => by
  by_cases hb : b = a
  · subst hb
    rw [upS_same] at q
    cases q
    exact g
  · rw [upS_ne hb] at q
    exact h b u q
/-- a list is written anew -/
theorem St.setL (h : St K S H) {xs : List V} {ts' : List T} {xs' : List V} (e : H a = Option.some (.lst xs)) (r : Reps K H ts' xs') : Ext H (upd H a (.lst xs')) ∧ St K (upS S a (.lst ts')) (upd H a (.lst xs')) := by
  have ex : Ext H (upd H a (.lst xs')) := Ext.put e trivial
  refine ⟨ex, fun b u q => ?_⟩
  by_cases hb : b = a
  · subst hb
    rw [upS_same] at q
    cases q
    exact ⟨xs', upd_same, Reps.mono ex _ _ r⟩
  · rw [upS_ne hb] at q
    have z := h b u q
    cases u with
    | lst ts => obtain ⟨ys, e1, e2⟩ := z; exact ⟨ys, by rw [upd_ne hb]; exact e1, Reps.mono ex _ _ e2⟩
    | ins C fs => obtain ⟨dx, gs, e1, e2⟩ := z; exact ⟨dx, gs, by rw [upd_ne hb]; exact e1, FRep.mono ex e2⟩
/-- a new list -/
theorem St.newL (h : St K S H) {ts : List T} {xs : List V} (e : H p = Option.none) (r : Reps K H ts xs) : Ext H (upd H p (.lst xs)) ∧ St K (upS S p (.lst ts)) (upd H p (.lst xs)) := by
  have ex : Ext H (upd H p (.lst xs)) := Ext.new e
  exact ⟨ex, (h.new e _).put ⟨xs, upd_same, Reps.mono ex _ _ r⟩⟩
/-- less is known -/
theorem St.less {S' : Sta} (h : St K S H) (k : ∀ a o, S' a = Option.some o → S a = Option.some o) : St K S' H := fun a o q => h a o (k a o q)
end

/-! ### readings over trees -/
abbrev Sl := List (Option T)
abbrev WE := Sl → Sta → (T → Sta → Prop) → Prop
abbrev WT := Sl → Sta → (Bool → Sta → Prop) → Prop
abbrev WA := Sl → Sta → (List T → Sta → Prop) → Prop
structure WEnds where
  nx : Sl → Sta → Prop
  rt : T → Sta → Prop
  bk : Sl → Sta → Prop := fun _ _ => False
  ct : Sl → Sta → Prop := fun _ _ => False
abbrev WS := WEnds → Sl → Sta → Prop
def SlR (K : PySem.W.Frag) (H : Hp) (st : Sl) (σ : L2.St) : Prop := st.length = σ.length ∧ ∀ (i : Nat) (t : T), st[i]? = some (some t) → ∃ v, σ[i]? = some (some v) ∧ Rep K H t v
theorem SlR.mono {K : PySem.W.Frag} {H H' : Hp} {st : Sl} {σ : L2.St} (e : Ext H H') (h : SlR K H st σ) : SlR K H' st σ := ⟨h.1, fun i t q => by
  obtain ⟨v, e1, e2⟩ := h.2 i t q
  exact ⟨v, e1, Rep.mono e _ _ e2⟩⟩
theorem SlR.set {K : PySem.W.Frag} {H : Hp} {st : Sl} {σ : L2.St} {t : T} {v : V} (h : SlR K H st σ) (r : Rep K H t v) (i : Nat) : SlR K H (st.set i (some t)) (σ.set i (some v)) := by
  refine ⟨by rw [List.length_set, List.length_set]; exact h.1, fun j u q => ?_⟩
  by_cases hj : i = j
  · subst hj
    by_cases hl : i < st.length
    · rw [List.getElem?_set_self hl] at q
      cases q
      exact ⟨v, by rw [List.getElem?_set_self (h.1 ▸ hl)], r⟩
    · rw [List.getElem?_eq_none (by rw [List.length_set]; omega)] at q
      cases q
  · rw [List.getElem?_set_ne hj] at q
    obtain ⟨w, e1, e2⟩ := h.2 j u q
    exact ⟨w, by rw [List.getElem?_set_ne hj]; exact e1, e2⟩

def fin (K : PySem.W.Frag) (H : Hp) (Q : VK) : T → Sta → Prop := fun t S => ∀ H' v, Ext H H' → St K S H' → Rep K H' t v → Q v H'
def finB (K : PySem.W.Frag) (H : Hp) (Q : Bool → Hp → Prop) : Bool → Sta → Prop := fun b S => ∀ H', Ext H H' → St K S H' → Q b H'
def finA (K : PySem.W.Frag) (H : Hp) (Q : List V → Hp → Prop) : List T → Sta → Prop := fun ts S => ∀ H' vs, Ext H H' → St K S H' → Reps K H' ts vs → Q vs H'
def finS (K : PySem.W.Frag) (H : Hp) (Q : L2.St → Hp → Prop) : Sl → Sta → Prop := fun st S => ∀ H' σ, Ext H H' → St K S H' → SlR K H' st σ → Q σ H'
def finD (K : PySem.W.Frag) (H : Hp) (D : Ends) : WEnds := { nx := finS K H D.nx, rt := fin K H D.rt, bk := finS K H D.bk, ct := finS K H D.ct }
/-- on to what follows -/
def goS (f : Sl → Sta → Prop) (σ : Sl) (S : Sta) : Prop := f σ S
/-- either way of a test -/
def wif (b : Bool) (A C : Prop) : Prop := match b with
  | true => A
  | false => C
theorem wif_true {A C : Prop} : wif true A C = A := rfl
theorem wif_false {A C : Prop} : wif false A C = C := rfl
theorem if_dec {p : Prop} [Decidable p] {A C : Prop} (h1 : p → A) (h2 : ¬ p → C) : wif (decide p) A C := by
  by_cases h : p
  · rw [decide_eq_true h]; exact h1 h
  · rw [decide_eq_false h]; exact h2 h
theorem if_bool {p : Bool} {A C : Prop} (h1 : p = true → A) (h2 : p = false → C) : wif p A C := by
  cases p
  · exact h2 rfl
  · exact h1 rfl
abbrev Im2 {α : Type} (P Q : α → Sta → Prop) : Prop := ∀ v S, P v S → Q v S
structure ImD (D0 D : WEnds) : Prop where
  nx : Im2 D0.nx D.nx
  rt : Im2 D0.rt D.rt
  bk : Im2 D0.bk D.bk
  ct : Im2 D0.ct D.ct
def LE (B : Hp) (X : Cx) (t : WE) : TE := fun σ H Q => ∃ st S Q0, Ext B H ∧ SlR X.K H st σ ∧ St X.K S H ∧ t st S Q0 ∧ Im2 Q0 (fin X.K H Q)
def LT (B : Hp) (X : Cx) (t : WT) : TT := fun σ H Q => ∃ st S Q0, Ext B H ∧ SlR X.K H st σ ∧ St X.K S H ∧ t st S Q0 ∧ Im2 Q0 (finB X.K H Q)
def LA (B : Hp) (X : Cx) (t : WA) : TA := fun σ H Q => ∃ st S Q0, Ext B H ∧ SlR X.K H st σ ∧ St X.K S H ∧ t st S Q0 ∧ Im2 Q0 (finA X.K H Q)
def LS (B : Hp) (X : Cx) (t : WS) : TS := fun D σ H => ∃ st S D0, Ext B H ∧ SlR X.K H st σ ∧ St X.K S H ∧ t D0 st S ∧ ImD D0 (finD X.K H D)
def JE (B : Hp) (X : Cx) (e : Expr) (t : WE) : Prop := PE X e (LE B X t)
def JT (B : Hp) (X : Cx) (e : Expr) (t : WT) : Prop := PT X e (LT B X t)
def JW (B : Hp) (X : Cx) (e : Expr) (t : WT) : Prop := PW X e (LT B X t)
def JA (B : Hp) (X : Cx) (es : List Expr) (t : WA) : Prop := PA X es (LA B X t)
def JS (B : Hp) (X : Cx) (s : Stmt) (t : WS) : Prop := PS X s (LS B X t)
def JSs (B : Hp) (X : Cx) (ss : List Stmt) (t : WS) : Prop := PSs X ss (LS B X t)
theorem JW.jt {B : Hp} {X : Cx} {e : Expr} {t : WT} (h : JW B X e t) : JT B X e t := PW.pt h

theorem pe_imp {X : Cx} {e : Expr} {t t' : TE} (h : PE X e t) (k : ∀ σ H Q, t' σ H Q → t σ H Q) : PE X e t' := ⟨fun pins s σ H Q I q => h.run pins s σ H Q I (k σ H Q q)⟩
theorem pt_imp {X : Cx} {e : Expr} {t t' : TT} (h : PT X e t) (k : ∀ σ H Q, t' σ H Q → t σ H Q) : PT X e t' := ⟨fun pins s σ H Q I q => h.run pins s σ H Q I (k σ H Q q)⟩
theorem pw_imp {X : Cx} {e : Expr} {t t' : TT} (h : PW X e t) (k : ∀ σ H Q, t' σ H Q → t σ H Q) : PW X e t' := ⟨fun wh pins s σ H Q I q => h.run wh pins s σ H Q I (k σ H Q q)⟩
theorem pa_imp {X : Cx} {e : List Expr} {t t' : TA} (h : PA X e t) (k : ∀ σ H Q, t' σ H Q → t σ H Q) : PA X e t' := ⟨fun pos pins s σ H Q I q => h.run pos pins s σ H Q I (k σ H Q q)⟩
theorem ps_imp {X : Cx} {s : Stmt} {t t' : TS} (h : PS X s t) (k : ∀ D σ H, t' D σ H → t D σ H) : PS X s t' := ⟨fun pins s σ H D I q => h.run pins s σ H D I (k D σ H q)⟩
theorem pss_imp {X : Cx} {s : List Stmt} {t t' : TS} (h : PSs X s t) (k : ∀ D σ H, t' D σ H → t D σ H) : PSs X s t' := ⟨fun pins s σ H D I q => h.run pins s σ H D I (k D σ H q)⟩
theorem fin_ext {K : PySem.W.Frag} {H H1 : Hp} {Q : VK} {t : T} {S : Sta} (e : Ext H H1) (h : fin K H Q t S) : fin K H1 Q t S := fun H' v e' s r => h H' v (e.trans e') s r
theorem finB_ext {K : PySem.W.Frag} {H H1 : Hp} {Q : Bool → Hp → Prop} {t : Bool} {S : Sta} (e : Ext H H1) (h : finB K H Q t S) : finB K H1 Q t S := fun H' e' s => h H' (e.trans e') s
theorem finA_ext {K : PySem.W.Frag} {H H1 : Hp} {Q : List V → Hp → Prop} {t : List T} {S : Sta} (e : Ext H H1) (h : finA K H Q t S) : finA K H1 Q t S := fun H' v e' s r => h H' v (e.trans e') s r
end Wp

set_option Elab.async false
set_option linter.all false
set_option maxRecDepth 100000
/-! expressions -/
namespace Wp
open PySem PySem.Spec PyProof.Rows L2
section
variable {B : Hp} {X : Cx} {a b c : Expr} {ta tb tc : WE} {pos : Pos}
/-! ### names, constants -/
def wVar (i : Nat) (σ : Sl) (S : Sta) (Q : T → Sta → Prop) : Prop := ∃ v, σ[i]? = some (some v) ∧ Q v S
def wC (t : T) (u0 : Sl) (S : Sta) (Q : T → Sta → Prop) : Prop := Q t S
theorem j_var (i : Nat) {x : Str} (hN : X.N[i]? = some x := by rfl) (hv : Vis X.env.scope x := by first | exact Or.inl rfl | exact Or.inr (Or.inl rfl) | exact Or.inr (Or.inr rfl)) (hd : (x == ("__debug__" : Str)) = false := by decide)
    (hcd : (x == ("__classdict__" : Str)) = false := by decide) : JE B X (.Name x pos) (wVar i) :=
  pe_imp (pe_var hN hv hd hcd) fun σ H Q ⟨st, S, Q0, _, r, s, ⟨v, e, q⟩, im⟩ => by
    obtain ⟨u, e1, e2⟩ := r.2 i v e
    exact ⟨u, e1, im v S q H u (Ext.refl H) s e2⟩
theorem j_const {e : Expr} {t : T} {v : V} (h : PE X e (tC v)) (r : ∀ H, Rep X.K H t v) : JE B X e (wC t) :=
  pe_imp h fun σ H Q ⟨st, S, Q0, _, _, s, q, im⟩ => im t S q H v (Ext.refl H) s (r H)
theorem j_int {i j} : JE B X (.Constant (.int i) j pos) (wC (.int i)) := j_const pe_int fun _ => .int i
theorem j_bl {i j} : JE B X (.Constant (.bool i) j pos) (wC (.bl i)) := j_const pe_bl fun _ => .bl i
theorem j_non {j} : JE B X (.Constant .none j pos) (wC .non) := j_const pe_non fun _ => .non
theorem j_str {i j} : JE B X (.Constant (.str i) j pos) (wC (.str i)) := j_const pe_str fun _ => .str i
theorem j_globI {x : Str} {i : Int} {t : Tok} (hg : Gl X x) (hm : X.mg x = some (.int i t)) (hd : (x == ("__debug__" : Str)) = false := by decide) : JE B X (.Name x pos) (wC (.int i)) :=
  j_const (pe_glob (v := V.int i) hg hm (show ∃ t', Value.int i t = Value.int i t' from ⟨t, rfl⟩) hd) fun _ => .int i
theorem j_globS {x : Str} {i : Str} {t : Tok} (hg : Gl X x) (hm : X.mg x = some (.str i t)) (hd : (x == ("__debug__" : Str)) = false := by decide) : JE B X (.Name x pos) (wC (.str i)) :=
  j_const (pe_glob (v := V.str i) hg hm (show ∃ t', Value.str i t = Value.str i t' from ⟨t, rfl⟩) hd) fun _ => .str i

/-! ### operations -/
abbrev R3 := T → T → Sta → (T → Sta → Prop) → Prop
def L3 (K : PySem.W.Frag) (r : R3) : R2 := fun x y H Q => ∃ a b S Q0, Rep K H a x ∧ Rep K H b y ∧ St K S H ∧ r a b S Q0 ∧ Im2 Q0 (fin K H Q)
def OpT (X : Cx) (f : Value → Value → Sem Value) (r : R3) : Prop := OpR X f (L3 X.K r)
def wOp (r : R3) (ta tb : WE) (σ : Sl) (S : Sta) (Q : T → Sta → Prop) : Prop := ta σ S fun x S1 => tb σ S1 fun y S2 => r x y S2 Q
theorem le_op {r : R3} {σ : L2.St} {H : Hp} {Q : VK} (h : LE B X (wOp r ta tb) σ H Q) : tOp (L3 X.K r) (LE B X ta) (LE B X tb) σ H Q := by
  obtain ⟨st, S, Q0, he, hr, hs, h, im⟩ := h
  refine ⟨st, S, _, he, hr, hs, h, fun x S1 h1 H1 v e1 s1 r1 => ?_⟩
  refine ⟨st, S1, _, he.trans e1, hr.mono e1, s1, h1, fun y S2 h2 H2 u e2 s2 r2 => ?_⟩
  exact ⟨x, y, S2, Q0, Rep.mono e2 _ _ r1, r2, s2, h2, fun z S3 q => fin_ext (e1.trans e2) (im z S3 q)⟩
theorem j_op {op : Operator} {r : R3} (ho : OpT X (binaryOp op) r) (ha : JE B X a ta) (hb : JE B X b tb) : JE B X (.BinOp a op b pos) (wOp r ta tb) := pe_imp (pe_op ho ha hb) fun _ _ _ h => le_op h
theorem j_cmp {op : CmpOp} {r : R3} (ho : OpT X (compareOp op) r) (ha : JE B X a ta) (hb : JE B X b tb) (hm : behindInMarks op b = false) : JE B X (.Compare a [op] [b] pos) (wOp r ta tb) := pe_imp (pe_cmpR ho ha hb hm) fun _ _ _ h => le_op h
/-- a value that is a bool, as a test -/
def wTest (t : WE) (σ : Sl) (S : Sta) (Q : Bool → Sta → Prop) : Prop := t σ S fun x S1 => match x with
  | .bl c => Q c S1
  | _ => False
theorem le_test {t : WE} {σ : L2.St} {H : Hp} {Q : Bool → Hp → Prop} (h : LT B X (wTest t) σ H Q) : LE B X t σ H fun x H' => ∃ k, x = V.bl k ∧ Q k H' := by
  obtain ⟨st, S, Q0, he, hr, hs, h, im⟩ := h
  refine ⟨st, S, _, he, hr, hs, h, fun x S1 h1 H1 v e1 s1 r1 => ?_⟩
  cases x with
  | bl c =>
    cases r1
    exact ⟨c, rfl, im c S1 h1 H1 e1 s1⟩
  | _ => exact h1.elim
theorem jt_val {e : Expr} {t : WE} (h : JE B X e t) (he : ∀ whole, isTrue e X.env whole = (do let v ← whole; standAt e.pos; holding [v] (truthy v)) := by intro _; rfl) : JT B X e (wTest t) :=
  pt_imp (pt_val h he) fun _ _ _ h => le_test h
theorem jt_cmp {op : CmpOp} {r : R3} (ho : OpT X (compareOp op) r) (ha : JE B X a ta) (hb : JE B X b tb) (hm : behindInMarks op b = false) : JT B X (.Compare a [op] [b] pos) (wTest (wOp r ta tb)) :=
  pt_imp (pt_cmpR ho ha hb hm) fun σ H Q h => le_op (le_test h)
/-! ### chains a < b < c -/
def wChain (r r' : R3) (ta tb tc : WE) (σ : Sl) (S : Sta) (Q : T → Sta → Prop) : Prop := ta σ S fun x S1 => tb σ S1 fun y S2 => r x y S2 fun z S3 => match z with
  | .bl k => wif k (tc σ S3 fun u S4 => r' y u S4 Q) (Q (.bl false) S3)
  | _ => False
theorem le_chain {r r' : R3} {σ : L2.St} {H : Hp} {Q : VK} (h : LE B X (wChain r r' ta tb tc) σ H Q) : tChain (L3 X.K r) (L3 X.K r') (LE B X ta) (LE B X tb) (LE B X tc) σ H Q := by
  obtain ⟨st, S, Q0, he, hr, hs, h, im⟩ := h
  refine ⟨st, S, _, he, hr, hs, h, fun x S1 h1 H1 v e1 s1 r1 => ?_⟩
  refine ⟨st, S1, _, he.trans e1, hr.mono e1, s1, h1, fun y S2 h2 H2 u e2 s2 r2 => ?_⟩
  refine ⟨x, y, S2, _, Rep.mono e2 _ _ r1, r2, s2, h2, fun z S3 q H3 w e3 s3 r3 => ?_⟩
  cases z with
  | bl k =>
    cases r3
    refine ⟨k, rfl, ?_⟩
    cases k with
    | true =>
      rw [if_pos rfl]
      have q : tc st S3 fun u S4 => r' y u S4 Q0 := q
      refine ⟨st, S3, _, (he.trans e1).trans (e2.trans e3), hr.mono (e1.trans (e2.trans e3)), s3, q, fun u' S4 h4 H4 v4 e4 s4 r4 => ?_⟩
      exact ⟨y, u', S4, Q0, Rep.mono (e3.trans e4) _ _ r2, r4, s4, h4, fun z S5 q5 => fin_ext (e1.trans (e2.trans (e3.trans e4))) (im z S5 q5)⟩
    | false =>
      rw [if_neg Bool.false_ne_true]
      have q : Q0 (.bl false) S3 := q
      exact im _ _ q H3 _ (e1.trans (e2.trans e3)) s3 (.bl false)
  | _ => exact q.elim
theorem j_chain {op op' : CmpOp} {r r' : R3} (ho : OpT X (compareOp op) r) (ho' : OpT X (compareOp op') r') (ha : JE B X a ta) (hb : JE B X b tb) (hc : JE B X c tc)
    (hm : lastMarks [op, op'] [b, c] = false := by with_unfolding_all rfl) : JE B X (.Compare a [op, op'] [b, c] pos) (wChain r r' ta tb tc) := pe_imp (pe_chain ho ho' ha hb hc hm) fun _ _ _ h => le_chain h
theorem jt_chain {op op' : CmpOp} {r r' : R3} (ho : OpT X (compareOp op) r) (ho' : OpT X (compareOp op') r') (ha : JE B X a ta) (hb : JE B X b tb) (hc : JE B X c tc)
    (hm : lastMarks [op, op'] [b, c] = false := by with_unfolding_all rfl) : JT B X (.Compare a [op, op'] [b, c] pos) (wTest (wChain r r' ta tb tc)) := pt_imp (pt_chain ho ho' ha hb hc hm) fun _ _ _ h => le_chain (le_test h)

/-! ### and, or, not, if -/
variable {rest : List Expr} {t u : WT}
def wAnd (t u : WT) (σ : Sl) (S : Sta) (Q : Bool → Sta → Prop) : Prop := t σ S fun c S1 => wif c (u σ S1 Q) (Q false S1)
def wOr (t u : WT) (σ : Sl) (S : Sta) (Q : Bool → Sta → Prop) : Prop := t σ S fun c S1 => wif c (Q true S1) (u σ S1 Q)
def wNot (t : WT) (σ : Sl) (S : Sta) (Q : Bool → Sta → Prop) : Prop := t σ S fun c S1 => Q (!c) S1
theorem jw_and1 (ha : JT B X a t) : JW B X (.BoolOp .And [a] pos) t := pw_and1 ha
theorem jw_or1 (ha : JT B X a t) : JW B X (.BoolOp .Or [a] pos) t := pw_or1 ha
theorem jw_and (ha : JT B X a t) (hb : JW B X (.BoolOp .And (b :: rest) pos) u) : JW B X (.BoolOp .And (a :: b :: rest) pos) (wAnd t u) :=
  pw_imp (pw_and ha hb) fun σ H Q ⟨st, S, Q0, he, hr, hs, h, im⟩ => by
    refine ⟨st, S, _, he, hr, hs, h, fun k S1 h1 H1 e1 s1 => ?_⟩
    cases k with
    | true =>
      rw [if_pos rfl]
      exact ⟨st, S1, Q0, he.trans e1, hr.mono e1, s1, h1, fun z S3 q => finB_ext e1 (im z S3 q)⟩
    | false =>
      rw [if_neg Bool.false_ne_true]
      exact im _ _ h1 H1 e1 s1
theorem jw_or (ha : JT B X a t) (hb : JW B X (.BoolOp .Or (b :: rest) pos) u) : JW B X (.BoolOp .Or (a :: b :: rest) pos) (wOr t u) :=
  pw_imp (pw_or ha hb) fun σ H Q ⟨st, S, Q0, he, hr, hs, h, im⟩ => by
    refine ⟨st, S, _, he, hr, hs, h, fun k S1 h1 H1 e1 s1 => ?_⟩
    cases k with
    | true =>
      rw [if_pos rfl]
      exact im _ _ h1 H1 e1 s1
    | false =>
      rw [if_neg Bool.false_ne_true]
      exact ⟨st, S1, Q0, he.trans e1, hr.mono e1, s1, h1, fun z S3 q => finB_ext e1 (im z S3 q)⟩
theorem jt_not (ha : JT B X a t) : JT B X (.UnaryOp .Not a pos) (wNot t) :=
  pt_imp (pt_not ha) fun σ H Q ⟨st, S, Q0, he, hr, hs, h, im⟩ => ⟨st, S, _, he, hr, hs, h, fun k S1 h1 H1 e1 s1 => im _ _ h1 H1 e1 s1⟩
/-- .. as values -/
def wAndV (ta tb : WE) (σ : Sl) (S : Sta) (Q : T → Sta → Prop) : Prop := ta σ S fun x S1 => match x with
  | .bl k => wif k (tb σ S1 Q) (Q (.bl false) S1)
  | _ => False
def wOrV (ta tb : WE) (σ : Sl) (S : Sta) (Q : T → Sta → Prop) : Prop := ta σ S fun x S1 => match x with
  | .bl k => wif k (Q (.bl true) S1) (tb σ S1 Q)
  | _ => False
def wNotV (t : WE) (σ : Sl) (S : Sta) (Q : T → Sta → Prop) : Prop := t σ S fun x S1 => match x with
  | .bl c => Q (.bl (!c)) S1
  | _ => False
theorem j_one {op} {t : WE} (h : JE B X a t) : JE B X (.BoolOp op [a] pos) t := pe_one h
theorem j_and (ha : JE B X a ta) (hb : JE B X (.BoolOp .And (b :: rest) pos) tb) : JE B X (.BoolOp .And (a :: b :: rest) pos) (wAndV ta tb) :=
  pe_imp (pe_and ha hb) fun σ H Q ⟨st, S, Q0, he, hr, hs, h, im⟩ => by
    refine ⟨st, S, _, he, hr, hs, h, fun x S1 h1 H1 v e1 s1 r1 => ?_⟩
    cases x with
    | bl k =>
      cases r1
      refine ⟨k, rfl, ?_⟩
      cases k with
      | true =>
        rw [if_pos rfl]
        exact ⟨st, S1, Q0, he.trans e1, hr.mono e1, s1, h1, fun z S3 q => fin_ext e1 (im z S3 q)⟩
      | false =>
        rw [if_neg Bool.false_ne_true]
        exact im _ _ h1 H1 _ e1 s1 (.bl false)
    | _ => exact h1.elim
theorem j_or (ha : JE B X a ta) (hb : JE B X (.BoolOp .Or (b :: rest) pos) tb) : JE B X (.BoolOp .Or (a :: b :: rest) pos) (wOrV ta tb) :=
  pe_imp (pe_or ha hb) fun σ H Q ⟨st, S, Q0, he, hr, hs, h, im⟩ => by
    refine ⟨st, S, _, he, hr, hs, h, fun x S1 h1 H1 v e1 s1 r1 => ?_⟩
    cases x with
    | bl k =>
      cases r1
      refine ⟨k, rfl, ?_⟩
      cases k with
      | true =>
        rw [if_pos rfl]
        exact im _ _ h1 H1 _ e1 s1 (.bl true)
      | false =>
        rw [if_neg Bool.false_ne_true]
        exact ⟨st, S1, Q0, he.trans e1, hr.mono e1, s1, h1, fun z S3 q => fin_ext e1 (im z S3 q)⟩
    | _ => exact h1.elim
theorem j_not (ha : JE B X a ta) : JE B X (.UnaryOp .Not a pos) (wNotV ta) :=
  pe_imp (pe_not ha) fun σ H Q ⟨st, S, Q0, he, hr, hs, h, im⟩ => by
    refine ⟨st, S, _, he, hr, hs, h, fun x S1 h1 H1 v e1 s1 r1 => ?_⟩
    cases x with
    | bl k =>
      cases r1
      exact ⟨k, rfl, im _ _ h1 H1 _ e1 s1 (.bl _)⟩
    | _ => exact h1.elim
def wIf (t : WT) (ta tb : WE) (σ : Sl) (S : Sta) (Q : T → Sta → Prop) : Prop := t σ S fun c S1 => wif c (ta σ S1 Q) (tb σ S1 Q)
theorem j_ifExp (hc : JT B X c t) (ha : JE B X a ta) (hb : JE B X b tb) : JE B X (.IfExp c a b pos) (wIf t ta tb) :=
  pe_imp (pe_ifExp hc ha hb) fun σ H Q ⟨st, S, Q0, he, hr, hs, h, im⟩ => by
    refine ⟨st, S, _, he, hr, hs, h, fun k S1 h1 H1 e1 s1 => ?_⟩
    cases k with
    | true =>
      rw [if_pos rfl]
      exact ⟨st, S1, Q0, he.trans e1, hr.mono e1, s1, h1, fun z S3 q => fin_ext e1 (im z S3 q)⟩
    | false =>
      rw [if_neg Bool.false_ne_true]
      exact ⟨st, S1, Q0, he.trans e1, hr.mono e1, s1, h1, fun z S3 q => fin_ext e1 (im z S3 q)⟩

/-! ### argument lists, displays -/
def wNil (u0 : Sl) (S : Sta) (Q : List T → Sta → Prop) : Prop := Q [] S
def wCons (ta : WE) (tr : WA) (σ : Sl) (S : Sta) (Q : List T → Sta → Prop) : Prop := ta σ S fun x S1 => tr σ S1 fun xs S2 => Q (x :: xs) S2
variable {es : List Expr} {tr : WA}
theorem ja_nil : JA B X [] wNil := pa_imp pa_nil fun σ H Q ⟨st, S, Q0, he, hr, hs, h, im⟩ => im _ _ h H [] (Ext.refl H) hs .nil
theorem ja_cons (ha : JE B X a ta) (hr : JA B X es tr) (hs : starEach (a :: es) X.env = (false, eval a X.env) :: starEach es X.env := by rfl) : JA B X (a :: es) (wCons ta tr) :=
  pa_imp (pa_cons ha hr hs) fun σ H Q ⟨st, S, Q0, he, hr, hs, h, im⟩ => by
    refine ⟨st, S, _, he, hr, hs, h, fun x S1 h1 H1 v e1 s1 r1 => ?_⟩
    refine ⟨st, S1, _, he.trans e1, hr.mono e1, s1, h1, fun xs S2 h2 H2 vs e2 s2 r2 => ?_⟩
    exact im _ _ h2 H2 _ (e1.trans e2) s2 (.cons (Rep.mono e2 _ _ r1) r2)
def wTup (t : WA) (σ : Sl) (S : Sta) (Q : T → Sta → Prop) : Prop := t σ S fun xs S1 => xs.length ≤ sizeLine ∧ Q (.tup xs) S1
def wLst (t : WA) (σ : Sl) (S : Sta) (Q : T → Sta → Prop) : Prop := t σ S fun xs S1 => xs.length ≤ sizeLine ∧ ∀ p, S1 p = none → Q (.ref p) (upS S1 p (.lst xs))
theorem j_tup {x1} (h : JA B X es tr) : JE B X (.Tuple es x1 pos) (wTup tr) :=
  pe_imp (pe_tup h) fun σ H Q ⟨st, S, Q0, he, hr, hs, h, im⟩ => by
    refine ⟨st, S, _, he, hr, hs, h, fun xs S1 h1 H1 vs e1 s1 r1 => ?_⟩
    refine ⟨by rw [← r1.length]; exact h1.1, fun p hp => ?_⟩
    exact im _ _ h1.2 _ _ (e1.trans (Ext.new hp)) (s1.new hp _) (.tup (.inl (.inl upd_same)) (Reps.mono (Ext.new hp) _ _ r1))
theorem j_lst (h : JA B X es tr) : JE B X (.List es pos) (wLst tr) :=
  pe_imp (pe_lst h) fun σ H Q ⟨st, S, Q0, he, hr, hs, h, im⟩ => by
    refine ⟨st, S, _, he, hr, hs, h, fun xs S1 h1 H1 vs e1 s1 r1 => ?_⟩
    refine ⟨by rw [← r1.length]; exact h1.1, fun p hp => ?_⟩
    obtain ⟨e2, s2⟩ := s1.newL hp r1
    exact im _ _ (h1.2 p (s1.free hp)) _ _ (e1.trans e2) s2 (.ref p)
end
end Wp

set_option Elab.async false
set_option linter.all false
set_option maxRecDepth 100000
/-! operations on values -/
namespace Wp
open PySem PySem.Spec PyProof.Rows L2
section
variable {B : Hp} {X : Cx}
/-! ### arithmetic -/
def rInt (C : Int → Int → Prop) (g : Int → Int → T) (x : T) (y : T) (S : Sta) (Q : T → Sta → Prop) : Prop := match x, y with
  | .int i, .int j => C i j ∧ Q (g i j) S
  | _, _ => False
theorem opT_I {f : Value → Value → Sem Value} {C : Int → Int → Prop} {gV : Int → Int → V} {gT : Int → Int → T} (h : OpR X f (rI C gV)) (hr : ∀ H i j, Rep X.K H (gT i j) (gV i j)) : OpT X f (rInt C gT) := by
  intro pins s σ H x y v u Q I rx ry ⟨a, b, S, Q0, ra, rb, hs, q, im⟩
  cases a with
  | int i =>
    cases b with
    | int j =>
      cases ra
      cases rb
      exact h pins s σ H _ _ v u Q I rx ry ⟨i, j, rfl, rfl, q.1, im _ _ q.2 H _ (Ext.refl H) hs (hr H i j)⟩
    | _ => exact q.elim
  | _ => exact q.elim
theorem opT_I0 {f : Value → Value → Sem Value} {gV : Int → Int → V} {gT : Int → Int → T} (h : OpR X f (rI0 gV)) (hr : ∀ H i j, Rep X.K H (gT i j) (gV i j)) : OpT X f (rInt (fun _ _ => True) gT) := by
  intro pins s σ H x y v u Q I rx ry ⟨a, b, S, Q0, ra, rb, hs, q, im⟩
  cases a with
  | int i =>
    cases b with
    | int j =>
      cases ra
      cases rb
      exact h pins s σ H _ _ v u Q I rx ry ⟨i, j, rfl, rfl, im _ _ q.2 H _ (Ext.refl H) hs (hr H i j)⟩
    | _ => exact q.elim
  | _ => exact q.elim
def rSub : R3 := rInt (fun _ _ => True) fun i j => .int (i - j)
def rMul : R3 := rInt CMul fun i j => .int (i * j)
def rMod : R3 := rInt (fun _ j => 0 < j) fun i j => .int (i % j)
def rFdiv : R3 := rInt (fun _ j => 0 < j ∧ j < 2 ^ 62) fun i j => .int (i / j)
def rPow : R3 := rInt CPow fun i j => .int (i ^ j.toNat)
theorem o_sub : OpT X (binaryOp .Sub) rSub := opT_I0 op_sub fun _ _ _ => .int _
theorem o_mul : OpT X (binaryOp .Mult) rMul := opT_I op_mul fun _ _ _ => .int _
theorem o_mod : OpT X (binaryOp .Mod) rMod := opT_I op_mod fun _ _ _ => .int _
theorem o_pow : OpT X (binaryOp .Pow) rPow := opT_I op_pow fun _ _ _ => .int _
theorem o_fdiv : OpT X (binaryOp .FloorDiv) rFdiv := by
  intro pins s σ H x y v u Q I rx ry ⟨a, b, S, Q0, ra, rb, hs, q, im⟩
  refine opT_I (gT := fun i j => .int (i / j)) op_fdivW (fun _ _ _ => .int _) pins s σ H x y v u Q I rx ry ⟨a, b, S, Q0, ra, rb, hs, ?_, im⟩
  cases a with
  | int i =>
    cases b with
    | int j => exact ⟨wide_div (b := 62) q.1.1 (by have h1 := q.1.1; have h2 := q.1.2; omega) (by decide) (by decide), q.2⟩
    | _ => exact q.elim
  | _ => exact q.elim
/-- + : numbers, tuples, texts, lists -/
def rAdd (x : T) (y : T) (S : Sta) (Q : T → Sta → Prop) : Prop := match x, y with
  | .int i, .int j => Q (.int (i + j)) S
  | .tup a, .tup b => a.length + b.length ≤ sizeLine ∧ Q (.tup (a ++ b)) S
  | .str a, .str b => a.length + b.length ≤ sizeLine ∧ Q (.str (a ++ b)) S
  | .ref p, .ref q => ∃ xs, S p = some (.lst xs) ∧ ∃ ys, S q = some (.lst ys) ∧ xs.length + ys.length ≤ sizeLine ∧ ∀ r, S r = none → Q (.ref r) (upS S r (.lst (xs ++ ys)))
  | _, _ => False
theorem o_add : OpT X (binaryOp .Add) rAdd := by
  intro pins s σ H x y v u Q I rx ry ⟨a, b, S, Q0, ra, rb, hs, q, im⟩
  cases a with
  | int i =>
    cases b with
    | int j =>
      cases ra
      cases rb
      exact op_add pins s σ H _ _ v u Q I rx ry ⟨i, j, rfl, rfl, im _ _ q H _ (Ext.refl H) hs (.int _)⟩
    | _ => exact q.elim
  | str i =>
    cases b with
    | str j =>
      cases ra
      cases rb
      exact op_add_str pins s σ H _ _ v u Q I rx ry ⟨i, j, rfl, rfl, q.1, im _ _ q.2 H _ (Ext.refl H) hs (.str _)⟩
    | _ => exact q.elim
  | tup ts =>
    cases b with
    | tup us =>
      cases ra with
      | @tup p xs _ h1 h2 =>
        cases rb with
        | @tup p' ys _ g1 g2 =>
          have rr := Reps.append h2 g2
          refine op_catA pins s σ H _ _ v u Q I rx ry ⟨p, p', xs, ys, rfl, rfl, h1, g1, by rw [← h2.length, ← g2.length]; exact q.1, fun e => ?_, fun e e' => ?_, fun e e' r hr => ?_⟩
          · subst e
            cases h2
            exact im _ _ q.2 H _ (Ext.refl H) hs (.tup g1 g2)
          · subst e'
            cases g2
            have q2 := q.2
            rw [List.append_nil] at q2
            exact im _ _ q2 H _ (Ext.refl H) hs (.tup h1 h2)
          · exact im _ _ q.2 _ _ (Ext.new hr) (hs.new hr _) (.tup (.inl (.inl upd_same)) (Reps.mono (Ext.new hr) _ _ rr))
    | _ => exact q.elim
  | ref p =>
    cases b with
    | ref p' =>
      cases ra
      cases rb
      obtain ⟨ts, e1, us, e2, hz, q⟩ := q
      obtain ⟨xs, h1, r1⟩ := hs p _ e1
      obtain ⟨ys, h2, r2⟩ := hs p' _ e2
      refine op_cat pins s σ H _ _ v u Q I rx ry ⟨p, p', xs, ys, rfl, rfl, h1, h2, by rw [← r1.length, ← r2.length]; exact hz, fun r hr => ?_⟩
      obtain ⟨e3, s3⟩ := hs.newL hr (Reps.append r1 r2)
      exact im _ _ (q r (hs.free hr)) _ _ e3 s3 (.ref r)
    | _ => exact q.elim
  | _ => exact q.elim
/-! ### order -/
def rCmp (p : Int → Int → Bool) (ps : List Nat → List Nat → Bool) (x : T) (y : T) (S : Sta) (Q : T → Sta → Prop) : Prop := match x, y with
  | .int i, .int j => Q (.bl (p i j)) S
  | .str a, .str b => Q (.bl (ps a.cps.toList b.cps.toList)) S
  | _, _ => False
def rLt : R3 := rCmp (fun i j => decide (i < j)) fun a b => decide (a < b)
def rLe : R3 := rCmp (fun i j => decide (i ≤ j)) fun a b => !decide (b < a)
def rGtI : R3 := rInt (fun _ _ => True) fun i j => .bl (decide (j < i))
def rGeI : R3 := rInt (fun _ _ => True) fun i j => .bl (decide (j ≤ i))
theorem o_lt : OpT X (compareOp .Lt) rLt := by
  intro pins s σ H x y v u Q I rx ry ⟨a, b, S, Q0, ra, rb, hs, q, im⟩
  cases a with
  | int i =>
    cases b with
    | int j =>
      cases ra
      cases rb
      exact op_lt pins s σ H _ _ v u Q I rx ry ⟨i, j, rfl, rfl, im _ _ q H _ (Ext.refl H) hs (.bl _)⟩
    | _ => exact q.elim
  | str i =>
    cases b with
    | str j =>
      cases ra
      cases rb
      exact op_lt_str pins s σ H _ _ v u Q I rx ry ⟨i, j, rfl, rfl, im _ _ q H _ (Ext.refl H) hs (.bl _)⟩
    | _ => exact q.elim
  | _ => exact q.elim
theorem o_le : OpT X (compareOp .LtE) rLe := by
  intro pins s σ H x y v u Q I rx ry ⟨a, b, S, Q0, ra, rb, hs, q, im⟩
  cases a with
  | int i =>
    cases b with
    | int j =>
      cases ra
      cases rb
      exact op_le pins s σ H _ _ v u Q I rx ry ⟨i, j, rfl, rfl, im _ _ q H _ (Ext.refl H) hs (.bl _)⟩
    | _ => exact q.elim
  | str i =>
    cases b with
    | str j =>
      cases ra
      cases rb
      exact op_le_str pins s σ H _ _ v u Q I rx ry ⟨i, j, rfl, rfl, im _ _ q H _ (Ext.refl H) hs (.bl _)⟩
    | _ => exact q.elim
  | _ => exact q.elim
theorem o_gt : OpT X (compareOp .Gt) rGtI := opT_I0 op_gt fun _ _ _ => .bl _
theorem o_ge : OpT X (compareOp .GtE) rGeI := opT_I0 op_ge fun _ _ _ => .bl _
/-! ### is None -/
def isNon : T → Bool
  | .non => true
  | _ => false
def rIsN (neg : Bool) (x : T) (y : T) (S : Sta) (Q : T → Sta → Prop) : Prop := match y with
  | .non => Q (.bl (neg != isNon x)) S
  | _ => False
theorem isNon_rep {K : PySem.W.Frag} {H : Hp} {t : T} {v : V} (r : Rep K H t v) : decide (v = .non) = isNon t := by
  cases r <;> rfl
theorem o_isN : OpT X (compareOp .Is) (rIsN false) := by
  intro pins s σ H x y v u Q I rx ry ⟨a, b, S, Q0, ra, rb, hs, q, im⟩
  cases b with
  | non =>
    cases rb
    refine op_isN pins s σ H _ _ v u Q I rx ry ⟨rfl, ?_⟩
    rw [isNon_rep ra]
    have q : Q0 (.bl (false != isNon a)) S := q
    rw [Bool.false_bne] at q
    exact im _ _ q H _ (Ext.refl H) hs (.bl _)
  | _ => exact q.elim
theorem o_notN : OpT X (compareOp .IsNot) (rIsN true) := by
  intro pins s σ H x y v u Q I rx ry ⟨a, b, S, Q0, ra, rb, hs, q, im⟩
  cases b with
  | non =>
    cases rb
    refine op_notN pins s σ H _ _ v u Q I rx ry ⟨rfl, ?_⟩
    rw [isNon_rep ra]
    have q : Q0 (.bl (true != isNon a)) S := q
    rw [Bool.true_bne] at q
    exact im _ _ q H _ (Ext.refl H) hs (.bl _)
  | _ => exact q.elim
/-! ### == -/
mutual
def toD : T → Option PyData
  | .non => some .none
  | .bl b => some (.bool b)
  | .int i => some (.int i)
  | .str s => some (.str s)
  | .tup ts => (toDs ts).map .tuple
  | .fl ts => (toDs ts).map .list
  | .ref _ => none
def toDs : List T → Option (List PyData)
  | [] => some []
  | t :: ts => match toD t, toDs ts with
    | some d, some ds => some (d :: ds)
    | _, _ => none
end
def dd (S : Sta) : T → Option PyData
  | .ref p => match S p with
    | some (.lst ts) => (toDs ts).map .list
    | _ => none
  | t => toD t
mutual
theorem Rep.dp {K : PySem.W.Frag} {H : Hp} : ∀ (t : T) (v : V) (d : PyData), Rep K H t v → toD t = some d → Dp K H v d
  | .non, _, _, r, e => by cases r; simp only [toD, Option.some.injEq] at e; subst e; exact .non
  | .bl b, _, _, r, e => by cases r; simp only [toD, Option.some.injEq] at e; subst e; exact .bl b
  | .int b, _, _, r, e => by cases r; simp only [toD, Option.some.injEq] at e; subst e; exact .int b
  | .str b, _, _, r, e => by cases r; simp only [toD, Option.some.injEq] at e; subst e; exact .str b
  | .ref a, _, _, r, e => by simp only [toD] at e; cases e
  | .tup ts, _, d, r, e => by
    cases r with
    | tup h1 h2 =>
      simp only [toD, Option.map_eq_some_iff] at e
      obtain ⟨ds, e1, e2⟩ := e
      subst e2
      exact .tup h1 (Reps.dp ts _ ds h2 e1)
  | .fl ts, _, d, r, e => by
    cases r with
    | fl h1 h2 =>
      simp only [toD, Option.map_eq_some_iff] at e
      obtain ⟨ds, e1, e2⟩ := e
      subst e2
      exact .lst h1.sq (Reps.dp ts _ ds h2 e1)
theorem Reps.dp {K : PySem.W.Frag} {H : Hp} : ∀ (ts : List T) (vs : List V) (ds : List PyData), Reps K H ts vs → toDs ts = some ds → DpAll K H vs ds
  | [], _, _, r, e => by cases r; simp only [toDs, Option.some.injEq] at e; subst e; exact .nil
  | t :: ts, _, ds, r, e => by
    cases r with
    | cons h1 h2 =>
      simp only [toDs] at e
      cases e1 : toD t with
      | none => rw [e1] at e; cases e
      | some d =>
        cases e2 : toDs ts with
        | none => rw [e1, e2] at e; cases e
        | some es =>
          rw [e1, e2] at e
          cases e
          exact .cons (Rep.dp t _ d h1 e1) (Reps.dp ts _ es h2 e2)
end
theorem dd_dp {K : PySem.W.Frag} {H : Hp} {S : Sta} {t : T} {v : V} {d : PyData} (hs : St K S H) (r : Rep K H t v) (e : dd S t = some d) : Dp K H v d := by
  cases t with
  | ref p =>
    cases r
    simp only [dd] at e
    cases q : S p with
    | none => rw [q] at e; cases e
    | some o =>
      rw [q] at e
      cases o with
      | ins C fs => cases e
      | lst ts =>
        simp only [Option.map_eq_some_iff] at e
        obtain ⟨ds, e1, e2⟩ := e
        subst e2
        obtain ⟨xs, h1, h2⟩ := hs p _ q
        exact .lst (.inl (.inl h1)) (Reps.dp ts _ ds h2 e1)
  | non => exact Rep.dp _ _ _ r e
  | bl b => exact Rep.dp _ _ _ r e
  | int b => exact Rep.dp _ _ _ r e
  | str b => exact Rep.dp _ _ _ r e
  | tup b => exact Rep.dp _ _ _ r e
  | fl b => exact Rep.dp _ _ _ r e
def rEq (neg : Bool) (x : T) (y : T) (S : Sta) (Q : T → Sta → Prop) : Prop := ∃ d, dd S x = some d ∧ ∃ e, dd S y = some e ∧ SeqAt.shaped d = true ∧ SeqAt.shaped e = true ∧ Q (.bl (neg != PyData.eqv d e)) S
theorem o_eq (hu : X.A.units + 64 < cLine) : OpT X (compareOp .Eq) (rEq false) := by
  intro pins s σ H x y v u Q I rx ry ⟨a, b, S, Q0, ra, rb, hs, ⟨d, h1, e, h2, h3, h4, q⟩, im⟩
  refine op_eqD hu pins s σ H _ _ v u Q I rx ry ⟨d, e, dd_dp hs ra h1, dd_dp hs rb h2, h3, h4, ?_⟩
  rw [Bool.false_bne] at q
  exact im _ _ q H _ (Ext.refl H) hs (.bl _)
theorem o_ne (hu : X.A.units + 64 < cLine) : OpT X (compareOp .NotEq) (rEq true) := by
  intro pins s σ H x y v u Q I rx ry ⟨a, b, S, Q0, ra, rb, hs, ⟨d, h1, e, h2, h3, h4, q⟩, im⟩
  refine op_neD hu pins s σ H _ _ v u Q I rx ry ⟨d, e, dd_dp hs ra h1, dd_dp hs rb h2, h3, h4, ?_⟩
  rw [Bool.true_bne] at q
  exact im _ _ q H _ (Ext.refl H) hs (.bl _)
/-! ### x in a list, a tuple: flat values -/
def flatT : T → Bool
  | .non => true
  | .bl _ => true
  | .int _ => true
  | .str _ => true
  | _ => false
def eqF : T → T → Bool
  | .non, .non => true
  | .bl a, .bl b => a == b
  | .bl a, .int b => (if a then 1 else 0) == b
  | .int a, .bl b => a == (if b then 1 else 0)
  | .int a, .int b => a == b
  | .str a, .str b => a == b
  | _, _ => false
def inF (x : T) (ts : List T) : Bool := ts.any fun y => eqF y x
theorem flat_rep {K : PySem.W.Frag} {H : Hp} {t : T} {v : V} (r : Rep K H t v) (f : flatT t = true) : flatV v = true := by
  cases r <;> first | rfl | cases f
theorem eqF_rep {K : PySem.W.Frag} {H : Hp} {t u : T} {v w : V} (r : Rep K H t v) (q : Rep K H u w) (f : flatT t = true) (g : flatT u = true) : eqV v w = eqF t u := by
  cases r <;> first | (cases f; done) | (cases q <;> first | (cases g; done) | rfl)
theorem flats_rep {K : PySem.W.Frag} {H : Hp} : ∀ {ts : List T} {vs : List V}, Reps K H ts vs → ts.all flatT = true → vs.all flatV = true
  | [], _, h, _ => by cases h; rfl
  | t :: ts, _, h, f => by
    cases h with
    | cons h1 h2 =>
      rw [List.all_cons, Bool.and_eq_true] at f ⊢
      exact ⟨flat_rep h1 f.1, flats_rep h2 f.2⟩
theorem inF_rep {K : PySem.W.Frag} {H : Hp} {x : T} {w : V} (r : Rep K H x w) (g : flatT x = true) : ∀ {ts : List T} {vs : List V}, Reps K H ts vs → ts.all flatT = true → inV w vs = inF x ts
  | [], _, h, _ => by cases h; rfl
  | t :: ts, _, h, f => by
    cases h with
    | cons h1 h2 =>
      rw [List.all_cons, Bool.and_eq_true] at f
      have ih := inF_rep r g h2 f.2
      unfold inV inF at ih ⊢
      rw [List.any_cons, List.any_cons, ih, eqF_rep h1 r f.1 g]
/-- the items of a list or a tuple, as they stand -/
def itemsT (S : Sta) : T → Option (List T)
  | .tup ts => some ts
  | .fl ts => some ts
  | .ref p => match S p with
    | some (.lst ts) => some ts
    | _ => none
  | _ => none
theorem items_sq {K : PySem.W.Frag} {H : Hp} {S : Sta} {t : T} {v : V} {ts : List T} (hs : St K S H) (r : Rep K H t v) (e : itemsT S t = some ts) : ∃ p xs, v = .ref p ∧ (SqL K H p xs ∨ SqT K H p xs) ∧ Reps K H ts xs := by
  cases r with
  | tup h1 h2 => cases e; exact ⟨_, _, rfl, .inr h1, h2⟩
  | fl h1 h2 => cases e; exact ⟨_, _, rfl, .inl h1.sq, h2⟩
  | ref a =>
    simp only [itemsT] at e
    cases q : S a with
    | none => rw [q] at e; cases e
    | some o =>
      rw [q] at e
      cases o with
      | ins C fs => cases e
      | lst us =>
        cases e
        obtain ⟨xs, h1, h2⟩ := hs a _ q
        exact ⟨a, xs, rfl, .inl (.inl (.inl h1)), h2⟩
  | _ => cases e
def rIn (neg : Bool) (x : T) (y : T) (S : Sta) (Q : T → Sta → Prop) : Prop := ∃ ts, itemsT S y = some ts ∧ flatT x = true ∧ ts.all flatT = true ∧ Q (.bl (neg != inF x ts)) S
theorem o_in : OpT X (compareOp .In) (rIn false) := by
  intro pins s σ H x y v u Q I rx ry ⟨a, b, S, Q0, ra, rb, hs, ⟨ts, e, f, g, q⟩, im⟩
  obtain ⟨p, xs, rfl, h, r⟩ := items_sq hs rb e
  refine op_in_seq pins s σ H _ _ v u Q I rx ry ⟨p, xs, rfl, h, flat_rep ra f, flats_rep r g, ?_⟩
  rw [if_neg Bool.false_ne_true, inF_rep ra f r g]
  rw [Bool.false_bne] at q
  exact im _ _ q H _ (Ext.refl H) hs (.bl _)
theorem o_notIn : OpT X (compareOp .NotIn) (rIn true) := by
  intro pins s σ H x y v u Q I rx ry ⟨a, b, S, Q0, ra, rb, hs, ⟨ts, e, f, g, q⟩, im⟩
  obtain ⟨p, xs, rfl, h, r⟩ := items_sq hs rb e
  refine op_notIn_seq pins s σ H _ _ v u Q I rx ry ⟨p, xs, rfl, h, flat_rep ra f, flats_rep r g, ?_⟩
  rw [if_pos rfl, inF_rep ra f r g]
  rw [Bool.true_bne] at q
  exact im _ _ q H _ (Ext.refl H) hs (.bl _)
end
end Wp

set_option Elab.async false
set_option linter.all false
set_option maxRecDepth 100000
/-! subscripts, slices, calls -/
namespace Wp
open PySem PySem.Spec PyProof.Rows L2
section
variable {B : Hp} {X : Cx} {a b : Expr} {ta tb : WE} {pos : Pos}
/-! ### o[i] -/
def rIx (x : T) (y : T) (S : Sta) (Q : T → Sta → Prop) : Prop := match y with
  | .int i => match x with
    | .str s => s.length ≤ sizeLine ∧ ∃ c, atI s.cps.toList i = some c ∧ Q (.str ⟨#[c]⟩) S
    | x => ∃ ts, itemsT S x = some ts ∧ ∃ t, atI ts i = some t ∧ Q t S
  | _ => False
theorem ixN_lt {n : Nat} {i : Int} {j : Nat} (h : ixN n i = some j) : j < n := (ixN_seq h).2.1
theorem atI_rep {K : PySem.W.Frag} {H : Hp} {ts : List T} {vs : List V} {i : Int} {t : T} (r : Reps K H ts vs) (h : atI ts i = some t) : ∃ v, atI vs i = some v ∧ Rep K H t v := by
  unfold atI at h ⊢
  rw [← r.length]
  cases e : ixN ts.length i with
  | none => rw [e] at h; cases h
  | some j =>
    rw [e] at h
    exact r.get h
theorem ix_T : IxR X (L3 X.K rIx) := by
  intro value slice pins s σ H x y v u Q I rx ry ⟨a, b, S, Q0, ra, rb, hs, q, im⟩ hsub
  cases b with
  | int i =>
    have go : ∀ ts t, itemsT S a = some ts → atI ts i = some t → Q0 t S → wpAny (model X.prog X.w) X.A (subscriptTail value slice v u) (EP X pins σ Q) X.xe s := fun ts t e1 e2 q => by
      obtain ⟨p, xs, rfl, h, r⟩ := items_sq hs ra e1
      obtain ⟨w, e3, rw'⟩ := atI_rep r e2
      cases rb
      have qq := im _ _ q H _ (Ext.refl H) hs rw'
      rcases h with h | h
      · exact ix_list value slice pins s σ H _ _ v u Q I rx ry ⟨p, xs, i, w, rfl, rfl, h, e3, qq⟩ hsub
      · exact ix_tup value slice pins s σ H _ _ v u Q I rx ry ⟨p, xs, i, w, rfl, rfl, h, e3, qq⟩ hsub
    cases a with
    | str z =>
      obtain ⟨hz, c, e, q⟩ := q
      cases ra
      cases rb
      exact ix_str value slice pins s σ H _ _ v u Q I rx ry ⟨z, i, c, rfl, rfl, hz, e, im _ _ q H _ (Ext.refl H) hs (.str _)⟩ hsub
    | non => obtain ⟨ts, e1, t, e2, q⟩ := q; exact go ts t e1 e2 q
    | bl _ => obtain ⟨ts, e1, t, e2, q⟩ := q; exact go ts t e1 e2 q
    | int _ => obtain ⟨ts, e1, t, e2, q⟩ := q; exact go ts t e1 e2 q
    | tup _ => obtain ⟨ts, e1, t, e2, q⟩ := q; exact go ts t e1 e2 q
    | fl _ => obtain ⟨ts, e1, t, e2, q⟩ := q; exact go ts t e1 e2 q
    | ref _ => obtain ⟨ts, e1, t, e2, q⟩ := q; exact go ts t e1 e2 q
  | _ => exact q.elim
theorem j_ix (ha : JE B X a ta) (hb : JE B X b tb) (hs : PlainIx b) : JE B X (.Subscript a b pos) (wOp rIx ta tb) := pe_imp (pe_ix ix_T ha hb hs) fun _ _ _ h => le_op h
/-! ### o[i:j] -/
abbrev WO := Sl → Sta → (Option Int → Sta → Prop) → Prop
def finO (K : PySem.W.Frag) (H : Hp) (Q : Option Int → Hp → Prop) : Option Int → Sta → Prop := fun b S => ∀ H', Ext H H' → St K S H' → Q b H'
def LO (B : Hp) (X : Cx) (t : WO) : TO := fun σ H Q => ∃ st S Q0, Ext B H ∧ SlR X.K H st σ ∧ St X.K S H ∧ t st S Q0 ∧ Im2 Q0 (finO X.K H Q)
def JO (B : Hp) (X : Cx) (e : Option Expr) (t : WO) : Prop := PO X e (LO B X t)
theorem po_imp {e : Option Expr} {t t' : TO} (h : PO X e t) (k : ∀ σ H Q, t' σ H Q → t σ H Q) : PO X e t' := ⟨fun pins s σ H Q I q => h.run pins s σ H Q I (k σ H Q q)⟩
def wNoPart (u0 : Sl) (S : Sta) (Q : Option Int → Sta → Prop) : Prop := Q none S
def wPart (t : WE) (σ : Sl) (S : Sta) (Q : Option Int → Sta → Prop) : Prop := t σ S fun x S1 => match x with
  | .int i => Q (some i) S1
  | _ => False
theorem jo_none : JO B X none wNoPart := po_imp po_none fun σ H Q ⟨st, S, Q0, he, hr, hs, h, im⟩ => im _ _ h H (Ext.refl H) hs
theorem jo_some (h : JE B X a ta) : JO B X (some a) (wPart ta) := po_imp (po_some h) fun σ H Q ⟨st, S, Q0, he, hr, hs, h, im⟩ => by
  refine ⟨st, S, _, he, hr, hs, h, fun x S1 h1 H1 v e1 s1 r1 => ?_⟩
  cases x with
  | int i =>
    cases r1
    exact ⟨i, rfl, im _ _ h1 H1 e1 s1⟩
  | _ => exact h1.elim
def cutT (xs : List T) (lo hi : Option Int) : List T := (xs.drop (HT.sIx xs.length 0 lo)).take (HT.sIx xs.length xs.length hi - HT.sIx xs.length 0 lo)
theorem cut_rep {K : PySem.W.Frag} {H : Hp} {ts : List T} {vs : List V} (r : Reps K H ts vs) (lo hi : Option Int) : Reps K H (cutT ts lo hi) (cutV vs lo hi) := by
  unfold cutT cutV
  rw [r.length]
  exact (r.drop _).take _
theorem cutT_all (xs : List T) (lo hi : Option Int) (h : HT.sIx xs.length 0 lo = 0 ∧ HT.sIx xs.length xs.length hi = xs.length) : cutT xs lo hi = xs := by
  unfold cutT
  rw [h.1, h.2]
  simp
def rSl : T → Option Int → Option Int → Sta → (T → Sta → Prop) → Prop := fun x lo hi S Q => match x with
  | .str z => z.length ≤ sizeLine ∧ Q (.str (Txt.slice z lo hi)) S
  | .tup ts => Q (.tup (cutT ts lo hi)) S
  | x => ∃ ts, itemsT S x = some ts ∧ ∀ p, S p = none → Q (.ref p) (upS S p (.lst (cutT ts lo hi)))
def L3s (K : PySem.W.Frag) (r : T → Option Int → Option Int → Sta → (T → Sta → Prop) → Prop) : V → Option Int → Option Int → Hp → VK → Prop := fun x lo hi H Q => ∃ a S Q0, Rep K H a x ∧ St K S H ∧ r a lo hi S Q0 ∧ Im2 Q0 (fin K H Q)
theorem sl_T : L2.SlR X (L3s X.K rSl) := by
  intro pins s σ H x v vl vu lo hi sl Q I rx hso pl pu ⟨a, S, Q0, ra, hs, q, im⟩
  cases a with
  | str z =>
    cases ra
    exact C8.sl_txt pins s σ H _ v vl vu lo hi sl Q I rx hso pl pu ⟨z, rfl, q.1, im _ _ q.2 H _ (Ext.refl H) hs (.str _)⟩
  | tup ts =>
    cases ra with
    | @tup p xs _ h1 h2 =>
      refine sl_tupA pins s σ H _ v vl vu lo hi sl Q I rx hso pl pu ⟨p, xs, rfl, h1, fun hw => ?_, fun hw p' hp' => ?_⟩
      · rw [← h2.length] at hw
        have q : Q0 (.tup (cutT ts lo hi)) S := q
        rw [cutT_all ts lo hi hw] at q
        exact im _ _ q H _ (Ext.refl H) hs (.tup h1 h2)
      · exact im _ _ q _ _ (Ext.new hp') (hs.new hp' _) (.tup (.inl (.inl upd_same)) (Reps.mono (Ext.new hp') _ _ (cut_rep h2 lo hi)))
  | fl ts =>
    cases ra with
    | @fl p xs _ h1 h2 =>
      obtain ⟨us, e, q⟩ := q
      cases e
      refine sl_list pins s σ H _ v vl vu lo hi sl Q I rx hso pl pu ⟨p, xs, rfl, h1.sq, fun p' hp' => ?_⟩
      obtain ⟨e3, s3⟩ := hs.newL hp' (cut_rep h2 lo hi)
      exact im _ _ (q p' (hs.free hp')) _ _ e3 s3 (.ref p')
  | ref p =>
    obtain ⟨us, e, q⟩ := q
    simp only [itemsT] at e
    cases ra
    cases eS : S p with
    | none => rw [eS] at e; cases e
    | some o =>
      rw [eS] at e
      cases o with
      | ins C fs => cases e
      | lst ws =>
        cases e
        obtain ⟨xs, h1, h2⟩ := hs p _ eS
        refine sl_list pins s σ H _ v vl vu lo hi sl Q I rx hso pl pu ⟨p, xs, rfl, .inl (.inl h1), fun p' hp' => ?_⟩
        obtain ⟨e3, s3⟩ := hs.newL hp' (cut_rep h2 lo hi)
        exact im _ _ (q p' (hs.free hp')) _ _ e3 s3 (.ref p')
  | non => obtain ⟨us, e, q⟩ := q; cases e
  | bl _ => obtain ⟨us, e, q⟩ := q; cases e
  | int _ => obtain ⟨us, e, q⟩ := q; cases e
def wSl (te : WE) (tl th : WO) (σ : Sl) (S : Sta) (Q : T → Sta → Prop) : Prop := te σ S fun x S1 => tl σ S1 fun l S2 => th σ S2 fun u S3 => rSl x l u S3 Q
theorem j_slice {lo hi : Option Expr} {tl th : WO} {p2 : Pos} (he : JE B X a ta) (hl : JO B X lo tl) (hu : JO B X hi th) : JE B X (.Subscript a (.Slice lo hi none p2) pos) (wSl ta tl th) :=
  pe_imp (pe_slice sl_T he hl hu) fun σ H Q ⟨st, S, Q0, he, hr, hs, h, im⟩ => by
    refine ⟨st, S, _, he, hr, hs, h, fun x S1 h1 H1 v e1 s1 r1 => ?_⟩
    refine ⟨st, S1, _, he.trans e1, hr.mono e1, s1, h1, fun l S2 h2 H2 e2 s2 => ?_⟩
    refine ⟨st, S2, _, he.trans (e1.trans e2), hr.mono (e1.trans e2), s2, h2, fun u S3 h3 H3 e3 s3 => ?_⟩
    exact ⟨x, S3, Q0, Rep.mono (e2.trans e3) _ _ r1, s3, h3, fun z S4 q => fin_ext (e1.trans (e2.trans e3)) (im z S4 q)⟩
/-! ### -x -/
def rNeg : T → Sta → (T → Sta → Prop) → Prop := fun x S Q => match x with
  | .int i => Q (.int (-i)) S
  | _ => False
def wNeg (t : WE) (σ : Sl) (S : Sta) (Q : T → Sta → Prop) : Prop := t σ S fun x S1 => rNeg x S1 Q
theorem j_neg (ha : JE B X a ta) : JE B X (.UnaryOp .USub a pos) (wNeg ta) := pe_imp (pe_un un_neg ha) fun σ H Q ⟨st, S, Q0, he, hr, hs, h, im⟩ => by
  refine ⟨st, S, _, he, hr, hs, h, fun x S1 h1 H1 v e1 s1 r1 => ?_⟩
  cases x with
  | int i =>
    cases r1
    exact ⟨i, rfl, im _ _ h1 H1 _ e1 s1 (.int _)⟩
  | _ => exact h1.elim

/-! ### calls of built-ins by values -/
abbrev RC3 := List T → Sta → (T → Sta → Prop) → Prop
def LC (K : PySem.W.Frag) (r : RC3) : List V → Hp → VK → Prop := fun xs H Q => ∃ ts S Q0, Reps K H ts xs ∧ St K S H ∧ r ts S Q0 ∧ Im2 Q0 (fin K H Q)
def wCB (r : RC3) (t : WA) (σ : Sl) (S : Sta) (Q : T → Sta → Prop) : Prop := t σ S fun xs S1 => r xs S1 Q
variable {es : List Expr} {tr : WA}
theorem le_cb {r : RC3} {σ : L2.St} {H : Hp} {Q : VK} (h : LE B X (wCB r tr) σ H Q) : tCB (LC X.K r) (LA B X tr) σ H Q := by
  obtain ⟨st, S, Q0, he, hr, hs, h, im⟩ := h
  refine ⟨st, S, _, he, hr, hs, h, fun xs S1 h1 H1 v e1 s1 r1 => ?_⟩
  exact ⟨xs, S1, Q0, r1, s1, h1, fun z S4 q => fin_ext e1 (im z S4 q)⟩
theorem j_callB {id : String} {r : RC3} {x : Str} {p : Pos} (hc : CallR X (.builtin id) (LC X.K r)) (hg : Gl X x) (hm : X.mg x = none) (hv : bootBuiltins x = some (.builtin id)) (ha : JA B X (a :: es) tr) (hn : x ≠ "__name__" := by decide) (hdb : (x == ("__debug__" : Str)) = false := by decide)
    (he : starEach (a :: es) X.env = (false, eval a X.env) :: starEach es X.env := by rfl) (hpl : (backTo pos (starEach es X.env)).any (·.1) = false := by rfl) : JE B X (.Call (.Name x p) (a :: es) [] pos) (wCB r tr) :=
  pe_imp (pe_callB hc hg hm hv ha hn hdb he hpl) fun _ _ _ h => le_cb h
theorem j_callTy {T : String} {r : RC3} {x : Str} {p : Pos} (hc : CallR X (.type T) (LC X.K r)) (hg : Gl X x) (hm : X.mg x = none) (hv : bootBuiltins x = some (.type T)) (ha : JA B X (a :: es) tr) (hn : x ≠ "__name__" := by decide) (hdb : (x == ("__debug__" : Str)) = false := by decide)
    (he : starEach (a :: es) X.env = (false, eval a X.env) :: starEach es X.env := by rfl) (hpl : (backTo pos (starEach es X.env)).any (·.1) = false := by rfl) : JE B X (.Call (.Name x p) (a :: es) [] pos) (wCB r tr) :=
  pe_imp (pe_callTy hc hg hm hv ha hn hdb he hpl) fun _ _ _ h => le_cb h
def rLen1 (x : T) (S : Sta) (Q : T → Sta → Prop) : Prop := match x with
  | .str z => z.length ≤ sizeLine ∧ Q (.int z.length) S
  | x => ∃ ts, itemsT S x = some ts ∧ Q (.int ts.length) S
def rLen (xs : List T) (S : Sta) (Q : T → Sta → Prop) : Prop := match xs with
  | [x] => rLen1 x S Q
  | _ => False
theorem Reps.one {K : PySem.W.Frag} {H : Hp} {t : T} {vs : List V} (r : Reps K H [t] vs) : ∃ v, vs = [v] ∧ Rep K H t v := by
  cases r with
  | cons h1 h2 => cases h2; exact ⟨_, rfl, h1⟩
theorem Reps.two {K : PySem.W.Frag} {H : Hp} {t u : T} {vs : List V} (r : Reps K H [t, u] vs) : ∃ v w, vs = [v, w] ∧ Rep K H t v ∧ Rep K H u w := by
  cases r with
  | cons h1 h2 =>
    obtain ⟨w, e, h3⟩ := h2.one
    subst e
    exact ⟨_, _, rfl, h1, h3⟩
theorem c_len : CallR X (.builtin "len") (LC X.K rLen) := by
  intro pins s σ H xs us Q I rx ⟨ts, S, Q0, r, hs, q, im⟩
  match ts, q with
  | [t], q =>
    obtain ⟨v, rfl, r1⟩ := r.one
    have go : ∀ us', itemsT S t = some us' → Q0 (.int us'.length) S → wpAny (model X.prog X.w) X.A (call (.builtin "len") us) (EP X pins σ Q) X.xe s := fun us' e q => by
      obtain ⟨p, ys, rfl, h, r2⟩ := items_sq hs r1 e
      refine call_len_seq pins s σ H _ us Q I rx ⟨p, ys, rfl, h, ?_⟩
      rw [← r2.length]
      exact im _ _ q H _ (Ext.refl H) hs (.int _)
    cases t with
    | str z =>
      cases r1
      exact call_len_str pins s σ H _ us Q I rx ⟨z, rfl, q.1, im _ _ q.2 H _ (Ext.refl H) hs (.int _)⟩
    | non => obtain ⟨ts, e, q⟩ := q; exact go ts e q
    | bl _ => obtain ⟨ts, e, q⟩ := q; exact go ts e q
    | int _ => obtain ⟨ts, e, q⟩ := q; exact go ts e q
    | tup _ => obtain ⟨ts, e, q⟩ := q; exact go ts e q
    | fl _ => obtain ⟨ts, e, q⟩ := q; exact go ts e q
    | ref _ => obtain ⟨ts, e, q⟩ := q; exact go ts e q
def rInt1 (xs : List T) (S : Sta) (Q : T → Sta → Prop) : Prop := match xs with
  | [.int i] => Q (.int i) S
  | [.bl b] => Q (.int (if b then 1 else 0)) S
  | _ => False
theorem c_int : CallR X (.type "int") (LC X.K rInt1) := by
  intro pins s σ H xs us Q I rx ⟨ts, S, Q0, r, hs, q, im⟩
  match ts, q with
  | [.int i], q =>
    obtain ⟨v, rfl, r1⟩ := r.one
    cases r1
    exact call_int1 pins s σ H _ us Q I rx (.inl ⟨i, rfl, im _ _ q H _ (Ext.refl H) hs (.int _)⟩)
  | [.bl i], q =>
    obtain ⟨v, rfl, r1⟩ := r.one
    cases r1
    exact call_int1 pins s σ H _ us Q I rx (.inr ⟨i, rfl, im _ _ q H _ (Ext.refl H) hs (.int _)⟩)
def rAbs (xs : List T) (S : Sta) (Q : T → Sta → Prop) : Prop := match xs with
  | [.int i] => Q (.int (if i < 0 then -i else i)) S
  | _ => False
theorem c_abs : CallR X (.builtin "abs") (LC X.K rAbs) := by
  intro pins s σ H xs us Q I rx ⟨ts, S, Q0, r, hs, q, im⟩
  match ts, q with
  | [.int i], q =>
    obtain ⟨v, rfl, r1⟩ := r.one
    cases r1
    exact call_abs pins s σ H _ us Q I rx ⟨i, rfl, im _ _ q H _ (Ext.refl H) hs (.int _)⟩
def rMax2 (xs : List T) (S : Sta) (Q : T → Sta → Prop) : Prop := match xs with
  | [.int i, .int j] => Q (.int (if j > i then j else i)) S
  | _ => False
def rMin2 (xs : List T) (S : Sta) (Q : T → Sta → Prop) : Prop := match xs with
  | [.int i, .int j] => Q (.int (if j < i then j else i)) S
  | _ => False
theorem c_max2 (hc : X.calm = true) : CallR X (.builtin "max") (LC X.K rMax2) := by
  intro pins s σ H xs us Q I rx ⟨ts, S, Q0, r, hs, q, im⟩
  match ts, q with
  | [.int i, .int j], q =>
    obtain ⟨v, w, rfl, r1, r2⟩ := r.two
    cases r1
    cases r2
    exact call_max2 hc pins s σ H _ us Q I rx ⟨i, j, rfl, im _ _ q H _ (Ext.refl H) hs (.int _)⟩
theorem c_min2 (hc : X.calm = true) : CallR X (.builtin "min") (LC X.K rMin2) := by
  intro pins s σ H xs us Q I rx ⟨ts, S, Q0, r, hs, q, im⟩
  match ts, q with
  | [.int i, .int j], q =>
    obtain ⟨v, w, rfl, r1, r2⟩ := r.two
    cases r1
    cases r2
    exact call_min2 hc pins s σ H _ us Q I rx ⟨i, j, rfl, im _ _ q H _ (Ext.refl H) hs (.int _)⟩
/-- list(xs), tuple(xs) -/
def rListOf (xs : List T) (S : Sta) (Q : T → Sta → Prop) : Prop := match xs with
  | [x] => ∃ ts, itemsT S x = some ts ∧ ∀ p, S p = none → Q (.ref p) (upS S p (.lst ts))
  | _ => False
theorem c_list : CallR X (.type "list") (LC X.K rListOf) := by
  intro pins s σ H xs us Q I rx ⟨ts, S, Q0, r, hs, q, im⟩
  match ts, q with
  | [t], ⟨us', e, q⟩ =>
    obtain ⟨v, rfl, r1⟩ := r.one
    obtain ⟨p, ys, rfl, h, r2⟩ := items_sq hs r1 e
    refine call_list_of pins s σ H _ us Q I rx ⟨p, ys, rfl, h, fun l hl => ?_⟩
    obtain ⟨e3, s3⟩ := hs.newL hl r2
    exact im _ _ (q l (hs.free hl)) _ _ e3 s3 (.ref l)
def rTupOf (xs : List T) (S : Sta) (Q : T → Sta → Prop) : Prop := match xs with
  | [x] => ∃ ts, itemsT S x = some ts ∧ Q (.tup ts) S
  | _ => False
theorem c_tup : CallR X (.type "tuple") (LC X.K rTupOf) := by
  intro pins s σ H xs us Q I rx ⟨ts, S, Q0, r, hs, q, im⟩
  match ts, q with
  | [t], ⟨us', e, q⟩ =>
    obtain ⟨v, rfl, r1⟩ := r.one
    obtain ⟨p, ys, rfl, h, r2⟩ := items_sq hs r1 e
    rcases h with h | h
    · exact call_tuple_of pins s σ H _ us Q I rx ⟨p, ys, rfl, .inl ⟨h, fun l hl => im _ _ q _ _ (Ext.new hl) (hs.new hl _) (.tup (.inl (.inl upd_same)) (Reps.mono (Ext.new hl) _ _ r2))⟩⟩
    · exact call_tuple_of pins s σ H _ us Q I rx ⟨p, ys, rfl, .inr ⟨h, im _ _ q H _ (Ext.refl H) hs (.tup h r2)⟩⟩
/-- sorted, ints -/
def rSortI (xs : List T) (S : Sta) (Q : T → Sta → Prop) : Prop := match xs with
  | [x] => ∃ ns : List Int, itemsT S x = some (ns.map T.int) ∧ ns.length < 64 ∧ (match x with | .tup _ => False | _ => True) ∧ ∀ (ms : List Int) (p : Addr), ms.Perm ns → ms.Pairwise (· ≤ ·) → S p = none → Q (.ref p) (upS S p (.lst (ms.map T.int)))
  | _ => False
theorem c_sortI : CallR X (.builtin "sorted") (LC X.K rSortI) := by
  intro pins s σ H xs us Q I rx ⟨ts, S, Q0, r, hs, q, im⟩
  match ts, q with
  | [t], ⟨ns, e, hl, hx, q⟩ =>
    obtain ⟨v, rfl, r1⟩ := r.one
    obtain ⟨p, ys, rfl, h, r2⟩ := items_sq hs r1 e
    have ey := r2.intsV
    subst ey
    have h' : SqL X.K H p (ns.map V.int) := by
      rcases h with h | h
      · exact h
      · cases t with
        | tup _ => exact hx.elim
        | fl us =>
          cases r1 with
          | @fl _ xs _ h1 h2 =>
            cases e
            rw [← h2.intsV]
            exact h1.sq
        | ref a =>
          cases r1
          simp only [itemsT] at e
          cases eS : S p with
          | none => rw [eS] at e; cases e
          | some o =>
            rw [eS] at e
            cases o with
            | ins C fs => cases e
            | lst ws =>
              cases e
              obtain ⟨zs, g1, g2⟩ := hs p _ eS
              rw [← g2.intsV]
              exact .inl (.inl g1)
        | non => cases e
        | bl _ => cases e
        | int _ => cases e
        | str _ => cases e
    refine cr_sorted pins s σ H _ us Q I rx ⟨p, ns, rfl, h', hl, fun ms l g1 g2 g3 => ?_⟩
    obtain ⟨e3, s3⟩ := hs.newL g3 (Reps.ints (K := X.K) ms)
    exact im _ _ (q ms l g1 g2 (hs.free g3)) _ _ e3 s3 (.ref l)
/-! ### isinstance of a built-in class -/
def tyT (S : Sta) : T → Option String
  | .non => some "NoneType"
  | .bl _ => some "bool"
  | .int _ => some "int"
  | .str _ => some "str"
  | .tup _ => some "tuple"
  | .fl _ => some "list"
  | .ref p => match S p with
    | some (.lst _) => some "list"
    | _ => none
theorem ty_rep {K : PySem.W.Frag} {H : Hp} {S : Sta} {t : T} {v : V} {n : String} (hs : St K S H) (r : Rep K H t v) (e : tyT S t = some n) : TyX K H v (.type n) := by
  cases r with
  | non => cases e; exact .base .non
  | bl b => cases e; exact .base (.bl b)
  | int i => cases e; exact .base (.int i)
  | str x => cases e; exact .base (.str x)
  | tup h1 h2 =>
    cases e
    rcases h1 with (h | ⟨o, h⟩) | ⟨o, its, n, h, hc, _⟩
    · exact .base (.tup h)
    · exact .fTuple h
    · exact .kTuple h hc
  | fl h1 h2 =>
    cases e
    rcases h1 with ⟨o, h⟩ | ⟨o, its, n, h, hc, _⟩
    · exact .base (.frz h)
    · exact .kList h hc
  | ref a =>
    simp only [tyT] at e
    cases eS : S a with
    | none => rw [eS] at e; cases e
    | some o =>
      rw [eS] at e
      cases o with
      | ins C fs => cases e
      | lst ws =>
        cases e
        obtain ⟨xs, h1, _⟩ := hs a _ eS
        exact .base (.lst h1)
/-- the answer for a class of the five -/
def isB (n c : String) : Bool := n == c || (n == "bool" && c == "int")
def kinds : List String := ["NoneType", "bool", "int", "str", "tuple", "list"]
theorem kit_all : (kinds.all fun n => ["bool", "int", "str", "tuple", "list", "dict"].all fun c => decide (kitB n c = some (isB n c))) = true := by decide +kernel
theorem kit_one {K : PySem.W.Frag} {n c : String} (hn : n ∈ kinds) (hc : c ∈ ["bool", "int", "str", "tuple", "list", "dict"]) : PySem.W.kitOne K (.type n) (.type c) = some (isB n c) := by
  have h := List.all_eq_true.mp kit_all n hn
  have h2 := List.all_eq_true.mp h c hc
  exact kit_ty (of_decide_eq_true h2)
theorem ty_kinds {S : Sta} {t : T} {n : String} (e : tyT S t = some n) : n ∈ kinds := by
  cases t with
  | ref p =>
    simp only [tyT] at e
    split at e
    · cases e; decide
    · cases e
  | _ => cases e; decide
def rIsi (c : String) (xs : List T) (S : Sta) (Q : T → Sta → Prop) : Prop := match xs with
  | [x, _] => ∃ n, tyT S x = some n ∧ Q (.bl (isB n c)) S
  | _ => False
def wIsi (c : String) (t : WE) (σ : Sl) (S : Sta) (Q : T → Sta → Prop) : Prop := t σ S fun x S1 => ∃ n, tyT S1 x = some n ∧ Q (.bl (isB n c)) S1
theorem j_isi {c : Str} {cs : String} {p p2 pos : Pos} (hg : Gl X "isinstance") (hm : X.mg "isinstance" = none) (hv : bootBuiltins "isinstance" = some (.builtin "isinstance")) (ha : JE B X a ta)
    (hgc : Gl X c) (hmc : X.mg c = none) (hvc : bootBuiltins c = some (.type cs)) (hc : cs ∈ ["bool", "int", "str", "tuple", "list", "dict"]) (hnc : c ≠ "__name__" := by decide) (hdc : (c == ("__debug__" : Str)) = false := by decide)
    (hs2 : starEach [.Name c p2] X.env = (false, eval (.Name c p2) X.env) :: starEach [] X.env := by rfl)
    (he : starEach [a, .Name c p2] X.env = (false, eval a X.env) :: starEach [.Name c p2] X.env := by rfl) (hpl : (backTo pos (starEach [.Name c p2] X.env)).any (·.1) = false := by rfl) :
    JE B X (.Call (.Name "isinstance" p) [a, .Name c p2] [] pos) (wIsi cs ta) := by
  have hb : PE X (.Name c p2) (tC (.ty cs)) := pe_bltn hgc hmc hvc (show Value.type cs = Value.type cs from rfl) hnc hdc
  refine pe_imp (pe_callB call_isi hg hm hv (pa_cons ha (pa_cons hb pa_nil hs2) he) (by decide) (by decide) he hpl) fun σ H Q ⟨st, S, Q0, he, hr, hs, h, im⟩ => ?_
  refine ⟨st, S, _, he, hr, hs, h, fun x S1 h1 H1 v e1 s1 r1 => ?_⟩
  obtain ⟨n, e, q⟩ := h1
  exact ⟨v, .ty cs, .type n, .type cs, isB n cs, rfl, .ty cs, ty_rep s1 r1 e, kit_one (ty_kinds e) hc, im _ _ q H1 _ e1 s1 (.bl _)⟩
end
end Wp

set_option Elab.async false
set_option linter.all false
set_option maxRecDepth 100000
/-! statements, loops, defs -/
namespace Wp
open PySem PySem.Spec PyProof.Rows L2
theorem finS_ext {K : PySem.W.Frag} {H H1 : Hp} {Q : L2.St → Hp → Prop} {t : Sl} {S : Sta} (e : Ext H H1) (h : finS K H Q t S) : finS K H1 Q t S := fun H' v e' s r => h H' v (e.trans e') s r
theorem ImD.ext {K : PySem.W.Frag} {H H1 : Hp} {D0 : WEnds} {D : Ends} (e : Ext H H1) (h : ImD D0 (finD K H D)) : ImD D0 (finD K H1 D) :=
  ⟨fun v S q => finS_ext e (h.nx v S q), fun v S q => fin_ext e (h.rt v S q), fun v S q => finS_ext e (h.bk v S q), fun v S q => finS_ext e (h.ct v S q)⟩
section
variable {B : Hp} {X : Cx} {st : Stmt} {rest : List Stmt} {t u : WS} {e : Expr} {te : WE} {pos : Pos}
/-! ### blocks and small statements -/
def wNext (D : WEnds) (σ : Sl) (S : Sta) : Prop := goS D.nx σ S
def wSeq (t u : WS) (D : WEnds) (σ : Sl) (S : Sta) : Prop := t { D with nx := u D } σ S
theorem jss_nil : JSs B X [] wNext := pss_imp pss_nil fun D σ H ⟨st, S, D0, he, hr, hs, h, im⟩ => im.nx _ _ h H σ (Ext.refl H) hs hr
theorem jss_cons (h1 : JS B X st t) (h2 : JSs B X rest u) : JSs B X (st :: rest) (wSeq t u) := pss_imp (pss_cons h1 h2) fun D σ H ⟨st, S, D0, he, hr, hs, h, im⟩ => by
  refine ⟨st, S, _, he, hr, hs, h, fun st1 S1 h1 H1 σ1 e1 s1 r1 => ?_, im.rt, im.bk, im.ct⟩
  exact ⟨st1, S1, D0, he.trans e1, r1, s1, h1, im.ext e1⟩
theorem jss_one (h1 : JS B X st t) : JSs B X [st] t := pss_one h1
def wBreak (D : WEnds) (σ : Sl) (S : Sta) : Prop := goS D.bk σ S
def wCont (D : WEnds) (σ : Sl) (S : Sta) : Prop := goS D.ct σ S
theorem js_pass : JS B X (.Pass pos) wNext := ps_imp ps_pass fun D σ H ⟨st, S, D0, he, hr, hs, h, im⟩ => im.nx _ _ h H σ (Ext.refl H) hs hr
theorem js_break : JS B X (.Break pos) wBreak := ps_imp ps_break fun D σ H ⟨st, S, D0, he, hr, hs, h, im⟩ => im.bk _ _ h H σ (Ext.refl H) hs hr
theorem js_continue : JS B X (.Continue pos) wCont := ps_imp ps_continue fun D σ H ⟨st, S, D0, he, hr, hs, h, im⟩ => im.ct _ _ h H σ (Ext.refl H) hs hr
theorem js_doc {x j pos'} : JS B X (.Expr (.Constant (.str x) j pos) pos') wNext := ps_imp ps_doc fun D σ H ⟨st, S, D0, he, hr, hs, h, im⟩ => im.nx _ _ h H σ (Ext.refl H) hs hr
def wDrop (te : WE) (D : WEnds) (σ : Sl) (S : Sta) : Prop := te σ S fun _ S1 => goS D.nx σ S1
theorem js_expr (he : JE B X e te) (hs : swapsWith e none pos.line X.env = pure false := by rfl) : JS B X (.Expr e pos) (wDrop te) := ps_imp (ps_expr he hs) fun D σ H ⟨st, S, D0, he, hr, hs, h, im⟩ =>
  ⟨st, S, _, he, hr, hs, h, fun x S1 h1 H1 v e1 s1 r1 => im.nx _ _ h1 H1 σ e1 s1 (hr.mono e1)⟩
def wRet (te : WE) (D : WEnds) (σ : Sl) (S : Sta) : Prop := te σ S D.rt
theorem js_ret (he : JE B X e te) : JS B X (.Return (some e) pos) (wRet te) := ps_imp (ps_ret he) fun D σ H ⟨st, S, D0, he, hr, hs, h, im⟩ => ⟨st, S, _, he, hr, hs, h, im.rt⟩
def wRetN (D : WEnds) (u1 : Sl) (S : Sta) : Prop := D.rt .non S
theorem js_retN : JS B X (.Return none pos) wRetN := ps_imp ps_retN fun D σ H ⟨st, S, D0, he, hr, hs, h, im⟩ => im.rt _ _ h H _ (Ext.refl H) hs .non
def wIfS (c : WT) (t u : WS) (D : WEnds) (σ : Sl) (S : Sta) : Prop := c σ S fun b S1 => wif b (t D σ S1) (u D σ S1)
theorem js_if {c : Expr} {a b : List Stmt} {tc : WT} (hc : JT B X c tc) (ha : JSs B X a t) (hb : JSs B X b u) : JS B X (.If c a b pos) (wIfS tc t u) := ps_imp (ps_if hc ha hb) fun D σ H ⟨st, S, D0, he, hr, hs, h, im⟩ => by
  refine ⟨st, S, _, he, hr, hs, h, fun k S1 h1 H1 e1 s1 => ?_⟩
  cases k with
  | true =>
    rw [if_pos rfl]
    exact ⟨st, S1, D0, he.trans e1, hr.mono e1, s1, h1, im.ext e1⟩
  | false =>
    rw [if_neg Bool.false_ne_true]
    exact ⟨st, S1, D0, he.trans e1, hr.mono e1, s1, h1, im.ext e1⟩
def wNever (u0 : WEnds) (u1 : Sl) (u2 : Sta) : Prop := False
theorem js_never : JS B X st wNever := ps_imp ps_never fun D σ H ⟨st, S, D0, he, hr, hs, h, im⟩ => h
theorem jss_never {sts : List Stmt} : JSs B X sts wNever := pss_imp pss_never fun D σ H ⟨st, S, D0, he, hr, hs, h, im⟩ => h

/-! ### targets; vs: the slots that a target writes -/
abbrev WG := T → Sl → Sta → (Sl → Sta → Prop) → Prop
abbrev WGs := List T → Sl → Sta → (Sl → Sta → Prop) → Prop
def finG (K : PySem.W.Frag) (vs : List Nat) (H : Hp) (σ : L2.St) (Q : L2.St → Hp → Prop) : Sl → Sta → Prop := fun st S => ∀ H' σ', Ext H H' → St K S H' → SlR K H' st σ' → wipe σ' vs = wipe σ vs → Q σ' H'
def LG (X : Cx) (vs : List Nat) (g : WG) : TG := fun v σ H Q => ∃ t st S Q0, Rep X.K H t v ∧ SlR X.K H st σ ∧ St X.K S H ∧ g t st S Q0 ∧ Im2 Q0 (finG X.K vs H σ Q)
def LGs (X : Cx) (vs : List Nat) (g : WGs) : TGs := fun v σ H Q => ∃ t st S Q0, Reps X.K H t v ∧ SlR X.K H st σ ∧ St X.K S H ∧ g t st S Q0 ∧ Im2 Q0 (finG X.K vs H σ Q)
def JG (X : Cx) (tg : Expr) (vs : List Nat) (g : WG) : Prop := PG X tg (LG X vs g)
def JGs (X : Cx) (tg : List Expr) (vs : List Nat) (g : WGs) : Prop := PGs X tg (LGs X vs g)
theorem pg_imp {e : Expr} {t t' : TG} (h : PG X e t) (k : ∀ v σ H Q, t' v σ H Q → t v σ H Q) : PG X e t' := ⟨fun pins s σ H v u Q I r q => h.run pins s σ H v u Q I r (k v σ H Q q)⟩
theorem pgs_imp {e : List Expr} {t t' : TGs} (h : PGs X e t) (k : ∀ v σ H Q, t' v σ H Q → t v σ H Q) : PGs X e t' := ⟨fun pins s σ H v u Q I r q => h.run pins s σ H v u Q I r (k v σ H Q q)⟩
theorem wipe_set_mem {v : Option V} {i : Nat} : ∀ {vs : List Nat} {σ : L2.St}, i ∈ vs → wipe (σ.set i v) vs = wipe σ vs
  | [], _, h => by cases h
  | w :: vs, σ, h => by
    unfold wipe
    by_cases hw : i = w
    · subst hw
      by_cases hm : i ∈ vs
      · rw [wipe_set_mem hm]
      · have z : ∀ {us : List Nat} {τ : L2.St}, i ∉ us → wipe (τ.set i v) us = (wipe τ us).set i v := fun {us τ} hu => by
          induction us generalizing τ with
          | nil => rfl
          | cons u us ih =>
            unfold wipe
            rw [ih (fun q => hu (List.mem_cons_of_mem _ q)), List.set_comm _ _ (fun q => hu (by rw [q]; exact List.mem_cons_self))]
        rw [z hm, List.set_set]
    · rw [wipe_set_mem ((List.mem_cons.mp h).resolve_left hw)]
def gNm (i : Nat) (v : T) (σ : Sl) (S : Sta) (Q : Sl → Sta → Prop) : Prop := Q (σ.set i (some v)) S
theorem jg_name {x : Str} {i : Nat} {vs : List Nat} (hN : X.N.Nodup) (hi : X.N[i]? = some x) (hx : Loc X.env.scope x) (hv : i ∈ vs) (hf : X.fn x = true ∨ X.env.scope.names.lookup x = some .local := by first | exact .inl rfl | exact .inr rfl | assumption) : JG X (.Name x pos) vs (gNm i) :=
  pg_imp (pg_name hN hi hx hf) fun v σ H Q ⟨t, st, S, Q0, rv, hr, hs, h, im⟩ => im _ _ h H _ (Ext.refl H) hs (hr.set rv i) (wipe_set_mem hv)
def gN0 (vs : List T) (σ : Sl) (S : Sta) (Q : Sl → Sta → Prop) : Prop := vs = [] ∧ Q σ S
def gC (t : WG) (u : WGs) (vs : List T) (σ : Sl) (S : Sta) (Q : Sl → Sta → Prop) : Prop := match vs with
  | v :: r => t v σ S fun σ' S' => u r σ' S' Q
  | [] => False
theorem jgs_nil {vs : List Nat} : JGs X [] vs gN0 := pgs_imp pgs_nil fun v σ H Q ⟨t, st, S, Q0, rv, hr, hs, h, im⟩ => by
  obtain ⟨e, h⟩ := h
  subst e
  cases rv
  exact ⟨rfl, im _ _ h H _ (Ext.refl H) hs hr rfl⟩
theorem jgs_cons {es : List Expr} {vs : List Nat} {t : WG} {u : WGs} (h1 : JG X e vs t) (h2 : JGs X es vs u)
    (hs : (assignEach (e :: es) X.env).map (·.2) = assign e X.env :: (assignEach es X.env).map (·.2) := by rfl) : JGs X (e :: es) vs (gC t u) := pgs_imp (pgs_cons h1 h2 hs) fun v σ H Q ⟨ts, st, S, Q0, rv, hr, hs, h, im⟩ => by
  cases ts with
  | nil => exact h.elim
  | cons x ts =>
    cases rv with
    | cons r1 r2 =>
      refine ⟨_, _, rfl, x, st, S, _, r1, hr, hs, h, fun st1 S1 h1 H1 σ1 e1 s1 q1 w1 => ?_⟩
      refine ⟨ts, st1, S1, Q0, Reps.mono e1 _ _ r2, q1, s1, h1, fun st2 S2 h2 H2 σ2 e2 s2 q2 w2 => ?_⟩
      exact im _ _ h2 H2 σ2 (e1.trans e2) s2 q2 (w2.trans w1)
def gTp (n : Nat) (u : WGs) (v : T) (σ : Sl) (S : Sta) (Q : Sl → Sta → Prop) : Prop := match v with
  | .tup ts => ts.length = n ∧ u ts σ S Q
  | _ => False
theorem jg_tup {es : List Expr} {k : Nat} {n : Nat} {vs : List Nat} {u : WGs} (hc : X.calm = true) (h : JGs X es vs u)
    (hn : (assignEach es X.env).length = n := by rfl) (hst : (assignEach es X.env).findIdx? (·.1) = none := by rfl) : JG X (.Tuple es k pos) vs (gTp n u) := pg_imp (pg_tup hc h hn hst) fun v σ H Q ⟨t, st, S, Q0, rv, hr, hs, h, im⟩ => by
  cases t with
  | tup ts =>
    cases rv with
    | @tup a xs _ g1 g2 => exact ⟨a, xs, rfl, g1, by rw [← g2.length]; exact h.1, ts, st, S, Q0, g2, hr, hs, h.2, im⟩
  | _ => exact h.elim
/-- o[i] = v -/
def rSet : T → T → T → Sta → (Sta → Prop) → Prop := fun o i v S Q => match o, i with
  | .ref p, .int k => ∃ xs, S p = some (.lst xs) ∧ ∃ j, ixN xs.length k = some j ∧ Q (upS S p (.lst (xs.set j v)))
  | _, _ => False
def L3t (K : PySem.W.Frag) (r : T → T → T → Sta → (Sta → Prop) → Prop) : TSet := fun o i v H Q => ∃ a b c S Q0, Rep K H a o ∧ Rep K H b i ∧ Rep K H c v ∧ St K S H ∧ r a b c S Q0 ∧ ∀ S', Q0 S' → ∀ H', Ext H H' → St K S' H' → Q H'
theorem set_T : PSet X (L3t X.K rSet) := by
  intro pins s σ H o i v ov iv u Q I ro ri rv ⟨a, b, c, S, Q0, ra, rb, rc, hs, q, im⟩
  cases a with
  | ref p =>
    cases b with
    | int k =>
      obtain ⟨xs, e1, j, e2, q⟩ := q
      cases ra
      cases rb
      obtain ⟨ys, h1, h2⟩ := hs p _ e1
      obtain ⟨e3, s3⟩ := hs.setL h1 (h2.set rc j)
      exact set_list pins s σ H _ _ v ov iv u Q I ro ri rv ⟨p, ys, k, j, rfl, rfl, h1, by rw [← h2.length]; exact e2, im _ q _ e3 s3⟩
    | _ => exact q.elim
  | _ => exact q.elim
def gIx (to ti : WE) (v : T) (σ : Sl) (S : Sta) (Q : Sl → Sta → Prop) : Prop := to σ S fun o S1 => ti σ S1 fun i S2 => rSet o i v S2 fun S3 => Q σ S3
/-- only where the entry's Ext is at hand: a statement's target -/
def LG2 (B : Hp) (X : Cx) (g : WG) : TG := fun v σ H Q => ∃ t st S Q0, Ext B H ∧ Rep X.K H t v ∧ SlR X.K H st σ ∧ St X.K S H ∧ g t st S Q0 ∧ Im2 Q0 (finS X.K H Q)
def JG2 (B : Hp) (X : Cx) (tg : Expr) (g : WG) : Prop := PG X tg (LG2 B X g)
theorem JG.two {tg : Expr} {vs : List Nat} {g : WG} (h : JG X tg vs g) : JG2 B X tg g := pg_imp h fun v σ H Q ⟨t, st, S, Q0, he, rv, hr, hs, h, im⟩ => ⟨t, st, S, Q0, rv, hr, hs, h, fun st1 S1 h1 H1 σ1 e1 s1 r1 _ => im _ _ h1 H1 σ1 e1 s1 r1⟩
theorem jg_ix {o i : Expr} {to ti : WE} (ho : JE B X o to) (hi : JE B X i ti)
    (ha : ∀ v, assign (.Subscript o i pos) X.env v = (do
      let ov ← holding [v] (eval o X.env)
      let iv ← holding [v, ov] (eval i X.env)
      standAt pos
      holding [v, ov, iv] (setItem ov iv v)
      release [v, ov, iv] []) := by intro _; rfl) : JG2 B X (.Subscript o i pos) (gIx to ti) := pg_imp (pg_sub ho hi set_T ha) fun v σ H Q ⟨t, st, S, Q0, he, rv, hr, hs, h, im⟩ => by
  refine ⟨st, S, _, he, hr, hs, h, fun x S1 h1 H1 v1 e1 s1 r1 => ?_⟩
  refine ⟨st, S1, _, he.trans e1, hr.mono e1, s1, h1, fun y S2 h2 H2 v2 e2 s2 r2 => ?_⟩
  exact ⟨x, y, t, S2, _, Rep.mono e2 _ _ r1, r2, Rep.mono (e1.trans e2) _ _ rv, s2, h2, fun S3 q H3 e3 s3 => im _ _ q H3 σ (e1.trans (e2.trans e3)) s3 (hr.mono (e1.trans (e2.trans e3)))⟩
def wAsg (te : WE) (g : WG) (D : WEnds) (σ : Sl) (S : Sta) : Prop := te σ S fun x S1 => g x σ S1 (goS D.nx)
theorem js_asg {tg : Expr} {g : WG} (he : JE B X e te) (hg : JG2 B X tg g) (hs : swapsWithSole [tg] e pos.line X.env = pure false := by rfl) (hw : swappedStores [tg] e X.env = pure none := by rfl)
    (h1 : (assignEach [tg] X.env).map (·.2) = [assign tg X.env] := by rfl) : JS B X (.Assign [tg] e pos) (wAsg te g) := ps_imp (ps_asg he hg hs hw h1) fun D σ H ⟨st, S, D0, he, hr, hs, h, im⟩ => by
  refine ⟨st, S, _, he, hr, hs, h, fun x S1 h1 H1 v1 e1 s1 r1 => ?_⟩
  exact ⟨x, st, S1, D0.nx, he.trans e1, r1, hr.mono e1, s1, h1, fun a S2 q => finS_ext e1 (im.nx a S2 q)⟩
def wSet (i : Nat) (te : WE) (D : WEnds) (σ : Sl) (S : Sta) : Prop := te σ S fun x S1 => goS D.nx (σ.set i (some x)) S1
theorem js_set {i : Nat} {x : Str} {pos' : Pos} (hN : X.N.Nodup) (hi : X.N[i]? = some x) (hx : Loc X.env.scope x) (he : JE B X e te) (hs : swapsWith e (some (.Name x pos')) pos.line X.env = pure false := by rfl) (hf : X.fn x = true ∨ X.env.scope.names.lookup x = some .local := by first | exact .inl rfl | exact .inr rfl | assumption) :
    JS B X (.Assign [.Name x pos'] e pos) (wSet i te) := ps_imp (ps_set hN hi hx he hs hf) fun D σ H ⟨st, S, D0, he, hr, hs, h, im⟩ => by
  refine ⟨st, S, _, he, hr, hs, h, fun x S1 h1 H1 v1 e1 s1 r1 => ?_⟩
  exact im.nx _ _ h1 H1 _ e1 s1 ((hr.mono e1).set r1 i)
/-- x op= e, a name -/
def wAug (i : Nat) (r : R3) (te : WE) (D : WEnds) (σ : Sl) (S : Sta) : Prop := ∃ x, σ[i]? = some (some x) ∧ te σ S fun y S1 => r x y S1 fun z S2 => goS D.nx (σ.set i (some z)) S2
theorem js_aug {i : Nat} {x : Str} {op : Operator} {r : R3} {pos' : Pos} (hN : X.N.Nodup) (hi : X.N[i]? = some x) (hx : Loc X.env.scope x) (he : JE B X e te) (ho : OpT X (inplaceOp op) r) (hf : X.fn x = true ∨ X.env.scope.names.lookup x = some .local := by first | exact .inl rfl | exact .inr rfl | assumption) :
    JS B X (.AugAssign (.Name x pos') op e pos) (wAug i r te) := ps_imp (ps_aug (ti := L3 X.K r) hN hi hx he (fun pins s σ H x y v u Q I rx ry q => ho pins s σ H x y v u Q I rx ry q) hf) fun D σ H ⟨st, S, D0, he, hr, hs, h, im⟩ => by
  obtain ⟨y, e1, h⟩ := h
  obtain ⟨v, g1, g2⟩ := hr.2 i y e1
  refine ⟨v, g1, st, S, _, he, hr, hs, h, fun x S1 h1 H1 v1 e1 s1 r1 => ?_⟩
  exact ⟨y, x, S1, _, Rep.mono e1 _ _ g2, r1, s1, h1, fun z S2 q H2 w e2 s2 r2 => im.nx _ _ q H2 _ (e1.trans e2) s2 ((hr.mono (e1.trans e2)).set r2 i)⟩

/-! ### while -/
def wWhile (c : WT) (tb : WS) (D : WEnds) (σ : Sl) (S : Sta) : Prop := ∃ W : Nat → Sl → Sta → Prop, (∃ m, W m σ S) ∧ ∀ m σ S, W m σ S →
  c σ S fun b S1 => wif b (tb { D with nx := fun σ' S' => ∃ m', m' < m ∧ W m' σ' S', ct := fun σ' S' => ∃ m', m' < m ∧ W m' σ' S', bk := D.nx } σ S1) (D.nx σ S1)
theorem js_while {c : Expr} {body : List Stmt} {tc : WT} {tb : WS} (hp : PassesOwn (model X.prog X.w) X.A X.env X.xe) (hc : JT B X c tc) (hb : JSs B X body tb) : JS B X (.While c body [] pos) (wWhile tc tb) :=
  ps_imp (ps_while hp hc hb) fun D σ H ⟨st, S, D0, he, hr, hs, h, im⟩ => by
    obtain ⟨W, ⟨m, w0⟩, turn⟩ := h
    refine ⟨fun m σ' H' => ∃ st' S', Ext H H' ∧ SlR X.K H' st' σ' ∧ St X.K S' H' ∧ W m st' S', ⟨m, st, S, Ext.refl H, hr, hs, w0⟩, fun m σ1 H1 ⟨st1, S1, e1, r1, s1, w1⟩ => ?_⟩
    refine ⟨st1, S1, _, he.trans e1, r1, s1, turn m st1 S1 w1, fun k S2 h2 H2 e2 s2 => ?_⟩
    cases k with
    | true =>
      rw [if_pos rfl]
      have nx : ∀ st3 S3, (∃ m', m' < m ∧ W m' st3 S3) → finS X.K H2 (fun σ' H' => ∃ m', m' < m ∧ ∃ st' S', Ext H H' ∧ SlR X.K H' st' σ' ∧ St X.K S' H' ∧ W m' st' S') st3 S3 := fun st3 S3 ⟨m', hm, w3⟩ H3 σ3 e3 s3 r3 =>
        ⟨m', hm, st3, S3, e1.trans (e2.trans e3), r3, s3, w3⟩
      refine ⟨_, fun σ' H' q => q, st1, S2, _, he.trans (e1.trans e2), r1.mono e2, s2, h2, ⟨nx, fun v S3 q => fin_ext (e1.trans e2) (im.rt v S3 q), fun a S3 q => finS_ext (e1.trans e2) (im.nx a S3 q), nx⟩⟩
    | false =>
      rw [if_neg Bool.false_ne_true]
      exact im.nx _ _ h2 H2 _ (e1.trans e2) s2 (r1.mono e2)

/-! ### what a loop walks: its items, and what must stay true of the state -/
abbrev WI := Sl → Sta → (List T → (Sta → Prop) → Sta → Prop) → Prop
/-- the iterator yields just these -/
def Yields (K : PySem.W.Frag) (xs : List T) (stb : Sta → Prop) (H1 : Hp) (J : It) : Prop :=
  ∀ i S H, Ext H1 H → St K S H → stb S → (i < xs.length → J.go i H) ∧ (xs.length ≤ i → J.stop i H) ∧ ∀ x H', J.yld i H x H' → i < xs.length → Ext H H' ∧ St K S H' ∧ (∀ st σ, SlR K H st σ → SlR K H' st σ) ∧ ∃ t, xs[i]? = some t ∧ Rep K H' t x
def LI (B : Hp) (X : Cx) (w : WI) : TI := fun σ H R => ∃ st S Q0, Ext B H ∧ SlR X.K H st σ ∧ St X.K S H ∧ w st S Q0 ∧ ∀ xs stb S1, Q0 xs stb S1 → ∀ H1, Ext H H1 → St X.K S1 H1 → ∀ J, Yields X.K xs stb H1 J → R J H1
def JI (B : Hp) (X : Cx) (tg iter : Expr) (w : WI) : Prop := PI X tg iter (LI B X w)
theorem pi_imp {tg e : Expr} {t t' : TI} (h : PI X tg e t) (k : ∀ σ H Q, t' σ H Q → t σ H Q) : PI X tg e t' := ⟨fun pins s σ H R I q => h.run pins s σ H R I (k σ H R q)⟩
def iTupW (te : WE) (σ : Sl) (S : Sta) (R : List T → (Sta → Prop) → Sta → Prop) : Prop := te σ S fun x S1 => match x with
  | .tup ts => R ts (fun _ => True) S1
  | _ => False
theorem ji_tup {tg : Expr} (he : JE B X e te) : JI B X tg e (iTupW te) := pi_imp (pi_tup he) fun σ H R ⟨st, S, Q0, he, hr, hs, h, im⟩ => by
  refine ⟨st, S, _, he, hr, hs, h, fun x S1 h1 H1 v1 e1 s1 r1 => ?_⟩
  cases x with
  | tup ts =>
    cases r1 with
    | @tup a xs _ g1 g2 =>
      refine ⟨a, rfl, ⟨xs, g1⟩, im _ _ _ h1 H1 e1 s1 _ fun i S2 H2 e2 s2 _ => ⟨fun hi => ?_, fun hi => ⟨xs, e2.sqT g1, by rw [← g2.length]; exact hi⟩, fun x H' y hi => ?_⟩⟩
      · obtain ⟨v, g3, _⟩ := g2.get (List.getElem?_eq_getElem hi)
        exact ⟨xs, v, e2.sqT g1, g3⟩
      · obtain ⟨eH, y⟩ := y
        subst eH
        obtain ⟨v, g3, g4⟩ := g2.get (List.getElem?_eq_getElem hi)
        have ev : x = v := Option.some.inj ((y xs (e2.sqT g1)).symm.trans g3)
        subst ev
        exact ⟨Ext.refl _, s2, fun _ _ q => q, _, List.getElem?_eq_getElem hi, Rep.mono e2 _ _ g4⟩
  | _ => exact h1.elim
/-- a list: it must stand as it is through the loop -/
def iLstW (te : WE) (σ : Sl) (S : Sta) (R : List T → (Sta → Prop) → Sta → Prop) : Prop := te σ S fun x S1 => match x with
  | .fl ts => R ts (fun _ => True) S1
  | .ref p => ∃ ts, S1 p = some (.lst ts) ∧ R ts (fun S' => S' p = some (.lst ts)) S1
  | _ => False
theorem ji_lst {tg : Expr} (he : JE B X e te) : JI B X tg e (iLstW te) := pi_imp (pi_list he) fun σ H R ⟨st, S, Q0, he, hr, hs, h, im⟩ => by
  refine ⟨st, S, _, he, hr, hs, h, fun x S1 h1 H1 v1 e1 s1 r1 => ?_⟩
  cases x with
  | fl ts =>
    cases r1 with
    | @fl a xs _ g1 g2 =>
      refine ⟨a, rfl, ⟨xs, g1.sq⟩, im _ _ _ h1 H1 e1 s1 _ fun i S2 H2 e2 s2 _ => ⟨fun hi => ?_, fun hi => ⟨xs, (e2.fzL g1).sq, by rw [← g2.length]; exact hi⟩, fun x H' y hi => ?_⟩⟩
      · obtain ⟨v, g3, _⟩ := g2.get (List.getElem?_eq_getElem hi)
        exact ⟨xs, v, (e2.fzL g1).sq, g3⟩
      · obtain ⟨eH, y⟩ := y
        subst eH
        obtain ⟨v, g3, g4⟩ := g2.get (List.getElem?_eq_getElem hi)
        have ev : x = v := Option.some.inj ((y xs ((e2.fzL g1).sq)).symm.trans g3)
        subst ev
        exact ⟨Ext.refl _, s2, fun _ _ q => q, _, List.getElem?_eq_getElem hi, Rep.mono e2 _ _ g4⟩
  | ref p =>
    obtain ⟨ts, eS, h1⟩ := h1
    cases r1
    obtain ⟨xs0, g10, g20⟩ := s1 p _ eS
    refine ⟨p, rfl, ⟨xs0, .inl (.inl g10)⟩, im _ _ _ h1 H1 e1 s1 _ fun i S2 H2 e2 s2 stb => ?_⟩
    obtain ⟨xs, g1, g2⟩ := s2 p _ stb
    refine ⟨fun hi => ?_, fun hi => ⟨xs, .inl (.inl g1), by rw [← g2.length]; exact hi⟩, fun x H' y hi => ?_⟩
    · obtain ⟨v, g3, _⟩ := g2.get (List.getElem?_eq_getElem hi)
      exact ⟨xs, v, .inl (.inl g1), g3⟩
    · obtain ⟨eH, y⟩ := y
      subst eH
      obtain ⟨v, g3, g4⟩ := g2.get (List.getElem?_eq_getElem hi)
      have ev : x = v := Option.some.inj ((y xs (.inl (.inl g1))).symm.trans g3)
      subst ev
      exact ⟨Ext.refl _, s2, fun _ _ q => q, _, List.getElem?_eq_getElem hi, g4⟩
  | _ => exact h1.elim
/-- range -/
def rangeT (lo : Int) (n : Nat) : List T := (List.range n).map fun (i : Nat) => T.int (lo + (i : Int))
theorem range_yields {K : PySem.W.Frag} {H : Hp} (lo : Int) (n : Nat) : Yields K (rangeT lo n) (fun _ => True) H (Itr lo n) := fun i S H1 e1 s1 _ => by
  have hl : (rangeT lo n).length = n := by unfold rangeT; rw [List.length_map, List.length_range]
  refine ⟨fun hi => by rw [hl] at hi; exact hi, fun hi => by rw [hl] at hi; exact hi, fun x H' y hi => ?_⟩
  obtain ⟨eH, ex⟩ := y
  subst eH ex
  rw [hl] at hi
  refine ⟨Ext.refl _, s1, fun _ _ q => q, .int (lo + (i : Int)), ?_, .int _⟩
  unfold rangeT
  rw [List.getElem?_map, List.getElem?_range hi]
  rfl
def iRg1 (ta : WA) (σ : Sl) (S : Sta) (R : List T → (Sta → Prop) → Sta → Prop) : Prop := ta σ S fun xs S1 => match xs with
  | [.int j] => -(2 ^ 62) ≤ j ∧ j < 2 ^ 62 ∧ R (rangeT 0 j.toNat) (fun _ => True) S1
  | _ => False
def iRg2 (ta : WA) (σ : Sl) (S : Sta) (R : List T → (Sta → Prop) → Sta → Prop) : Prop := ta σ S fun xs S1 => match xs with
  | [.int i, .int j] => (-(2 ^ 62) ≤ i ∧ i < 2 ^ 62 ∧ -(2 ^ 62) ≤ j ∧ j < 2 ^ 62) ∧ R (rangeT i (j - i).toNat) (fun _ => True) S1
  | _ => False
theorem ji_rg1 {tg a : Expr} {ta : WA} {p : Pos} (hg : Gl X "range") (hm : X.mg "range" = none) (ha : JA B X [a] ta) (hs : starEach [a] X.env = [(false, eval a X.env)] := by rfl) : JI B X tg (.Call (.Name "range" p) [a] [] pos) (iRg1 ta) :=
  pi_imp (pi_range1 hg hm ha hs) fun σ H R ⟨st, S, Q0, he, hr, hs, h, im⟩ => by
    refine ⟨st, S, _, he, hr, hs, h, fun xs S1 h1 H1 v1 e1 s1 r1 => ?_⟩
    match xs, h1 with
    | [.int j], h1 =>
      obtain ⟨v, rfl, r2⟩ := r1.one
      cases r2
      exact ⟨j, rfl, h1.1, h1.2.1, im _ _ _ h1.2.2 H1 e1 s1 _ (range_yields 0 j.toNat)⟩
theorem ji_rg2 {tg a b : Expr} {ta : WA} {p : Pos} (hg : Gl X "range") (hm : X.mg "range" = none) (ha : JA B X [a, b] ta) (hs : starEach [a, b] X.env = [(false, eval a X.env), (false, eval b X.env)] := by rfl) (hs2 : starEach [b] X.env = [(false, eval b X.env)] := by rfl) : JI B X tg (.Call (.Name "range" p) [a, b] [] pos) (iRg2 ta) :=
  pi_imp (pi_range2 hg hm ha hs hs2) fun σ H R ⟨st, S, Q0, he, hr, hs, h, im⟩ => by
    refine ⟨st, S, _, he, hr, hs, h, fun xs S1 h1 H1 v1 e1 s1 r1 => ?_⟩
    match xs, h1 with
    | [.int i, .int j], h1 =>
      obtain ⟨v, w, rfl, r2, r3⟩ := r1.two
      cases r2
      cases r3
      exact ⟨i, j, rfl, h1.1, im _ _ _ h1.2 H1 e1 s1 _ (range_yields i (j - i).toNat)⟩
/-- .. -/
def loopW (g : WG) (tb : WS) (stb : Sta → Prop) (D : WEnds) : List T → Sl → Sta → Prop
  | [], σ, S => stb S ∧ D.nx σ S
  | x :: xs, σ, S => stb S ∧ g x σ S fun σ2 S2 => tb { D with nx := loopW g tb stb D xs, ct := loopW g tb stb D xs, bk := D.nx } σ2 S2
def wFor (wi : WI) (g : WG) (tb : WS) (D : WEnds) (σ : Sl) (S : Sta) : Prop := wi σ S fun xs stb S1 => loopW g tb stb D xs σ S1
theorem loopW_stb {g : WG} {tb : WS} {stb : Sta → Prop} {D : WEnds} {xs : List T} {σ : Sl} {S : Sta} (h : loopW g tb stb D xs σ S) : stb S := by
  cases xs <;> exact h.1
theorem js_for {tg iter : Expr} {body : List Stmt} {wi : WI} {g : WG} {vs : List Nat} {tb : WS} (hp : PassesOwn (model X.prog X.w) X.A X.env X.xe) (hc : X.calm = true) (hi : JI B X tg iter wi) (hg : JG X tg vs g) (hb : JSs B X body tb)
    (hs : ∀ x, foldedSetIterable iter X.env x = pure x := by intro _; rfl) : JS B X (.For tg iter body [] pos) (wFor wi g tb) := ps_imp (ps_for hp hc hi hg hb hs) fun D σ H ⟨st, S, D0, he, hr, hs, h, im⟩ => by
  refine ⟨st, S, _, he, hr, hs, h, fun xs stb S1 h1 H1 e1 s1 J yl => ?_⟩
  refine ⟨fun i m σ' H' => m = xs.length - i ∧ i ≤ xs.length ∧ ∃ st' S', Ext H1 H' ∧ SlR X.K H' st' σ' ∧ St X.K S' H' ∧ loopW g tb stb D0 (xs.drop i) st' S', ⟨xs.length, by omega, Nat.zero_le _, st, S1, Ext.refl _, hr.mono e1, s1, h1⟩, fun i m σ2 H2 hW => ?_⟩
  obtain ⟨hm, hi, st2, S2, e2, r2, s2, h2⟩ := hW
  obtain ⟨y1, y2, y3⟩ := yl i S2 H2 e2 s2 (loopW_stb h2)
  by_cases hlt : i < xs.length
  · refine .inr ⟨y1 hlt, fun σ' H' => ∃ st' S', Ext H1 H' ∧ SlR X.K H' st' σ' ∧ St X.K S' H' ∧ loopW g tb stb D0 (xs.drop (i + 1)) st' S', fun σ' H' q => ⟨m - 1, by omega, by omega, by omega, q⟩, fun x H3 hy => ?_⟩
    obtain ⟨e3, s3, sl3, t, et, rt⟩ := y3 x H3 hy hlt
    have r3 := sl3 _ _ r2
    rw [List.drop_eq_getElem_cons hlt] at h2
    have et' : xs[i] = t := by rw [List.getElem?_eq_getElem hlt] at et; exact Option.some.inj et
    rw [et'] at h2
    refine ⟨t, st2, S2, _, rt, r3, s3, h2.2, fun st4 S4 h4 H4 σ4 e4 s4 r4 _ => ?_⟩
    have eb : Ext H1 H4 := e2.trans (e3.trans e4)
    have nx : ∀ st5 S5, loopW g tb stb D0 (xs.drop (i + 1)) st5 S5 → finS X.K H4 (fun σ' H' => ∃ st' S', Ext H1 H' ∧ SlR X.K H' st' σ' ∧ St X.K S' H' ∧ loopW g tb stb D0 (xs.drop (i + 1)) st' S') st5 S5 := fun st5 S5 h5 H5 σ5 e5 s5 r5 => ⟨st5, S5, eb.trans e5, r5, s5, h5⟩
    exact ⟨st4, S4, _, he.trans (e1.trans eb), r4, s4, h4, ⟨nx, fun v S5 q => fin_ext (e1.trans eb) (im.rt v S5 q), fun a S5 q => finS_ext (e1.trans eb) (im.nx a S5 q), nx⟩⟩
  · have ei : i = xs.length := by omega
    subst ei
    rw [List.drop_length] at h2
    exact .inl ⟨y2 (Nat.le_refl _), im.nx _ _ h2.2 H2 σ2 (e1.trans e2) s2 r2⟩
end
end Wp

set_option Elab.async false
set_option linter.all false
set_option maxRecDepth 100000
/-! comprehensions, calls, defs, a law's end -/
namespace Wp
open PySem PySem.Spec PyProof.Rows L2
def wipeT (σ : Sl) : List Nat → Sl
  | [] => σ
  | v :: vs => (wipeT σ vs).set v none
theorem SlR.wipe {K : PySem.W.Frag} {H : Hp} {st : Sl} {σ : L2.St} (h : SlR K H st σ) : ∀ vs : List Nat, SlR K H (wipeT st vs) (L2.wipe σ vs)
  | [] => h
  | v :: vs => by
    have ih := SlR.wipe h vs
    unfold wipeT L2.wipe
    refine ⟨by rw [List.length_set, List.length_set]; exact ih.1, fun j u q => ?_⟩
    by_cases hj : v = j
    · subst hj
      by_cases hl : v < (wipeT st vs).length
      · rw [List.getElem?_set_self hl] at q
        cases q
      · rw [List.getElem?_eq_none (by rw [List.length_set]; omega)] at q
        cases q
    · rw [List.getElem?_set_ne hj] at q
      obtain ⟨w, e1, e2⟩ := ih.2 j u q
      exact ⟨w, by rw [List.getElem?_set_ne hj]; exact e1, e2⟩
section
variable {B : Hp} {X : Cx} {pos : Pos}
def wYes (u0 : Sl) (S : Sta) (Q : Bool → Sta → Prop) : Prop := Q true S
def JTs (B : Hp) (X : Cx) (ifs : List Expr) (t : WT) : Prop := PTs X ifs (LT B X t)
theorem pts_imp {ifs : List Expr} {t t' : TT} (h : PTs X ifs t) (k : ∀ σ H Q, t' σ H Q → t σ H Q) : PTs X ifs t' := ⟨fun pins s σ H Q I q => h.run pins s σ H Q I (k σ H Q q)⟩
theorem jts_nil : JTs B X [] wYes := pts_imp pts_nil fun σ H Q ⟨st, S, Q0, he, hr, hs, h, im⟩ => im _ _ h H (Ext.refl H) hs
theorem jts_one {c : Expr} {t : WT} (h : JT B X c t) : JTs B X [c] t := pts_one h
def compW (g : WG) (tt : WT) (te : WE) (stb : Sta → Prop) (σ : Sl) (D : Addr) (Q : T → Sta → Prop) : List T → Sta → Prop
  | [], S => stb S ∧ Q (.ref D) S
  | x :: xs, S => stb S ∧ g x σ S fun σ2 S2 => tt σ2 S2 fun b S3 => wif b (te σ2 S3 fun y S4 => ∃ acc, S4 D = some (.lst acc) ∧ acc.length < sizeLine ∧ compW g tt te stb σ D Q xs (upS S4 D (.lst (acc ++ [y])))) (compW g tt te stb σ D Q xs S3)
def wLc (wi : WI) (g : WG) (tt : WT) (te : WE) (vs : List Nat) (σ : Sl) (S : Sta) (Q : T → Sta → Prop) : Prop := wi σ S fun xs stb S1 => ∀ D, S1 D = none → compW g tt te stb (wipeT σ vs) D Q xs (upS S1 D (.lst []))
theorem compW_stb {g : WG} {tt : WT} {te : WE} {stb : Sta → Prop} {σ : Sl} {D : Addr} {Q : T → Sta → Prop} {xs : List T} {S : Sta} (h : compW g tt te stb σ D Q xs S) : stb S := by
  cases xs <;> exact h.1
theorem le_lc {wi : WI} {g : WG} {tt : WT} {te : WE} {vs : List Nat} {σ : L2.St} {H : Hp} {Q : VK} (h : LE B X (wLc wi g tt te vs) σ H Q) : tLc (LI B X wi) (LG X vs g) (LT B X tt) (LE B X te) vs σ H Q := by
  obtain ⟨st, S, Q0, he, hr, hs, h, im⟩ := h
  refine ⟨st, S, _, he, hr, hs, h, fun xs stb S1 h1 H1 e1 s1 J yl => ?_⟩
  intro D hD
  obtain ⟨eD, sD⟩ := s1.newL (ts := []) hD .nil
  refine ⟨fun i m H' => m = xs.length - i ∧ i ≤ xs.length ∧ ∃ S', Ext H1 H' ∧ St X.K S' H' ∧ compW g tt te stb (wipeT st vs) D Q0 (xs.drop i) S', ⟨xs.length, by omega, Nat.zero_le _, _, eD, sD, h1 D (s1.free hD)⟩, fun i m H2 hW => ?_⟩
  obtain ⟨hm, hi, S2, e2, s2, h2⟩ := hW
  obtain ⟨y1, y2, y3⟩ := yl i S2 H2 e2 s2 (compW_stb h2)
  by_cases hlt : i < xs.length
  · refine .inr ⟨y1 hlt, fun H' => ∃ S', Ext H1 H' ∧ St X.K S' H' ∧ compW g tt te stb (wipeT st vs) D Q0 (xs.drop (i + 1)) S', fun H' q => ⟨m - 1, by omega, by omega, by omega, q⟩, fun x H3 hy => ?_⟩
    obtain ⟨e3, s3, sl3, t, et, rt⟩ := y3 x H3 hy hlt
    have r2 : SlR X.K H2 (wipeT st vs) (L2.wipe σ vs) := ((hr.mono e1).mono e2).wipe vs
    have r3 := sl3 _ _ r2
    rw [List.drop_eq_getElem_cons hlt] at h2
    have et' : xs[i] = t := by rw [List.getElem?_eq_getElem hlt] at et; exact Option.some.inj et
    rw [et'] at h2
    refine ⟨t, wipeT st vs, S2, _, rt, r3, s3, h2.2, fun st4 S4 h4 H4 σ4 e4 s4 r4 w4 => ?_⟩
    have ww : L2.wipe (L2.wipe σ vs) vs = L2.wipe σ vs := by
      have key : ∀ (us ws : List Nat) (τ : L2.St), (∀ i ∈ us, i ∈ ws) → L2.wipe (L2.wipe τ ws) us = L2.wipe τ ws := fun us => by
        induction us with
        | nil => intro ws τ _; rfl
        | cons u us ih =>
          intro ws τ hu
          show (L2.wipe (L2.wipe τ ws) us).set u none = L2.wipe τ ws
          rw [ih ws τ fun i hi => hu i (List.mem_cons_of_mem _ hi)]
          have hmem := hu u List.mem_cons_self
          have set_none : ∀ (ws : List Nat), u ∈ ws → (L2.wipe τ ws).set u none = L2.wipe τ ws := fun ws => by
            induction ws with
            | nil => intro h; cases h
            | cons w ws ih2 =>
              intro h
              show ((L2.wipe τ ws).set w none).set u none = (L2.wipe τ ws).set w none
              by_cases hw : u = w
              · subst hw; rw [List.set_set]
              · rw [List.set_comm _ _ (fun z => hw z.symm), ih2 ((List.mem_cons.mp h).resolve_left hw)]
          exact set_none ws hmem
      exact key vs vs σ fun i hi => hi
    refine ⟨w4.trans ww, ?_⟩
    have eb : Ext H1 H4 := e2.trans (e3.trans e4)
    refine ⟨st4, S4, _, he.trans (e1.trans eb), r4, s4, h4, fun b S5 h5 H5 e5 s5 => ?_⟩
    cases b with
    | true =>
      rw [if_pos rfl]
      refine ⟨st4, S5, _, he.trans (e1.trans (eb.trans e5)), r4.mono e5, s5, h5, fun y S6 h6 H6 v6 e6 s6 r6 => ?_⟩
      obtain ⟨acc, ea, hl, h6⟩ := h6
      obtain ⟨ys, g1, g2⟩ := s6 D _ ea
      obtain ⟨e7, s7⟩ := s6.setL g1 (Reps.append g2 (.cons r6 .nil))
      exact ⟨ys, g1, by rw [← g2.length]; exact hl, _, (eb.trans e5).trans (e6.trans e7), s7, h6⟩
    | false =>
      rw [if_neg Bool.false_ne_true]
      exact ⟨S5, eb.trans e5, s5, h5⟩
  · have ei : i = xs.length := by omega
    subst ei
    rw [List.drop_length] at h2
    exact .inl ⟨y2 (Nat.le_refl _), im _ _ h2.2 H2 _ (e1.trans e2) s2 (.ref D)⟩
theorem j_lc {elt tg iter : Expr} {ifs : List Expr} {scope : Scope} {own : List (Str × Nat)} {wi : WI} {g : WG} {tt : WT} {te : WE} (hc : X.calm = true) (hN : X.N.Nodup) (hi : JI B X tg iter wi) (ok : BlkOk X.N X.env.scope scope own)
    (hg : ∀ (s : Shared) (H : Hp) (C : Addr) (cl : List (Str × Addr)) (fp : List Addr), JG (X.blk s H scope (compEnvC scope cl C X.env) fp) tg (own.map (·.2)) g) (ht : ∀ (s : Shared) (H : Hp) (C : Addr) (cl : List (Str × Addr)) (fp : List Addr), JTs B (X.blk s H scope (compEnvC scope cl C X.env) fp) ifs tt)
    (he : ∀ (s : Shared) (H : Hp) (C : Addr) (cl : List (Str × Addr)) (fp : List Addr), JE B (X.blk s H scope (compEnvC scope cl C X.env) fp) elt te) (hs : ∀ x, foldedSetIterable iter X.env x = pure x := by intro _; rfl) :
    JE B X (.ListComp elt [⟨tg, iter, ifs, 0⟩] scope pos) (wLc wi g tt te (own.map (·.2))) := pe_imp (pe_lc (g := LG X (own.map fun (p : Str × Nat) => p.2) g) (tt := LT B X tt) (te := LE B X te) hc hN hi ok (fun s H C cl fp => hg s H C cl fp) (fun s H C cl fp => ht s H C cl fp) (fun s H C cl fp => he s H C cl fp) hs) fun σ H Q h => le_lc h
/-- name = [..] on one line -/
theorem js_setLc {i : Nat} {y : Str} {py : Pos} {elt tg iter : Expr} {ifs : List Expr} {scope : Scope} {own : List (Str × Nat)} {spos : Pos} {wi : WI} {g : WG} {tt : WT} {te : WE} (hc : X.calm = true) (hN : X.N.Nodup) (hy : X.N[i]? = some y) (hyl : X.env.scope.names.lookup y = some .local)
    (hsw : swapsWith (.ListComp elt [⟨tg, iter, ifs, 0⟩] scope pos) (some (.Name y py)) spos.line X.env = pure true) (hi : JI B X tg iter wi) (ok : BlkOk X.N X.env.scope scope own)
    (hg : ∀ (s : Shared) (H : Hp) (C : Addr) (cl : List (Str × Addr)) (fp : List Addr), JG (X.blk s H scope (compEnvC scope cl C X.env) fp) tg (own.map (·.2)) g) (ht : ∀ (s : Shared) (H : Hp) (C : Addr) (cl : List (Str × Addr)) (fp : List Addr), JTs B (X.blk s H scope (compEnvC scope cl C X.env) fp) ifs tt)
    (he : ∀ (s : Shared) (H : Hp) (C : Addr) (cl : List (Str × Addr)) (fp : List Addr), JE B (X.blk s H scope (compEnvC scope cl C X.env) fp) elt te) (hs : ∀ x, foldedSetIterable iter X.env x = pure x := by intro _; rfl) :
    JS B X (.Assign [.Name y py] (.ListComp elt [⟨tg, iter, ifs, 0⟩] scope pos) spos) (wSet i (wLc wi g tt te (own.map (·.2)))) := ps_imp (ps_setLc (g := LG X (own.map fun (p : Str × Nat) => p.2) g) (tt := LT B X tt) (te := LE B X te) hc hN hy hyl hsw hi ok (fun s H C cl fp => hg s H C cl fp) (fun s H C cl fp => ht s H C cl fp) (fun s H C cl fp => he s H C cl fp) hs) fun D σ H ⟨st, S, D0, he, hr, hs, h, im⟩ => by
  refine le_lc (Q := fun x H1 => gName i x σ H1 D.nx) ⟨st, S, _, he, hr, hs, h, fun x S1 h1 H1 v e1 s1 r1 => ?_⟩
  exact im.nx _ _ h1 H1 _ e1 s1 ((hr.mono e1).set r1 i)

/-! ### calls of the program's own defs -/
/-- arguments, state, the end, the end by an error (its class) -/
abbrev WSp := List T → Sta → (T → Sta → Prop) → (Addr → Sta → Prop) → Prop
def Lsp (K : PySem.W.Frag) (n : Nat) (w : WSp) : Sp := fun vs H Q E => ∃ ts S Q0 E0, ts.length = n ∧ Reps K H ts vs ∧ St K S H ∧ w ts S Q0 E0 ∧ Im2 Q0 (fin K H Q) ∧ ∀ C S' H', E0 C S' → Ext H H' → St K S' H' → E (.ref C) none H'
theorem lsp_len {K : PySem.W.Frag} {n : Nat} {w : WSp} {vs : List V} {H : Hp} {Q : VK} {E : XK} (h : Lsp K n w vs H Q E) : vs.length = n := by
  obtain ⟨ts, S, Q0, E0, h1, h2, _⟩ := h
  rw [← h2.length, h1]
def wCall (n : Nat) (w : WSp) (t : WA) (σ : Sl) (S : Sta) (Q : T → Sta → Prop) : Prop := t σ S fun ts S1 => ts.length = n ∧ w ts S1 Q fun _ _ => False
variable {k : Nat} {f C : Addr} {fd : FuncData} {ps : List Str} {x m : Str} {p apos : Pos} {e o : Expr} {es : List Expr} {ta : WE} {t : WA} {n : Nat} {w : WSp}
theorem j_call (F : FnOk X.prog X.w X.K X.mg X.base CX0 k f fd ps (Lsp X.K n w)) (hr : Room k X.A) (hg : Gl X x) (hm : X.mg x = some (.ref f)) (hk : PySem.W.keepIn X.K (.ref f) = true) (hb : Binds X.K fd ps [])
    (ha : JA B X (e :: es) t) (hdb : (x == ("__debug__" : Str)) = false := by decide) (he : starEach (e :: es) X.env = (false, eval e X.env) :: starEach es X.env := by rfl) (hpl : (backTo pos (starEach es X.env)).any (·.1) = false := by rfl) :
    JE B X (.Call (.Name x p) (e :: es) [] pos) (wCall n w t) := pe_imp (pe_call F hr hg hm hk hb .nil pass0 ha hdb he hpl) fun σ H Q ⟨st, S, Q0, he, hr, hs, h, im⟩ => by
  refine ⟨st, S, _, he, hr, hs, h, fun xs S1 h1 H1 vs e1 s1 r1 => ?_⟩
  refine ⟨xs, S1, Q0, fun _ _ => False, h1.1, by rw [List.append_nil]; exact r1, s1, h1.2, fun z S2 q => fin_ext e1 (im z S2 q), fun C S' H' q => q.elim⟩
theorem j_call0 (F : FnOk X.prog X.w X.K X.mg X.base CX0 k f fd ps (Lsp X.K n w)) (hr : Room k X.A) (hg : Gl X x) (hm : X.mg x = some (.ref f)) (hk : PySem.W.keepIn X.K (.ref f) = true) (hb : Binds X.K fd ps [])
    (hdb : (x == ("__debug__" : Str)) = false := by decide) :
    JE B X (.Call (.Name x p) [] [] pos) (wCall n w wNil) := pe_imp (pe_call0 F hr hg hm hk hb .nil pass0 hdb) fun σ H Q ⟨st, S, Q0, he, hr, hs, h, im⟩ =>
  ⟨[], S, Q0, fun _ _ => False, h.1, .nil, hs, h.2, im, fun C S' H' q => q.elim⟩
end
/-! ### a def keeps its promise -/
def startT (N : List Str) (ts : List T) : Sl := ts.map some ++ List.replicate (N.length - ts.length) none
theorem start_rep {K : PySem.W.Frag} {H : Hp} {N : List Str} {ts : List T} {vs : List V} (r : Reps K H ts vs) : SlR K H (startT N ts) (L2.start N vs) := by
  have hl := r.length
  refine ⟨by unfold startT L2.start; simp [hl], fun i t q => ?_⟩
  unfold startT at q
  by_cases hi : i < ts.length
  · rw [List.getElem?_append_left (by simpa using hi), List.getElem?_map] at q
    cases e : ts[i]? with
    | none => rw [e] at q; cases q
    | some t' =>
      rw [e] at q
      cases q
      obtain ⟨v, e1, e2⟩ := r.get e
      refine ⟨v, ?_, e2⟩
      unfold L2.start
      rw [List.getElem?_append_left (by simp; omega), List.getElem?_map, e1]
      rfl
  · rw [List.getElem?_append_right (by simpa using hi), List.getElem?_replicate] at q
    split at q <;> cases q
section
variable {P : Program} {w : World} {K : PySem.W.Frag} {mg : Str → Option Value} {base : Heap}
theorem fnT {x qual : Str} {st : Stmt} {f : Addr} {fd : FuncData} {N ps : List Str} {k : Nat} {sp : WSp} {t : WS} (F : Fun K x qual st f fd) (S : FnScope N ps (defScope st))
    (hb : ∀ (cdv : Value) (A : Around) (outer : List Env) (s : Shared) (H : Hp) (E : XK), Room k (A.deeper (envOfC qual (defScope st) s.heap.objs.size f cdv)) → JSs H (cxOf CX0 P w K mg base N qual (defScope st) f cdv A outer s H E).nox (defBody st) t)
    (hw : ∀ ts S Q E, ts.length = ps.length → sp ts S Q E → t { nx := fun _ S' => Q .non S', rt := Q } (startT N ts) S) : FnOk P w K mg base CX0 (k + 1) f fd ps (Lsp K ps.length sp) := by
  refine F.ok S (fun vs H Q E h => lsp_len h) (fun cdv A outer s H vs Q E hr h => ?_)
  refine ⟨_, hb cdv A outer s H E hr, ?_⟩
  obtain ⟨ts, S0, Q0, E0, h1, h2, h3, h4, im, _⟩ := h
  exact ⟨startT N ts, S0, _, Ext.refl H, start_rep h2, h3, hw ts S0 Q0 E0 h1 h4, ⟨fun a S1 q H1 σ1 e1 s1 r1 => im _ _ q H1 _ e1 s1 .non, im, fun _ _ q => q.elim, fun _ _ q => q.elim⟩⟩
/-- another promise, less asked -/
theorem fn_imp {k : Nat} {f : Addr} {fd : FuncData} {ps : List Str} {n : Nat} {sp sp' : WSp} (F : FnOk P w K mg base CX0 k f fd ps (Lsp K n sp)) (h : ∀ ts S Q E, sp' ts S Q E → sp ts S Q E) : FnOk P w K mg base CX0 k f fd ps (Lsp K n sp') :=
  F.imp fun vs H Q E ⟨ts, S, Q0, E0, h1, h2, h3, h4, h5⟩ => ⟨ts, S, Q0, E0, h1, h2, h3, h _ _ _ _ h4, h5⟩
end
/-- a law's promise: over a list of ints of at most 63, True -/
def spLaw : WSp := fun ts S Q _ => ∃ ns : List Int, ts = [.fl (ns.map .int)] ∧ ns.length ≤ 63 ∧ (∀ a, S a = none) ∧ ∀ S', Q (.bl true) S'
theorem law_sp (K : PySem.W.Frag) (H : Hp) (a : Addr) (ns : List Int) (hl : ns.length ≤ 63) (ho : Only H) (hs : SqL K H a (ns.map V.int)) : Lsp K 1 spLaw [.ref a] H (fun v _ => v = .bl true) fun _ _ _ => False := by
  have hf : FzL K H a (ns.map V.int) := by
    rcases hs with (h | ⟨o, h⟩) | h
    · rcases ho a with z | ⟨ob, xs, z⟩
      · rw [h] at z; cases z
      · rw [h] at z; cases z
    · exact .inl ⟨o, h⟩
    · exact .inr h
  refine ⟨[.fl (ns.map .int)], fun _ => none, fun v _ => v = .bl true, fun _ _ => False, rfl, .cons (.fl hf (Reps.ints ns)) .nil, (fun b o q => by cases q), ⟨ns, rfl, hl, fun _ => rfl, fun _ => rfl⟩, fun v S e H' u _ _ r => ?_, fun _ _ _ q => q.elim⟩
  subst e
  cases r
  rfl
end Wp

set_option Elab.async false
set_option linter.all false
set_option maxRecDepth 100000
/-! a def of the text, called; sequences walked -/
namespace Wp
open PySem PySem.Spec PyProof.Rows L2
def DefT (K : PySem.W.Frag) (mg : Str → Option Value) (x : Str) (st : Stmt) (ps : List Str) : Prop := ∃ f fd, Fun K x x st f fd ∧ mg x = some (.ref f) ∧ Binds K fd ps []
def Cal (P : Program) (w : World) (K : PySem.W.Frag) (mg : Str → Option Value) (base : Heap) (k : Nat) (x : Str) (ps : List Str) (s : WSp) : Prop :=
  ∃ f fd, FnOk P w K mg base CX0 k f fd ps (Lsp K ps.length s) ∧ mg x = some (.ref f) ∧ PySem.W.keepIn K (.ref f) = true ∧ Binds K fd ps []
section
variable {P : Program} {w : World} {K : PySem.W.Frag} {mg : Str → Option Value} {base : Heap} {k j : Nat} {x : Str} {st : Stmt} {ps : List Str} {s s' : WSp}
theorem DefT.cal (D : DefT K mg x st ps) (h : ∀ f fd, Fun K x x st f fd → FnOk P w K mg base CX0 k f fd ps (Lsp K ps.length s)) : Cal P w K mg base k x ps s := by
  obtain ⟨f, fd, F, m, b⟩ := D
  exact ⟨f, fd, h f fd F, m, F.kp, b⟩
theorem Cal.mono (c : Cal P w K mg base j x ps s) (h : j ≤ k) : Cal P w K mg base k x ps s := by
  obtain ⟨f, fd, F, m, kp, b⟩ := c
  exact ⟨f, fd, F.mono h, m, kp, b⟩
theorem Cal.imp (c : Cal P w K mg base k x ps s) (h : ∀ ts S Q E, s' ts S Q E → s ts S Q E) : Cal P w K mg base k x ps s' := by
  obtain ⟨f, fd, F, m, kp, b⟩ := c
  exact ⟨f, fd, fn_imp F h, m, kp, b⟩
theorem defT_mk {f : Addr} {oc : Value} {od an : Option Addr} {osl : Array (Option Value)} {kV doc pm cdv ct : Value} (hm : mg x = some (.ref f)) (l : K.lookup f = some ⟨oc, od, .func (PySem.W.fnOf x x (defArgs st) (defBody st) (defScope st) .none kV doc pm an cdv ct), osl⟩)
    (c : PySem.W.codeIn K cdv x = true) (k : PySem.W.keepIn K (.ref f) = true)
    (h : ∀ (kV doc pm : Value) (an : Option Addr) (cdv ct : Value) (us : List Value), us.length = ps.length → bindArgs (PySem.W.fnOf x x (defArgs st) (defBody st) (defScope st) .none kV doc pm an cdv ct) ⟨us, []⟩ = pure (ps.zip us)) : DefT K mg x st ps :=
  ⟨f, _, fun_mk l c k, hm, (fun_mk l c k).binds h⟩
end
section
variable {B : Hp} {X : Cx} {x : Str} {p pos : Pos} {e : Expr} {es : List Expr} {t : WA} {te : WE} {k : Nat} {ps : List Str} {s : WSp}
theorem j_c (c : Cal X.prog X.w X.K X.mg X.base k x ps s) (hr : Room k X.A) (hg : Gl X x) (ha : JA B X (e :: es) t) (hdb : (x == ("__debug__" : Str)) = false := by decide)
    (he : starEach (e :: es) X.env = (false, eval e X.env) :: starEach es X.env := by rfl) (hpl : (backTo pos (starEach es X.env)).any (·.1) = false := by rfl) : JE B X (.Call (.Name x p) (e :: es) [] pos) (wCall ps.length s t) := by
  obtain ⟨f, fd, F, m, kp, b⟩ := c
  exact j_call F hr hg m kp b ha hdb he hpl
theorem j_c0 (c : Cal X.prog X.w X.K X.mg X.base k x ps s) (hr : Room k X.A) (hg : Gl X x) (hdb : (x == ("__debug__" : Str)) = false := by decide) : JE B X (.Call (.Name x p) [] [] pos) (wCall ps.length s wNil) := by
  obtain ⟨f, fd, F, m, kp, b⟩ := c
  exact j_call0 F hr hg m kp b hdb
theorem j_cI {i : Int} (hg : Gl X x) (h : ∃ t, X.mg x = some (.int i t)) (hd : (x == ("__debug__" : Str)) = false := by decide) : JE B X (.Name x pos) (wC (.int i)) := by
  obtain ⟨t, h⟩ := h
  exact j_globI hg h hd
theorem j_cS {i : Str} (hg : Gl X x) (h : ∃ t, X.mg x = some (.str i t)) (hd : (x == ("__debug__" : Str)) = false := by decide) : JE B X (.Name x pos) (wC (.str i)) := by
  obtain ⟨t, h⟩ := h
  exact j_globS hg h hd
/-- a list or a tuple, walked -/
def iSeqW (te : WE) (σ : Sl) (S : Sta) (R : List T → (Sta → Prop) → Sta → Prop) : Prop := te σ S fun x S1 => match x with
  | .tup ts => R ts (fun _ => True) S1
  | .fl ts => R ts (fun _ => True) S1
  | .ref p => ∃ ts, S1 p = some (.lst ts) ∧ R ts (fun S' => S' p = some (.lst ts)) S1
  | _ => False
/-- the two sources told apart where the value has come -/
theorem pi_both {tg l : Expr} {tl : TE} (hl : PE X l tl) : PI X tg l fun σ H R => tl σ H fun x H1 => ∃ a, x = .ref a ∧ ((∃ xs, SqL X.K H1 a xs) ∧ R (Itl X.K a) H1 ∨ (∃ xs, SqT X.K H1 a xs) ∧ R (Itt X.K a) H1) := by
  refine ⟨fun pins s σ H R I h => ?_⟩
  refine thn (hl.run pins s σ H _ I h) fun v s1 ⟨x, H1, I1, r1, q1⟩ => ?_
  obtain ⟨a, e, q1⟩ := q1
  subst e
  cases r1
  rcases q1 with ⟨⟨xs, hq⟩, q⟩ | ⟨⟨xs, hq⟩, q⟩
  · obtain ⟨its, rv, p, hz⟩ := I1.list hq
    refine wpAny_pyIter_list p.isList ?_
    refine ⟨s1.heap.objs.size, [s1.heap.objs.size], _, _, H1, rfl, I1.kept (t' := s1.toks) fun b o e => Heap.get?_push_of_some _ e, turn_list a _, ⟨_, Heap.get?_push_size _ rfl, rfl, rfl⟩, fun b hb => ?_, q⟩
    have e : b = s1.heap.objs.size := by simpa using hb
    subst e
    exact I1.fpOk (Nat.le_refl _) (I1.hok.fresh (Nat.le_refl _))
  · obtain ⟨its, rv, p, hz⟩ := I1.tuple hq
    refine wpAny_pyIter_tuple (show s1.heap.IsTuple a its.toArray from p) ?_
    refine ⟨s1.heap.objs.size, [s1.heap.objs.size], _, _, H1, rfl, I1.kept (t' := s1.toks) fun b o e => Heap.get?_push_of_some _ e, turn_tuple a _, ⟨_, Heap.get?_push_size _ rfl, rfl, rfl⟩, fun b hb => ?_, q⟩
    have e : b = s1.heap.objs.size := by simpa using hb
    subst e
    exact I1.fpOk (Nat.le_refl _) (I1.hok.fresh (Nat.le_refl _))
theorem ji_seq {tg : Expr} (he : JE B X e te) : JI B X tg e (iSeqW te) := pi_imp (pi_both he) fun σ H R ⟨st, S, Q0, he, hr, hs, h, im⟩ => by
  refine ⟨st, S, _, he, hr, hs, h, fun x S1 h1 H1 v1 e1 s1 r1 => ?_⟩
  cases x with
  | tup ts =>
    cases r1 with
    | @tup a xs _ g1 g2 =>
      refine ⟨a, rfl, .inr ⟨⟨xs, g1⟩, im _ _ _ h1 H1 e1 s1 _ fun i S2 H2 e2 s2 _ => ⟨fun hi => ?_, fun hi => ⟨xs, e2.sqT g1, by rw [← g2.length]; exact hi⟩, fun x H' y hi => ?_⟩⟩⟩
      · obtain ⟨v, g3, _⟩ := g2.get (List.getElem?_eq_getElem hi)
        exact ⟨xs, v, e2.sqT g1, g3⟩
      · obtain ⟨eH, y⟩ := y
        subst eH
        obtain ⟨v, g3, g4⟩ := g2.get (List.getElem?_eq_getElem hi)
        have ev : x = v := Option.some.inj ((y xs (e2.sqT g1)).symm.trans g3)
        subst ev
        exact ⟨Ext.refl _, s2, fun _ _ q => q, _, List.getElem?_eq_getElem hi, Rep.mono e2 _ _ g4⟩
  | fl ts =>
    cases r1 with
    | @fl a xs _ g1 g2 =>
      refine ⟨a, rfl, .inl ⟨⟨xs, g1.sq⟩, im _ _ _ h1 H1 e1 s1 _ fun i S2 H2 e2 s2 _ => ⟨fun hi => ?_, fun hi => ⟨xs, (e2.fzL g1).sq, by rw [← g2.length]; exact hi⟩, fun x H' y hi => ?_⟩⟩⟩
      · obtain ⟨v, g3, _⟩ := g2.get (List.getElem?_eq_getElem hi)
        exact ⟨xs, v, (e2.fzL g1).sq, g3⟩
      · obtain ⟨eH, y⟩ := y
        subst eH
        obtain ⟨v, g3, g4⟩ := g2.get (List.getElem?_eq_getElem hi)
        have ev : x = v := Option.some.inj ((y xs ((e2.fzL g1).sq)).symm.trans g3)
        subst ev
        exact ⟨Ext.refl _, s2, fun _ _ q => q, _, List.getElem?_eq_getElem hi, Rep.mono e2 _ _ g4⟩
  | ref p =>
    obtain ⟨ts, eS, h1⟩ := h1
    cases r1
    obtain ⟨xs0, g10, g20⟩ := s1 p _ eS
    refine ⟨p, rfl, .inl ⟨⟨xs0, .inl (.inl g10)⟩, im _ _ _ h1 H1 e1 s1 _ fun i S2 H2 e2 s2 stb => ?_⟩⟩
    obtain ⟨xs, g1, g2⟩ := s2 p _ stb
    refine ⟨fun hi => ?_, fun hi => ⟨xs, .inl (.inl g1), by rw [← g2.length]; exact hi⟩, fun x H' y hi => ?_⟩
    · obtain ⟨v, g3, _⟩ := g2.get (List.getElem?_eq_getElem hi)
      exact ⟨xs, v, .inl (.inl g1), g3⟩
    · obtain ⟨eH, y⟩ := y
      subst eH
      obtain ⟨v, g3, g4⟩ := g2.get (List.getElem?_eq_getElem hi)
      have ev : x = v := Option.some.inj ((y xs (.inl (.inl g1))).symm.trans g3)
      subst ev
      exact ⟨Ext.refl _, s2, fun _ _ q => q, _, List.getElem?_eq_getElem hi, g4⟩
  | _ => exact h1.elim
end
/-! ### a law's last lines -/
theorem law_walk {l : PySem.W.OpenLaw} {k : Nat} {q : Program} {loose : List Str} {XP : (Str → Option Value) → Heap → Prop} {YP : World → Heap → Prop} {d : DefRec} {K : Params → PySem.W.Frag} {x : Str}
    (hn : l.most = some 63) (hdf : d.params.defaults = []) (hr : Room k callerA)
    (hY : ∀ (w : World) (h : Heap), YP w h → (K w.params).In h)
    (F : ∀ (w : World) (mg : Str → Option Value) (fa : Addr) (h : Heap), (K w.params).In h → h.Ns mainGlobals mg → mg d.name = some (.ref fa) →
      ∃ fd : FuncData, (∀ (s : Shared) (u : Value), BindsTo s fd ⟨[u], []⟩ [(x, u)]) ∧
        ∀ base : Heap, (K w.params).In base → base.Ns mainGlobals mg → FnOk l.prog w (K w.params) mg base CX0 k fa fd [x] (Lsp (K w.params) 1 spLaw)) :
    PySem.W.WalkO q loose XP YP l.row.toRowW d [] (fun f vs => PySem.call f vs) :=
  L2.walk_ofK (CX := CX0) (sp := fun K => Lsp K 1 spLaw) hn (by decide) hdf hr hY F (fun K H a ns hl ho hs => law_sp K H a ns hl ho hs) fun H s e s' h => h
end Wp

set_option Elab.async false
set_option linter.all false
set_option maxRecDepth 100000
/-! more built-ins, methods of lists -/
namespace Wp
open PySem PySem.Spec PyProof.Rows L2
section
variable {B : Hp} {X : Cx} {a b : Expr} {ta tb : WE} {pos : Pos}
/-- list(range(n)) -/
def wLstRg (ta : WE) (σ : Sl) (S : Sta) (Q : T → Sta → Prop) : Prop := ta σ S fun x S1 => match x with
  | .int n => (n ≤ 2 ^ 24 ∧ -(2 ^ 62) ≤ n) ∧ ∀ p, S1 p = none → Q (.ref p) (upS S1 p (.lst (rangeT 0 n.toNat)))
  | _ => False
theorem rangeT_rep {K : PySem.W.Frag} {H : Hp} (lo : Int) : ∀ (l : List Nat), Reps K H (l.map fun (i : Nat) => T.int (lo + (i : Int))) (l.map fun (i : Nat) => V.int (lo + (i : Nat)))
  | [] => .nil
  | i :: l => .cons (.int _) (rangeT_rep lo l)
theorem j_listRg1 {p p2 pos2 : Pos} (hg : Gl X "list") (hm : X.mg "list" = none) (hg2 : Gl X "range") (hm2 : X.mg "range" = none) (hc : X.calm = true) (ha : JE B X a ta) (na : starEach [a] X.env = (false, eval a X.env) :: starEach [] X.env := by rfl)
    (na2 : starEach [.Call (.Name "range" p2) [a] [] pos2] X.env = (false, eval (.Call (.Name "range" p2) [a] [] pos2) X.env) :: starEach [] X.env := by rfl) : JE B X (.Call (.Name "list" p) [.Call (.Name "range" p2) [a] [] pos2] [] pos) (wLstRg ta) :=
  pe_imp (pe_listRg hc hg hm (prg_1 hg2 hm2 ha na) na2) fun σ H Q ⟨st, S, Q0, he, hr, hs, h, im⟩ => by
    refine ⟨st, S, _, he, hr, hs, h, fun x S1 h1 H1 v e1 s1 r1 => ?_⟩
    cases x with
    | int n =>
      cases r1
      refine ⟨n, rfl, ⟨by omega, by omega, by have := h1.1.2; omega, by have := h1.1.1; omega, by have := h1.1.1; omega⟩, fun q hq => ?_⟩
      have rr : Reps X.K H1 (rangeT 0 n.toNat) (rgV 0 n) := by
        unfold rangeT rgV
        rw [show (n - 0).toNat = n.toNat by rw [Int.sub_zero]]
        exact rangeT_rep 0 _
      obtain ⟨e2, s2⟩ := s1.newL hq rr
      exact im _ _ (h1.2 q (s1.free hq)) _ _ (e1.trans e2) s2 (.ref q)
    | _ => exact h1.elim
/-- is of bools -/
def rBIs (neg : Bool) (x : T) (y : T) (S : Sta) (Q : T → Sta → Prop) : Prop := match x, y with
  | .bl a, .bl b => Q (.bl (neg != (a == b))) S
  | _, _ => False
theorem o_isB : OpT X (compareOp .Is) (rBIs false) := by
  intro pins s σ H x y v u Q I rx ry ⟨a, b, S, Q0, ra, rb, hs, q, im⟩
  match a, b, q with
  | .bl a, .bl b, q =>
    cases ra
    cases rb
    refine op_isBl pins s σ H _ _ v u Q I rx ry ⟨a, b, rfl, rfl, ?_⟩
    have e : decide (a = b) = (false != (a == b)) := by cases a <;> cases b <;> rfl
    rw [e]
    exact im _ _ q H _ (Ext.refl H) hs (.bl _)
theorem o_notB : OpT X (compareOp .IsNot) (rBIs true) := by
  intro pins s σ H x y v u Q I rx ry ⟨a, b, S, Q0, ra, rb, hs, q, im⟩
  match a, b, q with
  | .bl a, .bl b, q =>
    cases ra
    cases rb
    refine op_notBl pins s σ H _ _ v u Q I rx ry ⟨a, b, rfl, rfl, ?_⟩
    have e : (!decide (a = b)) = (true != (a == b)) := by cases a <;> cases b <;> rfl
    rw [e]
    exact im _ _ q H _ (Ext.refl H) hs (.bl _)
/-! ### methods of a list that may change -/
abbrev RM3 := T → List T → Sta → (T → Sta → Prop) → Prop
def LM (K : PySem.W.Frag) (r : RM3) : V → List V → Hp → VK → Prop := fun x xs H Q => ∃ t ts S Q0, Rep K H t x ∧ Reps K H ts xs ∧ St K S H ∧ r t ts S Q0 ∧ Im2 Q0 (fin K H Q)
def wMt (r : RM3) (to : WE) (t : WA) (σ : Sl) (S : Sta) (Q : T → Sta → Prop) : Prop := to σ S fun x S1 => match x with
  | .ref p => (∃ xs, S1 p = some (.lst xs)) ∧ t σ S1 fun ts S2 => r (.ref p) ts S2 Q
  | _ => False
variable {o e : Expr} {es : List Expr} {to : WE} {t : WA} {name : Str} {apos cpos : Pos} {id : String} {r : RM3}
theorem j_mtL (slot : Slot "list" name id) (hty : typeOf (.builtin id) = pure (.type "method_descriptor")) (hm : MtR X id (LM X.K r)) (ho : JE B X o to) (ha : JA B X (e :: es) t)
    (hbase : attributeBase o name X.env (eval o X.env) = eval o X.env := by rfl)
    (hfew : ((backTo cpos (starEach (e :: es) X.env)).all (fun x => !x.1) && (backToKw cpos (keywordEach [] X.env)).all (fun x => x.1.isSome)
      && decide ((e :: es).length + ([] : List Keyword).length + (if ([] : List Keyword).isEmpty then 0 else 1) < 30)) = true := by rfl)
    (hline : (apos.endLine == cpos.line) = true := by rfl) (hs : starEach (e :: es) X.env = (false, eval e X.env) :: starEach es X.env := by rfl) (hplain : (backTo cpos (starEach es X.env)).any (·.1) = false := by rfl) :
    JE B X (.Call (.Attribute o name apos) (e :: es) [] cpos) (wMt r to t) := pe_imp (pe_bm PySem.F.plainAttrs_list slot hty hm ho ha hbase hfew hline hs hplain) fun σ H Q ⟨st, S, Q0, he, hr, hs, h, im⟩ => by
  refine ⟨st, S, _, he, hr, hs, h, fun x S1 h1 H1 v e1 s1 r1 => ?_⟩
  cases x with
  | ref p =>
   obtain ⟨⟨xs, e2⟩, h1⟩ := h1
   cases r1
   obtain ⟨ys, g1, g2⟩ := s1 p _ e2
   refine ⟨.inl ⟨rfl, ys, .inl (.inl g1)⟩, st, S1, _, he.trans e1, hr.mono e1, s1, h1, fun ts S2 h2 H2 vs e3 s3 r3 => ?_⟩
   exact ⟨_, ts, S2, Q0, .ref p, r3, s3, h2, fun z S4 q => fin_ext (e1.trans e3) (im z S4 q)⟩
  | _ => exact h1.elim
theorem j_mtL0 (slot : Slot "list" name id) (hty : typeOf (.builtin id) = pure (.type "method_descriptor")) (hm : MtR X id (LM X.K r)) (ho : JE B X o to)
    (hbase : attributeBase o name X.env (eval o X.env) = eval o X.env := by rfl) (hline : (apos.endLine == cpos.line) = true := by rfl) :
    JE B X (.Call (.Attribute o name apos) [] [] cpos) (wMt r to wNil) := pe_imp (pe_bm0 PySem.F.plainAttrs_list slot hty hm ho hbase hline) fun σ H Q ⟨st, S, Q0, he, hr, hs, h, im⟩ => by
  refine ⟨st, S, _, he, hr, hs, h, fun x S1 h1 H1 v e1 s1 r1 => ?_⟩
  cases x with
  | ref p =>
   obtain ⟨⟨xs, e2⟩, h1⟩ := h1
   cases r1
   obtain ⟨ys, g1, g2⟩ := s1 p _ e2
   refine ⟨.inl ⟨rfl, ys, .inl (.inl g1)⟩, ?_⟩
   exact ⟨_, [], S1, Q0, .ref p, .nil, s1, h1, fun z S4 q => fin_ext e1 (im z S4 q)⟩
  | _ => exact h1.elim
def rAppendT (x : Wp.T) (ts : List Wp.T) (S : Sta) (Q : Wp.T → Sta → Prop) : Prop := match x, ts with
  | .ref p, [t] => ∃ xs, S p = some (.lst xs) ∧ xs.length < sizeLine ∧ Q .non (upS S p (.lst (xs ++ [t])))
  | _, _ => False
theorem m_append : MtR X "list.append" (LM X.K rAppendT) := by
  intro pins s σ H x xs v us Q I rx rxs ⟨t, ts, S, Q0, rt, rts, hs, q, im⟩
  match t, ts, q with
  | .ref p, [y], ⟨zs, e, hl, q⟩ =>
    cases rt
    obtain ⟨w, rfl, rw'⟩ := rts.one
    obtain ⟨ys, g1, g2⟩ := hs p _ e
    obtain ⟨e2, s2⟩ := hs.setL g1 (Reps.append g2 (.cons rw' .nil))
    exact mt_append pins s σ H _ _ v us Q I rx rxs ⟨p, ys, w, rfl, rfl, g1, by rw [← g2.length]; exact hl, im _ _ q _ _ e2 s2 .non⟩
def rExtendT (x : Wp.T) (ts : List Wp.T) (S : Sta) (Q : Wp.T → Sta → Prop) : Prop := match x, ts with
  | .ref p, [.ref p2] => ∃ xs, S p = some (.lst xs) ∧ ∃ ys, S p2 = some (.lst ys) ∧ xs.length + ys.length ≤ sizeLine ∧ Q .non (upS S p (.lst (xs ++ ys)))
  | _, _ => False
theorem m_extend : MtR X "list.extend" (LM X.K rExtendT) := by
  intro pins s σ H x xs v us Q I rx rxs ⟨t, ts, S, Q0, rt, rts, hs, q, im⟩
  match t, ts, q with
  | .ref p, [.ref p2], ⟨zs, e, ws, e', hl, q⟩ =>
    cases rt
    obtain ⟨w, rfl, rw'⟩ := rts.one
    cases rw'
    obtain ⟨ys, g1, g2⟩ := hs p _ e
    obtain ⟨vs, g3, g4⟩ := hs p2 _ e'
    obtain ⟨e2, s2⟩ := hs.setL g1 (Reps.append g2 g4)
    exact mt_extend pins s σ H _ _ v us Q I rx rxs ⟨p, p2, ys, vs, rfl, rfl, g1, g3, by rw [← g2.length, ← g4.length]; exact hl, im _ _ q _ _ e2 s2 .non⟩
def rReverseT (x : Wp.T) (ts : List Wp.T) (S : Sta) (Q : Wp.T → Sta → Prop) : Prop := match x, ts with
  | .ref p, [] => ∃ xs, S p = some (.lst xs) ∧ Q .non (upS S p (.lst xs.reverse))
  | _, _ => False
theorem m_reverse : MtR X "list.reverse" (LM X.K rReverseT) := by
  intro pins s σ H x xs v us Q I rx rxs ⟨t, ts, S, Q0, rt, rts, hs, q, im⟩
  match t, ts, q with
  | .ref p, [], ⟨zs, e, q⟩ =>
    cases rt
    cases rts
    obtain ⟨ys, g1, g2⟩ := hs p _ e
    obtain ⟨e2, s2⟩ := hs.setL g1 g2.reverse
    exact mt_reverse pins s σ H _ _ v us Q I rx rxs ⟨p, ys, rfl, rfl, g1, im _ _ q _ _ e2 s2 .non⟩
/-- xs.index(x), x in it, flat -/
def rIndexT (x : Wp.T) (ts : List Wp.T) (S : Sta) (Q : Wp.T → Sta → Prop) : Prop := match x, ts with
  | .ref p, [y] => ∃ xs, S p = some (.lst xs) ∧ flatT y = true ∧ xs.all flatT = true ∧ ∃ (j : Nat) (z : Wp.T), xs[j]? = some z ∧ eqF z y = true ∧ (∀ (m : Nat) (z' : Wp.T), m < j → xs[m]? = some z' → eqF z' y = false) ∧ Q (.int (j : Nat)) S
  | _, _ => False
theorem m_index : MtR X "list.index" (LM X.K rIndexT) := by
  intro pins s σ H x xs v us Q I rx rxs ⟨t, ts, S, Q0, rt, rts, hs, q, im⟩
  match t, ts, q with
  | .ref p, [y], ⟨zs, e, f1, f2, j, z, ej, ez, hno, q⟩ =>
    cases rt
    obtain ⟨w, rfl, rw'⟩ := rts.one
    obtain ⟨ys, g1, g2⟩ := hs p _ e
    obtain ⟨zv, g3, g4⟩ := g2.get ej
    have fz : flatT z = true := List.all_eq_true.mp f2 z (List.mem_of_getElem? ej)
    refine mt_index pins s σ H _ _ v us Q I rx rxs ⟨p, ys, w, j, zv, rfl, rfl, .inl (.inl g1), flat_rep rw' f1, flats_rep g2 f2, g3, by rw [eqF_rep g4 rw' fz f1]; exact ez, fun m z' hm hz' => ?_, im _ _ q _ _ (Ext.refl H) hs (.int _)⟩
    obtain ⟨zt, g5, g6⟩ := g2.getV hz'
    rw [eqF_rep g6 rw' (List.all_eq_true.mp f2 zt (List.mem_of_getElem? g5)) f1]
    exact hno m zt hm g5
/-! ### sum of ints, ord, divmod -/
def rSumI (xs : List T) (S : Sta) (Q : T → Sta → Prop) : Prop := match xs with
  | [.ref p] => ∃ ns : List Int, S p = some (.lst (ns.map .int)) ∧ Q (.int ns.sum) S
  | _ => False
theorem c_sumI (hc : X.calm = true) : CallR X (.builtin "sum") (LC X.K rSumI) := by
  intro pins s σ H xs us Q I rx ⟨ts, S, Q0, r, hs, q, im⟩
  match ts, q with
  | [.ref p], ⟨ns, e, q⟩ =>
    obtain ⟨v, rfl, r1⟩ := r.one
    cases r1
    obtain ⟨ys, g1, g2⟩ := hs p _ e
    have ey := g2.intsV
    subst ey
    exact cr_sum hc pins s σ H _ us Q I rx ⟨p, ns, rfl, .inl (.inl g1), im _ _ q _ _ (Ext.refl H) hs (.int _)⟩
def rOrd (xs : List T) (S : Sta) (Q : T → Sta → Prop) : Prop := match xs with
  | [.str z] => z.length = 1 ∧ Q (.int (z.cps.getD 0 0 : Nat)) S
  | _ => False
theorem c_ord : CallR X (.builtin "ord") (LC X.K rOrd) := by
  intro pins s σ H xs us Q I rx ⟨ts, S, Q0, r, hs, q, im⟩
  match ts, q with
  | [.str z], q =>
    obtain ⟨v, rfl, r1⟩ := r.one
    cases r1
    exact call_ord pins s σ H _ us Q I rx ⟨z, rfl, q.1, im _ _ q.2 _ _ (Ext.refl H) hs (.int _)⟩
def rDivmod (xs : List T) (S : Sta) (Q : T → Sta → Prop) : Prop := match xs with
  | [.int i, .int j] => (0 < j ∧ j < 1073741824) ∧ Q (.tup [.int (i / j), .int (i % j)]) S
  | _ => False
theorem c_divmod : CallR X (.builtin "divmod") (LC X.K rDivmod) := by
  intro pins s σ H xs us Q I rx ⟨ts, S, Q0, r, hs, q, im⟩
  match ts, q with
  | [.int i, .int j], q =>
    obtain ⟨v, w, rfl, r1, r2⟩ := r.two
    cases r1
    cases r2
    exact call_divmod pins s σ H _ us Q I rx ⟨i, j, rfl, q.1, fun p hp => im _ _ q.2 _ _ (Ext.new hp) (hs.new hp _) (.tup (.inl (.inl upd_same)) (.cons (.int _) (.cons (.int _) .nil)))⟩
end
end Wp

set_option Elab.async false
set_option linter.all false
set_option maxRecDepth 100000
/-! lemmas for the reading's simplification -/
namespace Wp
open PySem PySem.Spec PyProof.Rows L2
theorem cmul_l {i j : Int} (h1 : -(2 ^ 64) < i) (h2 : i < 2 ^ 64) : CMul i j = True := eq_true (.inl ⟨h1, h2⟩)
theorem cmul_r {i j : Int} (h1 : -(2 ^ 64) < j) (h2 : j < 2 ^ 64) : CMul i j = True := eq_true (.inr ⟨h1, h2⟩)
theorem ex_some {α : Type} {a : α} {P : α → Prop} : (∃ v, some (some a) = some (some v) ∧ P v) = P a := by
  apply propext
  constructor
  · rintro ⟨v, e, h⟩; cases e; exact h
  · intro h; exact ⟨a, rfl, h⟩
theorem ex_some1 {α : Type} {a : α} {P : α → Prop} : (∃ v, some a = some v ∧ P v) = P a := by
  apply propext
  constructor
  · rintro ⟨v, e, h⟩; cases e; exact h
  · intro h; exact ⟨a, rfl, h⟩
theorem ex_eq {α : Type} {a : α} {P : α → Prop} : (∃ v, a = v ∧ P v) = P a := by
  apply propext
  constructor
  · rintro ⟨v, e, h⟩; cases e; exact h
  · intro h; exact ⟨a, rfl, h⟩
theorem cpow_lit {i j : Int} (h1 : 0 ≤ j) (h2 : j ≤ 1000000) (h3 : i.natAbs < 2 ^ 64) : CPow i j = True := eq_true ⟨h1, h2, h3⟩
theorem size_le {n : Nat} (h : n ≤ 10000000) : (n ≤ sizeLine) = True := eq_true (Nat.le_trans h (by rw [sizeLine_eq]; decide))
theorem size_lt {n : Nat} (h : n < 10000000) : (n < sizeLine) = True := eq_true (Nat.lt_of_lt_of_le h (by rw [sizeLine_eq]; decide))
theorem itemsT_ref {S : Sta} {p : Addr} {ts : List T} (h : S p = some (.lst ts)) : itemsT S (.ref p) = some ts := by simp only [itemsT, h]
theorem tyT_ref {S : Sta} {p : Addr} {ts : List T} (h : S p = some (.lst ts)) : tyT S (.ref p) = some "list" := by simp only [tyT, h]
theorem atI_zero {α : Type} {x : α} {xs : List α} : atI (x :: xs) 0 = some x := atI_nat (j := 0) rfl
theorem atI_lit {α : Type} {xs : List α} {j : Nat} : atI xs ((j : Nat) : Int) = xs[j]? := by
  unfold atI ixN
  by_cases h : j < xs.length
  · rw [if_pos (by omega), if_pos (by omega)]
    simp
  · rw [if_pos (by omega), if_neg (by omega)]
    simp
    omega
theorem atI_0 {α : Type} {xs : List α} : atI xs 0 = xs[0]? := atI_lit (j := 0)
theorem atI_1 {α : Type} {xs : List α} : atI xs 1 = xs[1]? := atI_lit (j := 1)
theorem atI_2 {α : Type} {xs : List α} : atI xs 2 = xs[2]? := atI_lit (j := 2)
theorem atI_3 {α : Type} {xs : List α} : atI xs 3 = xs[3]? := atI_lit (j := 3)
theorem atI_4 {α : Type} {xs : List α} : atI xs 4 = xs[4]? := atI_lit (j := 4)
theorem atI_5 {α : Type} {xs : List α} : atI xs 5 = xs[5]? := atI_lit (j := 5)
theorem atI_6 {α : Type} {xs : List α} : atI xs 6 = xs[6]? := atI_lit (j := 6)
/-- an item at an open place in bounds -/
theorem atI_in {α : Type} {xs : List α} {i : Int} (h0 : 0 ≤ i) (h1 : i < xs.length) : ∃ x, atI xs i = some x ∧ x ∈ xs := by
  obtain ⟨n, rfl⟩ : ∃ n : Nat, i = n := ⟨i.toNat, by omega⟩
  rw [atI_lit]
  have h : n < xs.length := by omega
  exact ⟨xs[n], List.getElem?_eq_getElem h, List.getElem_mem h⟩
theorem ixN_lit {n j : Nat} (h : j < n) : ixN n ((j : Nat) : Int) = some j := by
  unfold ixN
  rw [if_pos (by omega), if_pos (by omega)]
  simp
theorem ixN_0 {n : Nat} : ixN (n + 1) 0 = some 0 := ixN_lit (j := 0) (by omega)
theorem ixN_1 {n : Nat} : ixN (n + 2) 1 = some 1 := ixN_lit (j := 1) (by omega)
theorem ixN_2 {n : Nat} : ixN (n + 3) 2 = some 2 := ixN_lit (j := 2) (by omega)
theorem rangeT_mem {n : Nat} {t : T} (h : t ∈ rangeT 0 n) : ∃ i : Nat, i < n ∧ t = .int i := by
  unfold rangeT at h
  obtain ⟨i, hi, e⟩ := List.mem_map.mp h
  exact ⟨i, List.mem_range.mp hi, by rw [← e, Int.zero_add]⟩
theorem eqvAll_ints : ∀ (ns ms : List Int), PyData.eqvAll (ns.map PyData.int) (ms.map PyData.int) = (ns == ms)
  | [], [] => by simp only [List.map_nil, PyData.eqvAll]; rfl
  | [], m :: ms => by simp only [List.map_nil, List.map_cons, PyData.eqvAll]; rfl
  | n :: ns, [] => by simp only [List.map_nil, List.map_cons, PyData.eqvAll]; rfl
  | n :: ns, m :: ms => by
    simp only [List.map_cons, PyData.eqvAll, PyData.eqv, eqvAll_ints ns ms]
    rfl
theorem toDs_ints : ∀ ns : List Int, toDs (ns.map T.int) = some (ns.map PyData.int)
  | [] => by simp only [List.map_nil, toDs]
  | n :: ns => by simp only [List.map_cons, toDs, toD, toDs_ints ns]
theorem layAll_ints : ∀ ns : List Int, PyData.canLayAll0 (ns.map PyData.int) = true
  | [] => by simp only [List.map_nil, PyData.canLayAll0]
  | n :: ns => by simp only [List.map_cons, PyData.canLayAll0, PyData.canLay0, layAll_ints ns, Bool.and_self]
theorem depAll_ints : ∀ ns : List Int, PyData.depthAll (ns.map PyData.int) ≤ 1
  | [] => by simp only [List.map_nil, PyData.depthAll]; omega
  | n :: ns => by
    have := depAll_ints ns
    simp only [List.map_cons, PyData.depthAll, PyData.depth]
    omega
theorem shaped_ints (ns : List Int) : SeqAt.shaped (.list (ns.map PyData.int)) = true := by
  have h := depAll_ints ns
  unfold SeqAt.shaped
  rw [Bool.and_eq_true]
  refine ⟨by simp only [PyData.canLay0]; exact layAll_ints ns, decide_eq_true ?_⟩
  simp only [PyData.depth]
  omega
theorem shaped_int (i : Int) : SeqAt.shaped (.int i) = true := by
  unfold SeqAt.shaped
  rw [Bool.and_eq_true]
  refine ⟨by simp only [PyData.canLay0], decide_eq_true ?_⟩
  simp only [PyData.depth]
  omega
theorem shaped_bool (i : Bool) : SeqAt.shaped (.bool i) = true := by
  unfold SeqAt.shaped
  rw [Bool.and_eq_true]
  refine ⟨by simp only [PyData.canLay0], decide_eq_true ?_⟩
  simp only [PyData.depth]
  omega
theorem shaped_none : SeqAt.shaped .none = true := by
  unfold SeqAt.shaped
  rw [Bool.and_eq_true]
  refine ⟨by simp only [PyData.canLay0], decide_eq_true ?_⟩
  simp only [PyData.depth]
  omega
theorem shaped_str {x : Str} (h : PyData.strOk x = true) : SeqAt.shaped (.str x) = true := by
  unfold SeqAt.shaped
  rw [Bool.and_eq_true]
  refine ⟨by simp only [PyData.canLay0]; exact h, decide_eq_true ?_⟩
  simp only [PyData.depth]
  omega
/-- == of scalars -/
def scalT : T → Bool
  | .non => true
  | .bl _ => true
  | .int _ => true
  | .str x => PyData.strOk x
  | _ => false
theorem rEq_scal {neg : Bool} {x y : T} {S : Sta} {Q : T → Sta → Prop} (hx : scalT x = true) (hy : scalT y = true) (q : Q (.bl (neg != eqF x y)) S) : rEq neg x y S Q := by
  cases x with
  | non => cases y with
    | non => exact ⟨_, rfl, _, rfl, shaped_none, shaped_none, by simpa only [PyData.eqv, eqF] using q⟩
    | bl b => exact ⟨_, rfl, _, rfl, shaped_none, shaped_bool b, by simpa only [PyData.eqv, eqF] using q⟩
    | int b => exact ⟨_, rfl, _, rfl, shaped_none, shaped_int b, by simpa only [PyData.eqv, eqF] using q⟩
    | str b => exact ⟨_, rfl, _, rfl, shaped_none, shaped_str hy, by simpa only [PyData.eqv, eqF] using q⟩
    | _ => cases hy
  | bl a => cases y with
    | non => exact ⟨_, rfl, _, rfl, shaped_bool a, shaped_none, by simpa only [PyData.eqv, eqF] using q⟩
    | bl b => exact ⟨_, rfl, _, rfl, shaped_bool a, shaped_bool b, by simpa only [PyData.eqv, eqF] using q⟩
    | int b => exact ⟨_, rfl, _, rfl, shaped_bool a, shaped_int b, by simpa only [PyData.eqv, eqF] using q⟩
    | str b => exact ⟨_, rfl, _, rfl, shaped_bool a, shaped_str hy, by simpa only [PyData.eqv, eqF] using q⟩
    | _ => cases hy
  | int a => cases y with
    | non => exact ⟨_, rfl, _, rfl, shaped_int a, shaped_none, by simpa only [PyData.eqv, eqF] using q⟩
    | bl b => exact ⟨_, rfl, _, rfl, shaped_int a, shaped_bool b, by simpa only [PyData.eqv, eqF] using q⟩
    | int b => exact ⟨_, rfl, _, rfl, shaped_int a, shaped_int b, by simpa only [PyData.eqv, eqF] using q⟩
    | str b => exact ⟨_, rfl, _, rfl, shaped_int a, shaped_str hy, by simpa only [PyData.eqv, eqF] using q⟩
    | _ => cases hy
  | str a => cases y with
    | non => exact ⟨_, rfl, _, rfl, shaped_str hx, shaped_none, by simpa only [PyData.eqv, eqF] using q⟩
    | bl b => exact ⟨_, rfl, _, rfl, shaped_str hx, shaped_bool b, by simpa only [PyData.eqv, eqF] using q⟩
    | int b => exact ⟨_, rfl, _, rfl, shaped_str hx, shaped_int b, by simpa only [PyData.eqv, eqF] using q⟩
    | str b => exact ⟨_, rfl, _, rfl, shaped_str hx, shaped_str hy, by simpa only [PyData.eqv, eqF] using q⟩
    | _ => cases hy
  | _ => cases hx
theorem rEq_ints {neg : Bool} {a b : T} {S : Sta} {ns ms : List Int} {Q : T → Sta → Prop} (ha : dd S a = some (.list (ns.map .int))) (hb : dd S b = some (.list (ms.map .int))) (q : Q (.bl (neg != (ns == ms))) S) : rEq neg a b S Q :=
  ⟨_, ha, _, hb, shaped_ints ns, shaped_ints ms, by simpa only [PyData.eqv, eqvAll_ints] using q⟩
theorem dd_ints {S : Sta} {p : Addr} {ns : List Int} (h : S p = some (.lst (ns.map T.int))) : dd S (.ref p) = some (.list (ns.map .int)) := by
  simp only [dd, h, toDs_ints, Option.map_some]
theorem eqF_int {i j : Int} : eqF (.int i) (.int j) = (i == j) := rfl
theorem rEq_int {neg : Bool} {i j : Int} {S : Sta} {Q : T → Sta → Prop} : rEq neg (.int i) (.int j) S Q = Q (.bl (neg != (i == j))) S := by
  apply propext
  constructor
  · rintro ⟨d, e1, e, e2, _, _, q⟩
    cases e1
    cases e2
    simpa only [PyData.eqv] using q
  · intro q
    exact rEq_scal rfl rfl q
theorem ex_lst {a : List T} {P : List T → Prop} : (∃ v, some (O.lst a) = some (O.lst v) ∧ P v) = P a := by
  apply propext
  constructor
  · rintro ⟨v, e, h⟩; cases e; exact h
  · intro h; exact ⟨a, rfl, h⟩
theorem ex_lst0 {a : List T} : (∃ v, some (O.lst a) = some (O.lst v)) = True := eq_true ⟨a, rfl⟩
end Wp
namespace Wp
open PySem PySem.Spec PyProof.Rows L2
/-- a comprehension whose elements change nothing -/
theorem compW_pure {te : WE} {i : Nat} {σ : Sl} {D : Addr} {Q : T → Sta → Prop} {stb : Sta → Prop} (f : T → T) (hst : ∀ S, stb S) : ∀ (xs acc : List T) (S : Sta),
    (∀ x ∈ xs, ∀ (acc' : List T) (R : T → Sta → Prop), R (f x) (upS S D (.lst acc')) → te (σ.set i (some x)) (upS S D (.lst acc')) R) → acc.length + xs.length ≤ 1000000 → Q (.ref D) (upS S D (.lst (acc ++ xs.map f))) → compW (gNm i) wYes te stb σ D Q xs (upS S D (.lst acc))
  | [], acc, S, _, _, q => by
    rw [List.map_nil, List.append_nil] at q
    exact ⟨hst _, q⟩
  | x :: xs, acc, S, h, hl, q => by
    refine ⟨hst _, h x List.mem_cons_self acc _ ?_⟩
    refine ⟨acc, upS_same, ?_, ?_⟩
    · rw [List.length_cons] at hl
      exact Nat.lt_of_lt_of_le (show acc.length < 10000000 by omega) (by rw [sizeLine_eq]; decide)
    · rw [upS_upS]
      refine compW_pure f hst xs (acc ++ [f x]) S (fun y hy acc' R r => h y (List.mem_cons_of_mem _ hy) acc' R r) ?_ ?_
      · rw [List.length_append, List.length_cons, List.length_nil]
        rw [List.length_cons] at hl
        omega
      · rw [List.append_assoc]
        exact q
theorem rangeT_len {n : Nat} : (rangeT 0 n).length = n := by unfold rangeT; rw [List.length_map, List.length_range]
theorem rangeT_map {n : Nat} (f : T → T) : (rangeT 0 n).map f = (List.range n).map fun (j : Nat) => f (.int j) := by
  unfold rangeT
  rw [List.map_map]
  refine List.map_congr_left fun j _ => ?_
  show f (.int (0 + (j : Int))) = _
  rw [Int.zero_add]
end Wp
namespace Wp
theorem isB_0 : isB "NoneType" "bool" = false := by decide
theorem isB_1 : isB "NoneType" "int" = false := by decide
theorem isB_2 : isB "NoneType" "str" = false := by decide
theorem isB_3 : isB "NoneType" "tuple" = false := by decide
theorem isB_4 : isB "NoneType" "list" = false := by decide
theorem isB_5 : isB "NoneType" "dict" = false := by decide
theorem isB_6 : isB "bool" "bool" = true := by decide
theorem isB_7 : isB "bool" "int" = true := by decide
theorem isB_8 : isB "bool" "str" = false := by decide
theorem isB_9 : isB "bool" "tuple" = false := by decide
theorem isB_10 : isB "bool" "list" = false := by decide
theorem isB_11 : isB "bool" "dict" = false := by decide
theorem isB_12 : isB "int" "bool" = false := by decide
theorem isB_13 : isB "int" "int" = true := by decide
theorem isB_14 : isB "int" "str" = false := by decide
theorem isB_15 : isB "int" "tuple" = false := by decide
theorem isB_16 : isB "int" "list" = false := by decide
theorem isB_17 : isB "int" "dict" = false := by decide
theorem isB_18 : isB "str" "bool" = false := by decide
theorem isB_19 : isB "str" "int" = false := by decide
theorem isB_20 : isB "str" "str" = true := by decide
theorem isB_21 : isB "str" "tuple" = false := by decide
theorem isB_22 : isB "str" "list" = false := by decide
theorem isB_23 : isB "str" "dict" = false := by decide
theorem isB_24 : isB "tuple" "bool" = false := by decide
theorem isB_25 : isB "tuple" "int" = false := by decide
theorem isB_26 : isB "tuple" "str" = false := by decide
theorem isB_27 : isB "tuple" "tuple" = true := by decide
theorem isB_28 : isB "tuple" "list" = false := by decide
theorem isB_29 : isB "tuple" "dict" = false := by decide
theorem isB_30 : isB "list" "bool" = false := by decide
theorem isB_31 : isB "list" "int" = false := by decide
theorem isB_32 : isB "list" "str" = false := by decide
theorem isB_33 : isB "list" "tuple" = false := by decide
theorem isB_34 : isB "list" "list" = true := by decide
theorem isB_35 : isB "list" "dict" = false := by decide
end Wp
namespace Wp
theorem goS_i {f : Sl → Sta → Prop} {σ : Sl} {S : Sta} (h : f σ S) : goS f σ S := h
end Wp
namespace Wp
theorem rangeT_ints {n : Nat} : rangeT 0 n = ((List.range n).map fun (j : Nat) => (j : Int)).map T.int := by
  unfold rangeT
  rw [List.map_map]
  refine List.map_congr_left fun j _ => ?_
  show T.int (0 + (j : Int)) = _
  rw [Int.zero_add]
  rfl
end Wp

set_option Elab.async false
set_option linter.all false
set_option maxRecDepth 100000
namespace Gn
open PySem PySem.Spec PyProof.Rows L2 Wp
def topS (i : Nat) : Stmt := PySem.Challenge.pw_heldflows_k02_buckets.main.body.getD i (.Pass ⟨0, 0, 0, 0⟩)
abbrev st_bucket_of : Stmt := topS 2
abbrev N_bucket_of : List Str := ["flow", "client", "number"]
theorem sc_bucket_of : FnScope N_bucket_of ["flow"] (defScope st_bucket_of) := ⟨rfl, rfl, rfl, by decide +kernel, rfl, by decide +kernel, by decide +kernel⟩
abbrev st__law_bag : Stmt := topS 4
abbrev N__law_bag : List Str := ["script", "k", "cell"]
theorem sc__law_bag : FnScope N__law_bag ["script", "k"] (defScope st__law_bag) := ⟨rfl, rfl, rfl, by decide +kernel, rfl, by decide +kernel, by decide +kernel⟩
abbrev st__law_draw : Stmt := topS 5
abbrev N__law_draw : List Str := ["bag", "many", "seed", "rest"]
theorem sc__law_draw : FnScope N__law_draw ["bag", "many"] (defScope st__law_draw) := ⟨rfl, rfl, rfl, by decide +kernel, rfl, by decide +kernel, by decide +kernel⟩
abbrev st_law : Stmt := topS 6
abbrev N_law : List Str := ["script", "k", "bag", "client", "number", "buckets", "j", "bucket"]
theorem sc_law : FnScope N_law ["script"] (defScope st_law) := ⟨rfl, rfl, rfl, by decide +kernel, rfl, by decide +kernel, by decide +kernel⟩
/-- what the top has left -/
structure Facts (K : PySem.W.Frag) (mg : Str → Option Value) : Prop where
  d_bucket_of : DefT K mg "bucket_of" st_bucket_of ["flow"]
  d__law_bag : DefT K mg "_law_bag" st__law_bag ["script", "k"]
  d__law_draw : DefT K mg "_law_draw" st__law_draw ["bag", "many"]
  d_law : DefT K mg "law" st_law ["script"]
  c_BUCKETS : ∃ t, mg "BUCKETS" = some (.int 16 t)
  z_bool : mg "bool" = none
  z_int : mg "int" = none
  z_isinstance : mg "isinstance" = none
  z_len : mg "len" = none
  z_list : mg "list" = none
  z_max : mg "max" = none
  z_min : mg "min" = none
  z_range : mg "range" = none
  z_sorted : mg "sorted" = none
def b_bucket_of : WS :=
  (wSeq (wAsg (wVar 0) (gTp 2 (gC (gNm 1) (gC (gNm 2) gN0))))
    (wRet (wOp rMod (wOp rAdd (wOp rMul (wC (.int 5)) (wVar 2)) (wOp rMul (wC (.int 7)) (wVar 1))) (wC (.int 16)))))
def b__law_bag : WS :=
  (wSeq (wSet 2 (wC (.int 0)))
    (wSeq (wIfS (wTest (wOp rLt (wVar 1) (wCB rLen (wCons (wVar 0) wNil)))) (wSet 2 (wCB rInt1 (wCons (wOp rIx (wVar 0) (wVar 1)) wNil))) wNext)
    (wSeq (wIfS (wTest (wOp rGeI (wVar 2) (wOp rPow (wC (.int 10)) (wC (.int 18))))) (wRet (wLst (wCons (wVar 2) (wCons (wVar 2) (wCons (wVar 1) wNil))))) wNext)
    (wRet (wLst (wCons (wC (.int 0)) (wCons (wVar 2) (wCons (wVar 1) wNil))))))))
def b__law_draw : WS :=
  (wSeq (wIfS (wTest (wOp (rEq false) (wOp rIx (wVar 0) (wC (.int 0))) (wC (.int 0)))) (wSeq (wSet 2 (wOp rMod (wCB rInt1 (wCons (wOp rAdd (wOp rAdd (wOp rMul (wOp rIx (wVar 0) (wC (.int 1))) (wC (.int 48271))) (wOp rMul (wOp rIx (wVar 0) (wC (.int 2))) (wC (.int 69621)))) (wC (.int 11))) wNil)) (wC (.int 2147483647))))
    (wSeq (wAsg (wOp rAdd (wOp rMul (wVar 2) (wC (.int 2147483629))) (wOp rMod (wCB rInt1 (wCons (wOp rAdd (wOp rMul (wVar 2) (wVar 2)) (wOp rMul (wOp rIx (wVar 0) (wC (.int 2))) (wC (.int 16807)))) wNil)) (wC (.int 2147483629)))) (gIx (wVar 0) (wC (.int 0))))
    (wAsg (wVar 2) (gIx (wVar 0) (wC (.int 1)))))) wNext)
    (wSeq (wSet 3 (wOp rIx (wVar 0) (wC (.int 0))))
    (wSeq (wAsg (wOp rFdiv (wVar 3) (wVar 1)) (gIx (wVar 0) (wC (.int 0))))
    (wRet (wOp rMod (wCB rInt1 (wCons (wVar 3) wNil)) (wVar 1))))))
def l1_law (s__law_bag s__law_draw s_bucket_of : WSp) : WE :=
  (wCall 1 s_bucket_of (wCons (wTup (wCons (wVar 3) (wCons (wOp rAdd (wVar 4) (wVar 6)) wNil))) wNil))
def l2_law (s__law_bag s__law_draw s_bucket_of : WSp) : WS :=
  (wSeq (wSet 7 (wOp rIx (wVar 5) (wVar 6)))
    (wSeq (wIfS (wOr (wNot (wTest (wIsi "int" (wVar 7)))) (wTest (wIsi "bool" (wVar 7)))) (wRet (wC (.bl false))) wNext)
    (wIfS (wTest (wOp (rEq true) (wOp rMod (wCB rInt1 (wCons (wOp rSub (wOp rAdd (wOp rMul (wC (.int 5)) (wOp rAdd (wVar 4) (wVar 6))) (wOp rMul (wC (.int 7)) (wVar 3))) (wVar 7)) wNil)) (wC (.int 16))) (wC (.int 0)))) (wRet (wC (.bl false))) wNext)))
def l3_law (s__law_bag s__law_draw s_bucket_of : WSp) : WS :=
  (wSeq (wSet 2 (wCall 2 s__law_bag (wCons (wVar 0) (wCons (wVar 1) wNil))))
    (wSeq (wSet 3 (wCall 2 s__law_draw (wCons (wVar 2) (wCons (wC (.int 6)) wNil))))
    (wSeq (wSet 4 (wOp rIx (wLst (wCons (wC (.int 1)) (wCons (wC (.int 2)) (wCons (wC (.int 999985)) (wCons (wOp rAdd (wC (.int 1)) (wCall 2 s__law_draw (wCons (wVar 2) (wCons (wC (.int 100)) wNil)))) (wCons (wOp rAdd (wC (.int 1)) (wCall 2 s__law_draw (wCons (wVar 2) (wCons (wC (.int 999985)) wNil)))) wNil)))))) (wCall 2 s__law_draw (wCons (wVar 2) (wCons (wC (.int 5)) wNil)))))
    (wSeq (wSet 5 (wLc (iRg1 (wCons (wC (.int 16)) wNil)) (gNm 6) wYes (l1_law s__law_bag s__law_draw s_bucket_of) [6]))
    (wSeq (wFor (iRg1 (wCons (wC (.int 16)) wNil)) (gNm 6) (l2_law s__law_bag s__law_draw s_bucket_of))
    (wIfS (wTest (wOp (rEq true) (wCB rSortI (wCons (wVar 5) wNil)) (wLstRg (wC (.int 16))))) (wRet (wC (.bl false))) wNext))))))
def b_law (s__law_bag s__law_draw s_bucket_of : WSp) : WS :=
  (wSeq (wFor (iRg1 (wCons (wCB rMax2 (wCons (wC (.int 1)) (wCons (wCB rMin2 (wCons (wC (.int 30)) (wCons (wCB rLen (wCons (wVar 0) wNil)) wNil))) wNil))) wNil)) (gNm 1) (l3_law s__law_bag s__law_draw s_bucket_of))
    (wRet (wC (.bl true))))
section
variable {P : Program} {w : World} {K : PySem.W.Frag} {mg : Str → Option Value} {base : Heap}
theorem fn_bucket_of (T : Facts K mg) {k : Nat} {f : Addr} {fd : FuncData}  {sp : WSp} (F : Fun K "bucket_of" "bucket_of" st_bucket_of f fd) 
    (hw : ∀ ts S Q E, ts.length = 1 → sp ts S Q E → b_bucket_of  { nx := fun _ S' => Q .non S', rt := Q } (startT N_bucket_of ts) S) :
    FnOk P w K mg base CX0 (k + 1) f fd ["flow"] (Lsp K 1 sp) :=
  fnT F sc_bucket_of (fun cdv A outer s H E hr => (jss_cons (js_asg (j_var 0) (JG.two (jg_tup rfl (jgs_cons (jg_name (i := 1) (vs := [1, 2]) sc_bucket_of.nd rfl (by first | exact .inl rfl | exact .inr rfl) (by decide)) (jgs_cons (jg_name (i := 2) (vs := [1, 2]) sc_bucket_of.nd rfl (by first | exact .inl rfl | exact .inr rfl) (by decide)) jgs_nil)))))
    (jss_one (js_ret (j_op o_mod (j_op o_add (j_op o_mul j_int (j_var 2)) (j_op o_mul j_int (j_var 1))) (j_cI (by rfl) T.c_BUCKETS)))))) hw
theorem fn__law_bag (T : Facts K mg) {k : Nat} {f : Addr} {fd : FuncData}  {sp : WSp} (F : Fun K "_law_bag" "_law_bag" st__law_bag f fd) 
    (hw : ∀ ts S Q E, ts.length = 2 → sp ts S Q E → b__law_bag  { nx := fun _ S' => Q .non S', rt := Q } (startT N__law_bag ts) S) :
    FnOk P w K mg base CX0 (k + 1) f fd ["script", "k"] (Lsp K 2 sp) :=
  fnT F sc__law_bag (fun cdv A outer s H E hr => (jss_cons (js_set (i := 2) sc__law_bag.nd rfl (by first | exact .inl rfl | exact .inr rfl) j_int)
    (jss_cons (js_if (jt_cmp o_lt (j_var 1) (j_callB c_len (by rfl) T.z_len PySem.boot_len (ja_cons (j_var 0) ja_nil)) (nomark _)) (jss_one (js_set (i := 2) sc__law_bag.nd rfl (by first | exact .inl rfl | exact .inr rfl) (j_callTy c_int (by rfl) T.z_int (by rfl) (ja_cons (j_ix (j_var 0) (j_var 1) (fun _ _ => rfl)) ja_nil)))) jss_nil)
    (jss_cons (js_if (jt_cmp o_ge (j_var 2) (j_op o_pow j_int j_int) (nomark _)) (jss_one (js_ret (j_lst (ja_cons (j_var 2) (ja_cons (j_var 2) (ja_cons (j_var 1) ja_nil)))))) jss_nil)
    (jss_one (js_ret (j_lst (ja_cons j_int (ja_cons (j_var 2) (ja_cons (j_var 1) ja_nil)))))))))) hw
theorem fn__law_draw (T : Facts K mg) {k : Nat} {f : Addr} {fd : FuncData}  {sp : WSp} (F : Fun K "_law_draw" "_law_draw" st__law_draw f fd) 
    (hw : ∀ ts S Q E, ts.length = 2 → sp ts S Q E → b__law_draw  { nx := fun _ S' => Q .non S', rt := Q } (startT N__law_draw ts) S) :
    FnOk P w K mg base CX0 (k + 1) f fd ["bag", "many"] (Lsp K 2 sp) :=
  fnT F sc__law_draw (fun cdv A outer s H E hr => (jss_cons (js_if (jt_cmp (o_eq hr.units) (j_ix (j_var 0) j_int (fun _ _ => rfl)) j_int (nomark _)) (jss_cons (js_set (i := 2) sc__law_draw.nd rfl (by first | exact .inl rfl | exact .inr rfl) (j_op o_mod (j_callTy c_int (by rfl) T.z_int (by rfl) (ja_cons (j_op o_add (j_op o_add (j_op o_mul (j_ix (j_var 0) j_int (fun _ _ => rfl)) j_int) (j_op o_mul (j_ix (j_var 0) j_int (fun _ _ => rfl)) j_int)) j_int) ja_nil)) j_int))
    (jss_cons (js_asg (j_op o_add (j_op o_mul (j_var 2) j_int) (j_op o_mod (j_callTy c_int (by rfl) T.z_int (by rfl) (ja_cons (j_op o_add (j_op o_mul (j_var 2) (j_var 2)) (j_op o_mul (j_ix (j_var 0) j_int (fun _ _ => rfl)) j_int)) ja_nil)) j_int)) (jg_ix (j_var 0) j_int))
    (jss_one (js_asg (j_var 2) (jg_ix (j_var 0) j_int))))) jss_nil)
    (jss_cons (js_set (i := 3) sc__law_draw.nd rfl (by first | exact .inl rfl | exact .inr rfl) (j_ix (j_var 0) j_int (fun _ _ => rfl)))
    (jss_cons (js_asg (j_op o_fdiv (j_var 3) (j_var 1)) (jg_ix (j_var 0) j_int))
    (jss_one (js_ret (j_op o_mod (j_callTy c_int (by rfl) T.z_int (by rfl) (ja_cons (j_var 3) ja_nil)) (j_var 1)))))))) hw
theorem fn_law (T : Facts K mg) {k : Nat} {f : Addr} {fd : FuncData} {s__law_bag s__law_draw s_bucket_of : WSp} {sp : WSp} (F : Fun K "law" "law" st_law f fd) (C__law_bag : Cal P w K mg base k "_law_bag" ["script", "k"] s__law_bag) (C__law_draw : Cal P w K mg base k "_law_draw" ["bag", "many"] s__law_draw) (C_bucket_of : Cal P w K mg base k "bucket_of" ["flow"] s_bucket_of)
    (hw : ∀ ts S Q E, ts.length = 1 → sp ts S Q E → b_law s__law_bag s__law_draw s_bucket_of { nx := fun _ S' => Q .non S', rt := Q } (startT N_law ts) S) :
    FnOk P w K mg base CX0 (k + 1) f fd ["script"] (Lsp K 1 sp) :=
  fnT F sc_law (fun cdv A outer s H E hr => (jss_cons (js_for PassesOwn.never rfl (ji_rg1 (by rfl) T.z_range (ja_cons (j_callB (c_max2 rfl) (by rfl) T.z_max (by rfl) (ja_cons j_int (ja_cons (j_callB (c_min2 rfl) (by rfl) T.z_min (by rfl) (ja_cons j_int (ja_cons (j_callB c_len (by rfl) T.z_len PySem.boot_len (ja_cons (j_var 0) ja_nil)) ja_nil))) ja_nil))) ja_nil)) (jg_name (i := 1) (vs := [1]) sc_law.nd rfl (by first | exact .inl rfl | exact .inr rfl) (by decide))
    (jss_cons (js_set (i := 2) sc_law.nd rfl (by first | exact .inl rfl | exact .inr rfl) (j_c C__law_bag hr (by rfl) (ja_cons (j_var 0) (ja_cons (j_var 1) ja_nil))))
    (jss_cons (js_set (i := 3) sc_law.nd rfl (by first | exact .inl rfl | exact .inr rfl) (j_c C__law_draw hr (by rfl) (ja_cons (j_var 2) (ja_cons j_int ja_nil))))
    (jss_cons (js_set (i := 4) sc_law.nd rfl (by first | exact .inl rfl | exact .inr rfl) (j_ix (j_lst (ja_cons j_int (ja_cons j_int (ja_cons j_int (ja_cons (j_op o_add j_int (j_c C__law_draw hr (by rfl) (ja_cons (j_var 2) (ja_cons j_int ja_nil)))) (ja_cons (j_op o_add j_int (j_c C__law_draw hr (by rfl) (ja_cons (j_var 2) (ja_cons j_int ja_nil)))) ja_nil)))))) (j_c C__law_draw hr (by rfl) (ja_cons (j_var 2) (ja_cons j_int ja_nil))) (fun _ _ => rfl)))
    (jss_cons (js_setLc (i := 5) (own := [("j", 6)]) rfl sc_law.nd rfl rfl (sw_true rfl rfl rfl (by decide +kernel)) (ji_rg1 (by rfl) T.z_range (ja_cons j_int ja_nil)) (blkOk_by (N := N_law) (sc := defScope st_law) (by decide +kernel)) (fun _ _ _ _ _ => (jg_name (i := 6) (vs := [6]) sc_law.nd rfl (by first | exact .inl rfl | exact .inr rfl) (by decide))) (fun _ _ _ _ _ => jts_nil) (fun _ _ _ _ _ => (j_c C_bucket_of hr (by rfl) (ja_cons (j_tup (ja_cons (j_var 3) (ja_cons (j_op o_add (j_var 4) (j_var 6)) ja_nil))) ja_nil))))
    (jss_cons (js_for PassesOwn.never rfl (ji_rg1 (by rfl) T.z_range (ja_cons j_int ja_nil)) (jg_name (i := 6) (vs := [6]) sc_law.nd rfl (by first | exact .inl rfl | exact .inr rfl) (by decide))
    (jss_cons (js_set (i := 7) sc_law.nd rfl (by first | exact .inl rfl | exact .inr rfl) (j_ix (j_var 5) (j_var 6) (fun _ _ => rfl)))
    (jss_cons (js_if (JW.jt (jw_or (jt_not (jt_val (j_isi (cs := "int") (by rfl) T.z_isinstance (by rfl) (j_var 7) (by rfl) T.z_int (by rfl) (by decide)))) (jw_or1 (jt_val (j_isi (cs := "bool") (by rfl) T.z_isinstance (by rfl) (j_var 7) (by rfl) T.z_bool (by rfl) (by decide)))))) (jss_one (js_ret j_bl)) jss_nil)
    (jss_one (js_if (jt_cmp (o_ne hr.units) (j_op o_mod (j_callTy c_int (by rfl) T.z_int (by rfl) (ja_cons (j_op o_sub (j_op o_add (j_op o_mul j_int (j_op o_add (j_var 4) (j_var 6))) (j_op o_mul j_int (j_var 3))) (j_var 7)) ja_nil)) j_int) j_int (nomark _)) (jss_one (js_ret j_bl)) jss_nil)))))
    (jss_one (js_if (jt_cmp (o_ne hr.units) (j_callB c_sortI (by rfl) T.z_sorted (by rfl) (ja_cons (j_var 5) ja_nil)) (j_listRg1 (by rfl) T.z_list (by rfl) T.z_range rfl j_int) (nomark _)) (jss_one (js_ret j_bl)) jss_nil))))))))
    (jss_one (js_ret j_bl)))) hw
end
theorem facts_mk {K : PySem.W.Frag} {h : Heap} {mg : Str → Option Value} (X : K.In h) (G : h.Ns mainGlobals mg)
    {f0 : Addr} {od0 an0 : Option Addr} {sl0 : Array (Option Value)} {oc0 kV0 dc0 pm0 cd0 ct0 : Value}
    (a0 : PySem.W.nsIn K mainGlobals "bucket_of" = some (some (.ref f0))) (l0 : K.lookup f0 = some ⟨oc0, od0, .func (PySem.W.fnOf "bucket_of" "bucket_of" (defArgs st_bucket_of) (defBody st_bucket_of) (defScope st_bucket_of) .none kV0 dc0 pm0 an0 cd0 ct0), sl0⟩) (c0 : PySem.W.codeIn K cd0 "bucket_of" = true) (k0 : PySem.W.keepIn K (.ref f0) = true)
    {f1 : Addr} {od1 an1 : Option Addr} {sl1 : Array (Option Value)} {oc1 kV1 dc1 pm1 cd1 ct1 : Value}
    (a1 : PySem.W.nsIn K mainGlobals "_law_bag" = some (some (.ref f1))) (l1 : K.lookup f1 = some ⟨oc1, od1, .func (PySem.W.fnOf "_law_bag" "_law_bag" (defArgs st__law_bag) (defBody st__law_bag) (defScope st__law_bag) .none kV1 dc1 pm1 an1 cd1 ct1), sl1⟩) (c1 : PySem.W.codeIn K cd1 "_law_bag" = true) (k1 : PySem.W.keepIn K (.ref f1) = true)
    {f2 : Addr} {od2 an2 : Option Addr} {sl2 : Array (Option Value)} {oc2 kV2 dc2 pm2 cd2 ct2 : Value}
    (a2 : PySem.W.nsIn K mainGlobals "_law_draw" = some (some (.ref f2))) (l2 : K.lookup f2 = some ⟨oc2, od2, .func (PySem.W.fnOf "_law_draw" "_law_draw" (defArgs st__law_draw) (defBody st__law_draw) (defScope st__law_draw) .none kV2 dc2 pm2 an2 cd2 ct2), sl2⟩) (c2 : PySem.W.codeIn K cd2 "_law_draw" = true) (k2 : PySem.W.keepIn K (.ref f2) = true)
    {f3 : Addr} {od3 an3 : Option Addr} {sl3 : Array (Option Value)} {oc3 kV3 dc3 pm3 cd3 ct3 : Value}
    (a3 : PySem.W.nsIn K mainGlobals "law" = some (some (.ref f3))) (l3 : K.lookup f3 = some ⟨oc3, od3, .func (PySem.W.fnOf "law" "law" (defArgs st_law) (defBody st_law) (defScope st_law) .none kV3 dc3 pm3 an3 cd3 ct3), sl3⟩) (c3 : PySem.W.codeIn K cd3 "law" = true) (k3 : PySem.W.keepIn K (.ref f3) = true)
    {t_BUCKETS : Tok} (n_BUCKETS : PySem.W.nsIn K mainGlobals "BUCKETS" = some (some (.int 16 t_BUCKETS)))
    (z_bool : PySem.W.nsIn K mainGlobals "bool" = some none)
    (z_int : PySem.W.nsIn K mainGlobals "int" = some none)
    (z_isinstance : PySem.W.nsIn K mainGlobals "isinstance" = some none)
    (z_len : PySem.W.nsIn K mainGlobals "len" = some none)
    (z_list : PySem.W.nsIn K mainGlobals "list" = some none)
    (z_max : PySem.W.nsIn K mainGlobals "max" = some none)
    (z_min : PySem.W.nsIn K mainGlobals "min" = some none)
    (z_range : PySem.W.nsIn K mainGlobals "range" = some none)
    (z_sorted : PySem.W.nsIn K mainGlobals "sorted" = some none) : Facts K mg where
  d_bucket_of := defT_mk (PySem.W.mg_of X G a0) l0 c0 k0 fun _ _ _ _ _ _ us hl => match us, hl with | [_], _ => rfl
  d__law_bag := defT_mk (PySem.W.mg_of X G a1) l1 c1 k1 fun _ _ _ _ _ _ us hl => match us, hl with | [_, _], _ => rfl
  d__law_draw := defT_mk (PySem.W.mg_of X G a2) l2 c2 k2 fun _ _ _ _ _ _ us hl => match us, hl with | [_, _], _ => rfl
  d_law := defT_mk (PySem.W.mg_of X G a3) l3 c3 k3 fun _ _ _ _ _ _ us hl => match us, hl with | [_], _ => rfl
  c_BUCKETS := ⟨t_BUCKETS, PySem.W.mg_of X G n_BUCKETS⟩
  z_bool := PySem.W.mg_none_of X G z_bool
  z_int := PySem.W.mg_none_of X G z_int
  z_isinstance := PySem.W.mg_none_of X G z_isinstance
  z_len := PySem.W.mg_none_of X G z_len
  z_list := PySem.W.mg_none_of X G z_list
  z_max := PySem.W.mg_none_of X G z_max
  z_min := PySem.W.mg_none_of X G z_min
  z_range := PySem.W.mg_none_of X G z_range
  z_sorted := PySem.W.mg_none_of X G z_sorted
end Gn

set_option Elab.async false
set_option linter.all false
set_option maxRecDepth 100000
namespace My
open PySem PySem.Spec PyProof.Rows L2 Wp Gn
local macro_rules | `(tactic| walk_at "go") => `(tactic| (with_reducible refine goS_i ?_))
local macro_rules | `(tactic| walk_at "wp") => `(tactic| simp (disch := omega) only [wSeq, wNext, wSet, wVar, wC, wOp, wRet, wIfS, wTest, wCall, wCons, wNil, wTup, wLst, wAsg, gTp, gC, gNm, gN0, gIx, rSet, Wp.rAdd, rMul, rMod, Wp.rSub, rFdiv, rPow, rInt, Wp.rIx, rLt, rLe, rCmp, rGeI, rGtI, wCB, rLen, rLen1, rInt1, rMax2, rMin2,
  wIsi, wNot, wOr, wAnd, wAndV, wOrV, wNotV, wFor, iRg1, iRg2, wLc, wYes, wDrop, wipeT, List.map, List.set_cons_zero, List.set_cons_succ, List.getElem?_cons_zero, List.getElem?_cons_succ, List.length_cons, List.length_nil, List.cons_append, List.nil_append, List.replicate, Wp.startT,
  true_and, and_true, wif_true, wif_false, ex_some, ex_some1, ex_eq, ex_lst, ex_lst0, rEq_int, Bool.false_bne, Bool.true_bne, Int.reduceLT, Int.reduceLE, Int.reduceAdd, Nat.reduceAdd, upS, upS_upS, eq_self, ite_true, ite_false, beq_self_eq_true, Bool.not_true, Bool.not_false, isB_0, isB_1, isB_2, isB_3, isB_4, isB_5, isB_6, isB_7, isB_8, isB_9, isB_10, isB_11, isB_12, isB_13, isB_14, isB_15, isB_16, isB_17, isB_18, isB_19, isB_20, isB_21, isB_22, isB_23, isB_24, isB_25, isB_26, isB_27, isB_28, isB_29, isB_30, isB_31, isB_32, isB_33, isB_34, isB_35, cmul_l, cmul_r, cpow_lit, size_le, size_lt, atI_0, atI_1, atI_2, atI_3, atI_4, atI_5, atI_6, ixN_0, ixN_1, ixN_2, itemsT, tyT, reduceIte, *])
local macro_rules | `(tactic| walk_at "run") => `(tactic| repeat (first | walk_at "wp" | walk_at "go"))
def spBucket : WSp := fun ts S Q _ => match ts with
  | [.tup [.int c, .int n]] => Q (.int ((5 * n + 7 * c) % 16)) S
  | _ => False
theorem hw_bucket : ∀ ts S Q E, ts.length = 1 → spBucket ts S Q E → b_bucket_of { nx := fun _ S' => Q .non S', rt := Q } (Wp.startT N_bucket_of ts) S := by
  intro ts S Q E _ h
  match ts, h with
  | [.tup [.int c, .int n]], h =>
    unfold b_bucket_of N_bucket_of
    walk_at "run"
    exact h
/-- a bag: three ints -/
def IsBag (S : Sta) (p : Addr) : Prop := ∃ a b c : Int, S p = some (.lst [.int a, .int b, .int c])
def spBag : WSp := fun ts S Q _ => match ts with
  | [.fl us, .int k] => ∃ ns : List Int, us = ns.map T.int ∧ 0 ≤ k ∧ ns.length ≤ 1000 ∧ ∀ (p : Addr) (a b c : Int), S p = none → Q (.ref p) (upS S p (.lst [.int a, .int b, .int c]))
  | _ => False
theorem hw_bag : ∀ ts S Q E, ts.length = 2 → spBag ts S Q E → b__law_bag { nx := fun _ S' => Q .non S', rt := Q } (Wp.startT N__law_bag ts) S := by
  intro ts S Q E _ h
  match ts, h with
  | [.fl us, .int k], ⟨ns, e, h0, hl, h⟩ =>
    subst e
    unfold b__law_bag N__law_bag
    walk_at "run"
    refine if_dec (fun hk => ?_) (fun hk => ?_)
    · obtain ⟨x, hx, hm⟩ := atI_in (xs := ns.map T.int) h0 hk
      obtain ⟨n, _, rfl⟩ := List.mem_map.mp hm
      walk_at "run"
      refine if_dec (fun _ => ?_) (fun _ => ?_)
      · walk_at "run"
        exact fun p hp => h p _ _ _ hp
      · walk_at "run"
        exact fun p hp => h p _ _ _ hp
    · walk_at "run"
      refine if_dec (fun _ => ?_) (fun _ => ?_)
      · walk_at "run"
        exact fun p hp => h p _ _ _ hp
      · walk_at "run"
        exact fun p hp => h p _ _ _ hp
def spDraw : WSp := fun ts S Q _ => match ts with
  | [.ref p, .int m] => IsBag S p ∧ 0 < m ∧ m < 2 ^ 62 ∧ ∀ (r a b c : Int), 0 ≤ r → r < m → Q (.int r) (upS S p (.lst [.int a, .int b, .int c]))
  | _ => False
theorem hw_draw : ∀ ts S Q E, ts.length = 2 → spDraw ts S Q E → b__law_draw { nx := fun _ S' => Q .non S', rt := Q } (Wp.startT N__law_draw ts) S := by
  intro ts S Q E _ h
  match ts, h with
  | [.ref p, .int m], ⟨⟨a, b, c, hS⟩, h0, h1, h⟩ =>
    unfold b__law_draw N__law_draw
    walk_at "run"
    refine if_bool (fun _ => ?_) (fun _ => ?_)
    · walk_at "run"
      exact h _ _ _ _ (Int.emod_nonneg _ (by omega)) (Int.emod_lt_of_pos _ h0)
    · walk_at "run"
      exact h _ _ _ _ (Int.emod_nonneg _ (by omega)) (Int.emod_lt_of_pos _ h0)
def bk (n c : Int) (j : Nat) : Int := (5 * (n + (j : Int)) + 7 * c) % 16
def bks (n c : Int) : List Int := (List.range 16).map (bk n c)
theorem bks_perm (n c : Int) : (bks n c).Perm ((List.range 16).map fun (j : Nat) => (j : Int)) := by
  obtain ⟨r, h0, h1, e⟩ : ∃ r : Int, 0 ≤ r ∧ r < 16 ∧ ∀ j : Nat, bk n c j = (r + 5 * (j : Int)) % 16 :=
    ⟨(5 * n + 7 * c) % 16, by omega, by omega, fun j => by unfold bk; omega⟩
  have e2 : bks n c = (List.range 16).map fun (j : Nat) => (r + 5 * (j : Int)) % 16 := List.map_congr_left fun j _ => e j
  rw [e2]
  have all : ∀ k : Fin 16, ((List.range 16).map fun (j : Nat) => (((k.val : Nat) : Int) + 5 * (j : Int)) % 16).Perm ((List.range 16).map fun (j : Nat) => (j : Int)) := by decide +kernel
  have q := all ⟨r.toNat, by omega⟩
  have er : ((r.toNat : Nat) : Int) = r := by omega
  simp only [er] at q
  exact q
theorem sorted16 : ((List.range 16).map fun (j : Nat) => (j : Int)).Pairwise (· ≤ ·) := by decide +kernel
theorem loop2 (a0 a1 a2 : Option T) (c n : Int) (D : Addr) (Dn : WEnds) (S : Sta) (hS : S D = some (.lst ((bks n c).map T.int)))
    (hn : ∀ x y, Dn.nx [a0, a1, a2, some (.int c), some (.int n), some (.ref D), x, y] S) :
    ∀ (xs : List T), (∀ x ∈ xs, ∃ j : Nat, j < 16 ∧ x = .int j) → ∀ x y, loopW (gNm 6) (l2_law spBag spDraw spBucket) (fun _ => True) Dn xs [a0, a1, a2, some (.int c), some (.int n), some (.ref D), x, y] S
  | [], _, x, y => ⟨trivial, hn x y⟩
  | t :: xs, h, x, y => by
    obtain ⟨j, hj, rfl⟩ := h t List.mem_cons_self
    refine ⟨trivial, ?_⟩
    have ih := loop2 a0 a1 a2 c n D Dn S hS hn xs fun t ht => h t (List.mem_cons_of_mem _ ht)
    generalize loopW (gNm 6) (l2_law spBag spDraw spBucket) (fun _ => True) Dn xs = LP at ih ⊢
    unfold l2_law
    have e : ((bks n c).map T.int)[j]? = some (.int (bk n c j)) := by
      unfold bks
      rw [List.map_map, List.getElem?_map, List.getElem?_range hj]
      rfl
    have hm : (5 * (n + (j : Int)) + 7 * c - bk n c j) % 16 = 0 := by unfold bk; omega
    walk_at "run"
    simp only [atI_lit, e, ex_some1, tyT]
    walk_at "run"
theorem loop1_end (ns : List Int) (hl : ns.length ≤ 63) (Dn : WEnds) (LP : Sl → Sta → Prop) (ih : ∀ a1 a2 a3 a4 a5 a6 a7 S, LP [some (.fl (ns.map T.int)), a1, a2, a3, a4, a5, a6, a7] S) (a1 a2 : Option T) (c n : Int) (D : Addr) (x y : Option T)
    (S : Sta) (hD : S D = some (.lst ((bks n c).map T.int))) : goS (wSeq (wFor (iRg1 (wCons (wC (T.int 16)) wNil)) (gNm 6) (l2_law spBag spDraw spBucket))
          (wIfS (wTest (wOp (Wp.rEq true) (wCB rSortI (wCons (wVar 5) wNil)) (wLstRg (wC (T.int 16)))))
            (wRet (wC (T.bl false))) wNext) { nx := LP, rt := Dn.rt, bk := Dn.nx, ct := LP })
        [some (T.fl (ns.map T.int)), a1, a2, some (T.int c), some (T.int n), some (T.ref D), x, y] S := by
  walk_at "run"
  refine ⟨by omega, by omega, loop2 _ _ _ c n D _ S hD (fun x y => ?_) _ (fun x hx => ?_) _ _⟩
  · walk_at "run"
    refine ⟨bks n c, itemsT_ref hD, by unfold bks; simp, trivial, fun ms p hp hs hn => ?_⟩
    have hms : ms = (List.range 16).map fun (j : Nat) => (j : Int) := PySem.W.ksm_same (hp.trans (bks_perm n c)) hs sorted16
    subst hms
    refine ⟨⟨by decide, by decide⟩, fun p2 hp2 => ?_⟩
    have hne : p ≠ p2 := fun e => by subst e; rw [upS_same] at hp2; cases hp2
    refine rEq_ints (ns := (List.range 16).map fun (j : Nat) => (j : Int)) (ms := (List.range 16).map fun (j : Nat) => (j : Int)) (dd_ints (by rw [upS_ne hne, upS_same])) (dd_ints ?_) ?_
    · rw [upS_same, show (Int.toNat 16) = 16 from rfl, rangeT_ints]
    · rw [beq_self_eq_true]
      exact ih _ _ _ _ _ _ _ _
  · obtain ⟨i, hi, e⟩ := rangeT_mem hx
    exact ⟨i, hi, e⟩
theorem loop1 (ns : List Int) (hl : ns.length ≤ 63) (Dn : WEnds) (hn : ∀ σ S, Dn.nx σ S) :
    ∀ (xs : List T), (∀ x ∈ xs, ∃ j : Nat, j < 63 ∧ x = .int j) → ∀ a1 a2 a3 a4 a5 a6 a7 S, loopW (gNm 1) (l3_law spBag spDraw spBucket) (fun _ => True) Dn xs [some (.fl (ns.map T.int)), a1, a2, a3, a4, a5, a6, a7] S
  | [], _, a1, a2, a3, a4, a5, a6, a7, S => ⟨trivial, hn _ _⟩
  | t :: xs, h, a1, a2, a3, a4, a5, a6, a7, S => by
    obtain ⟨j, hj, rfl⟩ := h t List.mem_cons_self
    refine ⟨trivial, ?_⟩
    have ih := loop1 ns hl Dn hn xs fun t ht => h t (List.mem_cons_of_mem _ ht)
    generalize loopW (gNm 1) (l3_law spBag spDraw spBucket) (fun _ => True) Dn xs = LP at ih ⊢
    unfold l3_law
    walk_at "run"
    refine ⟨ns, rfl, by omega, by omega, fun p a b c hp => ?_⟩
    walk_at "run"
    refine ⟨⟨_, _, _, upS_same⟩, by omega, by omega, fun cl a b c h0 h1 => ?_⟩
    walk_at "run"
    refine ⟨⟨_, _, _, upS_same⟩, by omega, by omega, fun d1 a b c h2 h3 => ?_⟩
    walk_at "run"
    refine ⟨⟨_, _, _, upS_same⟩, by omega, by omega, fun d2 a b c h4 h5 => ?_⟩
    walk_at "run"
    intro q hq
    have hqp : p ≠ q := fun e => by subst e; simp at hq
    have hqp2 := hqp.symm
    refine ⟨⟨_, _, _, by rw [upS_ne hqp, upS_same]⟩, by omega, by omega, fun d3 a b c h6 h7 => ?_⟩
    walk_at "run"
    obtain ⟨t, ht, hmem⟩ := atI_in (xs := [T.int 1, T.int 2, T.int 999985, T.int (1 + d1), T.int (1 + d2)]) h6 (by simp; omega)
    obtain ⟨n, rfl⟩ : ∃ n, t = T.int n := by
      simp only [List.mem_cons, List.not_mem_nil, or_false] at hmem
      rcases hmem with e | e | e | e | e <;> exact ⟨_, e⟩
    walk_at "run"
    refine ⟨by omega, by omega, fun D hD => ?_⟩
    refine compW_pure (fun x => match x with | .int j => .int ((5 * (n + j) + 7 * cl) % 16) | _ => .non) (fun _ => trivial) _ [] _ (fun x hx acc R r => ?_) ?_ ?_
    · obtain ⟨i, hi, rfl⟩ := rangeT_mem hx
      unfold l1_law
      walk_at "run"
      exact r
    · rw [rangeT_len]
      decide
    · rw [List.nil_append, rangeT_map, show (Int.toNat 16) = 16 from rfl]
      refine loop1_end ns hl Dn LP (fun a1 a2 a3 a4 a5 a6 a7 S => ih a1 a2 a3 a4 a5 a6 a7 S) _ _ cl n D _ _ _ ?_
      rw [upS_same]
      unfold bks
      rw [List.map_map]
      rfl
theorem hw_law : ∀ ts S Q E, ts.length = 1 → spLaw ts S Q E → b_law spBag spDraw spBucket { nx := fun _ S' => Q .non S', rt := Q } (Wp.startT N_law ts) S := by
  intro ts S Q E _ h
  obtain ⟨ns, rfl, hl, hf, q⟩ := h
  unfold b_law N_law
  walk_at "run"
  have hm : ∀ m : Int, (if (if ((ns.map T.int).length : Int) < 30 then ((ns.map T.int).length : Int) else 30) > 1 then if ((ns.map T.int).length : Int) < 30 then ((ns.map T.int).length : Int) else 30 else 1) = m → m ≤ 30 ∧ 1 ≤ m := by
    intro m e
    subst e
    omega
  generalize (if (if ((ns.map T.int).length : Int) < 30 then ((ns.map T.int).length : Int) else 30) > 1 then if ((ns.map T.int).length : Int) < 30 then ((ns.map T.int).length : Int) else 30 else 1) = m at hm ⊢
  obtain ⟨h1, h2⟩ := hm m rfl
  refine ⟨by omega, by omega, loop1 ns hl _ (fun σ S => q S) _ (fun x hx => ?_) _ _ _ _ _ _ _ _⟩
  obtain ⟨i, hi, e⟩ := rangeT_mem hx
  exact ⟨i, by omega, e⟩
section
variable {K : PySem.W.Frag} {mg : Str → Option Value}
theorem law_ok {l : PySem.W.OpenLaw} {w : World} {h : Heap} {fa : Addr} (T : Facts K mg) (X : K.In h) (G : h.Ns mainGlobals mg) (hfa : mg "law" = some (.ref fa)) :
    ∃ fd : FuncData, (∀ (s : Shared) (u : Value), BindsTo s fd ⟨[u], []⟩ [("script", u)]) ∧ ∀ base : Heap, K.In base → base.Ns mainGlobals mg → FnOk l.prog w K mg base CX0 5 fa fd ["script"] (Lsp K 1 spLaw) := by
  obtain ⟨f, fd, F, m, b⟩ := T.d_law
  have e := m.symm.trans hfa
  cases e
  refine ⟨fd, fun s u => ?_, fun base hb hg => ?_⟩
  · obtain ⟨oc, od, kV, doc, pm, an, cdv, ct, osl, rfl, lk, hcd⟩ := F.ex
    exact .of_eq rfl
  · have c1 : Cal l.prog w K mg base 1 "bucket_of" ["flow"] spBucket := T.d_bucket_of.cal fun f fd F => fn_bucket_of (k := 0) T F hw_bucket
    have c2 : Cal l.prog w K mg base 1 "_law_bag" ["script", "k"] spBag := T.d__law_bag.cal fun f fd F => fn__law_bag (k := 0) T F hw_bag
    have c3 : Cal l.prog w K mg base 1 "_law_draw" ["bag", "many"] spDraw := T.d__law_draw.cal fun f fd F => fn__law_draw (k := 0) T F hw_draw
    exact fn_law (k := 4) T F (c2.mono (by decide)) (c3.mono (by decide)) (c1.mono (by decide)) hw_law
end
end My
open PySem PySem.W PyProof.Rows
set_option maxHeartbeats 0 in
theorem PySem.Challenge.cw_heldflows_k02_buckets_holds : PySem.Challenge.rw_heldflows_k02_buckets.Holds := by
  w_on; o_law; k_head; (case hw => w_witness2)
  k_fill
  refine Wp.law_walk (l := PySem.Challenge.rw_heldflows_k02_buckets) (k := 5) (x := "script") rfl rfl ⟨rfl, by decide, by decide⟩ (fun w h Y => PySem.W.kIn_of Y) ?F
  case F =>
    intro w mg fa h KX G hmg
    refine' My.law_ok (Gn.facts_mk KX G ?a0 ?l0 ?c0 ?k0 ?a1 ?l1 ?c1 ?k1 ?a2 ?l2 ?c2 ?k2 ?a3 ?l3 ?c3 ?k3 ?n_BUCKETS ?z_bool ?z_int ?z_isinstance ?z_len ?z_list ?z_max ?z_min ?z_range ?z_sorted) KX G hmg
    (case a0 => k_is); (case l0 => k_is); (case c0 => k_is); (case k0 => k_is); (case a1 => k_is); (case l1 => k_is); (case c1 => k_is); (case k1 => k_is); (case a2 => k_is); (case l2 => k_is); (case c2 => k_is); (case k2 => k_is); (case a3 => k_is); (case l3 => k_is); (case c3 => k_is); (case k3 => k_is); (case n_BUCKETS => k_is); (case z_bool => k_is); (case z_int => k_is); (case z_isinstance => k_is); (case z_len => k_is); (case z_list => k_is); (case z_max => k_is); (case z_min => k_is); (case z_range => k_is); (case z_sorted => k_is)

