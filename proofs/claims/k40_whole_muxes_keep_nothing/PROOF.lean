import PyProof.Rows.All
import Wide.All
import OpenK.AllK
import Wide.FinOn
import HandS.ForMost
import HandS.TupAny
import HandS.IsInst
import HandS.Wide
import HandS.Deep
import HandS.AnyAll
import HandS.Codes
import HandS.Style
import HandS.Conv
import KE.KSortedM
import HandS.GenOver
import HandS.GenList
import HandS.EndOwn
import HandS.Iter
import HandS.Text
import KE.GoesEnumKw
import HandS.SortKw
import HandS.ForExc
import HandS.ExcIs
import HandS.Dict
import HandS.More
import HandS.Zip
import HandS.NoneIn
import HandS.WrittenGet
import HandS.TupMul
import PySem.Challenge.RW_heldflows_k40_whole_muxes_keep_nothing
set_option Elab.async false
set_option linter.all false
set_option maxRecDepth 100000
/-! trees, states, and what a reading over them is worth -/
namespace Wp
open PySem PySem.Spec PyProof.Rows L2

/-- a value as a tree: tuples by their items, frozen lists by theirs, all that changes by its address -/
inductive T where
  | non | bl (b : Bool) | int (i : Int) | str (s : Str) | tup (ts : List T) | fl (ts : List T) | ref (a : Addr)

/-- a list that never changes: known, or of the written part -/
def FzL (K : PySem.W.Frag) (H : Hp) (a : Addr) (xs : List V) : Prop :=
  (∃ o, H a = some (.frz o (.lst xs))) ∨
    ∃ (o : Obj) (its : Array Value) (n : Nat), K.lookup a = some o ∧ o.cls = .type "list" ∧ o.dict = none ∧ o.data = .seq its n ∧ its.size ≤ sizeLine ∧ Vals xs its.toList
theorem FzL.sq {K : PySem.W.Frag} {H : Hp} {a : Addr} {xs : List V} (h : FzL K H a xs) : SqL K H a xs := by
  rcases h with ⟨o, h⟩ | h
  · exact .inl (.inr ⟨o, h⟩)
  · exact .inr h

mutual
inductive Rep (K : PySem.W.Frag) (H : Hp) : T → V → Prop
  | non : Rep K H .non .non
  | bl (b : Bool) : Rep K H (.bl b) (.bl b)
  | int (i : Int) : Rep K H (.int i) (.int i)
  | str (x : Str) : Rep K H (.str x) (.str x)
  | ref (a : Addr) : Rep K H (.ref a) (.ref a)
  | tup {a : Addr} {xs : List V} {ts : List T} : H a = some (.tup xs) → Reps K H ts xs → Rep K H (.tup ts) (.ref a)
  | fl {a : Addr} {xs : List V} {ts : List T} : FzL K H a xs → Reps K H ts xs → Rep K H (.fl ts) (.ref a)
inductive Reps (K : PySem.W.Frag) (H : Hp) : List T → List V → Prop
  | nil : Reps K H [] []
  | cons {t : T} {ts : List T} {v : V} {vs : List V} : Rep K H t v → Reps K H ts vs → Reps K H (t :: ts) (v :: vs)
end

/-- what stays -/
structure Ext (H H' : Hp) : Prop where
  tups : ∀ b xs, H b = some (.tup xs) → H' b = some (.tup xs)
  frzs : ∀ b o u, H b = some (.frz o u) → H' b = some (.frz o u)
  tabs : ∀ b, GxR.TabG H b → GxR.TabG H' b
theorem Ext.refl (H : Hp) : Ext H H := ⟨fun _ _ h => h, fun _ _ _ h => h, fun _ h => h⟩
theorem Ext.trans {H H1 H2 : Hp} (a : Ext H H1) (b : Ext H1 H2) : Ext H H2 := ⟨fun x xs h => b.tups x xs (a.tups x xs h), fun x o u h => b.frzs x o u (a.frzs x o u h), fun x h => b.tabs x (a.tabs x h)⟩
theorem Ext.new {H : Hp} {p : Addr} {o : HO} (h : H p = none) : Ext H (upd H p o) :=
  ⟨fun b xs e => by rw [upd_ne (ne_of_none e h)]; exact e, fun b o u e => by rw [upd_ne (ne_of_none e h)]; exact e, fun b ⟨ps, e, t⟩ => ⟨ps, by rw [upd_ne (ne_of_none e h)]; exact e, t⟩⟩
/-- what may be written over -/
def Soft : HO → Prop
  | .tup _ => False
  | .frz _ _ => False
  | .tbl _ => False
  | _ => True
theorem Ext.put {H : Hp} {p : Addr} {o u : HO} (h : H p = some u) (hs : Soft u) : Ext H (upd H p o) :=
  ⟨fun b xs e => by
    rw [upd_ne]
    · exact e
    · intro z; subst z; rw [h] at e; cases e; exact hs,
   fun b o u e => by
    rw [upd_ne]
    · exact e
    · intro z; subst z; rw [h] at e; cases e; exact hs,
   fun b ⟨ps, e, t⟩ => ⟨ps, by
    rw [upd_ne]
    · exact e
    · intro z; subst z; rw [h] at e; cases e; exact hs, t⟩⟩
theorem sqT_of {K : PySem.W.Frag} {H : Hp} {a : Addr} {xs : List V} (h : H a = some (.tup xs)) : SqT K H a xs := .inl (.inl h)
theorem Ext.sqT {K : PySem.W.Frag} {H H' : Hp} {a : Addr} {xs : List V} (e : Ext H H') (h : SqT K H a xs) : SqT K H' a xs := by
  rcases h with (h | ⟨o, h⟩) | h
  · exact .inl (.inl (e.tups _ _ h))
  · exact .inl (.inr ⟨o, e.frzs _ _ _ h⟩)
  · exact .inr h
theorem Ext.fzL {K : PySem.W.Frag} {H H' : Hp} {a : Addr} {xs : List V} (e : Ext H H') (h : FzL K H a xs) : FzL K H' a xs := by
  rcases h with ⟨o, h⟩ | h
  · exact .inl ⟨o, e.frzs _ _ _ h⟩
  · exact .inr h
mutual
theorem Rep.mono {K : PySem.W.Frag} {H H' : Hp} (e : Ext H H') : ∀ (t : T) (v : V), Rep K H t v → Rep K H' t v
  | .non, _, h => by cases h; exact .non
  | .bl b, _, h => by cases h; exact .bl b
  | .int i, _, h => by cases h; exact .int i
  | .str x, _, h => by cases h; exact .str x
  | .ref a, _, h => by cases h; exact .ref a
  | .tup ts, _, h => by
    cases h with
    | tup h1 h2 => exact .tup (e.tups _ _ h1) (Reps.mono e ts _ h2)
  | .fl ts, _, h => by
    cases h with
    | fl h1 h2 => exact .fl (e.fzL h1) (Reps.mono e ts _ h2)
theorem Reps.mono {K : PySem.W.Frag} {H H' : Hp} (e : Ext H H') : ∀ (ts : List T) (vs : List V), Reps K H ts vs → Reps K H' ts vs
  | [], _, h => by cases h; exact .nil
  | t :: ts, _, h => by
    cases h with
    | cons h1 h2 => exact .cons (Rep.mono e t _ h1) (Reps.mono e ts _ h2)
end
section
variable {K : PySem.W.Frag} {H : Hp}
theorem Reps.length : ∀ {ts : List T} {vs : List V}, Reps K H ts vs → ts.length = vs.length
  | [], _, h => by cases h; rfl
  | t :: ts, _, h => by
    cases h with
    | cons h1 h2 => rw [List.length_cons, List.length_cons, Reps.length h2]
theorem Reps.get : ∀ {ts : List T} {vs : List V} {i : Nat} {t : T}, Reps K H ts vs → ts[i]? = some t → ∃ v, vs[i]? = some v ∧ Rep K H t v
  | [], _, _, _, _, e => by simp at e
  | t :: ts, _, 0, x, h, e => by
    cases h with
    | cons h1 h2 =>
      simp at e
      subst e
      exact ⟨_, rfl, h1⟩
  | t :: ts, _, i + 1, x, h, e => by
    cases h with
    | cons h1 h2 =>
      obtain ⟨v, e1, e2⟩ := Reps.get (i := i) h2 (by simpa using e)
      exact ⟨v, by simpa using e1, e2⟩
theorem Reps.getV : ∀ {ts : List T} {vs : List V} {i : Nat} {v : V}, Reps K H ts vs → vs[i]? = some v → ∃ t, ts[i]? = some t ∧ Rep K H t v
  | [], _, _, _, h, e => by cases h; simp at e
  | t :: ts, _, 0, x, h, e => by
    cases h with
    | cons h1 h2 =>
      simp at e
      subst e
      exact ⟨_, rfl, h1⟩
  | t :: ts, _, i + 1, x, h, e => by
    cases h with
    | cons h1 h2 =>
      obtain ⟨v, e1, e2⟩ := Reps.getV (i := i) h2 (by simpa using e)
      exact ⟨v, by simpa using e1, e2⟩
theorem Reps.append : ∀ {ts us : List T} {vs ws : List V}, Reps K H ts vs → Reps K H us ws → Reps K H (ts ++ us) (vs ++ ws)
  | [], _, _, _, h, g => by cases h; exact g
  | t :: ts, _, _, _, h, g => by
    cases h with
    | cons h1 h2 => exact .cons h1 (Reps.append h2 g)
theorem Reps.take : ∀ {ts : List T} {vs : List V} (n : Nat), Reps K H ts vs → Reps K H (ts.take n) (vs.take n)
  | _, _, 0, _ => .nil
  | [], _, n + 1, h => by cases h; exact .nil
  | t :: ts, _, n + 1, h => by
    cases h with
    | cons h1 h2 => exact .cons h1 (Reps.take n h2)
theorem Reps.drop : ∀ {ts : List T} {vs : List V} (n : Nat), Reps K H ts vs → Reps K H (ts.drop n) (vs.drop n)
  | _, _, 0, h => h
  | [], _, n + 1, h => by cases h; exact .nil
  | t :: ts, _, n + 1, h => by
    cases h with
    | cons h1 h2 => exact Reps.drop n h2
theorem Reps.set {t : T} {v : V} (r : Rep K H t v) : ∀ {ts : List T} {vs : List V} (i : Nat), Reps K H ts vs → Reps K H (ts.set i t) (vs.set i v)
  | [], _, _, h => by cases h; exact .nil
  | t :: ts, _, 0, h => by
    cases h with
    | cons h1 h2 => exact .cons r h2
  | t :: ts, _, i + 1, h => by
    cases h with
    | cons h1 h2 => exact .cons h1 (Reps.set r i h2)
theorem Reps.reverse : ∀ {ts : List T} {vs : List V}, Reps K H ts vs → Reps K H ts.reverse vs.reverse
  | [], _, h => by cases h; exact .nil
  | t :: ts, _, h => by
    cases h with
    | cons h1 h2 =>
      rw [List.reverse_cons, List.reverse_cons]
      exact Reps.append (Reps.reverse h2) (.cons h1 .nil)
theorem Reps.ints : ∀ (ns : List Int), Reps K H (ns.map T.int) (ns.map V.int)
  | [] => .nil
  | n :: ns => .cons (.int n) (Reps.ints ns)
theorem Reps.intsV : ∀ {ns : List Int} {vs : List V}, Reps K H (ns.map T.int) vs → vs = ns.map V.int
  | [], _, h => by cases h; rfl
  | n :: ns, _, h => by
    cases h with
    | cons h1 h2 =>
      cases h1
      rw [Reps.intsV h2]
      rfl
theorem Reps.blsV : ∀ {ns : List Bool} {vs : List V}, Reps K H (ns.map T.bl) vs → vs = ns.map V.bl
  | [], _, h => by cases h; rfl
  | n :: ns, _, h => by
    cases h with
    | cons h1 h2 =>
      cases h1
      rw [Reps.blsV h2]
      rfl
theorem Reps.strsV : ∀ {ns : List Str} {vs : List V}, Reps K H (ns.map T.str) vs → vs = ns.map V.str
  | [], _, h => by cases h; rfl
  | n :: ns, _, h => by
    cases h with
    | cons h1 h2 =>
      cases h1
      rw [Reps.strsV h2]
      rfl
end

/-! ### the state: what may change -/
inductive O where
  | lst (ts : List T)
  | ins (C : Addr) (fs : List (Str × T))
  | dct (kvs : List (Key × T))
  | dtt (kvs : List (List Key × T))
abbrev Sta := Addr → Option O
def upS (S : Sta) (a : Addr) (o : O) : Sta := fun b => if b = a then some o else S b
theorem upS_same {S : Sta} {a : Addr} {o : O} : upS S a o a = some o := by unfold upS; rw [if_pos rfl]
theorem upS_ne {S : Sta} {a b : Addr} {o : O} (h : b ≠ a) : upS S a o b = S b := by unfold upS; rw [if_neg h]
theorem upS_upS {S : Sta} {a : Addr} {o u : O} : upS (upS S a o) a u = upS S a u := by
  funext b; unfold upS; split <;> rfl
theorem upS_self {S : Sta} {a : Addr} {o : O} (h : S a = some o) : upS S a o = S := by
  funext b; unfold upS; split
  · rename_i e; subst e; exact h.symm
  · rfl
/-- pairs of a name or a key and a value -/
inductive KRep {κ : Type} (K : PySem.W.Frag) (H : Hp) : List (κ × T) → List (κ × V) → Prop
  | nil : KRep K H [] []
  | cons {f : κ} {t : T} {v : V} {fs : List (κ × T)} {gs : List (κ × V)} : Rep K H t v → KRep K H fs gs → KRep K H ((f, t) :: fs) ((f, v) :: gs)
abbrev FRep (K : PySem.W.Frag) (H : Hp) : List (Str × T) → List (Str × V) → Prop := KRep K H
theorem KRep.mono {κ : Type} {K : PySem.W.Frag} {H H' : Hp} (e : Ext H H') : ∀ {fs : List (κ × T)} {gs : List (κ × V)}, KRep K H fs gs → KRep K H' fs gs
  | _, _, .nil => .nil
  | _, _, .cons h1 h2 => .cons (Rep.mono e _ _ h1) (KRep.mono e h2)
theorem KRep.length {κ : Type} {K : PySem.W.Frag} {H : Hp} : ∀ {fs : List (κ × T)} {gs : List (κ × V)}, KRep K H fs gs → fs.length = gs.length
  | _, _, .nil => rfl
  | _, _, .cons h1 h2 => by rw [List.length_cons, List.length_cons, KRep.length h2]
def ORep (K : PySem.W.Frag) (H : Hp) (a : Addr) : O → Prop
  | .lst ts => ∃ xs, H a = some (.lst xs) ∧ Reps K H ts xs
  | .ins C fs => ∃ dx gs, H a = some (.ins C dx gs) ∧ FRep K H fs gs
  | .dct kvs => ∃ xs, H a = some (.dK xs) ∧ KRep K H kvs xs
  | .dtt kvs => ∃ xs, H a = some (.dT xs) ∧ KRep K H kvs xs
theorem ORep.keep {K : PySem.W.Frag} {H H' : Hp} {a : Addr} {o : O} (e : Ext H H') (z : H' a = H a) (r : ORep K H a o) : ORep K H' a o := by
  cases o with
  | lst ts => obtain ⟨xs, e1, e2⟩ := r; exact ⟨xs, z.trans e1, Reps.mono e _ _ e2⟩
  | ins C fs => obtain ⟨dx, gs, e1, e2⟩ := r; exact ⟨dx, gs, z.trans e1, KRep.mono e e2⟩
  | dct kvs => obtain ⟨xs, e1, e2⟩ := r; exact ⟨xs, z.trans e1, KRep.mono e e2⟩
  | dtt kvs => obtain ⟨xs, e1, e2⟩ := r; exact ⟨xs, z.trans e1, KRep.mono e e2⟩
def St (K : PySem.W.Frag) (S : Sta) (H : Hp) : Prop := ∀ a o, S a = some o → ORep K H a o
section
variable {K : PySem.W.Frag} {S : Sta} {H H' : Hp} {a p : Addr}
theorem St.has (h : St K S H) {o : O} (e : S a = some o) : ∃ u, H a = some u ∧ Soft u := by
  have q := h a o e
  cases o with
  | lst ts => obtain ⟨xs, e, _⟩ := q; exact ⟨_, e, trivial⟩
  | ins C fs => obtain ⟨dx, gs, e, _⟩ := q; exact ⟨_, e, trivial⟩
  | dct kvs => obtain ⟨xs, e, _⟩ := q; exact ⟨_, e, trivial⟩
  | dtt kvs => obtain ⟨xs, e, _⟩ := q; exact ⟨_, e, trivial⟩
theorem St.free (h : St K S H) (e : H p = none) : S p = none := by
  cases q : S p with
  | none => rfl
  | some o =>
    obtain ⟨u, hu, _⟩ := h.has q
    rw [e] at hu
    cases hu
/-- all that S speaks of stays as it is -/
theorem St.keep (h : St K S H) (e : Ext H H') (k : ∀ a o, S a = some o → H' a = H a) : St K S H' := fun a o q => (h a o q).keep e (k a o q)
theorem St.new (h : St K S H) (e : H p = none) (u : HO) : St K S (upd H p u) :=
  h.keep (Ext.new e) fun a o q => by
    obtain ⟨u', hu, _⟩ := h.has q
    exact upd_ne (ne_of_none hu e)
theorem St.put (h : St K S H') {o : O} (g : ORep K H' a o) : St K (upS S a o) H' := fun b u q => by
  by_cases hb : b = a
  · subst hb
    rw [upS_same] at q
    cases q
    exact g
  · rw [upS_ne hb] at q
    exact h b u q
/-- a thing is written anew -/
theorem St.setO (h : St K S H) {u u' : HO} {o' : O} (e : H a = Option.some u) (hs : Soft u) (r : Ext H (upd H a u') → ORep K (upd H a u') a o') : Ext H (upd H a u') ∧ St K (upS S a o') (upd H a u') := by
  have ex : Ext H (upd H a u') := Ext.put e hs
  refine ⟨ex, fun b u q => ?_⟩
  by_cases hb : b = a
  · subst hb
    rw [upS_same] at q
    cases q
    exact r ex
  · rw [upS_ne hb] at q
    exact (h b u q).keep ex (upd_ne hb)
/-- a list is written anew -/
theorem St.setL (h : St K S H) {xs : List V} {ts' : List T} {xs' : List V} (e : H a = Option.some (.lst xs)) (r : Reps K H ts' xs') : Ext H (upd H a (.lst xs')) ∧ St K (upS S a (.lst ts')) (upd H a (.lst xs')) :=
  h.setO e trivial fun ex => ⟨xs', upd_same, Reps.mono ex _ _ r⟩
/-- a new thing -/
theorem St.newO (h : St K S H) {u' : HO} {o' : O} (e : H p = Option.none) (r : Ext H (upd H p u') → ORep K (upd H p u') p o') : Ext H (upd H p u') ∧ St K (upS S p o') (upd H p u') := by
  have ex : Ext H (upd H p u') := Ext.new e
  exact ⟨ex, (h.new e _).put (r ex)⟩
/-- a new list -/
theorem St.newL (h : St K S H) {ts : List T} {xs : List V} (e : H p = Option.none) (r : Reps K H ts xs) : Ext H (upd H p (.lst xs)) ∧ St K (upS S p (.lst ts)) (upd H p (.lst xs)) := by
  have ex : Ext H (upd H p (.lst xs)) := Ext.new e
  exact ⟨ex, (h.new e _).put ⟨xs, upd_same, Reps.mono ex _ _ r⟩⟩
/-- less is known -/
theorem St.less {S' : Sta} (h : St K S H) (k : ∀ a o, S' a = Option.some o → S a = Option.some o) : St K S' H := fun a o q => h a o (k a o q)
end

/-! ### readings over trees -/
abbrev Sl := List (Option T)
abbrev WE := Sl → Sta → (T → Sta → Prop) → Prop
abbrev WT := Sl → Sta → (Bool → Sta → Prop) → Prop
abbrev WA := Sl → Sta → (List T → Sta → Prop) → Prop
structure WEnds where
  nx : Sl → Sta → Prop
  rt : T → Sta → Prop
  bk : Sl → Sta → Prop := fun _ _ => False
  ct : Sl → Sta → Prop := fun _ _ => False
abbrev WS := WEnds → Sl → Sta → Prop
def SlR (K : PySem.W.Frag) (H : Hp) (st : Sl) (σ : L2.St) : Prop := st.length = σ.length ∧ ∀ (i : Nat) (t : T), st[i]? = some (some t) → ∃ v, σ[i]? = some (some v) ∧ Rep K H t v
theorem SlR.mono {K : PySem.W.Frag} {H H' : Hp} {st : Sl} {σ : L2.St} (e : Ext H H') (h : SlR K H st σ) : SlR K H' st σ := ⟨h.1, fun i t q => by
  obtain ⟨v, e1, e2⟩ := h.2 i t q
  exact ⟨v, e1, Rep.mono e _ _ e2⟩⟩
theorem SlR.set {K : PySem.W.Frag} {H : Hp} {st : Sl} {σ : L2.St} {t : T} {v : V} (h : SlR K H st σ) (r : Rep K H t v) (i : Nat) : SlR K H (st.set i (some t)) (σ.set i (some v)) := by
  refine ⟨by rw [List.length_set, List.length_set]; exact h.1, fun j u q => ?_⟩
  by_cases hj : i = j
  · subst hj
    by_cases hl : i < st.length
    · rw [List.getElem?_set_self hl] at q
      cases q
      exact ⟨v, by rw [List.getElem?_set_self (h.1 ▸ hl)], r⟩
    · rw [List.getElem?_eq_none (by rw [List.length_set]; omega)] at q
      cases q
  · rw [List.getElem?_set_ne hj] at q
    obtain ⟨w, e1, e2⟩ := h.2 j u q
    exact ⟨w, by rw [List.getElem?_set_ne hj]; exact e1, e2⟩

def fin (K : PySem.W.Frag) (H : Hp) (Q : VK) : T → Sta → Prop := fun t S => ∀ H' v, Ext H H' → St K S H' → Rep K H' t v → Q v H'
def finB (K : PySem.W.Frag) (H : Hp) (Q : Bool → Hp → Prop) : Bool → Sta → Prop := fun b S => ∀ H', Ext H H' → St K S H' → Q b H'
def finA (K : PySem.W.Frag) (H : Hp) (Q : List V → Hp → Prop) : List T → Sta → Prop := fun ts S => ∀ H' vs, Ext H H' → St K S H' → Reps K H' ts vs → Q vs H'
def finS (K : PySem.W.Frag) (H : Hp) (Q : L2.St → Hp → Prop) : Sl → Sta → Prop := fun st S => ∀ H' σ, Ext H H' → St K S H' → SlR K H' st σ → Q σ H'
def finD (K : PySem.W.Frag) (H : Hp) (D : Ends) : WEnds := { nx := finS K H D.nx, rt := fin K H D.rt, bk := finS K H D.bk, ct := finS K H D.ct }
/-- on to what follows -/
def goS (f : Sl → Sta → Prop) (σ : Sl) (S : Sta) : Prop := f σ S
/-- either way of a test -/
@[irreducible] def wif (b : Bool) (A C : Prop) : Prop := match b with
  | true => A
  | false => C
theorem wif_true {A C : Prop} : wif true A C = A := by unfold wif; rfl
theorem wif_false {A C : Prop} : wif false A C = C := by unfold wif; rfl
theorem wt {A C : Prop} (h : wif true A C) : A := by rw [wif_true] at h; exact h
theorem wff {A C : Prop} (h : wif false A C) : C := by rw [wif_false] at h; exact h
theorem wif_t {A C : Prop} (h : A) : wif true A C := by rw [wif_true]; exact h
theorem wif_f {A C : Prop} (h : C) : wif false A C := by rw [wif_false]; exact h
theorem if_dec {p : Prop} [Decidable p] {A C : Prop} (h1 : p → A) (h2 : ¬ p → C) : wif (decide p) A C := by
  by_cases h : p
  · rw [decide_eq_true h, wif_true]; exact h1 h
  · rw [decide_eq_false h, wif_false]; exact h2 h
theorem if_bool {p : Bool} {A C : Prop} (h1 : p = true → A) (h2 : p = false → C) : wif p A C := by
  cases p
  · rw [wif_false]; exact h2 rfl
  · rw [wif_true]; exact h1 rfl
abbrev Im2 {α : Type} (P Q : α → Sta → Prop) : Prop := ∀ v S, P v S → Q v S
structure ImD (D0 D : WEnds) : Prop where
  nx : Im2 D0.nx D.nx
  rt : Im2 D0.rt D.rt
  bk : Im2 D0.bk D.bk
  ct : Im2 D0.ct D.ct
def LE (B : Hp) (X : Cx) (t : WE) : TE := fun σ H Q => ∃ st S Q0, Ext B H ∧ SlR X.K H st σ ∧ St X.K S H ∧ t st S Q0 ∧ Im2 Q0 (fin X.K H Q)
def LT (B : Hp) (X : Cx) (t : WT) : TT := fun σ H Q => ∃ st S Q0, Ext B H ∧ SlR X.K H st σ ∧ St X.K S H ∧ t st S Q0 ∧ Im2 Q0 (finB X.K H Q)
def LA (B : Hp) (X : Cx) (t : WA) : TA := fun σ H Q => ∃ st S Q0, Ext B H ∧ SlR X.K H st σ ∧ St X.K S H ∧ t st S Q0 ∧ Im2 Q0 (finA X.K H Q)
def LS (B : Hp) (X : Cx) (t : WS) : TS := fun D σ H => ∃ st S D0, Ext B H ∧ SlR X.K H st σ ∧ St X.K S H ∧ t D0 st S ∧ ImD D0 (finD X.K H D)
def JE (B : Hp) (X : Cx) (e : Expr) (t : WE) : Prop := PE X e (LE B X t)
def JT (B : Hp) (X : Cx) (e : Expr) (t : WT) : Prop := PT X e (LT B X t)
def JW (B : Hp) (X : Cx) (e : Expr) (t : WT) : Prop := PW X e (LT B X t)
def JA (B : Hp) (X : Cx) (es : List Expr) (t : WA) : Prop := PA X es (LA B X t)
def JS (B : Hp) (X : Cx) (s : Stmt) (t : WS) : Prop := PS X s (LS B X t)
def JSs (B : Hp) (X : Cx) (ss : List Stmt) (t : WS) : Prop := PSs X ss (LS B X t)
theorem JW.jt {B : Hp} {X : Cx} {e : Expr} {t : WT} (h : JW B X e t) : JT B X e t := PW.pt h

theorem pe_imp {X : Cx} {e : Expr} {t t' : TE} (h : PE X e t) (k : ∀ σ H Q, t' σ H Q → t σ H Q) : PE X e t' := ⟨fun pins s σ H Q I q => h.run pins s σ H Q I (k σ H Q q)⟩
theorem pt_imp {X : Cx} {e : Expr} {t t' : TT} (h : PT X e t) (k : ∀ σ H Q, t' σ H Q → t σ H Q) : PT X e t' := ⟨fun pins s σ H Q I q => h.run pins s σ H Q I (k σ H Q q)⟩
theorem pw_imp {X : Cx} {e : Expr} {t t' : TT} (h : PW X e t) (k : ∀ σ H Q, t' σ H Q → t σ H Q) : PW X e t' := ⟨fun wh pins s σ H Q I q => h.run wh pins s σ H Q I (k σ H Q q)⟩
theorem pa_imp {X : Cx} {e : List Expr} {t t' : TA} (h : PA X e t) (k : ∀ σ H Q, t' σ H Q → t σ H Q) : PA X e t' := ⟨fun pos pins s σ H Q I q => h.run pos pins s σ H Q I (k σ H Q q)⟩
theorem ps_imp {X : Cx} {s : Stmt} {t t' : TS} (h : PS X s t) (k : ∀ D σ H, t' D σ H → t D σ H) : PS X s t' := ⟨fun pins s σ H D I q => h.run pins s σ H D I (k D σ H q)⟩
theorem pss_imp {X : Cx} {s : List Stmt} {t t' : TS} (h : PSs X s t) (k : ∀ D σ H, t' D σ H → t D σ H) : PSs X s t' := ⟨fun pins s σ H D I q => h.run pins s σ H D I (k D σ H q)⟩
theorem fin_ext {K : PySem.W.Frag} {H H1 : Hp} {Q : VK} {t : T} {S : Sta} (e : Ext H H1) (h : fin K H Q t S) : fin K H1 Q t S := fun H' v e' s r => h H' v (e.trans e') s r
theorem finB_ext {K : PySem.W.Frag} {H H1 : Hp} {Q : Bool → Hp → Prop} {t : Bool} {S : Sta} (e : Ext H H1) (h : finB K H Q t S) : finB K H1 Q t S := fun H' e' s => h H' (e.trans e') s
theorem finA_ext {K : PySem.W.Frag} {H H1 : Hp} {Q : List V → Hp → Prop} {t : List T} {S : Sta} (e : Ext H H1) (h : finA K H Q t S) : finA K H1 Q t S := fun H' v e' s r => h H' v (e.trans e') s r
end Wp

set_option Elab.async false
set_option linter.all false
set_option maxRecDepth 100000
/-! expressions -/
namespace Wp
open PySem PySem.Spec PyProof.Rows L2
section
variable {B : Hp} {X : Cx} {a b c : Expr} {ta tb tc : WE} {pos : Pos}
/-! ### names, constants -/
def wVar (i : Nat) (σ : Sl) (S : Sta) (Q : T → Sta → Prop) : Prop := ∃ v, σ[i]? = some (some v) ∧ Q v S
def wC (t : T) (u0 : Sl) (S : Sta) (Q : T → Sta → Prop) : Prop := Q t S
theorem j_var (i : Nat) {x : Str} (hN : X.N[i]? = some x := by rfl) (hv : Vis X.env.scope x := by first | exact Or.inl rfl | exact Or.inr (Or.inl rfl) | exact Or.inr (Or.inr rfl)) (hd : (x == ("__debug__" : Str)) = false := by decide)
    (hcd : (x == ("__classdict__" : Str)) = false := by decide) : JE B X (.Name x pos) (wVar i) :=
  pe_imp (pe_var hN hv hd hcd) fun σ H Q ⟨st, S, Q0, _, r, s, ⟨v, e, q⟩, im⟩ => by
    obtain ⟨u, e1, e2⟩ := r.2 i v e
    exact ⟨u, e1, im v S q H u (Ext.refl H) s e2⟩
theorem j_const {e : Expr} {t : T} {v : V} (h : PE X e (tC v)) (r : ∀ H, Rep X.K H t v) : JE B X e (wC t) :=
  pe_imp h fun σ H Q ⟨st, S, Q0, _, _, s, q, im⟩ => im t S q H v (Ext.refl H) s (r H)
theorem j_int {i j} : JE B X (.Constant (.int i) j pos) (wC (.int i)) := j_const pe_int fun _ => .int i
theorem j_bl {i j} : JE B X (.Constant (.bool i) j pos) (wC (.bl i)) := j_const pe_bl fun _ => .bl i
theorem j_non {j} : JE B X (.Constant .none j pos) (wC .non) := j_const pe_non fun _ => .non
theorem j_str {i j} : JE B X (.Constant (.str i) j pos) (wC (.str i)) := j_const pe_str fun _ => .str i
theorem j_globI {x : Str} {i : Int} {t : Tok} (hg : Gl X x) (hm : X.mg x = some (.int i t)) (hd : (x == ("__debug__" : Str)) = false := by decide) : JE B X (.Name x pos) (wC (.int i)) :=
  j_const (pe_glob (v := V.int i) hg hm (show ∃ t', Value.int i t = Value.int i t' from ⟨t, rfl⟩) hd) fun _ => .int i
theorem j_globS {x : Str} {i : Str} {t : Tok} (hg : Gl X x) (hm : X.mg x = some (.str i t)) (hd : (x == ("__debug__" : Str)) = false := by decide) : JE B X (.Name x pos) (wC (.str i)) :=
  j_const (pe_glob (v := V.str i) hg hm (show ∃ t', Value.str i t = Value.str i t' from ⟨t, rfl⟩) hd) fun _ => .str i

/-! ### operations -/
abbrev R3 := T → T → Sta → (T → Sta → Prop) → Prop
def L3 (K : PySem.W.Frag) (r : R3) : R2 := fun x y H Q => ∃ a b S Q0, Rep K H a x ∧ Rep K H b y ∧ St K S H ∧ r a b S Q0 ∧ Im2 Q0 (fin K H Q)
def OpT (X : Cx) (f : Value → Value → Sem Value) (r : R3) : Prop := OpR X f (L3 X.K r)
def wOp (r : R3) (ta tb : WE) (σ : Sl) (S : Sta) (Q : T → Sta → Prop) : Prop := ta σ S fun x S1 => tb σ S1 fun y S2 => r x y S2 Q
theorem le_op {r : R3} {σ : L2.St} {H : Hp} {Q : VK} (h : LE B X (wOp r ta tb) σ H Q) : tOp (L3 X.K r) (LE B X ta) (LE B X tb) σ H Q := by
  obtain ⟨st, S, Q0, he, hr, hs, h, im⟩ := h
  refine ⟨st, S, _, he, hr, hs, h, fun x S1 h1 H1 v e1 s1 r1 => ?_⟩
  refine ⟨st, S1, _, he.trans e1, hr.mono e1, s1, h1, fun y S2 h2 H2 u e2 s2 r2 => ?_⟩
  exact ⟨x, y, S2, Q0, Rep.mono e2 _ _ r1, r2, s2, h2, fun z S3 q => fin_ext (e1.trans e2) (im z S3 q)⟩
theorem j_op {op : Operator} {r : R3} (ho : OpT X (binaryOp op) r) (ha : JE B X a ta) (hb : JE B X b tb) : JE B X (.BinOp a op b pos) (wOp r ta tb) := pe_imp (pe_op ho ha hb) fun _ _ _ h => le_op h
theorem j_cmp {op : CmpOp} {r : R3} (ho : OpT X (compareOp op) r) (ha : JE B X a ta) (hb : JE B X b tb) (hm : behindInMarks op b = false) : JE B X (.Compare a [op] [b] pos) (wOp r ta tb) := pe_imp (pe_cmpR ho ha hb hm) fun _ _ _ h => le_op h
/-- a value that is a bool, as a test -/
def wTest (t : WE) (σ : Sl) (S : Sta) (Q : Bool → Sta → Prop) : Prop := t σ S fun x S1 => match x with
  | .bl c => Q c S1
  | _ => False
theorem le_test {t : WE} {σ : L2.St} {H : Hp} {Q : Bool → Hp → Prop} (h : LT B X (wTest t) σ H Q) : LE B X t σ H fun x H' => ∃ k, x = V.bl k ∧ Q k H' := by
  obtain ⟨st, S, Q0, he, hr, hs, h, im⟩ := h
  refine ⟨st, S, _, he, hr, hs, h, fun x S1 h1 H1 v e1 s1 r1 => ?_⟩
  cases x with
  | bl c =>
    cases r1
    exact ⟨c, rfl, im c S1 h1 H1 e1 s1⟩
  | _ => exact h1.elim
theorem jt_val {e : Expr} {t : WE} (h : JE B X e t) (he : ∀ whole, isTrue e X.env whole = (do let v ← whole; standAt e.pos; holding [v] (truthy v)) := by intro _; rfl) : JT B X e (wTest t) :=
  pt_imp (pt_val h he) fun _ _ _ h => le_test h
theorem jt_cmp {op : CmpOp} {r : R3} (ho : OpT X (compareOp op) r) (ha : JE B X a ta) (hb : JE B X b tb) (hm : behindInMarks op b = false) : JT B X (.Compare a [op] [b] pos) (wTest (wOp r ta tb)) :=
  pt_imp (pt_cmpR ho ha hb hm) fun σ H Q h => le_op (le_test h)
/-! ### chains a < b < c -/
def wChain (r r' : R3) (ta tb tc : WE) (σ : Sl) (S : Sta) (Q : T → Sta → Prop) : Prop := ta σ S fun x S1 => tb σ S1 fun y S2 => r x y S2 fun z S3 => match z with
  | .bl k => wif k (tc σ S3 fun u S4 => r' y u S4 Q) (Q (.bl false) S3)
  | _ => False
theorem le_chain {r r' : R3} {σ : L2.St} {H : Hp} {Q : VK} (h : LE B X (wChain r r' ta tb tc) σ H Q) : tChain (L3 X.K r) (L3 X.K r') (LE B X ta) (LE B X tb) (LE B X tc) σ H Q := by
  obtain ⟨st, S, Q0, he, hr, hs, h, im⟩ := h
  refine ⟨st, S, _, he, hr, hs, h, fun x S1 h1 H1 v e1 s1 r1 => ?_⟩
  refine ⟨st, S1, _, he.trans e1, hr.mono e1, s1, h1, fun y S2 h2 H2 u e2 s2 r2 => ?_⟩
  refine ⟨x, y, S2, _, Rep.mono e2 _ _ r1, r2, s2, h2, fun z S3 q H3 w e3 s3 r3 => ?_⟩
  cases z with
  | bl k =>
    cases r3
    refine ⟨k, rfl, ?_⟩
    cases k with
    | true =>
      rw [if_pos rfl]
      have q : tc st S3 fun u S4 => r' y u S4 Q0 := (wt q)
      refine ⟨st, S3, _, (he.trans e1).trans (e2.trans e3), hr.mono (e1.trans (e2.trans e3)), s3, q, fun u' S4 h4 H4 v4 e4 s4 r4 => ?_⟩
      exact ⟨y, u', S4, Q0, Rep.mono (e3.trans e4) _ _ r2, r4, s4, h4, fun z S5 q5 => fin_ext (e1.trans (e2.trans (e3.trans e4))) (im z S5 q5)⟩
    | false =>
      rw [if_neg Bool.false_ne_true]
      have q : Q0 (.bl false) S3 := (wff q)
      exact im _ _ q H3 _ (e1.trans (e2.trans e3)) s3 (.bl false)
  | _ => exact q.elim
theorem j_chain {op op' : CmpOp} {r r' : R3} (ho : OpT X (compareOp op) r) (ho' : OpT X (compareOp op') r') (ha : JE B X a ta) (hb : JE B X b tb) (hc : JE B X c tc)
    (hm : lastMarks [op, op'] [b, c] = false := by with_unfolding_all rfl) : JE B X (.Compare a [op, op'] [b, c] pos) (wChain r r' ta tb tc) := pe_imp (pe_chain ho ho' ha hb hc hm) fun _ _ _ h => le_chain h
theorem jt_chain {op op' : CmpOp} {r r' : R3} (ho : OpT X (compareOp op) r) (ho' : OpT X (compareOp op') r') (ha : JE B X a ta) (hb : JE B X b tb) (hc : JE B X c tc)
    (hm : lastMarks [op, op'] [b, c] = false := by with_unfolding_all rfl) : JT B X (.Compare a [op, op'] [b, c] pos) (wTest (wChain r r' ta tb tc)) := pt_imp (pt_chain ho ho' ha hb hc hm) fun _ _ _ h => le_chain (le_test h)

/-! ### and, or, not, if -/
variable {rest : List Expr} {t u : WT}
def wAnd (t u : WT) (σ : Sl) (S : Sta) (Q : Bool → Sta → Prop) : Prop := t σ S fun c S1 => wif c (u σ S1 Q) (Q false S1)
def wOr (t u : WT) (σ : Sl) (S : Sta) (Q : Bool → Sta → Prop) : Prop := t σ S fun c S1 => wif c (Q true S1) (u σ S1 Q)
def wNot (t : WT) (σ : Sl) (S : Sta) (Q : Bool → Sta → Prop) : Prop := t σ S fun c S1 => Q (!c) S1
theorem jw_and1 (ha : JT B X a t) : JW B X (.BoolOp .And [a] pos) t := pw_and1 ha
theorem jw_or1 (ha : JT B X a t) : JW B X (.BoolOp .Or [a] pos) t := pw_or1 ha
theorem jw_and (ha : JT B X a t) (hb : JW B X (.BoolOp .And (b :: rest) pos) u) : JW B X (.BoolOp .And (a :: b :: rest) pos) (wAnd t u) :=
  pw_imp (pw_and ha hb) fun σ H Q ⟨st, S, Q0, he, hr, hs, h, im⟩ => by
    refine ⟨st, S, _, he, hr, hs, h, fun k S1 h1 H1 e1 s1 => ?_⟩
    cases k with
    | true =>
      rw [if_pos rfl]
      exact ⟨st, S1, Q0, he.trans e1, hr.mono e1, s1, (wt h1), fun z S3 q => finB_ext e1 (im z S3 q)⟩
    | false =>
      rw [if_neg Bool.false_ne_true]
      exact im _ _ (wff h1) H1 e1 s1
theorem jw_or (ha : JT B X a t) (hb : JW B X (.BoolOp .Or (b :: rest) pos) u) : JW B X (.BoolOp .Or (a :: b :: rest) pos) (wOr t u) :=
  pw_imp (pw_or ha hb) fun σ H Q ⟨st, S, Q0, he, hr, hs, h, im⟩ => by
    refine ⟨st, S, _, he, hr, hs, h, fun k S1 h1 H1 e1 s1 => ?_⟩
    cases k with
    | true =>
      rw [if_pos rfl]
      exact im _ _ (wt h1) H1 e1 s1
    | false =>
      rw [if_neg Bool.false_ne_true]
      exact ⟨st, S1, Q0, he.trans e1, hr.mono e1, s1, (wff h1), fun z S3 q => finB_ext e1 (im z S3 q)⟩
theorem jt_not (ha : JT B X a t) : JT B X (.UnaryOp .Not a pos) (wNot t) :=
  pt_imp (pt_not ha) fun σ H Q ⟨st, S, Q0, he, hr, hs, h, im⟩ => ⟨st, S, _, he, hr, hs, h, fun k S1 h1 H1 e1 s1 => im _ _ h1 H1 e1 s1⟩
/-- .. as values -/
def wAndV (ta tb : WE) (σ : Sl) (S : Sta) (Q : T → Sta → Prop) : Prop := ta σ S fun x S1 => match x with
  | .bl k => wif k (tb σ S1 Q) (Q (.bl false) S1)
  | _ => False
def wOrV (ta tb : WE) (σ : Sl) (S : Sta) (Q : T → Sta → Prop) : Prop := ta σ S fun x S1 => match x with
  | .bl k => wif k (Q (.bl true) S1) (tb σ S1 Q)
  | _ => False
def wNotV (t : WE) (σ : Sl) (S : Sta) (Q : T → Sta → Prop) : Prop := t σ S fun x S1 => match x with
  | .bl c => Q (.bl (!c)) S1
  | _ => False
theorem j_one {op} {t : WE} (h : JE B X a t) : JE B X (.BoolOp op [a] pos) t := pe_one h
theorem j_and (ha : JE B X a ta) (hb : JE B X (.BoolOp .And (b :: rest) pos) tb) : JE B X (.BoolOp .And (a :: b :: rest) pos) (wAndV ta tb) :=
  pe_imp (pe_and ha hb) fun σ H Q ⟨st, S, Q0, he, hr, hs, h, im⟩ => by
    refine ⟨st, S, _, he, hr, hs, h, fun x S1 h1 H1 v e1 s1 r1 => ?_⟩
    cases x with
    | bl k =>
      cases r1
      refine ⟨k, rfl, ?_⟩
      cases k with
      | true =>
        rw [if_pos rfl]
        exact ⟨st, S1, Q0, he.trans e1, hr.mono e1, s1, (wt h1), fun z S3 q => fin_ext e1 (im z S3 q)⟩
      | false =>
        rw [if_neg Bool.false_ne_true]
        exact im _ _ (wff h1) H1 _ e1 s1 (.bl false)
    | _ => exact h1.elim
theorem j_or (ha : JE B X a ta) (hb : JE B X (.BoolOp .Or (b :: rest) pos) tb) : JE B X (.BoolOp .Or (a :: b :: rest) pos) (wOrV ta tb) :=
  pe_imp (pe_or ha hb) fun σ H Q ⟨st, S, Q0, he, hr, hs, h, im⟩ => by
    refine ⟨st, S, _, he, hr, hs, h, fun x S1 h1 H1 v e1 s1 r1 => ?_⟩
    cases x with
    | bl k =>
      cases r1
      refine ⟨k, rfl, ?_⟩
      cases k with
      | true =>
        rw [if_pos rfl]
        exact im _ _ (wt h1) H1 _ e1 s1 (.bl true)
      | false =>
        rw [if_neg Bool.false_ne_true]
        exact ⟨st, S1, Q0, he.trans e1, hr.mono e1, s1, (wff h1), fun z S3 q => fin_ext e1 (im z S3 q)⟩
    | _ => exact h1.elim
theorem j_not (ha : JE B X a ta) : JE B X (.UnaryOp .Not a pos) (wNotV ta) :=
  pe_imp (pe_not ha) fun σ H Q ⟨st, S, Q0, he, hr, hs, h, im⟩ => by
    refine ⟨st, S, _, he, hr, hs, h, fun x S1 h1 H1 v e1 s1 r1 => ?_⟩
    cases x with
    | bl k =>
      cases r1
      exact ⟨k, rfl, im _ _ h1 H1 _ e1 s1 (.bl _)⟩
    | _ => exact h1.elim
def wIf (t : WT) (ta tb : WE) (σ : Sl) (S : Sta) (Q : T → Sta → Prop) : Prop := t σ S fun c S1 => wif c (ta σ S1 Q) (tb σ S1 Q)
theorem j_ifExp (hc : JT B X c t) (ha : JE B X a ta) (hb : JE B X b tb) : JE B X (.IfExp c a b pos) (wIf t ta tb) :=
  pe_imp (pe_ifExp hc ha hb) fun σ H Q ⟨st, S, Q0, he, hr, hs, h, im⟩ => by
    refine ⟨st, S, _, he, hr, hs, h, fun k S1 h1 H1 e1 s1 => ?_⟩
    cases k with
    | true =>
      rw [if_pos rfl]
      exact ⟨st, S1, Q0, he.trans e1, hr.mono e1, s1, (wt h1), fun z S3 q => fin_ext e1 (im z S3 q)⟩
    | false =>
      rw [if_neg Bool.false_ne_true]
      exact ⟨st, S1, Q0, he.trans e1, hr.mono e1, s1, (wff h1), fun z S3 q => fin_ext e1 (im z S3 q)⟩

/-! ### argument lists, displays -/
def wNil (u0 : Sl) (S : Sta) (Q : List T → Sta → Prop) : Prop := Q [] S
def wCons (ta : WE) (tr : WA) (σ : Sl) (S : Sta) (Q : List T → Sta → Prop) : Prop := ta σ S fun x S1 => tr σ S1 fun xs S2 => Q (x :: xs) S2
variable {es : List Expr} {tr : WA}
theorem ja_nil : JA B X [] wNil := pa_imp pa_nil fun σ H Q ⟨st, S, Q0, he, hr, hs, h, im⟩ => im _ _ h H [] (Ext.refl H) hs .nil
theorem ja_cons (ha : JE B X a ta) (hr : JA B X es tr) (hs : starEach (a :: es) X.env = (false, eval a X.env) :: starEach es X.env := by rfl) : JA B X (a :: es) (wCons ta tr) :=
  pa_imp (pa_cons ha hr hs) fun σ H Q ⟨st, S, Q0, he, hr, hs, h, im⟩ => by
    refine ⟨st, S, _, he, hr, hs, h, fun x S1 h1 H1 v e1 s1 r1 => ?_⟩
    refine ⟨st, S1, _, he.trans e1, hr.mono e1, s1, h1, fun xs S2 h2 H2 vs e2 s2 r2 => ?_⟩
    exact im _ _ h2 H2 _ (e1.trans e2) s2 (.cons (Rep.mono e2 _ _ r1) r2)
def wTup (t : WA) (σ : Sl) (S : Sta) (Q : T → Sta → Prop) : Prop := t σ S fun xs S1 => xs.length ≤ sizeLine ∧ Q (.tup xs) S1
def wLst (t : WA) (σ : Sl) (S : Sta) (Q : T → Sta → Prop) : Prop := t σ S fun xs S1 => xs.length ≤ sizeLine ∧ ∀ p, S1 p = none → Q (.ref p) (upS S1 p (.lst xs))
theorem j_tup {x1} (h : JA B X es tr) : JE B X (.Tuple es x1 pos) (wTup tr) :=
  pe_imp (pe_tup h) fun σ H Q ⟨st, S, Q0, he, hr, hs, h, im⟩ => by
    refine ⟨st, S, _, he, hr, hs, h, fun xs S1 h1 H1 vs e1 s1 r1 => ?_⟩
    refine ⟨by rw [← r1.length]; exact h1.1, fun p hp => ?_⟩
    exact im _ _ h1.2 _ _ (e1.trans (Ext.new hp)) (s1.new hp _) (.tup upd_same (Reps.mono (Ext.new hp) _ _ r1))
theorem j_lst (h : JA B X es tr) : JE B X (.List es pos) (wLst tr) :=
  pe_imp (pe_lst h) fun σ H Q ⟨st, S, Q0, he, hr, hs, h, im⟩ => by
    refine ⟨st, S, _, he, hr, hs, h, fun xs S1 h1 H1 vs e1 s1 r1 => ?_⟩
    refine ⟨by rw [← r1.length]; exact h1.1, fun p hp => ?_⟩
    obtain ⟨e2, s2⟩ := s1.newL hp r1
    exact im _ _ (h1.2 p (s1.free hp)) _ _ (e1.trans e2) s2 (.ref p)
end
end Wp

set_option Elab.async false
set_option linter.all false
set_option maxRecDepth 100000
/-! operations on values -/
namespace Wp
open PySem PySem.Spec PyProof.Rows L2
section
variable {B : Hp} {X : Cx}
/-! ### arithmetic -/
def rInt (C : Int → Int → Prop) (g : Int → Int → T) (x : T) (y : T) (S : Sta) (Q : T → Sta → Prop) : Prop := match x, y with
  | .int i, .int j => C i j ∧ Q (g i j) S
  | _, _ => False
theorem opT_I {f : Value → Value → Sem Value} {C : Int → Int → Prop} {gV : Int → Int → V} {gT : Int → Int → T} (h : OpR X f (rI C gV)) (hr : ∀ H i j, Rep X.K H (gT i j) (gV i j)) : OpT X f (rInt C gT) := by
  intro pins s σ H x y v u Q I rx ry ⟨a, b, S, Q0, ra, rb, hs, q, im⟩
  cases a with
  | int i =>
    cases b with
    | int j =>
      cases ra
      cases rb
      exact h pins s σ H _ _ v u Q I rx ry ⟨i, j, rfl, rfl, q.1, im _ _ q.2 H _ (Ext.refl H) hs (hr H i j)⟩
    | _ => exact q.elim
  | _ => exact q.elim
theorem opT_I0 {f : Value → Value → Sem Value} {gV : Int → Int → V} {gT : Int → Int → T} (h : OpR X f (rI0 gV)) (hr : ∀ H i j, Rep X.K H (gT i j) (gV i j)) : OpT X f (rInt (fun _ _ => True) gT) := by
  intro pins s σ H x y v u Q I rx ry ⟨a, b, S, Q0, ra, rb, hs, q, im⟩
  cases a with
  | int i =>
    cases b with
    | int j =>
      cases ra
      cases rb
      exact h pins s σ H _ _ v u Q I rx ry ⟨i, j, rfl, rfl, im _ _ q.2 H _ (Ext.refl H) hs (hr H i j)⟩
    | _ => exact q.elim
  | _ => exact q.elim
def rSub : R3 := rInt (fun _ _ => True) fun i j => .int (i - j)
def rMul : R3 := rInt CMul fun i j => .int (i * j)
def rMod : R3 := rInt (fun _ j => 0 < j) fun i j => .int (i % j)
def rFdiv : R3 := rInt (fun _ j => 0 < j ∧ j < 2 ^ 62) fun i j => .int (i / j)
def rPow : R3 := rInt CPow fun i j => .int (i ^ j.toNat)
theorem o_sub : OpT X (binaryOp .Sub) rSub := opT_I0 op_sub fun _ _ _ => .int _
theorem o_mul : OpT X (binaryOp .Mult) rMul := opT_I op_mul fun _ _ _ => .int _
theorem o_mod : OpT X (binaryOp .Mod) rMod := opT_I op_mod fun _ _ _ => .int _
theorem o_pow : OpT X (binaryOp .Pow) rPow := opT_I op_pow fun _ _ _ => .int _
theorem o_fdiv : OpT X (binaryOp .FloorDiv) rFdiv := by
  intro pins s σ H x y v u Q I rx ry ⟨a, b, S, Q0, ra, rb, hs, q, im⟩
  refine opT_I (gT := fun i j => .int (i / j)) op_fdivW (fun _ _ _ => .int _) pins s σ H x y v u Q I rx ry ⟨a, b, S, Q0, ra, rb, hs, ?_, im⟩
  cases a with
  | int i =>
    cases b with
    | int j => exact ⟨wide_div (b := 62) q.1.1 (by have h1 := q.1.1; have h2 := q.1.2; omega) (by decide) (by decide), q.2⟩
    | _ => exact q.elim
  | _ => exact q.elim
/-- + : numbers, tuples, texts, lists -/
def rAdd (x : T) (y : T) (S : Sta) (Q : T → Sta → Prop) : Prop := match x, y with
  | .int i, .int j => Q (.int (i + j)) S
  | .tup a, .tup b => a.length + b.length ≤ sizeLine ∧ Q (.tup (a ++ b)) S
  | .str a, .str b => a.length + b.length ≤ sizeLine ∧ Q (.str (a ++ b)) S
  | .ref p, .ref q => ∃ xs, S p = some (.lst xs) ∧ ∃ ys, S q = some (.lst ys) ∧ xs.length + ys.length ≤ sizeLine ∧ ∀ r, S r = none → Q (.ref r) (upS S r (.lst (xs ++ ys)))
  | _, _ => False
theorem o_add : OpT X (binaryOp .Add) rAdd := by
  intro pins s σ H x y v u Q I rx ry ⟨a, b, S, Q0, ra, rb, hs, q, im⟩
  cases a with
  | int i =>
    cases b with
    | int j =>
      cases ra
      cases rb
      exact op_add pins s σ H _ _ v u Q I rx ry ⟨i, j, rfl, rfl, im _ _ q H _ (Ext.refl H) hs (.int _)⟩
    | _ => exact q.elim
  | str i =>
    cases b with
    | str j =>
      cases ra
      cases rb
      exact op_add_str pins s σ H _ _ v u Q I rx ry ⟨i, j, rfl, rfl, q.1, im _ _ q.2 H _ (Ext.refl H) hs (.str _)⟩
    | _ => exact q.elim
  | tup ts =>
    cases b with
    | tup us =>
      cases ra with
      | @tup p xs _ h1 h2 =>
        cases rb with
        | @tup p' ys _ g1 g2 =>
          have rr := Reps.append h2 g2
          refine op_catA pins s σ H _ _ v u Q I rx ry ⟨p, p', xs, ys, rfl, rfl, sqT_of h1, sqT_of g1, by rw [← h2.length, ← g2.length]; exact q.1, fun e => ?_, fun e e' => ?_, fun e e' r hr => ?_⟩
          · subst e
            cases h2
            exact im _ _ q.2 H _ (Ext.refl H) hs (.tup g1 g2)
          · subst e'
            cases g2
            have q2 := q.2
            rw [List.append_nil] at q2
            exact im _ _ q2 H _ (Ext.refl H) hs (.tup h1 h2)
          · exact im _ _ q.2 _ _ (Ext.new hr) (hs.new hr _) (.tup upd_same (Reps.mono (Ext.new hr) _ _ rr))
    | _ => exact q.elim
  | ref p =>
    cases b with
    | ref p' =>
      cases ra
      cases rb
      obtain ⟨ts, e1, us, e2, hz, q⟩ := q
      obtain ⟨xs, h1, r1⟩ := hs p _ e1
      obtain ⟨ys, h2, r2⟩ := hs p' _ e2
      refine op_cat pins s σ H _ _ v u Q I rx ry ⟨p, p', xs, ys, rfl, rfl, h1, h2, by rw [← r1.length, ← r2.length]; exact hz, fun r hr => ?_⟩
      obtain ⟨e3, s3⟩ := hs.newL hr (Reps.append r1 r2)
      exact im _ _ (q r (hs.free hr)) _ _ e3 s3 (.ref r)
    | _ => exact q.elim
  | _ => exact q.elim
/-! ### order -/
def rCmp (p : Int → Int → Bool) (ps : List Nat → List Nat → Bool) (x : T) (y : T) (S : Sta) (Q : T → Sta → Prop) : Prop := match x, y with
  | .int i, .int j => Q (.bl (p i j)) S
  | .str a, .str b => Q (.bl (ps a.cps.toList b.cps.toList)) S
  | _, _ => False
def rLt : R3 := rCmp (fun i j => decide (i < j)) fun a b => decide (a < b)
def rLe : R3 := rCmp (fun i j => decide (i ≤ j)) fun a b => !decide (b < a)
def rGtI : R3 := rInt (fun _ _ => True) fun i j => .bl (decide (j < i))
def rGeI : R3 := rInt (fun _ _ => True) fun i j => .bl (decide (j ≤ i))
theorem o_lt : OpT X (compareOp .Lt) rLt := by
  intro pins s σ H x y v u Q I rx ry ⟨a, b, S, Q0, ra, rb, hs, q, im⟩
  cases a with
  | int i =>
    cases b with
    | int j =>
      cases ra
      cases rb
      exact op_lt pins s σ H _ _ v u Q I rx ry ⟨i, j, rfl, rfl, im _ _ q H _ (Ext.refl H) hs (.bl _)⟩
    | _ => exact q.elim
  | str i =>
    cases b with
    | str j =>
      cases ra
      cases rb
      exact op_lt_str pins s σ H _ _ v u Q I rx ry ⟨i, j, rfl, rfl, im _ _ q H _ (Ext.refl H) hs (.bl _)⟩
    | _ => exact q.elim
  | _ => exact q.elim
theorem o_le : OpT X (compareOp .LtE) rLe := by
  intro pins s σ H x y v u Q I rx ry ⟨a, b, S, Q0, ra, rb, hs, q, im⟩
  cases a with
  | int i =>
    cases b with
    | int j =>
      cases ra
      cases rb
      exact op_le pins s σ H _ _ v u Q I rx ry ⟨i, j, rfl, rfl, im _ _ q H _ (Ext.refl H) hs (.bl _)⟩
    | _ => exact q.elim
  | str i =>
    cases b with
    | str j =>
      cases ra
      cases rb
      exact op_le_str pins s σ H _ _ v u Q I rx ry ⟨i, j, rfl, rfl, im _ _ q H _ (Ext.refl H) hs (.bl _)⟩
    | _ => exact q.elim
  | _ => exact q.elim
theorem o_gt : OpT X (compareOp .Gt) rGtI := opT_I0 op_gt fun _ _ _ => .bl _
theorem o_ge : OpT X (compareOp .GtE) rGeI := opT_I0 op_ge fun _ _ _ => .bl _
/-! ### is None -/
def isNon : T → Bool
  | .non => true
  | _ => false
def rIsN (neg : Bool) (x : T) (y : T) (S : Sta) (Q : T → Sta → Prop) : Prop := match y with
  | .non => Q (.bl (neg != isNon x)) S
  | _ => False
theorem isNon_rep {K : PySem.W.Frag} {H : Hp} {t : T} {v : V} (r : Rep K H t v) : decide (v = .non) = isNon t := by
  cases r <;> rfl
theorem o_isN : OpT X (compareOp .Is) (rIsN false) := by
  intro pins s σ H x y v u Q I rx ry ⟨a, b, S, Q0, ra, rb, hs, q, im⟩
  cases b with
  | non =>
    cases rb
    refine op_isN pins s σ H _ _ v u Q I rx ry ⟨rfl, ?_⟩
    rw [isNon_rep ra]
    have q : Q0 (.bl (false != isNon a)) S := q
    rw [Bool.false_bne] at q
    exact im _ _ q H _ (Ext.refl H) hs (.bl _)
  | _ => exact q.elim
theorem o_notN : OpT X (compareOp .IsNot) (rIsN true) := by
  intro pins s σ H x y v u Q I rx ry ⟨a, b, S, Q0, ra, rb, hs, q, im⟩
  cases b with
  | non =>
    cases rb
    refine op_notN pins s σ H _ _ v u Q I rx ry ⟨rfl, ?_⟩
    rw [isNon_rep ra]
    have q : Q0 (.bl (true != isNon a)) S := q
    rw [Bool.true_bne] at q
    exact im _ _ q H _ (Ext.refl H) hs (.bl _)
  | _ => exact q.elim
/-! ### == -/
mutual
def toD : T → Option PyData
  | .non => some .none
  | .bl b => some (.bool b)
  | .int i => some (.int i)
  | .str s => some (.str s)
  | .tup ts => (toDs ts).map .tuple
  | .fl ts => (toDs ts).map .list
  | .ref _ => none
def toDs : List T → Option (List PyData)
  | [] => some []
  | t :: ts => match toD t, toDs ts with
    | some d, some ds => some (d :: ds)
    | _, _ => none
end
def dd (S : Sta) : T → Option PyData
  | .ref p => match S p with
    | some (.lst ts) => (toDs ts).map .list
    | _ => none
  | t => toD t
mutual
theorem Rep.dp {K : PySem.W.Frag} {H : Hp} : ∀ (t : T) (v : V) (d : PyData), Rep K H t v → toD t = some d → Dp K H v d
  | .non, _, _, r, e => by cases r; simp only [toD, Option.some.injEq] at e; subst e; exact .non
  | .bl b, _, _, r, e => by cases r; simp only [toD, Option.some.injEq] at e; subst e; exact .bl b
  | .int b, _, _, r, e => by cases r; simp only [toD, Option.some.injEq] at e; subst e; exact .int b
  | .str b, _, _, r, e => by cases r; simp only [toD, Option.some.injEq] at e; subst e; exact .str b
  | .ref a, _, _, r, e => by simp only [toD] at e; cases e
  | .tup ts, _, d, r, e => by
    cases r with
    | tup h1 h2 =>
      simp only [toD, Option.map_eq_some_iff] at e
      obtain ⟨ds, e1, e2⟩ := e
      subst e2
      exact .tup (sqT_of h1) (Reps.dp ts _ ds h2 e1)
  | .fl ts, _, d, r, e => by
    cases r with
    | fl h1 h2 =>
      simp only [toD, Option.map_eq_some_iff] at e
      obtain ⟨ds, e1, e2⟩ := e
      subst e2
      exact .lst h1.sq (Reps.dp ts _ ds h2 e1)
theorem Reps.dp {K : PySem.W.Frag} {H : Hp} : ∀ (ts : List T) (vs : List V) (ds : List PyData), Reps K H ts vs → toDs ts = some ds → DpAll K H vs ds
  | [], _, _, r, e => by cases r; simp only [toDs, Option.some.injEq] at e; subst e; exact .nil
  | t :: ts, _, ds, r, e => by
    cases r with
    | cons h1 h2 =>
      simp only [toDs] at e
      cases e1 : toD t with
      | none => rw [e1] at e; cases e
      | some d =>
        cases e2 : toDs ts with
        | none => rw [e1, e2] at e; cases e
        | some es =>
          rw [e1, e2] at e
          cases e
          exact .cons (Rep.dp t _ d h1 e1) (Reps.dp ts _ es h2 e2)
end
theorem dd_dp {K : PySem.W.Frag} {H : Hp} {S : Sta} {t : T} {v : V} {d : PyData} (hs : St K S H) (r : Rep K H t v) (e : dd S t = some d) : Dp K H v d := by
  cases t with
  | ref p =>
    cases r
    simp only [dd] at e
    cases q : S p with
    | none => rw [q] at e; cases e
    | some o =>
      rw [q] at e
      cases o with
      | ins C fs => cases e
      | dct kvs => cases e
      | dtt kvs => cases e
      | lst ts =>
        simp only [Option.map_eq_some_iff] at e
        obtain ⟨ds, e1, e2⟩ := e
        subst e2
        obtain ⟨xs, h1, h2⟩ := hs p _ q
        exact .lst (.inl (.inl h1)) (Reps.dp ts _ ds h2 e1)
  | non => exact Rep.dp _ _ _ r e
  | bl b => exact Rep.dp _ _ _ r e
  | int b => exact Rep.dp _ _ _ r e
  | str b => exact Rep.dp _ _ _ r e
  | tup b => exact Rep.dp _ _ _ r e
  | fl b => exact Rep.dp _ _ _ r e
def rEq (neg : Bool) (x : T) (y : T) (S : Sta) (Q : T → Sta → Prop) : Prop := ∃ d, dd S x = some d ∧ ∃ e, dd S y = some e ∧ SeqAt.shaped d = true ∧ SeqAt.shaped e = true ∧ Q (.bl (neg != PyData.eqv d e)) S
theorem o_eq (hu : X.A.units + 64 < cLine) : OpT X (compareOp .Eq) (rEq false) := by
  intro pins s σ H x y v u Q I rx ry ⟨a, b, S, Q0, ra, rb, hs, ⟨d, h1, e, h2, h3, h4, q⟩, im⟩
  refine op_eqD hu pins s σ H _ _ v u Q I rx ry ⟨d, e, dd_dp hs ra h1, dd_dp hs rb h2, h3, h4, ?_⟩
  rw [Bool.false_bne] at q
  exact im _ _ q H _ (Ext.refl H) hs (.bl _)
theorem o_ne (hu : X.A.units + 64 < cLine) : OpT X (compareOp .NotEq) (rEq true) := by
  intro pins s σ H x y v u Q I rx ry ⟨a, b, S, Q0, ra, rb, hs, ⟨d, h1, e, h2, h3, h4, q⟩, im⟩
  refine op_neD hu pins s σ H _ _ v u Q I rx ry ⟨d, e, dd_dp hs ra h1, dd_dp hs rb h2, h3, h4, ?_⟩
  rw [Bool.true_bne] at q
  exact im _ _ q H _ (Ext.refl H) hs (.bl _)
/-! ### x in a list, a tuple: flat values -/
def flatT : T → Bool
  | .non => true
  | .bl _ => true
  | .int _ => true
  | .str _ => true
  | _ => false
def eqF : T → T → Bool
  | .non, .non => true
  | .bl a, .bl b => a == b
  | .bl a, .int b => (if a then 1 else 0) == b
  | .int a, .bl b => a == (if b then 1 else 0)
  | .int a, .int b => a == b
  | .str a, .str b => a == b
  | _, _ => false
def inF (x : T) (ts : List T) : Bool := ts.any fun y => eqF y x
theorem flat_rep {K : PySem.W.Frag} {H : Hp} {t : T} {v : V} (r : Rep K H t v) (f : flatT t = true) : flatV v = true := by
  cases r <;> first | rfl | cases f
theorem eqF_rep {K : PySem.W.Frag} {H : Hp} {t u : T} {v w : V} (r : Rep K H t v) (q : Rep K H u w) (f : flatT t = true) (g : flatT u = true) : eqV v w = eqF t u := by
  cases r <;> first | (cases f; done) | (cases q <;> first | (cases g; done) | rfl)
theorem flats_rep {K : PySem.W.Frag} {H : Hp} : ∀ {ts : List T} {vs : List V}, Reps K H ts vs → ts.all flatT = true → vs.all flatV = true
  | [], _, h, _ => by cases h; rfl
  | t :: ts, _, h, f => by
    cases h with
    | cons h1 h2 =>
      rw [List.all_cons, Bool.and_eq_true] at f ⊢
      exact ⟨flat_rep h1 f.1, flats_rep h2 f.2⟩
theorem inF_rep {K : PySem.W.Frag} {H : Hp} {x : T} {w : V} (r : Rep K H x w) (g : flatT x = true) : ∀ {ts : List T} {vs : List V}, Reps K H ts vs → ts.all flatT = true → inV w vs = inF x ts
  | [], _, h, _ => by cases h; rfl
  | t :: ts, _, h, f => by
    cases h with
    | cons h1 h2 =>
      rw [List.all_cons, Bool.and_eq_true] at f
      have ih := inF_rep r g h2 f.2
      unfold inV inF at ih ⊢
      rw [List.any_cons, List.any_cons, ih, eqF_rep h1 r f.1 g]
/-- the items of a list or a tuple, as they stand -/
def itemsT (S : Sta) : T → Option (List T)
  | .tup ts => some ts
  | .fl ts => some ts
  | .ref p => match S p with
    | some (.lst ts) => some ts
    | _ => none
  | _ => none
theorem items_sq {K : PySem.W.Frag} {H : Hp} {S : Sta} {t : T} {v : V} {ts : List T} (hs : St K S H) (r : Rep K H t v) (e : itemsT S t = some ts) : ∃ p xs, v = .ref p ∧ (SqL K H p xs ∨ H p = some (.tup xs)) ∧ Reps K H ts xs := by
  cases r with
  | tup h1 h2 => cases e; exact ⟨_, _, rfl, .inr h1, h2⟩
  | fl h1 h2 => cases e; exact ⟨_, _, rfl, .inl h1.sq, h2⟩
  | ref a =>
    simp only [itemsT] at e
    cases q : S a with
    | none => rw [q] at e; cases e
    | some o =>
      rw [q] at e
      cases o with
      | ins C fs => cases e
      | dct kvs => cases e
      | dtt kvs => cases e
      | lst us =>
        cases e
        obtain ⟨xs, h1, h2⟩ := hs a _ q
        exact ⟨a, xs, rfl, .inl (.inl (.inl h1)), h2⟩
  | _ => cases e
def rIn (neg : Bool) (x : T) (y : T) (S : Sta) (Q : T → Sta → Prop) : Prop := ∃ ts, itemsT S y = some ts ∧ flatT x = true ∧ ts.all flatT = true ∧ Q (.bl (neg != inF x ts)) S
theorem o_in : OpT X (compareOp .In) (rIn false) := by
  intro pins s σ H x y v u Q I rx ry ⟨a, b, S, Q0, ra, rb, hs, ⟨ts, e, f, g, q⟩, im⟩
  obtain ⟨p, xs, rfl, h, r⟩ := items_sq hs rb e
  refine op_in_seq pins s σ H _ _ v u Q I rx ry ⟨p, xs, rfl, h.imp id sqT_of, flat_rep ra f, flats_rep r g, ?_⟩
  rw [if_neg Bool.false_ne_true, inF_rep ra f r g]
  rw [Bool.false_bne] at q
  exact im _ _ q H _ (Ext.refl H) hs (.bl _)
theorem o_notIn : OpT X (compareOp .NotIn) (rIn true) := by
  intro pins s σ H x y v u Q I rx ry ⟨a, b, S, Q0, ra, rb, hs, ⟨ts, e, f, g, q⟩, im⟩
  obtain ⟨p, xs, rfl, h, r⟩ := items_sq hs rb e
  refine op_notIn_seq pins s σ H _ _ v u Q I rx ry ⟨p, xs, rfl, h.imp id sqT_of, flat_rep ra f, flats_rep r g, ?_⟩
  rw [if_pos rfl, inF_rep ra f r g]
  rw [Bool.true_bne] at q
  exact im _ _ q H _ (Ext.refl H) hs (.bl _)
end
end Wp

set_option Elab.async false
set_option linter.all false
set_option maxRecDepth 100000
/-! subscripts, slices, calls -/
namespace Wp
open PySem PySem.Spec PyProof.Rows L2
section
variable {B : Hp} {X : Cx} {a b : Expr} {ta tb : WE} {pos : Pos}
/-! ### o[i] -/
def rIx (x : T) (y : T) (S : Sta) (Q : T → Sta → Prop) : Prop := match y with
  | .int i => match x with
    | .str s => s.length ≤ sizeLine ∧ ∃ c, atI s.cps.toList i = some c ∧ Q (.str ⟨#[c]⟩) S
    | x => ∃ ts, itemsT S x = some ts ∧ ∃ t, atI ts i = some t ∧ Q t S
  | _ => False
theorem ixN_lt {n : Nat} {i : Int} {j : Nat} (h : ixN n i = some j) : j < n := (ixN_seq h).2.1
theorem atI_rep {K : PySem.W.Frag} {H : Hp} {ts : List T} {vs : List V} {i : Int} {t : T} (r : Reps K H ts vs) (h : atI ts i = some t) : ∃ v, atI vs i = some v ∧ Rep K H t v := by
  unfold atI at h ⊢
  rw [← r.length]
  cases e : ixN ts.length i with
  | none => rw [e] at h; cases h
  | some j =>
    rw [e] at h
    exact r.get h
theorem ix_T : IxR X (L3 X.K rIx) := by
  intro value slice pins s σ H x y v u Q I rx ry ⟨a, b, S, Q0, ra, rb, hs, q, im⟩ hsub
  cases b with
  | int i =>
    have go : ∀ ts t, itemsT S a = some ts → atI ts i = some t → Q0 t S → wpAny (model X.prog X.w) X.A (subscriptTail value slice v u) (EP X pins σ Q) X.xe s := fun ts t e1 e2 q => by
      obtain ⟨p, xs, rfl, h, r⟩ := items_sq hs ra e1
      obtain ⟨w, e3, rw'⟩ := atI_rep r e2
      cases rb
      have qq := im _ _ q H _ (Ext.refl H) hs rw'
      rcases h with h | h
      · exact ix_list value slice pins s σ H _ _ v u Q I rx ry ⟨p, xs, i, w, rfl, rfl, h, e3, qq⟩ hsub
      · exact ix_tup value slice pins s σ H _ _ v u Q I rx ry ⟨p, xs, i, w, rfl, rfl, sqT_of h, e3, qq⟩ hsub
    cases a with
    | str z =>
      obtain ⟨hz, c, e, q⟩ := q
      cases ra
      cases rb
      exact ix_str value slice pins s σ H _ _ v u Q I rx ry ⟨z, i, c, rfl, rfl, hz, e, im _ _ q H _ (Ext.refl H) hs (.str _)⟩ hsub
    | non => obtain ⟨ts, e1, t, e2, q⟩ := q; exact go ts t e1 e2 q
    | bl _ => obtain ⟨ts, e1, t, e2, q⟩ := q; exact go ts t e1 e2 q
    | int _ => obtain ⟨ts, e1, t, e2, q⟩ := q; exact go ts t e1 e2 q
    | tup _ => obtain ⟨ts, e1, t, e2, q⟩ := q; exact go ts t e1 e2 q
    | fl _ => obtain ⟨ts, e1, t, e2, q⟩ := q; exact go ts t e1 e2 q
    | ref _ => obtain ⟨ts, e1, t, e2, q⟩ := q; exact go ts t e1 e2 q
  | _ => exact q.elim
theorem j_ix (ha : JE B X a ta) (hb : JE B X b tb) (hs : PlainIx b) : JE B X (.Subscript a b pos) (wOp rIx ta tb) := pe_imp (pe_ix ix_T ha hb hs) fun _ _ _ h => le_op h
/-! ### o[i:j] -/
abbrev WO := Sl → Sta → (Option Int → Sta → Prop) → Prop
def finO (K : PySem.W.Frag) (H : Hp) (Q : Option Int → Hp → Prop) : Option Int → Sta → Prop := fun b S => ∀ H', Ext H H' → St K S H' → Q b H'
def LO (B : Hp) (X : Cx) (t : WO) : TO := fun σ H Q => ∃ st S Q0, Ext B H ∧ SlR X.K H st σ ∧ St X.K S H ∧ t st S Q0 ∧ Im2 Q0 (finO X.K H Q)
def JO (B : Hp) (X : Cx) (e : Option Expr) (t : WO) : Prop := PO X e (LO B X t)
theorem po_imp {e : Option Expr} {t t' : TO} (h : PO X e t) (k : ∀ σ H Q, t' σ H Q → t σ H Q) : PO X e t' := ⟨fun pins s σ H Q I q => h.run pins s σ H Q I (k σ H Q q)⟩
def wNoPart (u0 : Sl) (S : Sta) (Q : Option Int → Sta → Prop) : Prop := Q none S
def wPart (t : WE) (σ : Sl) (S : Sta) (Q : Option Int → Sta → Prop) : Prop := t σ S fun x S1 => match x with
  | .int i => Q (some i) S1
  | _ => False
theorem jo_none : JO B X none wNoPart := po_imp po_none fun σ H Q ⟨st, S, Q0, he, hr, hs, h, im⟩ => im _ _ h H (Ext.refl H) hs
theorem jo_some (h : JE B X a ta) : JO B X (some a) (wPart ta) := po_imp (po_some h) fun σ H Q ⟨st, S, Q0, he, hr, hs, h, im⟩ => by
  refine ⟨st, S, _, he, hr, hs, h, fun x S1 h1 H1 v e1 s1 r1 => ?_⟩
  cases x with
  | int i =>
    cases r1
    exact ⟨i, rfl, im _ _ h1 H1 e1 s1⟩
  | _ => exact h1.elim
def cutT (xs : List T) (lo hi : Option Int) : List T := (xs.drop (HT.sIx xs.length 0 lo)).take (HT.sIx xs.length xs.length hi - HT.sIx xs.length 0 lo)
theorem cut_rep {K : PySem.W.Frag} {H : Hp} {ts : List T} {vs : List V} (r : Reps K H ts vs) (lo hi : Option Int) : Reps K H (cutT ts lo hi) (cutV vs lo hi) := by
  unfold cutT cutV
  rw [r.length]
  exact (r.drop _).take _
theorem cutT_all (xs : List T) (lo hi : Option Int) (h : HT.sIx xs.length 0 lo = 0 ∧ HT.sIx xs.length xs.length hi = xs.length) : cutT xs lo hi = xs := by
  unfold cutT
  rw [h.1, h.2]
  simp
def rSl : T → Option Int → Option Int → Sta → (T → Sta → Prop) → Prop := fun x lo hi S Q => match x with
  | .str z => z.length ≤ sizeLine ∧ Q (.str (Txt.slice z lo hi)) S
  | .tup ts => Q (.tup (cutT ts lo hi)) S
  | x => ∃ ts, itemsT S x = some ts ∧ ∀ p, S p = none → Q (.ref p) (upS S p (.lst (cutT ts lo hi)))
def L3s (K : PySem.W.Frag) (r : T → Option Int → Option Int → Sta → (T → Sta → Prop) → Prop) : V → Option Int → Option Int → Hp → VK → Prop := fun x lo hi H Q => ∃ a S Q0, Rep K H a x ∧ St K S H ∧ r a lo hi S Q0 ∧ Im2 Q0 (fin K H Q)
theorem sl_T : L2.SlR X (L3s X.K rSl) := by
  intro pins s σ H x v vl vu lo hi sl Q I rx hso pl pu ⟨a, S, Q0, ra, hs, q, im⟩
  cases a with
  | str z =>
    cases ra
    exact C8.sl_txt pins s σ H _ v vl vu lo hi sl Q I rx hso pl pu ⟨z, rfl, q.1, im _ _ q.2 H _ (Ext.refl H) hs (.str _)⟩
  | tup ts =>
    cases ra with
    | @tup p xs _ h1 h2 =>
      refine sl_tupA pins s σ H _ v vl vu lo hi sl Q I rx hso pl pu ⟨p, xs, rfl, sqT_of h1, fun hw => ?_, fun hw p' hp' => ?_⟩
      · rw [← h2.length] at hw
        have q : Q0 (.tup (cutT ts lo hi)) S := q
        rw [cutT_all ts lo hi hw] at q
        exact im _ _ q H _ (Ext.refl H) hs (.tup h1 h2)
      · exact im _ _ q _ _ (Ext.new hp') (hs.new hp' _) (.tup upd_same (Reps.mono (Ext.new hp') _ _ (cut_rep h2 lo hi)))
  | fl ts =>
    cases ra with
    | @fl p xs _ h1 h2 =>
      obtain ⟨us, e, q⟩ := q
      cases e
      refine sl_list pins s σ H _ v vl vu lo hi sl Q I rx hso pl pu ⟨p, xs, rfl, h1.sq, fun p' hp' => ?_⟩
      obtain ⟨e3, s3⟩ := hs.newL hp' (cut_rep h2 lo hi)
      exact im _ _ (q p' (hs.free hp')) _ _ e3 s3 (.ref p')
  | ref p =>
    obtain ⟨us, e, q⟩ := q
    simp only [itemsT] at e
    cases ra
    cases eS : S p with
    | none => rw [eS] at e; cases e
    | some o =>
      rw [eS] at e
      cases o with
      | ins C fs => cases e
      | dct kvs => cases e
      | dtt kvs => cases e
      | lst ws =>
        cases e
        obtain ⟨xs, h1, h2⟩ := hs p _ eS
        refine sl_list pins s σ H _ v vl vu lo hi sl Q I rx hso pl pu ⟨p, xs, rfl, .inl (.inl h1), fun p' hp' => ?_⟩
        obtain ⟨e3, s3⟩ := hs.newL hp' (cut_rep h2 lo hi)
        exact im _ _ (q p' (hs.free hp')) _ _ e3 s3 (.ref p')
  | non => obtain ⟨us, e, q⟩ := q; cases e
  | bl _ => obtain ⟨us, e, q⟩ := q; cases e
  | int _ => obtain ⟨us, e, q⟩ := q; cases e
def wSl (te : WE) (tl th : WO) (σ : Sl) (S : Sta) (Q : T → Sta → Prop) : Prop := te σ S fun x S1 => tl σ S1 fun l S2 => th σ S2 fun u S3 => rSl x l u S3 Q
theorem j_slice {lo hi : Option Expr} {tl th : WO} {p2 : Pos} (he : JE B X a ta) (hl : JO B X lo tl) (hu : JO B X hi th) : JE B X (.Subscript a (.Slice lo hi none p2) pos) (wSl ta tl th) :=
  pe_imp (pe_slice sl_T he hl hu) fun σ H Q ⟨st, S, Q0, he, hr, hs, h, im⟩ => by
    refine ⟨st, S, _, he, hr, hs, h, fun x S1 h1 H1 v e1 s1 r1 => ?_⟩
    refine ⟨st, S1, _, he.trans e1, hr.mono e1, s1, h1, fun l S2 h2 H2 e2 s2 => ?_⟩
    refine ⟨st, S2, _, he.trans (e1.trans e2), hr.mono (e1.trans e2), s2, h2, fun u S3 h3 H3 e3 s3 => ?_⟩
    exact ⟨x, S3, Q0, Rep.mono (e2.trans e3) _ _ r1, s3, h3, fun z S4 q => fin_ext (e1.trans (e2.trans e3)) (im z S4 q)⟩
/-! ### -x -/
def rNeg : T → Sta → (T → Sta → Prop) → Prop := fun x S Q => match x with
  | .int i => Q (.int (-i)) S
  | _ => False
def wNeg (t : WE) (σ : Sl) (S : Sta) (Q : T → Sta → Prop) : Prop := t σ S fun x S1 => rNeg x S1 Q
theorem j_neg (ha : JE B X a ta) : JE B X (.UnaryOp .USub a pos) (wNeg ta) := pe_imp (pe_un un_neg ha) fun σ H Q ⟨st, S, Q0, he, hr, hs, h, im⟩ => by
  refine ⟨st, S, _, he, hr, hs, h, fun x S1 h1 H1 v e1 s1 r1 => ?_⟩
  cases x with
  | int i =>
    cases r1
    exact ⟨i, rfl, im _ _ h1 H1 _ e1 s1 (.int _)⟩
  | _ => exact h1.elim

/-! ### calls of built-ins by values -/
abbrev RC3 := List T → Sta → (T → Sta → Prop) → Prop
def LC (K : PySem.W.Frag) (r : RC3) : List V → Hp → VK → Prop := fun xs H Q => ∃ ts S Q0, Reps K H ts xs ∧ St K S H ∧ r ts S Q0 ∧ Im2 Q0 (fin K H Q)
def wCB (r : RC3) (t : WA) (σ : Sl) (S : Sta) (Q : T → Sta → Prop) : Prop := t σ S fun xs S1 => r xs S1 Q
variable {es : List Expr} {tr : WA}
theorem le_cb {r : RC3} {σ : L2.St} {H : Hp} {Q : VK} (h : LE B X (wCB r tr) σ H Q) : tCB (LC X.K r) (LA B X tr) σ H Q := by
  obtain ⟨st, S, Q0, he, hr, hs, h, im⟩ := h
  refine ⟨st, S, _, he, hr, hs, h, fun xs S1 h1 H1 v e1 s1 r1 => ?_⟩
  exact ⟨xs, S1, Q0, r1, s1, h1, fun z S4 q => fin_ext e1 (im z S4 q)⟩
theorem j_callB {id : String} {r : RC3} {x : Str} {p : Pos} (hc : CallR X (.builtin id) (LC X.K r)) (hg : Gl X x) (hm : X.mg x = none) (hv : bootBuiltins x = some (.builtin id)) (ha : JA B X (a :: es) tr) (hn : x ≠ "__name__" := by decide) (hdb : (x == ("__debug__" : Str)) = false := by decide)
    (he : starEach (a :: es) X.env = (false, eval a X.env) :: starEach es X.env := by rfl) (hpl : (backTo pos (starEach es X.env)).any (·.1) = false := by rfl) : JE B X (.Call (.Name x p) (a :: es) [] pos) (wCB r tr) :=
  pe_imp (pe_callB hc hg hm hv ha hn hdb he hpl) fun _ _ _ h => le_cb h
theorem j_callTy {T : String} {r : RC3} {x : Str} {p : Pos} (hc : CallR X (.type T) (LC X.K r)) (hg : Gl X x) (hm : X.mg x = none) (hv : bootBuiltins x = some (.type T)) (ha : JA B X (a :: es) tr) (hn : x ≠ "__name__" := by decide) (hdb : (x == ("__debug__" : Str)) = false := by decide)
    (he : starEach (a :: es) X.env = (false, eval a X.env) :: starEach es X.env := by rfl) (hpl : (backTo pos (starEach es X.env)).any (·.1) = false := by rfl) : JE B X (.Call (.Name x p) (a :: es) [] pos) (wCB r tr) :=
  pe_imp (pe_callTy hc hg hm hv ha hn hdb he hpl) fun _ _ _ h => le_cb h
def rLen1 (x : T) (S : Sta) (Q : T → Sta → Prop) : Prop := match x with
  | .str z => z.length ≤ sizeLine ∧ Q (.int z.length) S
  | x => ∃ ts, itemsT S x = some ts ∧ Q (.int ts.length) S
def rLen (xs : List T) (S : Sta) (Q : T → Sta → Prop) : Prop := match xs with
  | [x] => rLen1 x S Q
  | _ => False
theorem Reps.one {K : PySem.W.Frag} {H : Hp} {t : T} {vs : List V} (r : Reps K H [t] vs) : ∃ v, vs = [v] ∧ Rep K H t v := by
  cases r with
  | cons h1 h2 => cases h2; exact ⟨_, rfl, h1⟩
theorem Reps.two {K : PySem.W.Frag} {H : Hp} {t u : T} {vs : List V} (r : Reps K H [t, u] vs) : ∃ v w, vs = [v, w] ∧ Rep K H t v ∧ Rep K H u w := by
  cases r with
  | cons h1 h2 =>
    obtain ⟨w, e, h3⟩ := h2.one
    subst e
    exact ⟨_, _, rfl, h1, h3⟩
theorem c_len : CallR X (.builtin "len") (LC X.K rLen) := by
  intro pins s σ H xs us Q I rx ⟨ts, S, Q0, r, hs, q, im⟩
  match ts, q with
  | [t], q =>
    obtain ⟨v, rfl, r1⟩ := r.one
    have go : ∀ us', itemsT S t = some us' → Q0 (.int us'.length) S → wpAny (model X.prog X.w) X.A (call (.builtin "len") us) (EP X pins σ Q) X.xe s := fun us' e q => by
      obtain ⟨p, ys, rfl, h, r2⟩ := items_sq hs r1 e
      refine call_len_seq pins s σ H _ us Q I rx ⟨p, ys, rfl, h.imp id sqT_of, ?_⟩
      rw [← r2.length]
      exact im _ _ q H _ (Ext.refl H) hs (.int _)
    cases t with
    | str z =>
      cases r1
      exact call_len_str pins s σ H _ us Q I rx ⟨z, rfl, q.1, im _ _ q.2 H _ (Ext.refl H) hs (.int _)⟩
    | non => obtain ⟨ts, e, q⟩ := q; exact go ts e q
    | bl _ => obtain ⟨ts, e, q⟩ := q; exact go ts e q
    | int _ => obtain ⟨ts, e, q⟩ := q; exact go ts e q
    | tup _ => obtain ⟨ts, e, q⟩ := q; exact go ts e q
    | fl _ => obtain ⟨ts, e, q⟩ := q; exact go ts e q
    | ref _ => obtain ⟨ts, e, q⟩ := q; exact go ts e q
def rInt1 (xs : List T) (S : Sta) (Q : T → Sta → Prop) : Prop := match xs with
  | [.int i] => Q (.int i) S
  | [.bl b] => Q (.int (if b then 1 else 0)) S
  | _ => False
theorem c_int : CallR X (.type "int") (LC X.K rInt1) := by
  intro pins s σ H xs us Q I rx ⟨ts, S, Q0, r, hs, q, im⟩
  match ts, q with
  | [.int i], q =>
    obtain ⟨v, rfl, r1⟩ := r.one
    cases r1
    exact call_int1 pins s σ H _ us Q I rx (.inl ⟨i, rfl, im _ _ q H _ (Ext.refl H) hs (.int _)⟩)
  | [.bl i], q =>
    obtain ⟨v, rfl, r1⟩ := r.one
    cases r1
    exact call_int1 pins s σ H _ us Q I rx (.inr ⟨i, rfl, im _ _ q H _ (Ext.refl H) hs (.int _)⟩)
def rAbs (xs : List T) (S : Sta) (Q : T → Sta → Prop) : Prop := match xs with
  | [.int i] => Q (.int (if i < 0 then -i else i)) S
  | _ => False
theorem c_abs : CallR X (.builtin "abs") (LC X.K rAbs) := by
  intro pins s σ H xs us Q I rx ⟨ts, S, Q0, r, hs, q, im⟩
  match ts, q with
  | [.int i], q =>
    obtain ⟨v, rfl, r1⟩ := r.one
    cases r1
    exact call_abs pins s σ H _ us Q I rx ⟨i, rfl, im _ _ q H _ (Ext.refl H) hs (.int _)⟩
def rMax2 (xs : List T) (S : Sta) (Q : T → Sta → Prop) : Prop := match xs with
  | [.int i, .int j] => Q (.int (if j > i then j else i)) S
  | _ => False
def rMin2 (xs : List T) (S : Sta) (Q : T → Sta → Prop) : Prop := match xs with
  | [.int i, .int j] => Q (.int (if j < i then j else i)) S
  | _ => False
theorem c_max2 (hc : X.calm = true) : CallR X (.builtin "max") (LC X.K rMax2) := by
  intro pins s σ H xs us Q I rx ⟨ts, S, Q0, r, hs, q, im⟩
  match ts, q with
  | [.int i, .int j], q =>
    obtain ⟨v, w, rfl, r1, r2⟩ := r.two
    cases r1
    cases r2
    exact call_max2 hc pins s σ H _ us Q I rx ⟨i, j, rfl, im _ _ q H _ (Ext.refl H) hs (.int _)⟩
theorem c_min2 (hc : X.calm = true) : CallR X (.builtin "min") (LC X.K rMin2) := by
  intro pins s σ H xs us Q I rx ⟨ts, S, Q0, r, hs, q, im⟩
  match ts, q with
  | [.int i, .int j], q =>
    obtain ⟨v, w, rfl, r1, r2⟩ := r.two
    cases r1
    cases r2
    exact call_min2 hc pins s σ H _ us Q I rx ⟨i, j, rfl, im _ _ q H _ (Ext.refl H) hs (.int _)⟩
/-- list(xs), tuple(xs) -/
def rListOf (xs : List T) (S : Sta) (Q : T → Sta → Prop) : Prop := match xs with
  | [x] => ∃ ts, itemsT S x = some ts ∧ ∀ p, S p = none → Q (.ref p) (upS S p (.lst ts))
  | _ => False
theorem c_list : CallR X (.type "list") (LC X.K rListOf) := by
  intro pins s σ H xs us Q I rx ⟨ts, S, Q0, r, hs, q, im⟩
  match ts, q with
  | [t], ⟨us', e, q⟩ =>
    obtain ⟨v, rfl, r1⟩ := r.one
    obtain ⟨p, ys, rfl, h, r2⟩ := items_sq hs r1 e
    refine call_list_of pins s σ H _ us Q I rx ⟨p, ys, rfl, h.imp id sqT_of, fun l hl => ?_⟩
    obtain ⟨e3, s3⟩ := hs.newL hl r2
    exact im _ _ (q l (hs.free hl)) _ _ e3 s3 (.ref l)
def rTupOf (xs : List T) (S : Sta) (Q : T → Sta → Prop) : Prop := match xs with
  | [x] => ∃ ts, itemsT S x = some ts ∧ Q (.tup ts) S
  | _ => False
theorem c_tup : CallR X (.type "tuple") (LC X.K rTupOf) := by
  intro pins s σ H xs us Q I rx ⟨ts, S, Q0, r, hs, q, im⟩
  match ts, q with
  | [t], ⟨us', e, q⟩ =>
    obtain ⟨v, rfl, r1⟩ := r.one
    obtain ⟨p, ys, rfl, h, r2⟩ := items_sq hs r1 e
    rcases h with h | h
    · exact call_tuple_of pins s σ H _ us Q I rx ⟨p, ys, rfl, .inl ⟨h, fun l hl => im _ _ q _ _ (Ext.new hl) (hs.new hl _) (.tup upd_same (Reps.mono (Ext.new hl) _ _ r2))⟩⟩
    · exact call_tuple_of pins s σ H _ us Q I rx ⟨p, ys, rfl, .inr ⟨sqT_of h, im _ _ q H _ (Ext.refl H) hs (.tup h r2)⟩⟩
/-- sorted, ints -/
def rSortI (xs : List T) (S : Sta) (Q : T → Sta → Prop) : Prop := match xs with
  | [x] => ∃ ns : List Int, itemsT S x = some (ns.map T.int) ∧ ns.length < 64 ∧ (match x with | .tup _ => False | _ => True) ∧ ∀ (ms : List Int) (p : Addr), ms.Perm ns → ms.Pairwise (· ≤ ·) → S p = none → Q (.ref p) (upS S p (.lst (ms.map T.int)))
  | _ => False
theorem c_sortI : CallR X (.builtin "sorted") (LC X.K rSortI) := by
  intro pins s σ H xs us Q I rx ⟨ts, S, Q0, r, hs, q, im⟩
  match ts, q with
  | [t], ⟨ns, e, hl, hx, q⟩ =>
    obtain ⟨v, rfl, r1⟩ := r.one
    obtain ⟨p, ys, rfl, h, r2⟩ := items_sq hs r1 e
    have ey := r2.intsV
    subst ey
    have h' : SqL X.K H p (ns.map V.int) := by
      rcases h with h | h
      · exact h
      · cases t with
        | tup _ => exact hx.elim
        | fl us =>
          cases r1 with
          | @fl _ xs _ h1 h2 =>
            cases e
            rw [← h2.intsV]
            exact h1.sq
        | ref a =>
          cases r1
          simp only [itemsT] at e
          cases eS : S p with
          | none => rw [eS] at e; cases e
          | some o =>
            rw [eS] at e
            cases o with
            | ins C fs => cases e
            | dct kvs => cases e
            | dtt kvs => cases e
            | lst ws =>
              cases e
              obtain ⟨zs, g1, g2⟩ := hs p _ eS
              rw [← g2.intsV]
              exact .inl (.inl g1)
        | non => cases e
        | bl _ => cases e
        | int _ => cases e
        | str _ => cases e
    refine cr_sorted pins s σ H _ us Q I rx ⟨p, ns, rfl, h', hl, fun ms l g1 g2 g3 => ?_⟩
    obtain ⟨e3, s3⟩ := hs.newL g3 (Reps.ints (K := X.K) ms)
    exact im _ _ (q ms l g1 g2 (hs.free g3)) _ _ e3 s3 (.ref l)
/-! ### isinstance of a built-in class -/
def tyT (S : Sta) : T → Option String
  | .non => some "NoneType"
  | .bl _ => some "bool"
  | .int _ => some "int"
  | .str _ => some "str"
  | .tup _ => some "tuple"
  | .fl _ => some "list"
  | .ref p => match S p with
    | some (.lst _) => some "list"
    | _ => none
theorem ty_rep {K : PySem.W.Frag} {H : Hp} {S : Sta} {t : T} {v : V} {n : String} (hs : St K S H) (r : Rep K H t v) (e : tyT S t = some n) : TyX K H v (.type n) := by
  cases r with
  | non => cases e; exact .base .non
  | bl b => cases e; exact .base (.bl b)
  | int i => cases e; exact .base (.int i)
  | str x => cases e; exact .base (.str x)
  | tup h1 h2 =>
    cases e
    exact .base (.tup h1)
  | fl h1 h2 =>
    cases e
    rcases h1 with ⟨o, h⟩ | ⟨o, its, n, h, hc, _⟩
    · exact .base (.frz h)
    · exact .kList h hc
  | ref a =>
    simp only [tyT] at e
    cases eS : S a with
    | none => rw [eS] at e; cases e
    | some o =>
      rw [eS] at e
      cases o with
      | ins C fs => cases e
      | dct kvs => cases e
      | dtt kvs => cases e
      | lst ws =>
        cases e
        obtain ⟨xs, h1, _⟩ := hs a _ eS
        exact .base (.lst h1)
/-- the answer for a class of the five -/
def isB (n c : String) : Bool := n == c || (n == "bool" && c == "int")
def kinds : List String := ["NoneType", "bool", "int", "str", "tuple", "list"]
theorem kit_all : (kinds.all fun n => ["bool", "int", "str", "tuple", "list", "dict"].all fun c => decide (kitB n c = some (isB n c))) = true := by decide +kernel
theorem kit_one {K : PySem.W.Frag} {n c : String} (hn : n ∈ kinds) (hc : c ∈ ["bool", "int", "str", "tuple", "list", "dict"]) : PySem.W.kitOne K (.type n) (.type c) = some (isB n c) := by
  have h := List.all_eq_true.mp kit_all n hn
  have h2 := List.all_eq_true.mp h c hc
  exact kit_ty (of_decide_eq_true h2)
theorem ty_kinds {S : Sta} {t : T} {n : String} (e : tyT S t = some n) : n ∈ kinds := by
  cases t with
  | ref p =>
    simp only [tyT] at e
    split at e
    · cases e; decide
    · cases e
  | _ => cases e; decide
def rIsi (c : String) (xs : List T) (S : Sta) (Q : T → Sta → Prop) : Prop := match xs with
  | [x, _] => ∃ n, tyT S x = some n ∧ Q (.bl (isB n c)) S
  | _ => False
def wIsi (c : String) (t : WE) (σ : Sl) (S : Sta) (Q : T → Sta → Prop) : Prop := t σ S fun x S1 => ∃ n, tyT S1 x = some n ∧ Q (.bl (isB n c)) S1
theorem j_isi {c : Str} {cs : String} {p p2 pos : Pos} (hg : Gl X "isinstance") (hm : X.mg "isinstance" = none) (hv : bootBuiltins "isinstance" = some (.builtin "isinstance")) (ha : JE B X a ta)
    (hgc : Gl X c) (hmc : X.mg c = none) (hvc : bootBuiltins c = some (.type cs)) (hc : cs ∈ ["bool", "int", "str", "tuple", "list", "dict"]) (hnc : c ≠ "__name__" := by decide) (hdc : (c == ("__debug__" : Str)) = false := by decide)
    (hs2 : starEach [.Name c p2] X.env = (false, eval (.Name c p2) X.env) :: starEach [] X.env := by rfl)
    (he : starEach [a, .Name c p2] X.env = (false, eval a X.env) :: starEach [.Name c p2] X.env := by rfl) (hpl : (backTo pos (starEach [.Name c p2] X.env)).any (·.1) = false := by rfl) :
    JE B X (.Call (.Name "isinstance" p) [a, .Name c p2] [] pos) (wIsi cs ta) := by
  have hb : PE X (.Name c p2) (tC (.ty cs)) := pe_bltn hgc hmc hvc (show Value.type cs = Value.type cs from rfl) hnc hdc
  refine pe_imp (pe_callB call_isi hg hm hv (pa_cons ha (pa_cons hb pa_nil hs2) he) (by decide) (by decide) he hpl) fun σ H Q ⟨st, S, Q0, he, hr, hs, h, im⟩ => ?_
  refine ⟨st, S, _, he, hr, hs, h, fun x S1 h1 H1 v e1 s1 r1 => ?_⟩
  obtain ⟨n, e, q⟩ := h1
  exact ⟨v, .ty cs, .type n, .type cs, isB n cs, rfl, .ty cs, ty_rep s1 r1 e, kit_one (ty_kinds e) hc, im _ _ q H1 _ e1 s1 (.bl _)⟩
end
end Wp

set_option Elab.async false
set_option linter.all false
set_option maxRecDepth 100000
/-! statements, loops, defs -/
namespace Wp
open PySem PySem.Spec PyProof.Rows L2
theorem finS_ext {K : PySem.W.Frag} {H H1 : Hp} {Q : L2.St → Hp → Prop} {t : Sl} {S : Sta} (e : Ext H H1) (h : finS K H Q t S) : finS K H1 Q t S := fun H' v e' s r => h H' v (e.trans e') s r
theorem ImD.ext {K : PySem.W.Frag} {H H1 : Hp} {D0 : WEnds} {D : Ends} (e : Ext H H1) (h : ImD D0 (finD K H D)) : ImD D0 (finD K H1 D) :=
  ⟨fun v S q => finS_ext e (h.nx v S q), fun v S q => fin_ext e (h.rt v S q), fun v S q => finS_ext e (h.bk v S q), fun v S q => finS_ext e (h.ct v S q)⟩
section
variable {B : Hp} {X : Cx} {st : Stmt} {rest : List Stmt} {t u : WS} {e : Expr} {te : WE} {pos : Pos}
/-! ### blocks and small statements -/
def wNext (D : WEnds) (σ : Sl) (S : Sta) : Prop := goS D.nx σ S
def wSeq (t u : WS) (D : WEnds) (σ : Sl) (S : Sta) : Prop := t { D with nx := u D } σ S
theorem jss_nil : JSs B X [] wNext := pss_imp pss_nil fun D σ H ⟨st, S, D0, he, hr, hs, h, im⟩ => im.nx _ _ h H σ (Ext.refl H) hs hr
theorem jss_cons (h1 : JS B X st t) (h2 : JSs B X rest u) : JSs B X (st :: rest) (wSeq t u) := pss_imp (pss_cons h1 h2) fun D σ H ⟨st, S, D0, he, hr, hs, h, im⟩ => by
  refine ⟨st, S, _, he, hr, hs, h, fun st1 S1 h1 H1 σ1 e1 s1 r1 => ?_, im.rt, im.bk, im.ct⟩
  exact ⟨st1, S1, D0, he.trans e1, r1, s1, h1, im.ext e1⟩
theorem jss_one (h1 : JS B X st t) : JSs B X [st] t := pss_one h1
def wBreak (D : WEnds) (σ : Sl) (S : Sta) : Prop := goS D.bk σ S
def wCont (D : WEnds) (σ : Sl) (S : Sta) : Prop := goS D.ct σ S
theorem js_pass : JS B X (.Pass pos) wNext := ps_imp ps_pass fun D σ H ⟨st, S, D0, he, hr, hs, h, im⟩ => im.nx _ _ h H σ (Ext.refl H) hs hr
theorem js_break : JS B X (.Break pos) wBreak := ps_imp ps_break fun D σ H ⟨st, S, D0, he, hr, hs, h, im⟩ => im.bk _ _ h H σ (Ext.refl H) hs hr
theorem js_continue : JS B X (.Continue pos) wCont := ps_imp ps_continue fun D σ H ⟨st, S, D0, he, hr, hs, h, im⟩ => im.ct _ _ h H σ (Ext.refl H) hs hr
theorem js_doc {x j pos'} : JS B X (.Expr (.Constant (.str x) j pos) pos') wNext := ps_imp ps_doc fun D σ H ⟨st, S, D0, he, hr, hs, h, im⟩ => im.nx _ _ h H σ (Ext.refl H) hs hr
def wDrop (te : WE) (D : WEnds) (σ : Sl) (S : Sta) : Prop := te σ S fun _ S1 => goS D.nx σ S1
theorem js_expr (he : JE B X e te) (hs : swapsWith e none pos.line X.env = pure false := by rfl) : JS B X (.Expr e pos) (wDrop te) := ps_imp (ps_expr he hs) fun D σ H ⟨st, S, D0, he, hr, hs, h, im⟩ =>
  ⟨st, S, _, he, hr, hs, h, fun x S1 h1 H1 v e1 s1 r1 => im.nx _ _ h1 H1 σ e1 s1 (hr.mono e1)⟩
def wRet (te : WE) (D : WEnds) (σ : Sl) (S : Sta) : Prop := te σ S D.rt
theorem js_ret (he : JE B X e te) : JS B X (.Return (some e) pos) (wRet te) := ps_imp (ps_ret he) fun D σ H ⟨st, S, D0, he, hr, hs, h, im⟩ => ⟨st, S, _, he, hr, hs, h, im.rt⟩
def wRetN (D : WEnds) (u1 : Sl) (S : Sta) : Prop := D.rt .non S
theorem js_retN : JS B X (.Return none pos) wRetN := ps_imp ps_retN fun D σ H ⟨st, S, D0, he, hr, hs, h, im⟩ => im.rt _ _ h H _ (Ext.refl H) hs .non
def wIfS (c : WT) (t u : WS) (D : WEnds) (σ : Sl) (S : Sta) : Prop := c σ S fun b S1 => wif b (t D σ S1) (u D σ S1)
theorem js_if {c : Expr} {a b : List Stmt} {tc : WT} (hc : JT B X c tc) (ha : JSs B X a t) (hb : JSs B X b u) : JS B X (.If c a b pos) (wIfS tc t u) := ps_imp (ps_if hc ha hb) fun D σ H ⟨st, S, D0, he, hr, hs, h, im⟩ => by
  refine ⟨st, S, _, he, hr, hs, h, fun k S1 h1 H1 e1 s1 => ?_⟩
  cases k with
  | true =>
    rw [if_pos rfl]
    exact ⟨st, S1, D0, he.trans e1, hr.mono e1, s1, (wt h1), im.ext e1⟩
  | false =>
    rw [if_neg Bool.false_ne_true]
    exact ⟨st, S1, D0, he.trans e1, hr.mono e1, s1, (wff h1), im.ext e1⟩
def wNever (u0 : WEnds) (u1 : Sl) (u2 : Sta) : Prop := False
theorem js_never : JS B X st wNever := ps_imp ps_never fun D σ H ⟨st, S, D0, he, hr, hs, h, im⟩ => h
theorem jss_never {sts : List Stmt} : JSs B X sts wNever := pss_imp pss_never fun D σ H ⟨st, S, D0, he, hr, hs, h, im⟩ => h

/-! ### targets; vs: the slots that a target writes -/
abbrev WG := T → Sl → Sta → (Sl → Sta → Prop) → Prop
abbrev WGs := List T → Sl → Sta → (Sl → Sta → Prop) → Prop
def finG (K : PySem.W.Frag) (vs : List Nat) (H : Hp) (σ : L2.St) (Q : L2.St → Hp → Prop) : Sl → Sta → Prop := fun st S => ∀ H' σ', Ext H H' → St K S H' → SlR K H' st σ' → wipe σ' vs = wipe σ vs → Q σ' H'
def LG (X : Cx) (vs : List Nat) (g : WG) : TG := fun v σ H Q => ∃ t st S Q0, Rep X.K H t v ∧ SlR X.K H st σ ∧ St X.K S H ∧ g t st S Q0 ∧ Im2 Q0 (finG X.K vs H σ Q)
def LGs (X : Cx) (vs : List Nat) (g : WGs) : TGs := fun v σ H Q => ∃ t st S Q0, Reps X.K H t v ∧ SlR X.K H st σ ∧ St X.K S H ∧ g t st S Q0 ∧ Im2 Q0 (finG X.K vs H σ Q)
def JG (X : Cx) (tg : Expr) (vs : List Nat) (g : WG) : Prop := PG X tg (LG X vs g)
def JGs (X : Cx) (tg : List Expr) (vs : List Nat) (g : WGs) : Prop := PGs X tg (LGs X vs g)
theorem pg_imp {e : Expr} {t t' : TG} (h : PG X e t) (k : ∀ v σ H Q, t' v σ H Q → t v σ H Q) : PG X e t' := ⟨fun pins s σ H v u Q I r q => h.run pins s σ H v u Q I r (k v σ H Q q)⟩
theorem pgs_imp {e : List Expr} {t t' : TGs} (h : PGs X e t) (k : ∀ v σ H Q, t' v σ H Q → t v σ H Q) : PGs X e t' := ⟨fun pins s σ H v u Q I r q => h.run pins s σ H v u Q I r (k v σ H Q q)⟩
theorem wipe_set_mem {v : Option V} {i : Nat} : ∀ {vs : List Nat} {σ : L2.St}, i ∈ vs → wipe (σ.set i v) vs = wipe σ vs
  | [], _, h => by cases h
  | w :: vs, σ, h => by
    unfold wipe
    by_cases hw : i = w
    · subst hw
      by_cases hm : i ∈ vs
      · rw [wipe_set_mem hm]
      · have z : ∀ {us : List Nat} {τ : L2.St}, i ∉ us → wipe (τ.set i v) us = (wipe τ us).set i v := fun {us τ} hu => by
          induction us generalizing τ with
          | nil => rfl
          | cons u us ih =>
            unfold wipe
            rw [ih (fun q => hu (List.mem_cons_of_mem _ q)), List.set_comm _ _ (fun q => hu (by rw [q]; exact List.mem_cons_self))]
        rw [z hm, List.set_set]
    · rw [wipe_set_mem ((List.mem_cons.mp h).resolve_left hw)]
def gNm (i : Nat) (v : T) (σ : Sl) (S : Sta) (Q : Sl → Sta → Prop) : Prop := Q (σ.set i (some v)) S
theorem jg_name {x : Str} {i : Nat} {vs : List Nat} (hN : X.N.Nodup) (hi : X.N[i]? = some x) (hx : Loc X.env.scope x) (hv : i ∈ vs) (hf : X.fn x = true ∨ X.env.scope.names.lookup x = some .local := by first | exact .inl rfl | exact .inr rfl | assumption) : JG X (.Name x pos) vs (gNm i) :=
  pg_imp (pg_name hN hi hx hf) fun v σ H Q ⟨t, st, S, Q0, rv, hr, hs, h, im⟩ => im _ _ h H _ (Ext.refl H) hs (hr.set rv i) (wipe_set_mem hv)
def gN0 (vs : List T) (σ : Sl) (S : Sta) (Q : Sl → Sta → Prop) : Prop := vs = [] ∧ Q σ S
def gC (t : WG) (u : WGs) (vs : List T) (σ : Sl) (S : Sta) (Q : Sl → Sta → Prop) : Prop := match vs with
  | v :: r => t v σ S fun σ' S' => u r σ' S' Q
  | [] => False
theorem jgs_nil {vs : List Nat} : JGs X [] vs gN0 := pgs_imp pgs_nil fun v σ H Q ⟨t, st, S, Q0, rv, hr, hs, h, im⟩ => by
  obtain ⟨e, h⟩ := h
  subst e
  cases rv
  exact ⟨rfl, im _ _ h H _ (Ext.refl H) hs hr rfl⟩
theorem jgs_cons {es : List Expr} {vs : List Nat} {t : WG} {u : WGs} (h1 : JG X e vs t) (h2 : JGs X es vs u)
    (hs : (assignEach (e :: es) X.env).map (·.2) = assign e X.env :: (assignEach es X.env).map (·.2) := by rfl) : JGs X (e :: es) vs (gC t u) := pgs_imp (pgs_cons h1 h2 hs) fun v σ H Q ⟨ts, st, S, Q0, rv, hr, hs, h, im⟩ => by
  cases ts with
  | nil => exact h.elim
  | cons x ts =>
    cases rv with
    | cons r1 r2 =>
      refine ⟨_, _, rfl, x, st, S, _, r1, hr, hs, h, fun st1 S1 h1 H1 σ1 e1 s1 q1 w1 => ?_⟩
      refine ⟨ts, st1, S1, Q0, Reps.mono e1 _ _ r2, q1, s1, h1, fun st2 S2 h2 H2 σ2 e2 s2 q2 w2 => ?_⟩
      exact im _ _ h2 H2 σ2 (e1.trans e2) s2 q2 (w2.trans w1)
def gTp (n : Nat) (u : WGs) (v : T) (σ : Sl) (S : Sta) (Q : Sl → Sta → Prop) : Prop := match v with
  | .tup ts => ts.length = n ∧ u ts σ S Q
  | _ => False
theorem jg_tup {es : List Expr} {k : Nat} {n : Nat} {vs : List Nat} {u : WGs} (hc : X.calm = true) (h : JGs X es vs u)
    (hn : (assignEach es X.env).length = n := by rfl) (hst : (assignEach es X.env).findIdx? (·.1) = none := by rfl) : JG X (.Tuple es k pos) vs (gTp n u) := pg_imp (pg_tup hc h hn hst) fun v σ H Q ⟨t, st, S, Q0, rv, hr, hs, h, im⟩ => by
  cases t with
  | tup ts =>
    cases rv with
    | @tup a xs _ g10 g2 => exact (fun g1 => by exact ⟨a, xs, rfl, g1, by rw [← g2.length]; exact h.1, ts, st, S, Q0, g2, hr, hs, h.2, im⟩) (sqT_of g10)
  | _ => exact h.elim
/-- o[i] = v -/
def rSet : T → T → T → Sta → (Sta → Prop) → Prop := fun o i v S Q => match o, i with
  | .ref p, .int k => ∃ xs, S p = some (.lst xs) ∧ ∃ j, ixN xs.length k = some j ∧ Q (upS S p (.lst (xs.set j v)))
  | _, _ => False
def L3t (K : PySem.W.Frag) (r : T → T → T → Sta → (Sta → Prop) → Prop) : TSet := fun o i v H Q => ∃ a b c S Q0, Rep K H a o ∧ Rep K H b i ∧ Rep K H c v ∧ St K S H ∧ r a b c S Q0 ∧ ∀ S', Q0 S' → ∀ H', Ext H H' → St K S' H' → Q H'
theorem set_T : PSet X (L3t X.K rSet) := by
  intro pins s σ H o i v ov iv u Q I ro ri rv ⟨a, b, c, S, Q0, ra, rb, rc, hs, q, im⟩
  cases a with
  | ref p =>
    cases b with
    | int k =>
      obtain ⟨xs, e1, j, e2, q⟩ := q
      cases ra
      cases rb
      obtain ⟨ys, h1, h2⟩ := hs p _ e1
      obtain ⟨e3, s3⟩ := hs.setL h1 (h2.set rc j)
      exact set_list pins s σ H _ _ v ov iv u Q I ro ri rv ⟨p, ys, k, j, rfl, rfl, h1, by rw [← h2.length]; exact e2, im _ q _ e3 s3⟩
    | _ => exact q.elim
  | _ => exact q.elim
def gIx (to ti : WE) (v : T) (σ : Sl) (S : Sta) (Q : Sl → Sta → Prop) : Prop := to σ S fun o S1 => ti σ S1 fun i S2 => rSet o i v S2 fun S3 => Q σ S3
/-- only where the entry's Ext is at hand: a statement's target -/
def LG2 (B : Hp) (X : Cx) (g : WG) : TG := fun v σ H Q => ∃ t st S Q0, Ext B H ∧ Rep X.K H t v ∧ SlR X.K H st σ ∧ St X.K S H ∧ g t st S Q0 ∧ Im2 Q0 (finS X.K H Q)
def JG2 (B : Hp) (X : Cx) (tg : Expr) (g : WG) : Prop := PG X tg (LG2 B X g)
theorem JG.two {tg : Expr} {vs : List Nat} {g : WG} (h : JG X tg vs g) : JG2 B X tg g := pg_imp h fun v σ H Q ⟨t, st, S, Q0, he, rv, hr, hs, h, im⟩ => ⟨t, st, S, Q0, rv, hr, hs, h, fun st1 S1 h1 H1 σ1 e1 s1 r1 _ => im _ _ h1 H1 σ1 e1 s1 r1⟩
theorem jg_ix {o i : Expr} {to ti : WE} (ho : JE B X o to) (hi : JE B X i ti)
    (ha : ∀ v, assign (.Subscript o i pos) X.env v = (do
      let ov ← holding [v] (eval o X.env)
      let iv ← holding [v, ov] (eval i X.env)
      standAt pos
      holding [v, ov, iv] (setItem ov iv v)
      release [v, ov, iv] []) := by intro _; rfl) : JG2 B X (.Subscript o i pos) (gIx to ti) := pg_imp (pg_sub ho hi set_T ha) fun v σ H Q ⟨t, st, S, Q0, he, rv, hr, hs, h, im⟩ => by
  refine ⟨st, S, _, he, hr, hs, h, fun x S1 h1 H1 v1 e1 s1 r1 => ?_⟩
  refine ⟨st, S1, _, he.trans e1, hr.mono e1, s1, h1, fun y S2 h2 H2 v2 e2 s2 r2 => ?_⟩
  exact ⟨x, y, t, S2, _, Rep.mono e2 _ _ r1, r2, Rep.mono (e1.trans e2) _ _ rv, s2, h2, fun S3 q H3 e3 s3 => im _ _ q H3 σ (e1.trans (e2.trans e3)) s3 (hr.mono (e1.trans (e2.trans e3)))⟩
def wAsg (te : WE) (g : WG) (D : WEnds) (σ : Sl) (S : Sta) : Prop := te σ S fun x S1 => g x σ S1 (goS D.nx)
theorem js_asg {tg : Expr} {g : WG} (he : JE B X e te) (hg : JG2 B X tg g) (hs : swapsWithSole [tg] e pos.line X.env = pure false := by rfl) (hw : swappedStores [tg] e X.env = pure none := by rfl)
    (h1 : (assignEach [tg] X.env).map (·.2) = [assign tg X.env] := by rfl) : JS B X (.Assign [tg] e pos) (wAsg te g) := ps_imp (ps_asg he hg hs hw h1) fun D σ H ⟨st, S, D0, he, hr, hs, h, im⟩ => by
  refine ⟨st, S, _, he, hr, hs, h, fun x S1 h1 H1 v1 e1 s1 r1 => ?_⟩
  exact ⟨x, st, S1, D0.nx, he.trans e1, r1, hr.mono e1, s1, h1, fun a S2 q => finS_ext e1 (im.nx a S2 q)⟩
def wSet (i : Nat) (te : WE) (D : WEnds) (σ : Sl) (S : Sta) : Prop := te σ S fun x S1 => goS D.nx (σ.set i (some x)) S1
theorem js_set {i : Nat} {x : Str} {pos' : Pos} (hN : X.N.Nodup) (hi : X.N[i]? = some x) (hx : Loc X.env.scope x) (he : JE B X e te) (hs : swapsWith e (some (.Name x pos')) pos.line X.env = pure false := by rfl) (hf : X.fn x = true ∨ X.env.scope.names.lookup x = some .local := by first | exact .inl rfl | exact .inr rfl | assumption) :
    JS B X (.Assign [.Name x pos'] e pos) (wSet i te) := ps_imp (ps_set hN hi hx he hs hf) fun D σ H ⟨st, S, D0, he, hr, hs, h, im⟩ => by
  refine ⟨st, S, _, he, hr, hs, h, fun x S1 h1 H1 v1 e1 s1 r1 => ?_⟩
  exact im.nx _ _ h1 H1 _ e1 s1 ((hr.mono e1).set r1 i)
/-- x op= e, a name -/
def wAug (i : Nat) (r : R3) (te : WE) (D : WEnds) (σ : Sl) (S : Sta) : Prop := ∃ x, σ[i]? = some (some x) ∧ te σ S fun y S1 => r x y S1 fun z S2 => goS D.nx (σ.set i (some z)) S2
theorem js_aug {i : Nat} {x : Str} {op : Operator} {r : R3} {pos' : Pos} (hN : X.N.Nodup) (hi : X.N[i]? = some x) (hx : Loc X.env.scope x) (he : JE B X e te) (ho : OpT X (inplaceOp op) r) (hf : X.fn x = true ∨ X.env.scope.names.lookup x = some .local := by first | exact .inl rfl | exact .inr rfl | assumption) :
    JS B X (.AugAssign (.Name x pos') op e pos) (wAug i r te) := ps_imp (ps_aug (ti := L3 X.K r) hN hi hx he (fun pins s σ H x y v u Q I rx ry q => ho pins s σ H x y v u Q I rx ry q) hf) fun D σ H ⟨st, S, D0, he, hr, hs, h, im⟩ => by
  obtain ⟨y, e1, h⟩ := h
  obtain ⟨v, g1, g2⟩ := hr.2 i y e1
  refine ⟨v, g1, st, S, _, he, hr, hs, h, fun x S1 h1 H1 v1 e1 s1 r1 => ?_⟩
  exact ⟨y, x, S1, _, Rep.mono e1 _ _ g2, r1, s1, h1, fun z S2 q H2 w e2 s2 r2 => im.nx _ _ q H2 _ (e1.trans e2) s2 ((hr.mono (e1.trans e2)).set r2 i)⟩

/-! ### while -/
def wWhile (c : WT) (tb : WS) (D : WEnds) (σ : Sl) (S : Sta) : Prop := ∃ W : Nat → Sl → Sta → Prop, (∃ m, W m σ S) ∧ ∀ m σ S, W m σ S →
  c σ S fun b S1 => wif b (tb { D with nx := fun σ' S' => ∃ m', m' < m ∧ W m' σ' S', ct := fun σ' S' => ∃ m', m' < m ∧ W m' σ' S', bk := D.nx } σ S1) (D.nx σ S1)
theorem js_while {c : Expr} {body : List Stmt} {tc : WT} {tb : WS} (hp : PassesOwn (model X.prog X.w) X.A X.env X.xe) (hc : JT B X c tc) (hb : JSs B X body tb) : JS B X (.While c body [] pos) (wWhile tc tb) :=
  ps_imp (ps_while hp hc hb) fun D σ H ⟨st, S, D0, he, hr, hs, h, im⟩ => by
    obtain ⟨W, ⟨m, w0⟩, turn⟩ := h
    refine ⟨fun m σ' H' => ∃ st' S', Ext H H' ∧ SlR X.K H' st' σ' ∧ St X.K S' H' ∧ W m st' S', ⟨m, st, S, Ext.refl H, hr, hs, w0⟩, fun m σ1 H1 ⟨st1, S1, e1, r1, s1, w1⟩ => ?_⟩
    refine ⟨st1, S1, _, he.trans e1, r1, s1, turn m st1 S1 w1, fun k S2 h2 H2 e2 s2 => ?_⟩
    cases k with
    | true =>
      rw [if_pos rfl]
      have nx : ∀ st3 S3, (∃ m', m' < m ∧ W m' st3 S3) → finS X.K H2 (fun σ' H' => ∃ m', m' < m ∧ ∃ st' S', Ext H H' ∧ SlR X.K H' st' σ' ∧ St X.K S' H' ∧ W m' st' S') st3 S3 := fun st3 S3 ⟨m', hm, w3⟩ H3 σ3 e3 s3 r3 =>
        ⟨m', hm, st3, S3, e1.trans (e2.trans e3), r3, s3, w3⟩
      refine ⟨_, fun σ' H' q => q, st1, S2, _, he.trans (e1.trans e2), r1.mono e2, s2, (wt h2), ⟨nx, fun v S3 q => fin_ext (e1.trans e2) (im.rt v S3 q), fun a S3 q => finS_ext (e1.trans e2) (im.nx a S3 q), nx⟩⟩
    | false =>
      rw [if_neg Bool.false_ne_true]
      exact im.nx _ _ (wff h2) H2 _ (e1.trans e2) s2 (r1.mono e2)

/-! ### what a loop walks: its items, and what must stay true of the state -/
abbrev WI := Sl → Sta → (List T → (Sta → Prop) → Sta → Prop) → Prop
/-- the iterator yields just these -/
def Yields (K : PySem.W.Frag) (xs : List T) (stb : Sta → Prop) (H1 : Hp) (J : It) : Prop :=
  ∀ i S H, Ext H1 H → St K S H → stb S → (i < xs.length → J.go i H) ∧ (xs.length ≤ i → J.stop i H) ∧ ∀ x H', J.yld i H x H' → i < xs.length → Ext H H' ∧ St K S H' ∧ (∀ st σ, SlR K H st σ → SlR K H' st σ) ∧ ∃ t, xs[i]? = some t ∧ Rep K H' t x
def LI (B : Hp) (X : Cx) (w : WI) : TI := fun σ H R => ∃ st S Q0, Ext B H ∧ SlR X.K H st σ ∧ St X.K S H ∧ w st S Q0 ∧ ∀ xs stb S1, Q0 xs stb S1 → ∀ H1, Ext H H1 → St X.K S1 H1 → ∀ J, Yields X.K xs stb H1 J → R J H1
def JI (B : Hp) (X : Cx) (tg iter : Expr) (w : WI) : Prop := PI X tg iter (LI B X w)
theorem pi_imp {tg e : Expr} {t t' : TI} (h : PI X tg e t) (k : ∀ σ H Q, t' σ H Q → t σ H Q) : PI X tg e t' := ⟨fun pins s σ H R I q => h.run pins s σ H R I (k σ H R q)⟩
def iTupW (te : WE) (σ : Sl) (S : Sta) (R : List T → (Sta → Prop) → Sta → Prop) : Prop := te σ S fun x S1 => match x with
  | .tup ts => R ts (fun _ => True) S1
  | _ => False
theorem ji_tup {tg : Expr} (he : JE B X e te) : JI B X tg e (iTupW te) := pi_imp (pi_tup he) fun σ H R ⟨st, S, Q0, he, hr, hs, h, im⟩ => by
  refine ⟨st, S, _, he, hr, hs, h, fun x S1 h1 H1 v1 e1 s1 r1 => ?_⟩
  cases x with
  | tup ts =>
    cases r1 with
    | @tup a xs _ g10 g2 =>
      have g1 := sqT_of (K := X.K) g10
      refine ⟨a, rfl, ⟨xs, g1⟩, im _ _ _ h1 H1 e1 s1 _ fun i S2 H2 e2 s2 _ => ⟨fun hi => ?_, fun hi => ⟨xs, e2.sqT g1, by rw [← g2.length]; exact hi⟩, fun x H' y hi => ?_⟩⟩
      · obtain ⟨v, g3, _⟩ := g2.get (List.getElem?_eq_getElem hi)
        exact ⟨xs, v, e2.sqT g1, g3⟩
      · obtain ⟨eH, y⟩ := y
        subst eH
        obtain ⟨v, g3, g4⟩ := g2.get (List.getElem?_eq_getElem hi)
        have ev : x = v := Option.some.inj ((y xs (e2.sqT g1)).symm.trans g3)
        subst ev
        exact ⟨Ext.refl _, s2, fun _ _ q => q, _, List.getElem?_eq_getElem hi, Rep.mono e2 _ _ g4⟩
  | _ => exact h1.elim
/-- a list: it must stand as it is through the loop -/
def iLstW (te : WE) (σ : Sl) (S : Sta) (R : List T → (Sta → Prop) → Sta → Prop) : Prop := te σ S fun x S1 => match x with
  | .fl ts => R ts (fun _ => True) S1
  | .ref p => ∃ ts, S1 p = some (.lst ts) ∧ R ts (fun S' => S' p = some (.lst ts)) S1
  | _ => False
theorem ji_lst {tg : Expr} (he : JE B X e te) : JI B X tg e (iLstW te) := pi_imp (pi_list he) fun σ H R ⟨st, S, Q0, he, hr, hs, h, im⟩ => by
  refine ⟨st, S, _, he, hr, hs, h, fun x S1 h1 H1 v1 e1 s1 r1 => ?_⟩
  cases x with
  | fl ts =>
    cases r1 with
    | @fl a xs _ g1 g2 =>
      refine ⟨a, rfl, ⟨xs, g1.sq⟩, im _ _ _ h1 H1 e1 s1 _ fun i S2 H2 e2 s2 _ => ⟨fun hi => ?_, fun hi => ⟨xs, (e2.fzL g1).sq, by rw [← g2.length]; exact hi⟩, fun x H' y hi => ?_⟩⟩
      · obtain ⟨v, g3, _⟩ := g2.get (List.getElem?_eq_getElem hi)
        exact ⟨xs, v, (e2.fzL g1).sq, g3⟩
      · obtain ⟨eH, y⟩ := y
        subst eH
        obtain ⟨v, g3, g4⟩ := g2.get (List.getElem?_eq_getElem hi)
        have ev : x = v := Option.some.inj ((y xs ((e2.fzL g1).sq)).symm.trans g3)
        subst ev
        exact ⟨Ext.refl _, s2, fun _ _ q => q, _, List.getElem?_eq_getElem hi, Rep.mono e2 _ _ g4⟩
  | ref p =>
    obtain ⟨ts, eS, h1⟩ := h1
    cases r1
    obtain ⟨xs0, g10, g20⟩ := s1 p _ eS
    refine ⟨p, rfl, ⟨xs0, .inl (.inl g10)⟩, im _ _ _ h1 H1 e1 s1 _ fun i S2 H2 e2 s2 stb => ?_⟩
    obtain ⟨xs, g1, g2⟩ := s2 p _ stb
    refine ⟨fun hi => ?_, fun hi => ⟨xs, .inl (.inl g1), by rw [← g2.length]; exact hi⟩, fun x H' y hi => ?_⟩
    · obtain ⟨v, g3, _⟩ := g2.get (List.getElem?_eq_getElem hi)
      exact ⟨xs, v, .inl (.inl g1), g3⟩
    · obtain ⟨eH, y⟩ := y
      subst eH
      obtain ⟨v, g3, g4⟩ := g2.get (List.getElem?_eq_getElem hi)
      have ev : x = v := Option.some.inj ((y xs (.inl (.inl g1))).symm.trans g3)
      subst ev
      exact ⟨Ext.refl _, s2, fun _ _ q => q, _, List.getElem?_eq_getElem hi, g4⟩
  | _ => exact h1.elim
/-- range -/
def rangeT (lo : Int) (n : Nat) : List T := (List.range n).map fun (i : Nat) => T.int (lo + (i : Int))
theorem range_yields {K : PySem.W.Frag} {H : Hp} (lo : Int) (n : Nat) : Yields K (rangeT lo n) (fun _ => True) H (Itr lo n) := fun i S H1 e1 s1 _ => by
  have hl : (rangeT lo n).length = n := by unfold rangeT; rw [List.length_map, List.length_range]
  refine ⟨fun hi => by rw [hl] at hi; exact hi, fun hi => by rw [hl] at hi; exact hi, fun x H' y hi => ?_⟩
  obtain ⟨eH, ex⟩ := y
  subst eH ex
  rw [hl] at hi
  refine ⟨Ext.refl _, s1, fun _ _ q => q, .int (lo + (i : Int)), ?_, .int _⟩
  unfold rangeT
  rw [List.getElem?_map, List.getElem?_range hi]
  rfl
def iRg1 (ta : WA) (σ : Sl) (S : Sta) (R : List T → (Sta → Prop) → Sta → Prop) : Prop := ta σ S fun xs S1 => match xs with
  | [.int j] => -(2 ^ 62) ≤ j ∧ j < 2 ^ 62 ∧ R (rangeT 0 j.toNat) (fun _ => True) S1
  | _ => False
def iRg2 (ta : WA) (σ : Sl) (S : Sta) (R : List T → (Sta → Prop) → Sta → Prop) : Prop := ta σ S fun xs S1 => match xs with
  | [.int i, .int j] => (-(2 ^ 62) ≤ i ∧ i < 2 ^ 62 ∧ -(2 ^ 62) ≤ j ∧ j < 2 ^ 62) ∧ R (rangeT i (j - i).toNat) (fun _ => True) S1
  | _ => False
theorem ji_rg1 {tg a : Expr} {ta : WA} {p : Pos} (hg : Gl X "range") (hm : X.mg "range" = none) (ha : JA B X [a] ta) (hs : starEach [a] X.env = [(false, eval a X.env)] := by rfl) : JI B X tg (.Call (.Name "range" p) [a] [] pos) (iRg1 ta) :=
  pi_imp (pi_range1 hg hm ha hs) fun σ H R ⟨st, S, Q0, he, hr, hs, h, im⟩ => by
    refine ⟨st, S, _, he, hr, hs, h, fun xs S1 h1 H1 v1 e1 s1 r1 => ?_⟩
    match xs, h1 with
    | [.int j], h1 =>
      obtain ⟨v, rfl, r2⟩ := r1.one
      cases r2
      exact ⟨j, rfl, h1.1, h1.2.1, im _ _ _ h1.2.2 H1 e1 s1 _ (range_yields 0 j.toNat)⟩
theorem ji_rg2 {tg a b : Expr} {ta : WA} {p : Pos} (hg : Gl X "range") (hm : X.mg "range" = none) (ha : JA B X [a, b] ta) (hs : starEach [a, b] X.env = [(false, eval a X.env), (false, eval b X.env)] := by rfl) (hs2 : starEach [b] X.env = [(false, eval b X.env)] := by rfl) : JI B X tg (.Call (.Name "range" p) [a, b] [] pos) (iRg2 ta) :=
  pi_imp (pi_range2 hg hm ha hs hs2) fun σ H R ⟨st, S, Q0, he, hr, hs, h, im⟩ => by
    refine ⟨st, S, _, he, hr, hs, h, fun xs S1 h1 H1 v1 e1 s1 r1 => ?_⟩
    match xs, h1 with
    | [.int i, .int j], h1 =>
      obtain ⟨v, w, rfl, r2, r3⟩ := r1.two
      cases r2
      cases r3
      exact ⟨i, j, rfl, h1.1, im _ _ _ h1.2 H1 e1 s1 _ (range_yields i (j - i).toNat)⟩
/-- .. -/
def loopW (g : WG) (tb : WS) (stb : Sta → Prop) (D : WEnds) : List T → Sl → Sta → Prop
  | [], σ, S => stb S ∧ D.nx σ S
  | x :: xs, σ, S => stb S ∧ g x σ S fun σ2 S2 => tb { D with nx := loopW g tb stb D xs, ct := loopW g tb stb D xs, bk := D.nx } σ2 S2
def wFor (wi : WI) (g : WG) (tb : WS) (D : WEnds) (σ : Sl) (S : Sta) : Prop := wi σ S fun xs stb S1 => loopW g tb stb D xs σ S1
theorem loopW_stb {g : WG} {tb : WS} {stb : Sta → Prop} {D : WEnds} {xs : List T} {σ : Sl} {S : Sta} (h : loopW g tb stb D xs σ S) : stb S := by
  cases xs <;> exact h.1
theorem js_for {tg iter : Expr} {body : List Stmt} {wi : WI} {g : WG} {vs : List Nat} {tb : WS} (hp : PassesOwn (model X.prog X.w) X.A X.env X.xe) (hc : X.calm = true) (hi : JI B X tg iter wi) (hg : JG X tg vs g) (hb : JSs B X body tb)
    (hs : ∀ x, foldedSetIterable iter X.env x = pure x := by intro _; rfl) : JS B X (.For tg iter body [] pos) (wFor wi g tb) := ps_imp (ps_for hp hc hi hg hb hs) fun D σ H ⟨st, S, D0, he, hr, hs, h, im⟩ => by
  refine ⟨st, S, _, he, hr, hs, h, fun xs stb S1 h1 H1 e1 s1 J yl => ?_⟩
  refine ⟨fun i m σ' H' => m = xs.length - i ∧ i ≤ xs.length ∧ ∃ st' S', Ext H1 H' ∧ SlR X.K H' st' σ' ∧ St X.K S' H' ∧ loopW g tb stb D0 (xs.drop i) st' S', ⟨xs.length, by omega, Nat.zero_le _, st, S1, Ext.refl _, hr.mono e1, s1, h1⟩, fun i m σ2 H2 hW => ?_⟩
  obtain ⟨hm, hi, st2, S2, e2, r2, s2, h2⟩ := hW
  obtain ⟨y1, y2, y3⟩ := yl i S2 H2 e2 s2 (loopW_stb h2)
  by_cases hlt : i < xs.length
  · refine .inr ⟨y1 hlt, fun σ' H' => ∃ st' S', Ext H1 H' ∧ SlR X.K H' st' σ' ∧ St X.K S' H' ∧ loopW g tb stb D0 (xs.drop (i + 1)) st' S', fun σ' H' q => ⟨m - 1, by omega, by omega, by omega, q⟩, fun x H3 hy => ?_⟩
    obtain ⟨e3, s3, sl3, t, et, rt⟩ := y3 x H3 hy hlt
    have r3 := sl3 _ _ r2
    rw [List.drop_eq_getElem_cons hlt] at h2
    have et' : xs[i] = t := by rw [List.getElem?_eq_getElem hlt] at et; exact Option.some.inj et
    rw [et'] at h2
    refine ⟨t, st2, S2, _, rt, r3, s3, h2.2, fun st4 S4 h4 H4 σ4 e4 s4 r4 _ => ?_⟩
    have eb : Ext H1 H4 := e2.trans (e3.trans e4)
    have nx : ∀ st5 S5, loopW g tb stb D0 (xs.drop (i + 1)) st5 S5 → finS X.K H4 (fun σ' H' => ∃ st' S', Ext H1 H' ∧ SlR X.K H' st' σ' ∧ St X.K S' H' ∧ loopW g tb stb D0 (xs.drop (i + 1)) st' S') st5 S5 := fun st5 S5 h5 H5 σ5 e5 s5 r5 => ⟨st5, S5, eb.trans e5, r5, s5, h5⟩
    exact ⟨st4, S4, _, he.trans (e1.trans eb), r4, s4, h4, ⟨nx, fun v S5 q => fin_ext (e1.trans eb) (im.rt v S5 q), fun a S5 q => finS_ext (e1.trans eb) (im.nx a S5 q), nx⟩⟩
  · have ei : i = xs.length := by omega
    subst ei
    rw [List.drop_length] at h2
    exact .inl ⟨y2 (Nat.le_refl _), im.nx _ _ h2.2 H2 σ2 (e1.trans e2) s2 r2⟩
end
end Wp

set_option Elab.async false
set_option linter.all false
set_option maxRecDepth 100000
/-! comprehensions, calls, defs, a law's end -/
namespace Wp
open PySem PySem.Spec PyProof.Rows L2
def wipeT (σ : Sl) : List Nat → Sl
  | [] => σ
  | v :: vs => (wipeT σ vs).set v none
theorem SlR.wipe {K : PySem.W.Frag} {H : Hp} {st : Sl} {σ : L2.St} (h : SlR K H st σ) : ∀ vs : List Nat, SlR K H (wipeT st vs) (L2.wipe σ vs)
  | [] => h
  | v :: vs => by
    have ih := SlR.wipe h vs
    unfold wipeT L2.wipe
    refine ⟨by rw [List.length_set, List.length_set]; exact ih.1, fun j u q => ?_⟩
    by_cases hj : v = j
    · subst hj
      by_cases hl : v < (wipeT st vs).length
      · rw [List.getElem?_set_self hl] at q
        cases q
      · rw [List.getElem?_eq_none (by rw [List.length_set]; omega)] at q
        cases q
    · rw [List.getElem?_set_ne hj] at q
      obtain ⟨w, e1, e2⟩ := ih.2 j u q
      exact ⟨w, by rw [List.getElem?_set_ne hj]; exact e1, e2⟩
section
variable {B : Hp} {X : Cx} {pos : Pos}
def wYes (u0 : Sl) (S : Sta) (Q : Bool → Sta → Prop) : Prop := Q true S
def JTs (B : Hp) (X : Cx) (ifs : List Expr) (t : WT) : Prop := PTs X ifs (LT B X t)
theorem pts_imp {ifs : List Expr} {t t' : TT} (h : PTs X ifs t) (k : ∀ σ H Q, t' σ H Q → t σ H Q) : PTs X ifs t' := ⟨fun pins s σ H Q I q => h.run pins s σ H Q I (k σ H Q q)⟩
theorem jts_nil : JTs B X [] wYes := pts_imp pts_nil fun σ H Q ⟨st, S, Q0, he, hr, hs, h, im⟩ => im _ _ h H (Ext.refl H) hs
theorem jts_one {c : Expr} {t : WT} (h : JT B X c t) : JTs B X [c] t := pts_one h
def compW (g : WG) (tt : WT) (te : WE) (stb : Sta → Prop) (σ : Sl) (D : Addr) (Q : T → Sta → Prop) : List T → Sta → Prop
  | [], S => stb S ∧ Q (.ref D) S
  | x :: xs, S => stb S ∧ g x σ S fun σ2 S2 => tt σ2 S2 fun b S3 => wif b (te σ2 S3 fun y S4 => ∃ acc, S4 D = some (.lst acc) ∧ acc.length < sizeLine ∧ compW g tt te stb σ D Q xs (upS S4 D (.lst (acc ++ [y])))) (compW g tt te stb σ D Q xs S3)
def wLc (wi : WI) (g : WG) (tt : WT) (te : WE) (vs : List Nat) (σ : Sl) (S : Sta) (Q : T → Sta → Prop) : Prop := wi σ S fun xs stb S1 => ∀ D, S1 D = none → compW g tt te stb (wipeT σ vs) D Q xs (upS S1 D (.lst []))
theorem compW_stb {g : WG} {tt : WT} {te : WE} {stb : Sta → Prop} {σ : Sl} {D : Addr} {Q : T → Sta → Prop} {xs : List T} {S : Sta} (h : compW g tt te stb σ D Q xs S) : stb S := by
  cases xs <;> exact h.1
theorem le_lc {wi : WI} {g : WG} {tt : WT} {te : WE} {vs : List Nat} {σ : L2.St} {H : Hp} {Q : VK} (h : LE B X (wLc wi g tt te vs) σ H Q) : tLc (LI B X wi) (LG X vs g) (LT B X tt) (LE B X te) vs σ H Q := by
  obtain ⟨st, S, Q0, he, hr, hs, h, im⟩ := h
  refine ⟨st, S, _, he, hr, hs, h, fun xs stb S1 h1 H1 e1 s1 J yl => ?_⟩
  intro D hD
  obtain ⟨eD, sD⟩ := s1.newL (ts := []) hD .nil
  refine ⟨fun i m H' => m = xs.length - i ∧ i ≤ xs.length ∧ ∃ S', Ext H1 H' ∧ St X.K S' H' ∧ compW g tt te stb (wipeT st vs) D Q0 (xs.drop i) S', ⟨xs.length, by omega, Nat.zero_le _, _, eD, sD, h1 D (s1.free hD)⟩, fun i m H2 hW => ?_⟩
  obtain ⟨hm, hi, S2, e2, s2, h2⟩ := hW
  obtain ⟨y1, y2, y3⟩ := yl i S2 H2 e2 s2 (compW_stb h2)
  by_cases hlt : i < xs.length
  · refine .inr ⟨y1 hlt, fun H' => ∃ S', Ext H1 H' ∧ St X.K S' H' ∧ compW g tt te stb (wipeT st vs) D Q0 (xs.drop (i + 1)) S', fun H' q => ⟨m - 1, by omega, by omega, by omega, q⟩, fun x H3 hy => ?_⟩
    obtain ⟨e3, s3, sl3, t, et, rt⟩ := y3 x H3 hy hlt
    have r2 : SlR X.K H2 (wipeT st vs) (L2.wipe σ vs) := ((hr.mono e1).mono e2).wipe vs
    have r3 := sl3 _ _ r2
    rw [List.drop_eq_getElem_cons hlt] at h2
    have et' : xs[i] = t := by rw [List.getElem?_eq_getElem hlt] at et; exact Option.some.inj et
    rw [et'] at h2
    refine ⟨t, wipeT st vs, S2, _, rt, r3, s3, h2.2, fun st4 S4 h4 H4 σ4 e4 s4 r4 w4 => ?_⟩
    have ww : L2.wipe (L2.wipe σ vs) vs = L2.wipe σ vs := by
      have key : ∀ (us ws : List Nat) (τ : L2.St), (∀ i ∈ us, i ∈ ws) → L2.wipe (L2.wipe τ ws) us = L2.wipe τ ws := fun us => by
        induction us with
        | nil => intro ws τ _; rfl
        | cons u us ih =>
          intro ws τ hu
          show (L2.wipe (L2.wipe τ ws) us).set u none = L2.wipe τ ws
          rw [ih ws τ fun i hi => hu i (List.mem_cons_of_mem _ hi)]
          have hmem := hu u List.mem_cons_self
          have set_none : ∀ (ws : List Nat), u ∈ ws → (L2.wipe τ ws).set u none = L2.wipe τ ws := fun ws => by
            induction ws with
            | nil => intro h; cases h
            | cons w ws ih2 =>
              intro h
              show ((L2.wipe τ ws).set w none).set u none = (L2.wipe τ ws).set w none
              by_cases hw : u = w
              · subst hw; rw [List.set_set]
              · rw [List.set_comm _ _ (fun z => hw z.symm), ih2 ((List.mem_cons.mp h).resolve_left hw)]
          exact set_none ws hmem
      exact key vs vs σ fun i hi => hi
    refine ⟨w4.trans ww, ?_⟩
    have eb : Ext H1 H4 := e2.trans (e3.trans e4)
    refine ⟨st4, S4, _, he.trans (e1.trans eb), r4, s4, h4, fun b S5 h5 H5 e5 s5 => ?_⟩
    cases b with
    | true =>
      rw [if_pos rfl]
      refine ⟨st4, S5, _, he.trans (e1.trans (eb.trans e5)), r4.mono e5, s5, (wt h5), fun y S6 h6 H6 v6 e6 s6 r6 => ?_⟩
      obtain ⟨acc, ea, hl, h6⟩ := h6
      obtain ⟨ys, g1, g2⟩ := s6 D _ ea
      obtain ⟨e7, s7⟩ := s6.setL g1 (Reps.append g2 (.cons r6 .nil))
      exact ⟨ys, g1, by rw [← g2.length]; exact hl, _, (eb.trans e5).trans (e6.trans e7), s7, h6⟩
    | false =>
      rw [if_neg Bool.false_ne_true]
      exact ⟨S5, eb.trans e5, s5, (wff h5)⟩
  · have ei : i = xs.length := by omega
    subst ei
    rw [List.drop_length] at h2
    exact .inl ⟨y2 (Nat.le_refl _), im _ _ h2.2 H2 _ (e1.trans e2) s2 (.ref D)⟩
theorem j_lc {elt tg iter : Expr} {ifs : List Expr} {scope : Scope} {own : List (Str × Nat)} {wi : WI} {g : WG} {tt : WT} {te : WE} (hc : X.calm = true) (hN : X.N.Nodup) (hi : JI B X tg iter wi) (ok : BlkOk X.N X.env.scope scope own)
    (hg : ∀ (s : Shared) (H : Hp) (C : Addr) (cl : List (Str × Addr)) (fp : List Addr), JG (X.blk s H scope (compEnvC scope cl C X.env) fp) tg (own.map (·.2)) g) (ht : ∀ (s : Shared) (H : Hp) (C : Addr) (cl : List (Str × Addr)) (fp : List Addr), JTs B (X.blk s H scope (compEnvC scope cl C X.env) fp) ifs tt)
    (he : ∀ (s : Shared) (H : Hp) (C : Addr) (cl : List (Str × Addr)) (fp : List Addr), JE B (X.blk s H scope (compEnvC scope cl C X.env) fp) elt te) (hs : ∀ x, foldedSetIterable iter X.env x = pure x := by intro _; rfl) :
    JE B X (.ListComp elt [⟨tg, iter, ifs, 0⟩] scope pos) (wLc wi g tt te (own.map (·.2))) := pe_imp (pe_lc (g := LG X (own.map fun (p : Str × Nat) => p.2) g) (tt := LT B X tt) (te := LE B X te) hc hN hi ok (fun s H C cl fp => hg s H C cl fp) (fun s H C cl fp => ht s H C cl fp) (fun s H C cl fp => he s H C cl fp) hs) fun σ H Q h => le_lc h
/-- name = [..] on one line -/
theorem js_setLc {i : Nat} {y : Str} {py : Pos} {elt tg iter : Expr} {ifs : List Expr} {scope : Scope} {own : List (Str × Nat)} {spos : Pos} {wi : WI} {g : WG} {tt : WT} {te : WE} (hc : X.calm = true) (hN : X.N.Nodup) (hy : X.N[i]? = some y) (hyl : X.env.scope.names.lookup y = some .local)
    (hsw : swapsWith (.ListComp elt [⟨tg, iter, ifs, 0⟩] scope pos) (some (.Name y py)) spos.line X.env = pure true) (hi : JI B X tg iter wi) (ok : BlkOk X.N X.env.scope scope own)
    (hg : ∀ (s : Shared) (H : Hp) (C : Addr) (cl : List (Str × Addr)) (fp : List Addr), JG (X.blk s H scope (compEnvC scope cl C X.env) fp) tg (own.map (·.2)) g) (ht : ∀ (s : Shared) (H : Hp) (C : Addr) (cl : List (Str × Addr)) (fp : List Addr), JTs B (X.blk s H scope (compEnvC scope cl C X.env) fp) ifs tt)
    (he : ∀ (s : Shared) (H : Hp) (C : Addr) (cl : List (Str × Addr)) (fp : List Addr), JE B (X.blk s H scope (compEnvC scope cl C X.env) fp) elt te) (hs : ∀ x, foldedSetIterable iter X.env x = pure x := by intro _; rfl) :
    JS B X (.Assign [.Name y py] (.ListComp elt [⟨tg, iter, ifs, 0⟩] scope pos) spos) (wSet i (wLc wi g tt te (own.map (·.2)))) := ps_imp (ps_setLc (g := LG X (own.map fun (p : Str × Nat) => p.2) g) (tt := LT B X tt) (te := LE B X te) hc hN hy hyl hsw hi ok (fun s H C cl fp => hg s H C cl fp) (fun s H C cl fp => ht s H C cl fp) (fun s H C cl fp => he s H C cl fp) hs) fun D σ H ⟨st, S, D0, he, hr, hs, h, im⟩ => by
  refine le_lc (Q := fun x H1 => gName i x σ H1 D.nx) ⟨st, S, _, he, hr, hs, h, fun x S1 h1 H1 v e1 s1 r1 => ?_⟩
  exact im.nx _ _ h1 H1 _ e1 s1 ((hr.mono e1).set r1 i)

/-! ### calls of the program's own defs -/
/-- arguments, state, the end, the end by an error (its class) -/
abbrev WSp := List T → Sta → (T → Sta → Prop) → (Addr → Sta → Prop) → Prop
def Lsp (tl : List Addr) (K : PySem.W.Frag) (n : Nat) (w : WSp) : Sp := fun vs H Q E => (∀ P ∈ tl, GxR.TabG H P) ∧ ∃ ts S Q0 E0, ts.length = n ∧ Reps K H ts vs ∧ St K S H ∧ w ts S Q0 E0 ∧ Im2 Q0 (fin K H Q) ∧ ∀ C S' H', E0 C S' → Ext H H' → St K S' H' → E (.ref C) none H'
theorem lsp_len {tl : List Addr} {K : PySem.W.Frag} {n : Nat} {w : WSp} {vs : List V} {H : Hp} {Q : VK} {E : XK} (h : Lsp tl K n w vs H Q E) : vs.length = n := by
  obtain ⟨_, ts, S, Q0, E0, h1, h2, _⟩ := h
  rw [← h2.length, h1]
def wCall (n : Nat) (w : WSp) (t : WA) (σ : Sl) (S : Sta) (Q : T → Sta → Prop) : Prop := t σ S fun ts S1 => ts.length = n ∧ w ts S1 Q fun _ _ => False
variable {k : Nat} {f C : Addr} {fd : FuncData} {ps : List Str} {x m : Str} {p apos : Pos} {e o : Expr} {es : List Expr} {ta : WE} {t : WA} {n : Nat} {w : WSp} {tl : List Addr}
theorem j_call (F : FnOk X.prog X.w X.K X.mg X.base CX0 k f fd ps (Lsp tl X.K n w)) (ht : ∀ P ∈ tl, GxR.TabG B P) (hr : Room k X.A) (hg : Gl X x) (hm : X.mg x = some (.ref f)) (hk : PySem.W.keepIn X.K (.ref f) = true) (hb : Binds X.K fd ps [])
    (ha : JA B X (e :: es) t) (hdb : (x == ("__debug__" : Str)) = false := by decide) (he : starEach (e :: es) X.env = (false, eval e X.env) :: starEach es X.env := by rfl) (hpl : (backTo pos (starEach es X.env)).any (·.1) = false := by rfl) :
    JE B X (.Call (.Name x p) (e :: es) [] pos) (wCall n w t) := pe_imp (pe_call F hr hg hm hk hb .nil pass0 ha hdb he hpl) fun σ H Q ⟨st, S, Q0, he, hr, hs, h, im⟩ => by
  refine ⟨st, S, _, he, hr, hs, h, fun xs S1 h1 H1 vs e1 s1 r1 => ?_⟩
  refine ⟨fun P hP => (he.trans e1).tabs P (ht P hP), xs, S1, Q0, fun _ _ => False, h1.1, by rw [List.append_nil]; exact r1, s1, h1.2, fun z S2 q => fin_ext e1 (im z S2 q), fun C S' H' q => q.elim⟩
theorem j_call0 (F : FnOk X.prog X.w X.K X.mg X.base CX0 k f fd ps (Lsp tl X.K n w)) (ht : ∀ P ∈ tl, GxR.TabG B P) (hr : Room k X.A) (hg : Gl X x) (hm : X.mg x = some (.ref f)) (hk : PySem.W.keepIn X.K (.ref f) = true) (hb : Binds X.K fd ps [])
    (hdb : (x == ("__debug__" : Str)) = false := by decide) :
    JE B X (.Call (.Name x p) [] [] pos) (wCall n w wNil) := pe_imp (pe_call0 F hr hg hm hk hb .nil pass0 hdb) fun σ H Q ⟨st, S, Q0, he, hr, hs, h, im⟩ =>
  ⟨fun P hP => he.tabs P (ht P hP), [], S, Q0, fun _ _ => False, h.1, .nil, hs, h.2, im, fun C S' H' q => q.elim⟩
end
/-! ### a def keeps its promise -/
def startT (N : List Str) (ts : List T) : Sl := ts.map some ++ List.replicate (N.length - ts.length) none
theorem start_rep {K : PySem.W.Frag} {H : Hp} {N : List Str} {ts : List T} {vs : List V} (r : Reps K H ts vs) : SlR K H (startT N ts) (L2.start N vs) := by
  have hl := r.length
  refine ⟨by unfold startT L2.start; simp [hl], fun i t q => ?_⟩
  unfold startT at q
  by_cases hi : i < ts.length
  · rw [List.getElem?_append_left (by simpa using hi), List.getElem?_map] at q
    cases e : ts[i]? with
    | none => rw [e] at q; cases q
    | some t' =>
      rw [e] at q
      cases q
      obtain ⟨v, e1, e2⟩ := r.get e
      refine ⟨v, ?_, e2⟩
      unfold L2.start
      rw [List.getElem?_append_left (by simp; omega), List.getElem?_map, e1]
      rfl
  · rw [List.getElem?_append_right (by simpa using hi), List.getElem?_replicate] at q
    split at q <;> cases q
section
variable {P : Program} {w : World} {K : PySem.W.Frag} {mg : Str → Option Value} {base : Heap}
theorem fnT {x qual : Str} {st : Stmt} {f : Addr} {fd : FuncData} {N ps : List Str} {k : Nat} {sp : WSp} {tl : List Addr} {t : WS} (F : Fun K x qual st f fd) (S : FnScope N ps (defScope st))
    (hb : ∀ (cdv : Value) (A : Around) (outer : List Env) (s : Shared) (H : Hp) (E : XK), Room k (A.deeper (envOfC qual (defScope st) s.heap.objs.size f cdv)) → cdv = fd.code → (∀ P ∈ tl, GxR.TabG H P) → JSs H (cxOf CX0 P w K mg base N qual (defScope st) f cdv A outer s H E).nox (defBody st) t)
    (hw : ∀ ts S Q E, ts.length = ps.length → sp ts S Q E → t { nx := fun _ S' => Q .non S', rt := Q } (startT N ts) S) : FnOk P w K mg base CX0 (k + 1) f fd ps (Lsp tl K ps.length sp) := by
  obtain ⟨oc, od, kV, doc, pm, an, cdv, ct, osl, rfl, lk, hcd⟩ := F.ex
  refine fn_of lk hcd S (fun vs H Q E h => lsp_len h) fun A outer s H vs Q E hr h => ?_
  obtain ⟨hT, ts, S0, Q0, E0, h1, h2, h3, h4, im, _⟩ := h
  refine ⟨_, PSs.nox (hb cdv A outer s H E hr rfl hT), ?_⟩
  exact ⟨startT N ts, S0, _, Ext.refl H, start_rep h2, h3, hw ts S0 Q0 E0 h1 h4, ⟨fun a S1 q H1 σ1 e1 s1 r1 => im _ _ q H1 _ e1 s1 .non, im, fun _ _ q => q.elim, fun _ _ q => q.elim⟩⟩
/-- another promise, less asked -/
theorem fn_imp {k : Nat} {f : Addr} {fd : FuncData} {ps : List Str} {n : Nat} {sp sp' : WSp} {tl : List Addr} (F : FnOk P w K mg base CX0 k f fd ps (Lsp tl K n sp)) (h : ∀ ts S Q E, sp' ts S Q E → sp ts S Q E) : FnOk P w K mg base CX0 k f fd ps (Lsp tl K n sp') :=
  F.imp fun vs H Q E ⟨hT, ts, S, Q0, E0, h1, h2, h3, h4, h5⟩ => ⟨hT, ts, S, Q0, E0, h1, h2, h3, h _ _ _ _ h4, h5⟩
end
/-- a law's promise: over a list of ints of at most 63, True -/
def spLaw : WSp := fun ts S Q _ => ∃ ns : List Int, ts = [.fl (ns.map .int)] ∧ ns.length ≤ 63 ∧ (∀ a, S a = none) ∧ ∀ S', Q (.bl true) S'
theorem law_sp (K : PySem.W.Frag) (H : Hp) (a : Addr) (ns : List Int) (hl : ns.length ≤ 63) (ho : Only H) (hs : SqL K H a (ns.map V.int)) : Lsp [] K 1 spLaw [.ref a] H (fun v _ => v = .bl true) fun _ _ _ => False := by
  have hf : FzL K H a (ns.map V.int) := by
    rcases hs with (h | ⟨o, h⟩) | h
    · rcases ho a with z | ⟨ob, xs, z⟩
      · rw [h] at z; cases z
      · rw [h] at z; cases z
    · exact .inl ⟨o, h⟩
    · exact .inr h
  refine ⟨fun _ z => (by cases z), [.fl (ns.map .int)], fun _ => none, fun v _ => v = .bl true, fun _ _ => False, rfl, .cons (.fl hf (Reps.ints ns)) .nil, (fun b o q => by cases q), ⟨ns, rfl, hl, fun _ => rfl, fun _ => rfl⟩, fun v S e H' u _ _ r => ?_, fun _ _ _ q => q.elim⟩
  subst e
  cases r
  rfl
end Wp

set_option Elab.async false
set_option linter.all false
set_option maxRecDepth 100000
/-! a def of the text, called; sequences walked -/
namespace Wp
open PySem PySem.Spec PyProof.Rows L2
def DefT (K : PySem.W.Frag) (mg : Str → Option Value) (x : Str) (st : Stmt) (ps : List Str) : Prop := ∃ f fd, Fun K x x st f fd ∧ mg x = some (.ref f) ∧ Binds K fd ps []
def Cal (P : Program) (w : World) (K : PySem.W.Frag) (mg : Str → Option Value) (base : Heap) (tl : List Addr) (k : Nat) (x : Str) (ps : List Str) (s : WSp) : Prop :=
  ∃ f fd, FnOk P w K mg base CX0 k f fd ps (Lsp tl K ps.length s) ∧ mg x = some (.ref f) ∧ PySem.W.keepIn K (.ref f) = true ∧ Binds K fd ps []
section
variable {P : Program} {w : World} {K : PySem.W.Frag} {mg : Str → Option Value} {base : Heap} {k j : Nat} {x : Str} {st : Stmt} {ps : List Str} {s s' : WSp} {tl : List Addr}
theorem DefT.cal (D : DefT K mg x st ps) (h : ∀ f fd, Fun K x x st f fd → FnOk P w K mg base CX0 k f fd ps (Lsp tl K ps.length s)) : Cal P w K mg base tl k x ps s := by
  obtain ⟨f, fd, F, m, b⟩ := D
  exact ⟨f, fd, h f fd F, m, F.kp, b⟩
theorem Cal.mono (c : Cal P w K mg base tl j x ps s) (h : j ≤ k) : Cal P w K mg base tl k x ps s := by
  obtain ⟨f, fd, F, m, kp, b⟩ := c
  exact ⟨f, fd, F.mono h, m, kp, b⟩
theorem Cal.imp (c : Cal P w K mg base tl k x ps s) (h : ∀ ts S Q E, s' ts S Q E → s ts S Q E) : Cal P w K mg base tl k x ps s' := by
  obtain ⟨f, fd, F, m, kp, b⟩ := c
  exact ⟨f, fd, fn_imp F h, m, kp, b⟩
theorem defT_mk {f : Addr} {oc : Value} {od an : Option Addr} {osl : Array (Option Value)} {kV doc pm cdv ct : Value} (hm : mg x = some (.ref f)) (l : K.lookup f = some ⟨oc, od, .func (PySem.W.fnOf x x (defArgs st) (defBody st) (defScope st) .none kV doc pm an cdv ct), osl⟩)
    (c : PySem.W.codeIn K cdv x = true) (k : PySem.W.keepIn K (.ref f) = true)
    (h : ∀ (kV doc pm : Value) (an : Option Addr) (cdv ct : Value) (us : List Value), us.length = ps.length → bindArgs (PySem.W.fnOf x x (defArgs st) (defBody st) (defScope st) .none kV doc pm an cdv ct) ⟨us, []⟩ = pure (ps.zip us)) : DefT K mg x st ps :=
  ⟨f, _, fun_mk l c k, hm, (fun_mk l c k).binds h⟩
end
section
variable {B : Hp} {X : Cx} {x : Str} {p pos : Pos} {e : Expr} {es : List Expr} {t : WA} {te : WE} {k : Nat} {ps : List Str} {s : WSp} {tl : List Addr}
theorem j_c (c : Cal X.prog X.w X.K X.mg X.base tl k x ps s) (ht : ∀ P ∈ tl, GxR.TabG B P) (hr : Room k X.A) (hg : Gl X x) (ha : JA B X (e :: es) t) (hdb : (x == ("__debug__" : Str)) = false := by decide)
    (he : starEach (e :: es) X.env = (false, eval e X.env) :: starEach es X.env := by rfl) (hpl : (backTo pos (starEach es X.env)).any (·.1) = false := by rfl) : JE B X (.Call (.Name x p) (e :: es) [] pos) (wCall ps.length s t) := by
  obtain ⟨f, fd, F, m, kp, b⟩ := c
  exact j_call F ht hr hg m kp b ha hdb he hpl
theorem j_c0 (c : Cal X.prog X.w X.K X.mg X.base tl k x ps s) (ht : ∀ P ∈ tl, GxR.TabG B P) (hr : Room k X.A) (hg : Gl X x) (hdb : (x == ("__debug__" : Str)) = false := by decide) : JE B X (.Call (.Name x p) [] [] pos) (wCall ps.length s wNil) := by
  obtain ⟨f, fd, F, m, kp, b⟩ := c
  exact j_call0 F ht hr hg m kp b hdb
theorem j_cI {i : Int} (hg : Gl X x) (h : ∃ t, X.mg x = some (.int i t)) (hd : (x == ("__debug__" : Str)) = false := by decide) : JE B X (.Name x pos) (wC (.int i)) := by
  obtain ⟨t, h⟩ := h
  exact j_globI hg h hd
theorem j_cS {i : Str} (hg : Gl X x) (h : ∃ t, X.mg x = some (.str i t)) (hd : (x == ("__debug__" : Str)) = false := by decide) : JE B X (.Name x pos) (wC (.str i)) := by
  obtain ⟨t, h⟩ := h
  exact j_globS hg h hd
/-- a list or a tuple, walked -/
def iSeqW (te : WE) (σ : Sl) (S : Sta) (R : List T → (Sta → Prop) → Sta → Prop) : Prop := te σ S fun x S1 => match x with
  | .tup ts => R ts (fun _ => True) S1
  | .fl ts => R ts (fun _ => True) S1
  | .ref p => ∃ ts, S1 p = some (.lst ts) ∧ R ts (fun S' => S' p = some (.lst ts)) S1
  | _ => False
/-- the two sources told apart where the value has come -/
theorem pi_both {tg l : Expr} {tl : TE} (hl : PE X l tl) : PI X tg l fun σ H R => tl σ H fun x H1 => ∃ a, x = .ref a ∧ ((∃ xs, SqL X.K H1 a xs) ∧ R (Itl X.K a) H1 ∨ (∃ xs, SqT X.K H1 a xs) ∧ R (Itt X.K a) H1) := by
  refine ⟨fun pins s σ H R I h => ?_⟩
  refine thn (hl.run pins s σ H _ I h) fun v s1 ⟨x, H1, I1, r1, q1⟩ => ?_
  obtain ⟨a, e, q1⟩ := q1
  subst e
  cases r1
  rcases q1 with ⟨⟨xs, hq⟩, q⟩ | ⟨⟨xs, hq⟩, q⟩
  · obtain ⟨its, rv, p, hz⟩ := I1.list hq
    refine wpAny_pyIter_list p.isList ?_
    refine ⟨s1.heap.objs.size, [s1.heap.objs.size], _, _, H1, rfl, I1.kept (t' := s1.toks) fun b o e => Heap.get?_push_of_some _ e, turn_list a _, ⟨_, Heap.get?_push_size _ rfl, rfl, rfl⟩, fun b hb => ?_, q⟩
    have e : b = s1.heap.objs.size := by simpa using hb
    subst e
    exact I1.fpOk (Nat.le_refl _) (I1.hok.fresh (Nat.le_refl _))
  · obtain ⟨its, rv, p, hz⟩ := I1.tuple hq
    refine wpAny_pyIter_tuple (show s1.heap.IsTuple a its.toArray from p) ?_
    refine ⟨s1.heap.objs.size, [s1.heap.objs.size], _, _, H1, rfl, I1.kept (t' := s1.toks) fun b o e => Heap.get?_push_of_some _ e, turn_tuple a _, ⟨_, Heap.get?_push_size _ rfl, rfl, rfl⟩, fun b hb => ?_, q⟩
    have e : b = s1.heap.objs.size := by simpa using hb
    subst e
    exact I1.fpOk (Nat.le_refl _) (I1.hok.fresh (Nat.le_refl _))
theorem ji_seq {tg : Expr} (he : JE B X e te) : JI B X tg e (iSeqW te) := pi_imp (pi_both he) fun σ H R ⟨st, S, Q0, he, hr, hs, h, im⟩ => by
  refine ⟨st, S, _, he, hr, hs, h, fun x S1 h1 H1 v1 e1 s1 r1 => ?_⟩
  cases x with
  | tup ts =>
    cases r1 with
    | @tup a xs _ g10 g2 =>
      have g1 := sqT_of (K := X.K) g10
      refine ⟨a, rfl, .inr ⟨⟨xs, g1⟩, im _ _ _ h1 H1 e1 s1 _ fun i S2 H2 e2 s2 _ => ⟨fun hi => ?_, fun hi => ⟨xs, e2.sqT g1, by rw [← g2.length]; exact hi⟩, fun x H' y hi => ?_⟩⟩⟩
      · obtain ⟨v, g3, _⟩ := g2.get (List.getElem?_eq_getElem hi)
        exact ⟨xs, v, e2.sqT g1, g3⟩
      · obtain ⟨eH, y⟩ := y
        subst eH
        obtain ⟨v, g3, g4⟩ := g2.get (List.getElem?_eq_getElem hi)
        have ev : x = v := Option.some.inj ((y xs (e2.sqT g1)).symm.trans g3)
        subst ev
        exact ⟨Ext.refl _, s2, fun _ _ q => q, _, List.getElem?_eq_getElem hi, Rep.mono e2 _ _ g4⟩
  | fl ts =>
    cases r1 with
    | @fl a xs _ g1 g2 =>
      refine ⟨a, rfl, .inl ⟨⟨xs, g1.sq⟩, im _ _ _ h1 H1 e1 s1 _ fun i S2 H2 e2 s2 _ => ⟨fun hi => ?_, fun hi => ⟨xs, (e2.fzL g1).sq, by rw [← g2.length]; exact hi⟩, fun x H' y hi => ?_⟩⟩⟩
      · obtain ⟨v, g3, _⟩ := g2.get (List.getElem?_eq_getElem hi)
        exact ⟨xs, v, (e2.fzL g1).sq, g3⟩
      · obtain ⟨eH, y⟩ := y
        subst eH
        obtain ⟨v, g3, g4⟩ := g2.get (List.getElem?_eq_getElem hi)
        have ev : x = v := Option.some.inj ((y xs ((e2.fzL g1).sq)).symm.trans g3)
        subst ev
        exact ⟨Ext.refl _, s2, fun _ _ q => q, _, List.getElem?_eq_getElem hi, Rep.mono e2 _ _ g4⟩
  | ref p =>
    obtain ⟨ts, eS, h1⟩ := h1
    cases r1
    obtain ⟨xs0, g10, g20⟩ := s1 p _ eS
    refine ⟨p, rfl, .inl ⟨⟨xs0, .inl (.inl g10)⟩, im _ _ _ h1 H1 e1 s1 _ fun i S2 H2 e2 s2 stb => ?_⟩⟩
    obtain ⟨xs, g1, g2⟩ := s2 p _ stb
    refine ⟨fun hi => ?_, fun hi => ⟨xs, .inl (.inl g1), by rw [← g2.length]; exact hi⟩, fun x H' y hi => ?_⟩
    · obtain ⟨v, g3, _⟩ := g2.get (List.getElem?_eq_getElem hi)
      exact ⟨xs, v, .inl (.inl g1), g3⟩
    · obtain ⟨eH, y⟩ := y
      subst eH
      obtain ⟨v, g3, g4⟩ := g2.get (List.getElem?_eq_getElem hi)
      have ev : x = v := Option.some.inj ((y xs (.inl (.inl g1))).symm.trans g3)
      subst ev
      exact ⟨Ext.refl _, s2, fun _ _ q => q, _, List.getElem?_eq_getElem hi, g4⟩
  | _ => exact h1.elim
end
/-! ### a law's last lines -/
theorem law_walk {l : PySem.W.OpenLaw} {k : Nat} {q : Program} {loose : List Str} {XP : (Str → Option Value) → Heap → Prop} {YP : World → Heap → Prop} {d : DefRec} {K : Params → PySem.W.Frag} {x : Str}
    (hn : l.most = some 63) (hdf : d.params.defaults = []) (hr : Room k callerA)
    (hY : ∀ (w : World) (h : Heap), YP w h → (K w.params).In h)
    (F : ∀ (w : World) (mg : Str → Option Value) (fa : Addr) (h : Heap), (K w.params).In h → h.Ns mainGlobals mg → mg d.name = some (.ref fa) →
      ∃ fd : FuncData, (∀ (s : Shared) (u : Value), BindsTo s fd ⟨[u], []⟩ [(x, u)]) ∧
        ∀ base : Heap, (K w.params).In base → base.Ns mainGlobals mg → FnOk l.prog w (K w.params) mg base CX0 k fa fd [x] (Lsp [] (K w.params) 1 spLaw)) :
    PySem.W.WalkO q loose XP YP l.row.toRowW d [] (fun f vs => PySem.call f vs) :=
  L2.walk_ofK (CX := CX0) (sp := fun K => Lsp [] K 1 spLaw) hn (by decide) hdf hr hY F (fun K H a ns hl ho hs => law_sp K H a ns hl ho hs) fun H s e s' h => h
end Wp

set_option Elab.async false
set_option linter.all false
set_option maxRecDepth 100000
/-! more built-ins, methods of lists -/
namespace Wp
open PySem PySem.Spec PyProof.Rows L2
section
variable {B : Hp} {X : Cx} {a b : Expr} {ta tb : WE} {pos : Pos}
/-- list(range(n)) -/
def wLstRg (ta : WE) (σ : Sl) (S : Sta) (Q : T → Sta → Prop) : Prop := ta σ S fun x S1 => match x with
  | .int n => (n ≤ 2 ^ 24 ∧ -(2 ^ 62) ≤ n) ∧ ∀ p, S1 p = none → Q (.ref p) (upS S1 p (.lst (rangeT 0 n.toNat)))
  | _ => False
theorem rangeT_rep {K : PySem.W.Frag} {H : Hp} (lo : Int) : ∀ (l : List Nat), Reps K H (l.map fun (i : Nat) => T.int (lo + (i : Int))) (l.map fun (i : Nat) => V.int (lo + (i : Nat)))
  | [] => .nil
  | i :: l => .cons (.int _) (rangeT_rep lo l)
theorem j_listRg1 {p p2 pos2 : Pos} (hg : Gl X "list") (hm : X.mg "list" = none) (hg2 : Gl X "range") (hm2 : X.mg "range" = none) (hc : X.calm = true) (ha : JE B X a ta) (na : starEach [a] X.env = (false, eval a X.env) :: starEach [] X.env := by rfl)
    (na2 : starEach [.Call (.Name "range" p2) [a] [] pos2] X.env = (false, eval (.Call (.Name "range" p2) [a] [] pos2) X.env) :: starEach [] X.env := by rfl) : JE B X (.Call (.Name "list" p) [.Call (.Name "range" p2) [a] [] pos2] [] pos) (wLstRg ta) :=
  pe_imp (pe_listRg hc hg hm (prg_1 hg2 hm2 ha na) na2) fun σ H Q ⟨st, S, Q0, he, hr, hs, h, im⟩ => by
    refine ⟨st, S, _, he, hr, hs, h, fun x S1 h1 H1 v e1 s1 r1 => ?_⟩
    cases x with
    | int n =>
      cases r1
      refine ⟨n, rfl, ⟨by omega, by omega, by have := h1.1.2; omega, by have := h1.1.1; omega, by have := h1.1.1; omega⟩, fun q hq => ?_⟩
      have rr : Reps X.K H1 (rangeT 0 n.toNat) (rgV 0 n) := by
        unfold rangeT rgV
        rw [show (n - 0).toNat = n.toNat by rw [Int.sub_zero]]
        exact rangeT_rep 0 _
      obtain ⟨e2, s2⟩ := s1.newL hq rr
      exact im _ _ (h1.2 q (s1.free hq)) _ _ (e1.trans e2) s2 (.ref q)
    | _ => exact h1.elim
/-- is of bools -/
def rBIs (neg : Bool) (x : T) (y : T) (S : Sta) (Q : T → Sta → Prop) : Prop := match x, y with
  | .bl a, .bl b => Q (.bl (neg != (a == b))) S
  | _, _ => False
theorem o_isB : OpT X (compareOp .Is) (rBIs false) := by
  intro pins s σ H x y v u Q I rx ry ⟨a, b, S, Q0, ra, rb, hs, q, im⟩
  match a, b, q with
  | .bl a, .bl b, q =>
    cases ra
    cases rb
    refine op_isBl pins s σ H _ _ v u Q I rx ry ⟨a, b, rfl, rfl, ?_⟩
    have e : decide (a = b) = (false != (a == b)) := by cases a <;> cases b <;> rfl
    rw [e]
    exact im _ _ q H _ (Ext.refl H) hs (.bl _)
theorem o_notB : OpT X (compareOp .IsNot) (rBIs true) := by
  intro pins s σ H x y v u Q I rx ry ⟨a, b, S, Q0, ra, rb, hs, q, im⟩
  match a, b, q with
  | .bl a, .bl b, q =>
    cases ra
    cases rb
    refine op_notBl pins s σ H _ _ v u Q I rx ry ⟨a, b, rfl, rfl, ?_⟩
    have e : (!decide (a = b)) = (true != (a == b)) := by cases a <;> cases b <;> rfl
    rw [e]
    exact im _ _ q H _ (Ext.refl H) hs (.bl _)
/-! ### methods of a list that may change -/
abbrev RM3 := T → List T → Sta → (T → Sta → Prop) → Prop
def LM (K : PySem.W.Frag) (r : RM3) : V → List V → Hp → VK → Prop := fun x xs H Q => ∃ t ts S Q0, Rep K H t x ∧ Reps K H ts xs ∧ St K S H ∧ r t ts S Q0 ∧ Im2 Q0 (fin K H Q)
def wMt (r : RM3) (to : WE) (t : WA) (σ : Sl) (S : Sta) (Q : T → Sta → Prop) : Prop := to σ S fun x S1 => match x with
  | .ref p => (∃ xs, S1 p = some (.lst xs)) ∧ t σ S1 fun ts S2 => r (.ref p) ts S2 Q
  | _ => False
variable {o e : Expr} {es : List Expr} {to : WE} {t : WA} {name : Str} {apos cpos : Pos} {id : String} {r : RM3}
theorem j_mtL (slot : Slot "list" name id) (hty : typeOf (.builtin id) = pure (.type "method_descriptor")) (hm : MtR X id (LM X.K r)) (ho : JE B X o to) (ha : JA B X (e :: es) t)
    (hbase : attributeBase o name X.env (eval o X.env) = eval o X.env := by rfl)
    (hfew : ((backTo cpos (starEach (e :: es) X.env)).all (fun x => !x.1) && (backToKw cpos (keywordEach [] X.env)).all (fun x => x.1.isSome)
      && decide ((e :: es).length + ([] : List Keyword).length + (if ([] : List Keyword).isEmpty then 0 else 1) < 30)) = true := by rfl)
    (hline : (apos.endLine == cpos.line) = true := by rfl) (hs : starEach (e :: es) X.env = (false, eval e X.env) :: starEach es X.env := by rfl) (hplain : (backTo cpos (starEach es X.env)).any (·.1) = false := by rfl) :
    JE B X (.Call (.Attribute o name apos) (e :: es) [] cpos) (wMt r to t) := pe_imp (pe_bm PySem.F.plainAttrs_list slot hty hm ho ha hbase hfew hline hs hplain) fun σ H Q ⟨st, S, Q0, he, hr, hs, h, im⟩ => by
  refine ⟨st, S, _, he, hr, hs, h, fun x S1 h1 H1 v e1 s1 r1 => ?_⟩
  cases x with
  | ref p =>
   obtain ⟨⟨xs, e2⟩, h1⟩ := h1
   cases r1
   obtain ⟨ys, g1, g2⟩ := s1 p _ e2
   refine ⟨.inl ⟨rfl, ys, .inl (.inl g1)⟩, st, S1, _, he.trans e1, hr.mono e1, s1, h1, fun ts S2 h2 H2 vs e3 s3 r3 => ?_⟩
   exact ⟨_, ts, S2, Q0, .ref p, r3, s3, h2, fun z S4 q => fin_ext (e1.trans e3) (im z S4 q)⟩
  | _ => exact h1.elim
theorem j_mtL0 (slot : Slot "list" name id) (hty : typeOf (.builtin id) = pure (.type "method_descriptor")) (hm : MtR X id (LM X.K r)) (ho : JE B X o to)
    (hbase : attributeBase o name X.env (eval o X.env) = eval o X.env := by rfl) (hline : (apos.endLine == cpos.line) = true := by rfl) :
    JE B X (.Call (.Attribute o name apos) [] [] cpos) (wMt r to wNil) := pe_imp (pe_bm0 PySem.F.plainAttrs_list slot hty hm ho hbase hline) fun σ H Q ⟨st, S, Q0, he, hr, hs, h, im⟩ => by
  refine ⟨st, S, _, he, hr, hs, h, fun x S1 h1 H1 v e1 s1 r1 => ?_⟩
  cases x with
  | ref p =>
   obtain ⟨⟨xs, e2⟩, h1⟩ := h1
   cases r1
   obtain ⟨ys, g1, g2⟩ := s1 p _ e2
   refine ⟨.inl ⟨rfl, ys, .inl (.inl g1)⟩, ?_⟩
   exact ⟨_, [], S1, Q0, .ref p, .nil, s1, h1, fun z S4 q => fin_ext e1 (im z S4 q)⟩
  | _ => exact h1.elim
def rAppendT (x : Wp.T) (ts : List Wp.T) (S : Sta) (Q : Wp.T → Sta → Prop) : Prop := match x, ts with
  | .ref p, [t] => ∃ xs, S p = some (.lst xs) ∧ xs.length < sizeLine ∧ Q .non (upS S p (.lst (xs ++ [t])))
  | _, _ => False
theorem m_append : MtR X "list.append" (LM X.K rAppendT) := by
  intro pins s σ H x xs v us Q I rx rxs ⟨t, ts, S, Q0, rt, rts, hs, q, im⟩
  match t, ts, q with
  | .ref p, [y], ⟨zs, e, hl, q⟩ =>
    cases rt
    obtain ⟨w, rfl, rw'⟩ := rts.one
    obtain ⟨ys, g1, g2⟩ := hs p _ e
    obtain ⟨e2, s2⟩ := hs.setL g1 (Reps.append g2 (.cons rw' .nil))
    exact mt_append pins s σ H _ _ v us Q I rx rxs ⟨p, ys, w, rfl, rfl, g1, by rw [← g2.length]; exact hl, im _ _ q _ _ e2 s2 .non⟩
def rExtendT (x : Wp.T) (ts : List Wp.T) (S : Sta) (Q : Wp.T → Sta → Prop) : Prop := match x, ts with
  | .ref p, [.ref p2] => ∃ xs, S p = some (.lst xs) ∧ ∃ ys, S p2 = some (.lst ys) ∧ xs.length + ys.length ≤ sizeLine ∧ Q .non (upS S p (.lst (xs ++ ys)))
  | _, _ => False
theorem m_extend : MtR X "list.extend" (LM X.K rExtendT) := by
  intro pins s σ H x xs v us Q I rx rxs ⟨t, ts, S, Q0, rt, rts, hs, q, im⟩
  match t, ts, q with
  | .ref p, [.ref p2], ⟨zs, e, ws, e', hl, q⟩ =>
    cases rt
    obtain ⟨w, rfl, rw'⟩ := rts.one
    cases rw'
    obtain ⟨ys, g1, g2⟩ := hs p _ e
    obtain ⟨vs, g3, g4⟩ := hs p2 _ e'
    obtain ⟨e2, s2⟩ := hs.setL g1 (Reps.append g2 g4)
    exact mt_extend pins s σ H _ _ v us Q I rx rxs ⟨p, p2, ys, vs, rfl, rfl, g1, g3, by rw [← g2.length, ← g4.length]; exact hl, im _ _ q _ _ e2 s2 .non⟩
def rReverseT (x : Wp.T) (ts : List Wp.T) (S : Sta) (Q : Wp.T → Sta → Prop) : Prop := match x, ts with
  | .ref p, [] => ∃ xs, S p = some (.lst xs) ∧ Q .non (upS S p (.lst xs.reverse))
  | _, _ => False
theorem m_reverse : MtR X "list.reverse" (LM X.K rReverseT) := by
  intro pins s σ H x xs v us Q I rx rxs ⟨t, ts, S, Q0, rt, rts, hs, q, im⟩
  match t, ts, q with
  | .ref p, [], ⟨zs, e, q⟩ =>
    cases rt
    cases rts
    obtain ⟨ys, g1, g2⟩ := hs p _ e
    obtain ⟨e2, s2⟩ := hs.setL g1 g2.reverse
    exact mt_reverse pins s σ H _ _ v us Q I rx rxs ⟨p, ys, rfl, rfl, g1, im _ _ q _ _ e2 s2 .non⟩
/-- xs.index(x), x in it, flat -/
def rIndexT (x : Wp.T) (ts : List Wp.T) (S : Sta) (Q : Wp.T → Sta → Prop) : Prop := match x, ts with
  | .ref p, [y] => ∃ xs, S p = some (.lst xs) ∧ flatT y = true ∧ xs.all flatT = true ∧ ∃ (j : Nat) (z : Wp.T), xs[j]? = some z ∧ eqF z y = true ∧ (∀ (m : Nat) (z' : Wp.T), m < j → xs[m]? = some z' → eqF z' y = false) ∧ Q (.int (j : Nat)) S
  | _, _ => False
theorem m_index : MtR X "list.index" (LM X.K rIndexT) := by
  intro pins s σ H x xs v us Q I rx rxs ⟨t, ts, S, Q0, rt, rts, hs, q, im⟩
  match t, ts, q with
  | .ref p, [y], ⟨zs, e, f1, f2, j, z, ej, ez, hno, q⟩ =>
    cases rt
    obtain ⟨w, rfl, rw'⟩ := rts.one
    obtain ⟨ys, g1, g2⟩ := hs p _ e
    obtain ⟨zv, g3, g4⟩ := g2.get ej
    have fz : flatT z = true := List.all_eq_true.mp f2 z (List.mem_of_getElem? ej)
    refine mt_index pins s σ H _ _ v us Q I rx rxs ⟨p, ys, w, j, zv, rfl, rfl, .inl (.inl g1), flat_rep rw' f1, flats_rep g2 f2, g3, by rw [eqF_rep g4 rw' fz f1]; exact ez, fun m z' hm hz' => ?_, im _ _ q _ _ (Ext.refl H) hs (.int _)⟩
    obtain ⟨zt, g5, g6⟩ := g2.getV hz'
    rw [eqF_rep g6 rw' (List.all_eq_true.mp f2 zt (List.mem_of_getElem? g5)) f1]
    exact hno m zt hm g5
/-! ### sum of ints, ord, divmod -/
def rSumI (xs : List T) (S : Sta) (Q : T → Sta → Prop) : Prop := match xs with
  | [.ref p] => ∃ ns : List Int, S p = some (.lst (ns.map .int)) ∧ Q (.int ns.sum) S
  | _ => False
theorem c_sumI (hc : X.calm = true) : CallR X (.builtin "sum") (LC X.K rSumI) := by
  intro pins s σ H xs us Q I rx ⟨ts, S, Q0, r, hs, q, im⟩
  match ts, q with
  | [.ref p], ⟨ns, e, q⟩ =>
    obtain ⟨v, rfl, r1⟩ := r.one
    cases r1
    obtain ⟨ys, g1, g2⟩ := hs p _ e
    have ey := g2.intsV
    subst ey
    exact cr_sum hc pins s σ H _ us Q I rx ⟨p, ns, rfl, .inl (.inl g1), im _ _ q _ _ (Ext.refl H) hs (.int _)⟩
def rOrd (xs : List T) (S : Sta) (Q : T → Sta → Prop) : Prop := match xs with
  | [.str z] => z.length = 1 ∧ Q (.int (z.cps.getD 0 0 : Nat)) S
  | _ => False
theorem c_ord : CallR X (.builtin "ord") (LC X.K rOrd) := by
  intro pins s σ H xs us Q I rx ⟨ts, S, Q0, r, hs, q, im⟩
  match ts, q with
  | [.str z], q =>
    obtain ⟨v, rfl, r1⟩ := r.one
    cases r1
    exact call_ord pins s σ H _ us Q I rx ⟨z, rfl, q.1, im _ _ q.2 _ _ (Ext.refl H) hs (.int _)⟩
def rDivmod (xs : List T) (S : Sta) (Q : T → Sta → Prop) : Prop := match xs with
  | [.int i, .int j] => (0 < j ∧ j < 1073741824) ∧ Q (.tup [.int (i / j), .int (i % j)]) S
  | _ => False
theorem c_divmod : CallR X (.builtin "divmod") (LC X.K rDivmod) := by
  intro pins s σ H xs us Q I rx ⟨ts, S, Q0, r, hs, q, im⟩
  match ts, q with
  | [.int i, .int j], q =>
    obtain ⟨v, w, rfl, r1, r2⟩ := r.two
    cases r1
    cases r2
    exact call_divmod pins s σ H _ us Q I rx ⟨i, j, rfl, q.1, fun p hp => im _ _ q.2 _ _ (Ext.new hp) (hs.new hp _) (.tup upd_same (.cons (.int _) (.cons (.int _) .nil)))⟩
end
end Wp

set_option Elab.async false
set_option linter.all false
set_option maxRecDepth 100000
/-! lemmas for the reading's simplification -/
namespace Wp
open PySem PySem.Spec PyProof.Rows L2
theorem cmul_l {i j : Int} (h1 : -(2 ^ 64) < i) (h2 : i < 2 ^ 64) : CMul i j = True := eq_true (.inl ⟨h1, h2⟩)
theorem cmul_r {i j : Int} (h1 : -(2 ^ 64) < j) (h2 : j < 2 ^ 64) : CMul i j = True := eq_true (.inr ⟨h1, h2⟩)
theorem ex_some {α : Type} {a : α} {P : α → Prop} : (∃ v, some (some a) = some (some v) ∧ P v) = P a := by
  apply propext
  constructor
  · rintro ⟨v, e, h⟩; cases e; exact h
  · intro h; exact ⟨a, rfl, h⟩
theorem ex_some1 {α : Type} {a : α} {P : α → Prop} : (∃ v, some a = some v ∧ P v) = P a := by
  apply propext
  constructor
  · rintro ⟨v, e, h⟩; cases e; exact h
  · intro h; exact ⟨a, rfl, h⟩
theorem ex_eq {α : Type} {a : α} {P : α → Prop} : (∃ v, a = v ∧ P v) = P a := by
  apply propext
  constructor
  · rintro ⟨v, e, h⟩; cases e; exact h
  · intro h; exact ⟨a, rfl, h⟩
theorem cpow_lit {i j : Int} (h1 : 0 ≤ j) (h2 : j ≤ 1000000) (h3 : i.natAbs < 2 ^ 64) : CPow i j = True := eq_true ⟨h1, h2, h3⟩
theorem size_le {n : Nat} (h : n ≤ 10000000) : (n ≤ sizeLine) = True := eq_true (Nat.le_trans h (by rw [sizeLine_eq]; decide))
theorem size_lt {n : Nat} (h : n < 10000000) : (n < sizeLine) = True := eq_true (Nat.lt_of_lt_of_le h (by rw [sizeLine_eq]; decide))
theorem itemsT_ref {S : Sta} {p : Addr} {ts : List T} (h : S p = some (.lst ts)) : itemsT S (.ref p) = some ts := by simp only [itemsT, h]
theorem tyT_ref {S : Sta} {p : Addr} {ts : List T} (h : S p = some (.lst ts)) : tyT S (.ref p) = some "list" := by simp only [tyT, h]
theorem atI_zero {α : Type} {x : α} {xs : List α} : atI (x :: xs) 0 = some x := atI_nat (j := 0) rfl
theorem atI_lit {α : Type} {xs : List α} {j : Nat} : atI xs ((j : Nat) : Int) = xs[j]? := by
  unfold atI ixN
  by_cases h : j < xs.length
  · rw [if_pos (by omega), if_pos (by omega)]
    simp
  · rw [if_pos (by omega), if_neg (by omega)]
    simp
    omega
theorem atI_0 {α : Type} {xs : List α} : atI xs 0 = xs[0]? := atI_lit (j := 0)
theorem atI_1 {α : Type} {xs : List α} : atI xs 1 = xs[1]? := atI_lit (j := 1)
theorem atI_2 {α : Type} {xs : List α} : atI xs 2 = xs[2]? := atI_lit (j := 2)
theorem atI_3 {α : Type} {xs : List α} : atI xs 3 = xs[3]? := atI_lit (j := 3)
theorem atI_4 {α : Type} {xs : List α} : atI xs 4 = xs[4]? := atI_lit (j := 4)
theorem atI_5 {α : Type} {xs : List α} : atI xs 5 = xs[5]? := atI_lit (j := 5)
theorem atI_6 {α : Type} {xs : List α} : atI xs 6 = xs[6]? := atI_lit (j := 6)
/-- an item at an open place in bounds -/
theorem atI_in {α : Type} {xs : List α} {i : Int} (h0 : 0 ≤ i) (h1 : i < xs.length) : ∃ x, atI xs i = some x ∧ x ∈ xs := by
  obtain ⟨n, rfl⟩ : ∃ n : Nat, i = n := ⟨i.toNat, by omega⟩
  rw [atI_lit]
  have h : n < xs.length := by omega
  exact ⟨xs[n], List.getElem?_eq_getElem h, List.getElem_mem h⟩
theorem ixN_lit {n j : Nat} (h : j < n) : ixN n ((j : Nat) : Int) = some j := by
  unfold ixN
  rw [if_pos (by omega), if_pos (by omega)]
  simp
theorem ixN_0 {n : Nat} : ixN (n + 1) 0 = some 0 := ixN_lit (j := 0) (by omega)
theorem ixN_1 {n : Nat} : ixN (n + 2) 1 = some 1 := ixN_lit (j := 1) (by omega)
theorem ixN_2 {n : Nat} : ixN (n + 3) 2 = some 2 := ixN_lit (j := 2) (by omega)
theorem rangeT_mem {n : Nat} {t : T} (h : t ∈ rangeT 0 n) : ∃ i : Nat, i < n ∧ t = .int i := by
  unfold rangeT at h
  obtain ⟨i, hi, e⟩ := List.mem_map.mp h
  exact ⟨i, List.mem_range.mp hi, by rw [← e, Int.zero_add]⟩
theorem eqvAll_ints : ∀ (ns ms : List Int), PyData.eqvAll (ns.map PyData.int) (ms.map PyData.int) = (ns == ms)
  | [], [] => by simp only [List.map_nil, PyData.eqvAll]; rfl
  | [], m :: ms => by simp only [List.map_nil, List.map_cons, PyData.eqvAll]; rfl
  | n :: ns, [] => by simp only [List.map_nil, List.map_cons, PyData.eqvAll]; rfl
  | n :: ns, m :: ms => by
    simp only [List.map_cons, PyData.eqvAll, PyData.eqv, eqvAll_ints ns ms]
    rfl
theorem toDs_ints : ∀ ns : List Int, toDs (ns.map T.int) = some (ns.map PyData.int)
  | [] => by simp only [List.map_nil, toDs]
  | n :: ns => by simp only [List.map_cons, toDs, toD, toDs_ints ns]
theorem layAll_ints : ∀ ns : List Int, PyData.canLayAll0 (ns.map PyData.int) = true
  | [] => by simp only [List.map_nil, PyData.canLayAll0]
  | n :: ns => by simp only [List.map_cons, PyData.canLayAll0, PyData.canLay0, layAll_ints ns, Bool.and_self]
theorem depAll_ints : ∀ ns : List Int, PyData.depthAll (ns.map PyData.int) ≤ 1
  | [] => by simp only [List.map_nil, PyData.depthAll]; omega
  | n :: ns => by
    have := depAll_ints ns
    simp only [List.map_cons, PyData.depthAll, PyData.depth]
    omega
theorem shaped_ints (ns : List Int) : SeqAt.shaped (.list (ns.map PyData.int)) = true := by
  have h := depAll_ints ns
  unfold SeqAt.shaped
  rw [Bool.and_eq_true]
  refine ⟨by simp only [PyData.canLay0]; exact layAll_ints ns, decide_eq_true ?_⟩
  simp only [PyData.depth]
  omega
theorem shaped_int (i : Int) : SeqAt.shaped (.int i) = true := by
  unfold SeqAt.shaped
  rw [Bool.and_eq_true]
  refine ⟨by simp only [PyData.canLay0], decide_eq_true ?_⟩
  simp only [PyData.depth]
  omega
theorem shaped_bool (i : Bool) : SeqAt.shaped (.bool i) = true := by
  unfold SeqAt.shaped
  rw [Bool.and_eq_true]
  refine ⟨by simp only [PyData.canLay0], decide_eq_true ?_⟩
  simp only [PyData.depth]
  omega
theorem shaped_none : SeqAt.shaped .none = true := by
  unfold SeqAt.shaped
  rw [Bool.and_eq_true]
  refine ⟨by simp only [PyData.canLay0], decide_eq_true ?_⟩
  simp only [PyData.depth]
  omega
theorem shaped_str {x : Str} (h : PyData.strOk x = true) : SeqAt.shaped (.str x) = true := by
  unfold SeqAt.shaped
  rw [Bool.and_eq_true]
  refine ⟨by simp only [PyData.canLay0]; exact h, decide_eq_true ?_⟩
  simp only [PyData.depth]
  omega
/-- == of scalars -/
def scalT : T → Bool
  | .non => true
  | .bl _ => true
  | .int _ => true
  | .str x => PyData.strOk x
  | _ => false
theorem rEq_scal {neg : Bool} {x y : T} {S : Sta} {Q : T → Sta → Prop} (hx : scalT x = true) (hy : scalT y = true) (q : Q (.bl (neg != eqF x y)) S) : rEq neg x y S Q := by
  cases x with
  | non => cases y with
    | non => exact ⟨_, rfl, _, rfl, shaped_none, shaped_none, by simpa only [PyData.eqv, eqF] using q⟩
    | bl b => exact ⟨_, rfl, _, rfl, shaped_none, shaped_bool b, by simpa only [PyData.eqv, eqF] using q⟩
    | int b => exact ⟨_, rfl, _, rfl, shaped_none, shaped_int b, by simpa only [PyData.eqv, eqF] using q⟩
    | str b => exact ⟨_, rfl, _, rfl, shaped_none, shaped_str hy, by simpa only [PyData.eqv, eqF] using q⟩
    | _ => cases hy
  | bl a => cases y with
    | non => exact ⟨_, rfl, _, rfl, shaped_bool a, shaped_none, by simpa only [PyData.eqv, eqF] using q⟩
    | bl b => exact ⟨_, rfl, _, rfl, shaped_bool a, shaped_bool b, by simpa only [PyData.eqv, eqF] using q⟩
    | int b => exact ⟨_, rfl, _, rfl, shaped_bool a, shaped_int b, by simpa only [PyData.eqv, eqF] using q⟩
    | str b => exact ⟨_, rfl, _, rfl, shaped_bool a, shaped_str hy, by simpa only [PyData.eqv, eqF] using q⟩
    | _ => cases hy
  | int a => cases y with
    | non => exact ⟨_, rfl, _, rfl, shaped_int a, shaped_none, by simpa only [PyData.eqv, eqF] using q⟩
    | bl b => exact ⟨_, rfl, _, rfl, shaped_int a, shaped_bool b, by simpa only [PyData.eqv, eqF] using q⟩
    | int b => exact ⟨_, rfl, _, rfl, shaped_int a, shaped_int b, by simpa only [PyData.eqv, eqF] using q⟩
    | str b => exact ⟨_, rfl, _, rfl, shaped_int a, shaped_str hy, by simpa only [PyData.eqv, eqF] using q⟩
    | _ => cases hy
  | str a => cases y with
    | non => exact ⟨_, rfl, _, rfl, shaped_str hx, shaped_none, by simpa only [PyData.eqv, eqF] using q⟩
    | bl b => exact ⟨_, rfl, _, rfl, shaped_str hx, shaped_bool b, by simpa only [PyData.eqv, eqF] using q⟩
    | int b => exact ⟨_, rfl, _, rfl, shaped_str hx, shaped_int b, by simpa only [PyData.eqv, eqF] using q⟩
    | str b => exact ⟨_, rfl, _, rfl, shaped_str hx, shaped_str hy, by simpa only [PyData.eqv, eqF] using q⟩
    | _ => cases hy
  | _ => cases hx
theorem rEq_ints {neg : Bool} {a b : T} {S : Sta} {ns ms : List Int} {Q : T → Sta → Prop} (ha : dd S a = some (.list (ns.map .int))) (hb : dd S b = some (.list (ms.map .int))) (q : Q (.bl (neg != (ns == ms))) S) : rEq neg a b S Q :=
  ⟨_, ha, _, hb, shaped_ints ns, shaped_ints ms, by simpa only [PyData.eqv, eqvAll_ints] using q⟩
theorem dd_ints {S : Sta} {p : Addr} {ns : List Int} (h : S p = some (.lst (ns.map T.int))) : dd S (.ref p) = some (.list (ns.map .int)) := by
  simp only [dd, h, toDs_ints, Option.map_some]
theorem eqF_int {i j : Int} : eqF (.int i) (.int j) = (i == j) := rfl
theorem rEq_int {neg : Bool} {i j : Int} {S : Sta} {Q : T → Sta → Prop} : rEq neg (.int i) (.int j) S Q = Q (.bl (neg != (i == j))) S := by
  apply propext
  constructor
  · rintro ⟨d, e1, e, e2, _, _, q⟩
    cases e1
    cases e2
    simpa only [PyData.eqv] using q
  · intro q
    exact rEq_scal rfl rfl q
theorem ex_lst {a : List T} {P : List T → Prop} : (∃ v, some (O.lst a) = some (O.lst v) ∧ P v) = P a := by
  apply propext
  constructor
  · rintro ⟨v, e, h⟩; cases e; exact h
  · intro h; exact ⟨a, rfl, h⟩
theorem ex_lst0 {a : List T} : (∃ v, some (O.lst a) = some (O.lst v)) = True := eq_true ⟨a, rfl⟩
end Wp
namespace Wp
open PySem PySem.Spec PyProof.Rows L2
/-- a comprehension whose elements change nothing -/
theorem compW_pure {te : WE} {i : Nat} {σ : Sl} {D : Addr} {Q : T → Sta → Prop} {stb : Sta → Prop} (f : T → T) (hst : ∀ S, stb S) : ∀ (xs acc : List T) (S : Sta),
    (∀ x ∈ xs, ∀ (acc' : List T) (R : T → Sta → Prop), R (f x) (upS S D (.lst acc')) → te (σ.set i (some x)) (upS S D (.lst acc')) R) → acc.length + xs.length ≤ 1000000 → Q (.ref D) (upS S D (.lst (acc ++ xs.map f))) → compW (gNm i) wYes te stb σ D Q xs (upS S D (.lst acc))
  | [], acc, S, _, _, q => by
    rw [List.map_nil, List.append_nil] at q
    exact ⟨hst _, q⟩
  | x :: xs, acc, S, h, hl, q => by
    refine ⟨hst _, wif_t (h x List.mem_cons_self acc _ ?_)⟩
    refine ⟨acc, upS_same, ?_, ?_⟩
    · rw [List.length_cons] at hl
      exact Nat.lt_of_lt_of_le (show acc.length < 10000000 by omega) (by rw [sizeLine_eq]; decide)
    · rw [upS_upS]
      refine compW_pure f hst xs (acc ++ [f x]) S (fun y hy acc' R r => h y (List.mem_cons_of_mem _ hy) acc' R r) ?_ ?_
      · rw [List.length_append, List.length_cons, List.length_nil]
        rw [List.length_cons] at hl
        omega
      · rw [List.append_assoc]
        exact q
theorem rangeT_len {n : Nat} : (rangeT 0 n).length = n := by unfold rangeT; rw [List.length_map, List.length_range]
theorem rangeT_map {n : Nat} (f : T → T) : (rangeT 0 n).map f = (List.range n).map fun (j : Nat) => f (.int j) := by
  unfold rangeT
  rw [List.map_map]
  refine List.map_congr_left fun j _ => ?_
  show f (.int (0 + (j : Int))) = _
  rw [Int.zero_add]
end Wp
namespace Wp
theorem isB_0 : isB "NoneType" "bool" = false := by decide
theorem isB_1 : isB "NoneType" "int" = false := by decide
theorem isB_2 : isB "NoneType" "str" = false := by decide
theorem isB_3 : isB "NoneType" "tuple" = false := by decide
theorem isB_4 : isB "NoneType" "list" = false := by decide
theorem isB_5 : isB "NoneType" "dict" = false := by decide
theorem isB_6 : isB "bool" "bool" = true := by decide
theorem isB_7 : isB "bool" "int" = true := by decide
theorem isB_8 : isB "bool" "str" = false := by decide
theorem isB_9 : isB "bool" "tuple" = false := by decide
theorem isB_10 : isB "bool" "list" = false := by decide
theorem isB_11 : isB "bool" "dict" = false := by decide
theorem isB_12 : isB "int" "bool" = false := by decide
theorem isB_13 : isB "int" "int" = true := by decide
theorem isB_14 : isB "int" "str" = false := by decide
theorem isB_15 : isB "int" "tuple" = false := by decide
theorem isB_16 : isB "int" "list" = false := by decide
theorem isB_17 : isB "int" "dict" = false := by decide
theorem isB_18 : isB "str" "bool" = false := by decide
theorem isB_19 : isB "str" "int" = false := by decide
theorem isB_20 : isB "str" "str" = true := by decide
theorem isB_21 : isB "str" "tuple" = false := by decide
theorem isB_22 : isB "str" "list" = false := by decide
theorem isB_23 : isB "str" "dict" = false := by decide
theorem isB_24 : isB "tuple" "bool" = false := by decide
theorem isB_25 : isB "tuple" "int" = false := by decide
theorem isB_26 : isB "tuple" "str" = false := by decide
theorem isB_27 : isB "tuple" "tuple" = true := by decide
theorem isB_28 : isB "tuple" "list" = false := by decide
theorem isB_29 : isB "tuple" "dict" = false := by decide
theorem isB_30 : isB "list" "bool" = false := by decide
theorem isB_31 : isB "list" "int" = false := by decide
theorem isB_32 : isB "list" "str" = false := by decide
theorem isB_33 : isB "list" "tuple" = false := by decide
theorem isB_34 : isB "list" "list" = true := by decide
theorem isB_35 : isB "list" "dict" = false := by decide
end Wp
namespace Wp
theorem goS_i {f : Sl → Sta → Prop} {σ : Sl} {S : Sta} (h : f σ S) : goS f σ S := h
end Wp
namespace Wp
theorem rangeT_ints {n : Nat} : rangeT 0 n = ((List.range n).map fun (j : Nat) => (j : Int)).map T.int := by
  unfold rangeT
  rw [List.map_map]
  refine List.map_congr_left fun j _ => ?_
  show T.int (0 + (j : Int)) = _
  rw [Int.zero_add]
  rfl
end Wp

set_option Elab.async false
set_option linter.all false
set_option maxRecDepth 100000
set_option maxHeartbeats 1000000
/-! all, any of a generator expression whose element is any expression -/
namespace Wp
open PySem PySem.Spec PyProof.Rows L2 GxR
/-- the context of a generator expression's frame -/
abbrev gblk (X : Cx) (A : Around) (s : Shared) (H : Hp) (cenv : Env) (fp : List Addr) (pn : List (Addr × Obj)) : Cx :=
  { X with A := A, s_0 := s, H_0 := H, env := cenv, outer := X.stack, stack := cenv :: X.stack, ex := fp, fn := fun _ => false, pn := pn, xe := fun _ _ => False }
theorem ne_of_none_left {H : Hp} {a b : Addr} {u : HO} (h : H a = none) (h' : H b = some u) : a ≠ b := by
  intro e; subst e; rw [h] at h'; cases h'
section
variable {X : Cx} {pins : List (Addr × Obj)} {σ : L2.St} {H : Hp} {s : Shared}
theorem inv_same {s' : Shared} (I : Inv X pins σ H s) (h1 : s'.heap = s.heap) (h2 : s'.os = s.os) (h3 : AllBare s'.gens) : Inv X pins σ H s' := by
  obtain ⟨hh, g, d, t, o⟩ := s'
  have e1 : hh = s.heap := h1
  have e2 : o = s.os := h2
  subst e1 e2
  exact ⟨I.ok, I.os, h3, I.base, I.loc, I.cell, I.free, I.freeC, I.pin, I.hok, I.len⟩
theorem gen_start {scope : Scope} {own : List (Str × Nat)} {fp : List Addr} {code : Value} {A : Around} {a : Addr} {go : Obj} {h5 : Heap} {gens5 : Array GenState} {tk : Nat} {m : Str → Option Value} (I : Inv X pins σ H s) (ok : BlkOk X.N X.env.scope scope own) (hN : X.N.Nodup)
    (hfp : ∀ b ∈ fp, FpOk X pins H b ∧ b < s.heap.objs.size) (nc : ∀ y ∈ scope.names, y.2 ≠ .cell) (hA : A.handled = X.A.handled)
    (hF : A.frames = some (genEnv scope (cloFrom X.env.cells scope.names []) s.heap.objs.size code builtinsNs X.env :: X.stack))
    (hn : h5.Ns s.heap.objs.size m) (hk : ∀ b o, s.heap.get? b = some o → h5.get? b = some o) (ha : h5.get? a = some go) (haC : s.heap.objs.size < a) (hgo : ∀ v, go.data ≠ .cell v) (hb : AllBare gens5) :
    Inv (gblk X A s H (genEnv scope (cloFrom X.env.cells scope.names []) s.heap.objs.size code builtinsNs X.env) fp [(a, go)]) [] (L2.wipe σ (own.map (·.2))) H { s with heap := h5, gens := gens5, toks := tk } := by
  have hfree : ∀ y ∈ scope.names, y.2 = .free → ∃ c, X.env.cells.lookup y.1 = some c := fun y hy e => by
    rcases ok.free y hy e with k | k
    · exact I.ok.has _ (.inl k)
    · exact I.ok.has _ (.inr k)
  have cm : ∀ {y c}, (y, c) ∈ cloFrom X.env.cells scope.names [] → X.env.cells.lookup y = some c ∧ c < s.heap.objs.size := fun {y c} hm => by
    rcases cloFrom_mem hm with hm | ⟨h1, rfl⟩
    · cases hm
    · obtain ⟨c, hc⟩ := hfree _ h1 rfl
      rw [hc]
      obtain ⟨w, z⟩ := I.cell _ _ hc
      exact ⟨rfl, z.lt⟩
  have mem : ∀ {y c}, (cloFrom X.env.cells scope.names []).lookup y = some c → X.env.cells.lookup y = some c ∧ c < s.heap.objs.size := fun {y c} e => cm (PySem.mem_of_lookup e)
  have look : ∀ {y}, scope.names.lookup y = some .free → ∃ c, (cloFrom X.env.cells scope.names []).lookup y = some c ∧ X.env.cells.lookup y = some c := fun {y} hl => by
    have hy : (y, NameKind.free) ∈ scope.names := PySem.mem_of_lookup hl
    obtain ⟨c', e'⟩ := mem_lookup (cloFrom_has (cells := X.env.cells) (acc := []) hy)
    exact ⟨c', e', (mem e').1⟩
  have nofr : ∀ b, s.heap.objs.size ≤ b → b ∉ frs X.stack := fun b hb hm => by
    rcases List.mem_cons.mp (I.stkSub b hm) with z | z
    · have := I.lt
      rw [z] at hb
      exact absurd (Nat.lt_of_lt_of_le this hb) (Nat.lt_irrefl _)
    · exact I.nofs hb z
  refine ⟨⟨I.ok.mod, ok.kind, I.ok.glob, rfl, Nat.le_refl _, fun y z c e1 e2 => I.ok.inj y z c (mem e1).1 (mem e2).1, fun y hy => ?_, fun y c z e => (by cases z), fun h => hA.trans (I.ok.hd h), hF, .inr ⟨rfl, rfl⟩, fun b hb => ⟨Nat.ne_of_lt (hfp b hb).2, fun y c e z => ?_⟩,
      I.bs, Nat.le_trans I.ok.bsz I.sz, fun b o e hb => ?_, fun b hb z => ?_, I.stack, I.stkFree⟩,
    rfl, hb, Un.kept hk, ⟨m, hn, fun i y av e1 e2 e3 => ?_⟩, fun y c e => ?_, I.hok.fresh (Nat.le_refl _), fun y c e => I.freeC y c (mem e).1, fun p hp => ?_, I.hok.kept hk, by rw [wipe_length]; exact I.len⟩
  · rcases hy with hy | hy
    · exact absurd rfl (nc _ (PySem.mem_of_lookup (show scope.names.lookup y = some .cell from hy)))
    · obtain ⟨c, h1, _⟩ := look hy
      exact ⟨c, h1⟩
  · exact (hfp b hb).1.2.2.2.2.1 y c (mem e).1 z
  · rcases (hfp b hb).1.2.2.2.1 with z | z
    · exact I.ok.noex b o e z
    · exact absurd (Nat.lt_of_lt_of_le (Heap.lt_size e) (Nat.le_trans I.ok.bsz z)) (Nat.lt_irrefl _)
  · rcases List.mem_cons.mp (I.stkSub b z) with z | z
    · exact (hfp b hb).1.2.1 z
    · exact (hfp b hb).1.2.2.1 z
  · obtain ⟨e2, hne⟩ := wipe_some e2
    have hfr : scope.names.lookup y = some .free := by
      have no : ∀ k, scope.names.lookup y = some k → ¬ (k = .local ∨ k = .cell) := fun k hk hh => by
        rcases ok.own _ (PySem.mem_of_lookup hk) hh with e' | e'
        · obtain ⟨p, hp, hpy⟩ := List.mem_map.mp e'
          have e3 := ok.ix p hp
          have : p.1 = y := hpy
          rw [this] at e3
          exact hne (List.mem_map.mpr ⟨p, hp, nodup_ix hN e3 e1⟩)
        · exact e' (List.mem_of_getElem? e1)
      rcases (show Vis scope y from e3) with e3 | e3 | e3
      · exact absurd (.inl rfl) (no _ e3)
      · exact absurd (.inr rfl) (no _ e3)
      · exact e3
    obtain ⟨m0, _, hl⟩ := I.loc
    have hvis : Vis X.env.scope y := (ok.free _ (PySem.mem_of_lookup hfr) rfl).elim (fun k => .inr (.inl k)) (fun k => .inr (.inr k))
    obtain ⟨w, r, q⟩ := hl i y av e1 e2 hvis
    refine ⟨w, r, .inr ⟨.inr hfr, ?_⟩⟩
    obtain ⟨c, h1, h2⟩ := look hfr
    rcases q with ⟨k, _⟩ | ⟨_, c', e', z⟩
    · have k : X.env.scope.names.lookup y = some .local := k
      rcases ok.free _ (PySem.mem_of_lookup hfr) rfl with k' | k' <;> rw [show X.env.scope.names.lookup y = _ from k'] at k <;> cases k
    · rw [h2] at e'; cases e'
      exact ⟨c, h1, z.keeps hk⟩
  · obtain ⟨w, z⟩ := I.cell y c (mem e).1
    exact ⟨w, z.keeps hk⟩
  · have e : p = (a, go) := by simpa using hp
    subst e
    exact ⟨ha, I.hok.fresh (Nat.le_of_lt haC), Nat.ne_of_gt haC, nofr _ (Nat.le_of_lt haC), hgo⟩
end
/-! ### the generator's own loop -/
def gR (X : Cx) (σ : L2.St) (g : Nat) (Q : VK) (sa : Bool) : GenEnd := fun n s₀ r s₁ => r = .ok .next ∧ (g < s₁.gens.size ∧ ∃ H', Inv X [] σ H' s₁ ∧ Q (.bl (!sa)) H')
def gY (X : Cx) (g : Nat) (Q : VK) (sa : Bool) : Protocol := fun n s₀ v s kap => ∃ b : Bool, v = .bool b ∧ g < s.gens.size ∧ ∃ H' σ', Inv X [] σ' H' s ∧ (b = sa → Q (.bl sa) H') ∧
  (b ≠ sa → ∀ s'' : Shared, s''.heap = s.heap → s''.os = s.os → AllBare s''.gens → g < s''.gens.size → kap (.send .none) s'')
/-- a turn of the reading -/
def TurnG (J : It) (gT : TG) (te : TE) (vs : List Nat) (σ : L2.St) (Q : VK) (sa : Bool) (W : Nat → Nat → Hp → Prop) : Prop := ∀ i m H, W i m H →
  (J.stop i H ∧ Q (.bl (!sa)) H) ∨ (J.go i H ∧ ∃ Nx : Hp → Prop, (∀ H', Nx H' → ∃ m', m' < m ∧ W (i + 1) m' H') ∧ ∀ x H', J.yld i H x H' → gT x (L2.wipe σ vs) H' fun σ2 H2 => L2.wipe σ2 vs = L2.wipe σ vs ∧
    te σ2 H2 fun y H4 => ∃ b : Bool, y = .bl b ∧ (b = sa → Q (.bl sa) H4) ∧ (b ≠ sa → Nx H4))
theorem seg_gl {X : Cx} {A₁ : Around} {tg iter elt : Expr} {scope : Scope} {gpos : Pos} {it : Addr} {g : Nat} {fp : List Addr} {tn : Nat → Heap → Prop} {J : It} {W : Nat → Nat → Hp → Prop} {vs : List Nat} {σ : L2.St} {Q : VK} {sa : Bool} {gT : TG} {te : TE}
    (hA : X.A = A₁.over (.compLoop (.GeneratorExp elt [⟨tg, iter, [], 0⟩] scope gpos) 0 (.ref it) .none X.env) []) (hex : X.ex = fp) (hxe : X.xe = fun _ _ => False) (hc : X.calm = true) (T : Turn X.prog X.w X.K tg J fp it tn) (hco : X.env.scope.isCoroutine = false) (pg : PG X tg gT) (pe : PE X elt te)
    (nop : ∀ b ∈ fp, ∀ p ∈ X.pn, p.1 ≠ b)
    (turn : TurnG J gT te vs σ Q sa W) :
    ∀ (n m i : Nat) (s₀ s : Shared) (H' : Hp), m < n → Inv X [] (L2.wipe σ vs) H' s → tn i s.heap → (∀ b ∈ fp, H' b = none) → W i m H' → g < s.gens.size →
      Seg (model X.prog X.w) A₁ (gR X (L2.wipe σ vs) g Q sa) (gY X g Q sa) n s₀ (.compLoop (.GeneratorExp elt [⟨tg, iter, [], 0⟩] scope gpos) 0 (.ref it) .none X.env)
        ((model X.prog X.w).den (.compLoop (.GeneratorExp elt [⟨tg, iter, [], 0⟩] scope gpos) 0 (.ref it) .none X.env)) [] s := by
  have stat : ∀ {σ' : L2.St} {H' : Hp} {s' : Shared}, Inv X [] σ' H' s' → (∀ b ∈ fp, H' b = none) → ∀ b ∈ fp, FpOk X [] H' b := fun {σ' H' s'} I' hn b hb =>
    ⟨hn b hb, (I'.ok.exf b (by rw [hex]; exact hb)).1, I'.ok.exfs b (by rw [hex]; exact hb), .inl (by rw [hex]; exact hb), fun x c e => (I'.ok.exf b (by rw [hex]; exact hb)).2 x c e, fun p hp => nop b hb p (by simpa using hp)⟩
  intro n
  induction n with
  | zero => intro m i s₀ s H' hm; exact absurd hm (Nat.not_lt_zero _)
  | succ n ih =>
    intro m i s₀ s H5 hm I5 st5 n5 w5 hg
    show Seg _ A₁ _ _ (n + 1) s₀ _ ((compTurn (.GeneratorExp elt [⟨tg, iter, [], 0⟩] scope gpos) 0 (.ref it) .none X.env).onRaise (leaving X.env)) [] s
    rw [compTurn_gen, Sem.onRaise_eq_wrap]
    refine seg_bind_wrap (wpAny_standAt ?_)
    refine seg_bind_wrap ?_
    rw [← hA]
    rcases turn i m H5 w5 with ⟨stop, qq⟩ | ⟨go, Nx, hNx, step⟩
    · refine GenW.wpAny_gsz hg (thnF (T.done X rfl rfl rfl hc i [] s _ H5 (fun _ _ => False) I5 (stat I5 n5) st5 stop) fun r s6 ⟨hr, I6⟩ g6 => ?_)
      subst hr
      exact seg_end (.ok .next) ⟨rfl, g6, H5, I6, qq⟩
    · refine GenW.wpAny_gsz hg (thnF (T.item X rfl rfl rfl hc i [] s _ H5 (fun _ _ => False) I5 (stat I5 n5) st5 go) fun r s6 ⟨u, hr, h6⟩ g6 => ?_)
      subst hr
      refine seg_bind_wrap ?_
      rw [← hA]
      refine GenW.wpAny_gsz g6 (thnF h6 fun _ s7 ⟨x, H7, I7, r7, y7, st7, n7⟩ g7 => ?_)
      have I7' := I7.pinned (stat I7 n7) (T.obj _ _ st7)
      refine seg_bind_wrap ?_
      rw [← hA]
      have pg7 := pg.run _ s7 _ H7 x u _ I7' r7 (step x H7 y7)
      have pe7 := pe.run
      rw [hxe] at pg7 pe7
      refine GenW.wpAny_gsz g7 (thnF pg7 fun _ s8 ⟨σ8, H8, I8, hw8, q8⟩ g8 => ?_)
      refine seg_bind_wrap ?_
      simp only [List.forIn_nil]
      refine wpAny_pure ?_
      simp only [if_true]
      have hy : ∀ v, yieldOut X.env v = yieldValue v := fun v => by simp only [yieldOut, hco, Bool.false_eq_true, if_false]
      simp only [hy]
      rw [Sem.bind_eq_wrap', Sem.bind_eq_wrap', Sem.wrap_wrap, Sem.wrap_wrap]
      refine seg_wrap ?_
      rw [← hA]
      refine GenW.wpAny_gsz g8 (thnF (pe7 _ s8 σ8 H8 _ I8 q8) fun y s9 ⟨yv, H9, I9, r9, b, eb, q1, q2⟩ g9 => ?_)
      subst eb
      have ey : y = Value.bool b := r9
      subst ey
      refine seg_at (seg_yield rfl rfl rfl ⟨b, rfl, g9, H9, σ8, I9.unpinned, q1, fun hb s'' e1 e2 e3 e4 => ?_⟩)
      obtain ⟨m', hm', w'⟩ := hNx H9 (q2 hb)
      have pin' : ∀ b ∈ fp, ∀ o, s7.heap.get? b = some o → s9.heap.get? b = some o ∧ H9 b = none := fun b hb o e =>
        let z := I9.pin (b, o) (List.mem_append_right _ (List.mem_append_right _ (mem_pinsAt hb e)))
        ⟨z.1, z.2.1⟩
      have hl : (L2.wipe σ vs).length = σ8.length := by rw [← hw8, wipe_length]
      have I10 : Inv X [] (L2.wipe σ vs) H9 s'' := inv_same ((I9.unpinned (pins := [])).weak hl (fun j v e => by rw [← hw8] at e; exact (wipe_some e).1)) e1 e2 e3
      refine seg_again rfl (ih m' (i + 1) s'' s'' H9 (by omega) I10 (T.keep _ _ _ st7 fun b hb o e => by rw [e1]; exact (pin' b hb o e).1) (fun b hb => ?_) w' e4)
      obtain ⟨o, e, _⟩ := T.obj _ _ st7 b hb
      exact (pin' b hb o e).2
/-! ### woken by pyNext; the consumers -/
def GReady (P : Program) (w : World) (A₁ : Around) (R : GenEnd) (Y : Protocol) (a : Addr) (g n : Nat) (s : Shared) : Prop := s.heap.IsGen a g ∧ s.heap.NoLimit ∧ AllBare s.gens ∧ ∃ gs, s.gens[g]? = some gs ∧
  ∀ s'' : Shared, s''.heap = s.heap → s''.os = s.os → AllBare s''.gens → g < s''.gens.size → gs.Goes (model P w) A₁ R Y n (.send .none) s''
section
variable {X : Cx} {A : Around} {σb : L2.St} {g : Nat} {a : Addr} {go : Obj} {Q : VK} {sa : Bool}
theorem next_g {n : Nat} {s : Shared} {E : Value → Shared → Prop} {Qn : Option Value → Shared → Prop} (hh : A.handled = none) (hroom : A.depth < recursionLimit) (hpn : X.pn = [(a, go)]) (hgo : ∃ nm qn, go.cls = .type "generator" ∧ go.data = .fields #[.int g 0, nm, qn] ∧ go.slots = #[])
    (hr : GReady X.prog X.w A.in1 (gR X σb g Q sa) (gY X g Q sa) a g n s)
    (h1 : ∀ b s' n', b ≠ sa → n = n' + 1 → GReady X.prog X.w A.in1 (gR X σb g Q sa) (gY X g Q sa) a g n' s' → Qn (some (.bool b)) s')
    (h2 : ∀ s' H' σ', Inv X [] σ' H' s' → Q (.bl sa) H' → Qn (some (.bool sa)) s') (h3 : ∀ s' H' σ', Inv X [] σ' H' s' → Q (.bl (!sa)) H' → Qn none s') : wpAny (model X.prog X.w) A (pyNext (.ref a)) Qn E s := by
  obtain ⟨hg, hl, hb, gs, hgs, hgo2⟩ := hr
  have hgl : g < s.gens.size := (Array.getElem?_eq_some_iff.mp hgs).1
  refine wpAny_pyNext_genexpQ (P := fun n s₀ s₁ => g < s₁.gens.size ∧ ∃ H', Inv X [] σb H' s₁ ∧ Q (.bl (!sa)) H') hh hl hroom hg hgs (hgo2 _ rfl rfl (allBare_setGen hb rfl) (by rw [GenW.setGen_size]; exact hgl)) (fun v s₁ gs' hbare hv => ?_) (fun s₁ hp h' hk => ?_)
  · obtain ⟨b, rfl, hg1, H', σ', I, q1, q2⟩ := hv
    by_cases e : b = sa
    · subst e
      exact h2 _ H' σ' (inv_same I rfl rfl (allBare_setGen I.bare hbare)) (q1 rfl)
    · cases n with
      | zero => exact (q2 e s₁ rfl rfl I.bare hg1 : False).elim
      | succ m =>
        obtain ⟨nm, qn, z1, z2, z3⟩ := hgo
        refine h1 b _ m e rfl ⟨⟨go, nm, qn, (I.pin (a, go) (by rw [hpn]; simp)).1, z1, z2, z3⟩, I.nolimit, allBare_setGen I.bare hbare, gs', setGen_at hg1, fun s'' e1 e2 e3 e4 => q2 e s'' e1 e2 e3 e4⟩
  · obtain ⟨hg1, H', I, q⟩ := hp
    exact h3 _ H' σb (inv_same (I.kept (t' := s₁.toks) hk) rfl rfl (allBare_setGen I.bare rfl)) q
variable {R : Result → Shared → Prop}
theorem all_g (hh : A.handled = none) (hroom : A.depth < recursionLimit) (hpn : X.pn = [(a, go)]) (hgo : ∃ nm qn, go.cls = .type "generator" ∧ go.data = .fields #[.int g 0, nm, qn] ∧ go.slots = #[])
    (hR : ∀ b s' H' σ', Inv X [] σ' H' s' → Q (.bl b) H' → R (.ok (.ret (.bool b))) s') :
    ∀ (n : Nat) (s : Shared), GReady X.prog X.w A.in1.in1 (gR X σb g Q false) (gY X g Q false) a g n s → codeAny (model X.prog X.w) A (.builtin "all.loop" ⟨[.ref a], []⟩) R s := by
  intro n
  induction n with
  | zero =>
    intro s hr
    refine codeAny_builtin F.entry_all_loop ?_
    rw [Around.under_plainId F.plain_all_loop _]
    show wpAny _ A.in1 (pyNext (.ref a) >>= _) _ _ s
    refine wpAny_bind (next_g (A := A.in1) hh hroom hpn hgo hr (fun b s' n' _ z _ => (by cases z)) (fun s' H' σ' I q => ?_) fun s' H' σ' I q => ?_)
    · refine wpAny_bind (wpAny_holding (wpAny_truthy_bool ?_))
      refine wpAny_bind (wpAny_letGo ?_)
      simp only [Bool.false_eq_true, if_false]
      exact wpAny_bind (wpAny_rule (wpAny_pure (hR false _ H' σ' I q)))
    · exact wpAny_bind (wpAny_rule (wpAny_pure (hR true _ H' σ' I q)))
  | succ n ih =>
    intro s hr
    refine codeAny_builtin F.entry_all_loop ?_
    rw [Around.under_plainId F.plain_all_loop _]
    show wpAny _ A.in1 (pyNext (.ref a) >>= _) _ _ s
    refine wpAny_bind (next_g (A := A.in1) hh hroom hpn hgo hr (fun b s' n' hb z hr' => ?_) (fun s' H' σ' I q => ?_) fun s' H' σ' I q => ?_)
    · cases z
      have eb : b = true := by cases b; exact absurd rfl hb; rfl
      subst eb
      refine wpAny_bind (wpAny_holding (wpAny_truthy_bool ?_))
      refine wpAny_bind (wpAny_letGo ?_)
      simp only [if_true]
      exact wpAny_pure ⟨plainId_quiet F.plain_all_loop _, ih _ hr'⟩
    · refine wpAny_bind (wpAny_holding (wpAny_truthy_bool ?_))
      refine wpAny_bind (wpAny_letGo ?_)
      simp only [Bool.false_eq_true, if_false]
      exact wpAny_bind (wpAny_rule (wpAny_pure (hR false _ H' σ' I q)))
    · exact wpAny_bind (wpAny_rule (wpAny_pure (hR true _ H' σ' I q)))
theorem any_g (hh : A.handled = none) (hroom : A.depth < recursionLimit) (hpn : X.pn = [(a, go)]) (hgo : ∃ nm qn, go.cls = .type "generator" ∧ go.data = .fields #[.int g 0, nm, qn] ∧ go.slots = #[])
    (hR : ∀ b s' H' σ', Inv X [] σ' H' s' → Q (.bl b) H' → R (.ok (.ret (.bool b))) s') :
    ∀ (n : Nat) (s : Shared), GReady X.prog X.w A.in1.in1 (gR X σb g Q true) (gY X g Q true) a g n s → codeAny (model X.prog X.w) A (.builtin "any.loop" ⟨[.ref a], []⟩) R s := by
  intro n
  induction n with
  | zero =>
    intro s hr
    refine codeAny_builtin F.entry_any_loop ?_
    rw [Around.under_plainId F.plain_any_loop _]
    show wpAny _ A.in1 (pyNext (.ref a) >>= _) _ _ s
    refine wpAny_bind (next_g (A := A.in1) hh hroom hpn hgo hr (fun b s' n' _ z _ => (by cases z)) (fun s' H' σ' I q => ?_) fun s' H' σ' I q => ?_)
    · refine wpAny_bind (wpAny_holding (wpAny_truthy_bool ?_))
      refine wpAny_bind (wpAny_letGo ?_)
      simp only [if_true]
      exact wpAny_bind (wpAny_rule (wpAny_pure (hR true _ H' σ' I q)))
    · exact wpAny_bind (wpAny_rule (wpAny_pure (hR false _ H' σ' I q)))
  | succ n ih =>
    intro s hr
    refine codeAny_builtin F.entry_any_loop ?_
    rw [Around.under_plainId F.plain_any_loop _]
    show wpAny _ A.in1 (pyNext (.ref a) >>= _) _ _ s
    refine wpAny_bind (next_g (A := A.in1) hh hroom hpn hgo hr (fun b s' n' hb z hr' => ?_) (fun s' H' σ' I q => ?_) fun s' H' σ' I q => ?_)
    · cases z
      have eb : b = false := by cases b; rfl; exact absurd rfl hb
      subst eb
      refine wpAny_bind (wpAny_holding (wpAny_truthy_bool ?_))
      refine wpAny_bind (wpAny_letGo ?_)
      simp only [Bool.false_eq_true, if_false]
      exact wpAny_pure ⟨plainId_quiet F.plain_any_loop _, ih _ hr'⟩
    · refine wpAny_bind (wpAny_holding (wpAny_truthy_bool ?_))
      refine wpAny_bind (wpAny_letGo ?_)
      simp only [if_true]
      exact wpAny_bind (wpAny_rule (wpAny_pure (hR true _ H' σ' I q)))
    · exact wpAny_bind (wpAny_rule (wpAny_pure (hR false _ H' σ' I q)))
end
/-! ### made -/
theorem over_gen {A : Around} {elt : Expr} {gs : List Comprehension} {sc : Scope} {p : Pos} {v u : Value} {env : Env} : A.over (.compLoop (.GeneratorExp elt gs sc p) 0 v u env) [] = A.deeper env := by
  first
    | rfl
    | (obtain ⟨hd, d, fr, gs, u⟩ := A; simp [Around.over, Around.deeper, marksOver, frameCount, unitsOf, envsOf, guardsOf, pushEnvs, pushGuards, Code.envs, Code.env?, Code.isFrame, Code.guards, Code.isGuard, Code.weight, Code.frames, Code.isCreation, Code.isCaller, Code.cUnits])
theorem seg_gs {X : Cx} {A₁ : Around} {tg iter elt : Expr} {scope : Scope} {gpos : Pos} {it : Addr} {g : Nat} {fp : List Addr} {tn : Nat → Heap → Prop} {J : It} {W : Nat → Nat → Hp → Prop} {vs : List Nat} {σ : L2.St} {Q : VK} {sa : Bool} {gT : TG} {te : TE}
    (hA : X.A = A₁.over (.compLoop (.GeneratorExp elt [⟨tg, iter, [], 0⟩] scope gpos) 0 (.ref it) .none X.env) []) (hex : X.ex = fp) (hxe : X.xe = fun _ _ => False) (hc : X.calm = true) (T : Turn X.prog X.w X.K tg J fp it tn) (hco : X.env.scope.isCoroutine = false) (pg : PG X tg gT) (pe : PE X elt te)
    (nop : ∀ b ∈ fp, ∀ p ∈ X.pn, p.1 ≠ b)
    (turn : TurnG J gT te vs σ Q sa W) (n m : Nat) (s : Shared) (H' : Hp) (hm : m < n) (I : Inv X [] (L2.wipe σ vs) H' s) (st : tn 0 s.heap) (hn : ∀ b ∈ fp, H' b = none) (w : W 0 m H') (hg : g < s.gens.size) :
      Seg (model X.prog X.w) A₁ (gR X (L2.wipe σ vs) g Q sa) (gY X g Q sa) n s (.compStart (.GeneratorExp elt [⟨tg, iter, [], 0⟩] scope gpos) 0 (.ref it) .none X.env)
        ((model X.prog X.w).den (.compStart (.GeneratorExp elt [⟨tg, iter, [], 0⟩] scope gpos) 0 (.ref it) .none X.env)) [] s := by
  have loop := seg_gl hA hex hxe hc T hco pg pe nop turn n m 0 s s H' hm I st hn w hg
  show Seg _ A₁ _ _ _ s _ ((compStart (.GeneratorExp elt [⟨tg, iter, [], 0⟩] scope gpos) 0 (.ref it) .none X.env).onRaise (leaving X.env)) [] s
  unfold compStart
  rw [Sem.onRaise_eq_wrap]
  show Seg _ A₁ _ _ _ s _ ((ask >>= _).wrap _ _ _ _) [] s
  refine seg_bind_wrap (wpAny_askSetting ?_)
  split
  · exact seg_again rfl loop
  · first
      | exact seg_bind_wrap (wpAny_rule (seg_bind_wrap (wpAny_standAt (seg_bind_wrap (T.self _ 0 s _ _ st (seg_again rfl loop))))))
      | (refine seg_bind_wrap (wpAny_rule ?_); show Seg _ A₁ _ _ _ s _ ((standAt iter.pos >>= _).wrap _ _ _ _) [] s; exact seg_bind_wrap (wpAny_standAt (seg_bind_wrap (T.self _ 0 s _ _ st (seg_again rfl loop)))))

def tAG (P : Addr) (sa : Bool) (wi : TI) (gT : TG) (te : TE) (vs : List Nat) : TE := fun σ H Q => wi σ H fun J H1 => TabG H1 P ∧ ∀ H2, Tabbed P H1 H2 → ∃ W : Nat → Nat → Hp → Prop, (∃ m, W 0 m H2) ∧ TurnG J gT te vs σ Q sa W
section
variable {X : Cx} {pins : List (Addr × Obj)} {σ : L2.St} {H : Hp} {s : Shared}
theorem gen_core {c P : Addr} {elt tg iter : Expr} {gpos : Pos} {scope : Scope} {own : List (Str × Nat)} {sa : Bool} {wi : TI} {gT : TG} {te : TE} {k : Nat} {Q : VK} {Q' : Value → Shared → Prop}
    (hr : Room (k + 1) X.A) (hc : X.calm = true) (hN : X.N.Nodup) (TB : TabB X.base X.mg c P) (hcode : X.env.code = .ref c) (ok : BlkOk X.N X.env.scope scope own) (nc : ∀ y ∈ scope.names, y.2 ≠ .cell) (hco : scope.isCoroutine = false) (dot : scope.names.lookup (".0" : Str) = some NameKind.local)
    (hi : PI X tg iter wi) (hs : ∀ v, genFold iter X.env v = pure v)
    (hg : ∀ (A : Around) (s : Shared) (H : Hp) (C : Addr) (code : Value) (fp : List Addr) (pn : List (Addr × Obj)), Room k A → PG (gblk X A s H (genEnv scope (cloFrom X.env.cells scope.names []) C code builtinsNs X.env) fp pn) tg gT)
    (he : ∀ (A : Around) (s : Shared) (H : Hp) (C : Addr) (code : Value) (fp : List Addr) (pn : List (Addr × Obj)), Room k A → PE (gblk X A s H (genEnv scope (cloFrom X.env.cells scope.names []) C code builtinsNs X.env) fp pn) elt te)
    (I : Inv X pins σ H s) (h : tAG P sa wi gT te (own.map (·.2)) σ H Q)
    (hQ : ∀ (Xb : Cx) (σb : L2.St) (a : Addr) (g : Nat) (go : Obj) (n : Nat) (s5 : Shared), Xb.prog = X.prog → Xb.w = X.w → Xb.pn = [(a, go)] → (∃ nm qn, go.cls = .type "generator" ∧ go.data = .fields #[.int g 0, nm, qn] ∧ go.slots = #[]) →
      GReady X.prog X.w X.A.in1.in1 (gR Xb σb g Q sa) (gY Xb g Q sa) a g n s5 → (∀ s' H' σ', Inv Xb [] σ' H' s' → Inv X pins σ H' s') → Q' (.ref a) s5) :
    wpAny (model X.prog X.w) X.A (eval (.GeneratorExp elt [⟨tg, iter, [], 0⟩] scope gpos) X.env) Q' X.xe s := by
  have hfree : ∀ y ∈ scope.names, y.2 = .free → ∃ c, X.env.cells.lookup y.1 = some c := fun y hy e => by
    rcases ok.free y hy e with k | k
    · exact I.ok.has _ (.inl k)
    · exact I.ok.has _ (.inr k)
  refine wpAny_GeneratorExp_make hco (closure_ok hfree) nc dot ok.kind (by have := hr.dp; omega) (thn (hi.run pins s σ H _ I h) fun xv s1 hx => thn hx fun itv s2 h2 => ?_) hs
  obtain ⟨it, fp, tn, J, H2, e, I2, T, st2, f2, hTab, q⟩ := h2
  subst e
  obtain ⟨ps, hP, ht⟩ := hTab
  have hPs : s2.heap.get? P = some { cls := .none, data := .fields ps } := I2.hok P _ hP
  have cd : PySem.W.CodeHd s2.heap c P := TB.code.keeps fun b u e => I2.bk b u e
  refine ⟨I2.nolimit, ?_⟩
  have cont : ∀ (code : Value) (h3 : Heap) (tk : Nat) (ps' : Array Value), Heap.ExtBut P s2.heap h3 → s2.heap.objs.size ≤ h3.objs.size → h3.get? P = some { cls := .none, data := .fields ps' } → (∃ more, ps' = ps ++ more) → TriplesOk ps'.toList →
      wpAny (model X.prog X.w) X.A (builtinsFor X.env.globals X.env.builtins) (fun bi s₄ =>
        ∀ h', h'.Ns s₄.heap.objs.size (fun y => if y = ".0" then some (.ref it) else none) → Heap.SameBut s₄.heap.objs.size (s₄.heap.push { cls := .type "frame", data := .dict #[] }) h' →
          Q' (.ref h'.objs.size) { s₄ with
            gens := s₄.gens.push (.fresh (.compStart (.GeneratorExp elt [⟨tg, iter, [], 0⟩] scope gpos) 0 (.ref it) .none (genEnv scope (cloFrom X.env.cells scope.names []) s₄.heap.objs.size code bi X.env))),
            toks := s₄.toks + 1 + 1 + 1,
            heap := h'.push { cls := .type "generator", data := .fields #[.int s₄.gens.size 0, .str "<genexpr>" (s₄.toks + 1), .str (X.env.qual ++ "<genexpr>") (s₄.toks + 1 + 1)] } }) X.xe { s2 with heap := h3, toks := tk } := by
    intro code h3 tk ps' hx hsz hP3 hmore ht3
    obtain ⟨bm, ob, e1, e2, e3, e4, e5, e6, e7, e8⟩ := TB.bm
    have keep3 : ∀ b u, b ≠ P → s2.heap.get? b = some u → h3.get? b = some u := fun b u hb e => hx b u hb e
    refine wpAny_builtinsFor (m := X.mg) (by rw [I2.ok.glob]; exact (I2.mod.glob.keeps I2.bk).extBut hx TB.gP) e1 e2 (keep3 _ _ e4 (I2.bk _ _ e5)) e6 e7 e8 ?_
    intro h' hn' hs'
    obtain ⟨more, em⟩ := hmore
    have I3 := inv_tab (more := more) (h' := h3) (g' := s2.gens) (d' := s2.drawn) (t' := tk) I2 hP keep3 (by rw [← em]; exact hP3) I2.bare
    have hT3 : Tabbed P H2 (upd H2 P (.tbl (ps ++ more))) := ⟨⟨ps ++ more, upd_same, by rw [← em]; exact ht3⟩, fun b hb => upd_ne hb⟩
    obtain ⟨W, ⟨m0, w0⟩, turn⟩ := q _ hT3
    generalize hH3 : upd H2 P (.tbl (ps ++ more)) = H3 at I3 w0 hT3
    have szf : ∀ b ∈ fp, b < s2.heap.objs.size := fun b hb => by
      obtain ⟨o, e, _⟩ := T.obj _ _ st2 b hb
      exact Heap.lt_size e
    have fneP : ∀ b ∈ fp, b ≠ P := fun b hb => ne_of_none_left (f2 b hb).1 hP
    have f3 : ∀ b ∈ fp, FpOk X pins H3 b ∧ b < h3.objs.size := fun b hb => by
      refine ⟨⟨?_, (f2 b hb).2⟩, Nat.lt_of_lt_of_le (szf b hb) hsz⟩
      rw [← hH3, upd_ne (fneP b hb)]
      exact (f2 b hb).1
    have hsz' : h'.objs.size = h3.objs.size + 1 := by rw [hs'.1, Heap.size_push]
    have keep5 : ∀ (o5 : Obj) b o, h3.get? b = some o → (h'.push o5).get? b = some o := fun o5 b o e => Heap.get?_push_of_some _ (hs'.extBut b o (Nat.ne_of_lt (Heap.lt_size e)) (Heap.get?_push_of_some _ e))
    have st5 : ∀ (o5 : Obj), tn 0 (h'.push o5) := fun o5 => T.keep _ _ _ st2 fun b hb o e => keep5 o5 b o (keep3 b o (fneP b hb) e)
    have hroom : Room k (X.A.in1.in1.deeper (genEnv scope (cloFrom X.env.cells scope.names []) h3.objs.size code builtinsNs X.env)) := ⟨hr.hd, by have := hr.dp; show X.A.depth + 1 + 3 * k + 5 < _; omega, by have := hr.un; show X.A.units + 1 + 1 + 3 + 16 * k + 200 < _; omega⟩
    generalize hgo : ({ cls := .type "generator", data := .fields #[.int s2.gens.size 0, .str "<genexpr>" (tk + 1), .str (X.env.qual ++ "<genexpr>") (tk + 1 + 1)] } : Obj) = go
    have hfr : go.isFreed = false := by rw [← hgo]; rfl
    have hgd : ∃ nm qn, go.cls = .type "generator" ∧ go.data = .fields #[.int s2.gens.size 0, nm, qn] ∧ go.slots = #[] := by rw [← hgo]; exact ⟨_, _, rfl, rfl, rfl⟩
    have I5 := gen_start (A := X.A.in1.in1.deeper (genEnv scope (cloFrom X.env.cells scope.names []) h3.objs.size code builtinsNs X.env)) (code := code) (a := h'.objs.size) (go := go) (h5 := h'.push go) (tk := tk + 1 + 1 + 1)
      (gens5 := s2.gens.push (.fresh (.compStart (.GeneratorExp elt [⟨tg, iter, [], 0⟩] scope gpos) 0 (.ref it) .none (genEnv scope (cloFrom X.env.cells scope.names []) h3.objs.size code builtinsNs X.env))))
      I3 ok hN f3 nc rfl (Around.frames_deeper (A := X.A.in1.in1) I.ok.frames) (hn'.push _) (keep5 go) (Heap.get?_push_size _ hfr) (show h3.objs.size < h'.objs.size by rw [hsz']; exact Nat.lt_succ_self _) (fun v e => by obtain ⟨_, _, _, z, _⟩ := hgd; rw [z] at e; cases e) (I2.bare.push rfl)
    refine hQ (gblk X (X.A.in1.in1.deeper (genEnv scope (cloFrom X.env.cells scope.names []) h3.objs.size code builtinsNs X.env)) { s2 with heap := h3, toks := tk } H3 (genEnv scope (cloFrom X.env.cells scope.names []) h3.objs.size code builtinsNs X.env) fp [(h'.objs.size, go)])
      (L2.wipe σ (own.map (·.2))) h'.objs.size s2.gens.size go (m0 + 1) _ rfl rfl rfl hgd ⟨?_, I5.nolimit, I5.bare, _, Array.getElem?_push_size .., fun s'' z1 z2 z3 z4 => ⟨rfl, ?_⟩⟩ fun s' H' σ' I6 => ?_
    · obtain ⟨nm, qn, z1, z2, z3⟩ := hgd
      exact ⟨go, nm, qn, Heap.get?_push_size _ hfr, z1, z2, z3⟩
    · refine seg_gs (X := gblk X (X.A.in1.in1.deeper (genEnv scope (cloFrom X.env.cells scope.names []) h3.objs.size code builtinsNs X.env)) { s2 with heap := h3, toks := tk } H3 (genEnv scope (cloFrom X.env.cells scope.names []) h3.objs.size code builtinsNs X.env) fp [(h'.objs.size, go)]) (tn := tn) (J := J) (W := W) (gT := gT) (te := te) over_gen.symm rfl rfl hc T hco (hg _ _ _ _ _ _ _ hroom) (he _ _ _ _ _ _ _ hroom) (fun b hb p hp => ?_) turn (m0 + 1) m0 s'' H3 (Nat.lt_succ_self _) (inv_same I5 z1 z2 z3) (by rw [z1]; exact st5 go) (fun b hb => (f3 b hb).1.1) w0 z4
      have e : p = (h'.objs.size, go) := by simpa using hp
      subst e
      have h1 : b < h'.objs.size := by rw [hsz']; exact Nat.lt_succ_of_lt (f3 b hb).2
      exact Nat.ne_of_gt h1
    · exact I3.call' (ch := fp) I6.os I6.base I6.hok I6.bare fun b hb => ⟨(f3 b hb).1.2.2.2.1, (f3 b hb).1.2.1, (f3 b hb).1.2.2.2.2.1, (f3 b hb).1.2.2.2.2.2⟩
  cases hf : codeAmong gpos ps.toList with
  | none =>
    refine wpAny_genexprCodeX hcode (cd.code hPs ht) (cd.tab hPs) hf fun c' h' tk hx hge hlt hco' _ htab' _ => ?_
    obtain ⟨o1, vs, f1, tf, fl, tg, inF, tx, tt, op, _, _, _, _, _, _, _, _, _, htr, _⟩ := hco'
    exact cont _ h' tk _ hx (Nat.le_trans hge (Nat.le_of_lt hlt)) htab'.2 ⟨_, rfl⟩ htr
  | some cv =>
    refine wpAny_genexprCode_hit hcode (cd.code hPs ht) hf ?_
    exact cont cv s2.heap s2.toks ps (Heap.ExtBut.refl _ _) (Nat.le_refl _) hPs ⟨#[], by simp⟩ ht
theorem pe_ag {nm : Str} {c P : Addr} {elt tg iter : Expr} {p pos gpos : Pos} {scope : Scope} {own : List (Str × Nat)} {sa : Bool} {wi : TI} {gT : TG} {te : TE} {k : Nat}
    (hr : Room (k + 1) X.A) (hc : X.calm = true) (hN : X.N.Nodup) (TB : TabB X.base X.mg c P) (hcode : X.env.code = .ref c) (ok : BlkOk X.N X.env.scope scope own) (nc : ∀ y ∈ scope.names, y.2 ≠ .cell) (hco : scope.isCoroutine = false) (dot : scope.names.lookup (".0" : Str) = some NameKind.local)
    (hi : PI X tg iter wi) (hs : ∀ v, genFold iter X.env v = pure v)
    (hg : ∀ (A : Around) (s : Shared) (H : Hp) (C : Addr) (code : Value) (fp : List Addr) (pn : List (Addr × Obj)), Room k A → PG (gblk X A s H (genEnv scope (cloFrom X.env.cells scope.names []) C code builtinsNs X.env) fp pn) tg gT)
    (he : ∀ (A : Around) (s : Shared) (H : Hp) (C : Addr) (code : Value) (fp : List Addr) (pn : List (Addr × Obj)), Room k A → PE (gblk X A s H (genEnv scope (cloFrom X.env.cells scope.names []) C code builtinsNs X.env) fp pn) elt te)
    (hx : Gl X nm) (hm : X.mg nm = none) (hw : (nm = "all" ∧ sa = false) ∨ (nm = "any" ∧ sa = true))
    (hst : starEach [.GeneratorExp elt [⟨tg, iter, [], 0⟩] scope gpos] X.env = (false, eval (.GeneratorExp elt [⟨tg, iter, [], 0⟩] scope gpos) X.env) :: starEach [] X.env := by rfl) :
    PE X (.Call (.Name nm p) [.GeneratorExp elt [⟨tg, iter, [], 0⟩] scope gpos] [] pos) (tAG P sa wi gT te (own.map (·.2))) := by
  refine ⟨fun pins s σ H Q I h => ?_⟩
  rcases hw with ⟨rfl, rfl⟩ | ⟨rfl, rfl⟩
  · refine wpAny_Call_Name_kw (ld_blt I hx hm boot_all ?_)
    refine PyProof.Rows.callWith_builtin1 ?_ hst (by rfl)
    rw [hst]
    show wpAny _ _ (spliced ((false, eval (.GeneratorExp elt [⟨tg, iter, [], 0⟩] scope gpos) X.env) :: backTo pos (starEach [] X.env))) _ _ s
    refine Calls.spliced_cons (gen_core hr hc hN TB hcode ok nc hco dot hi hs hg he I h fun Xb σb a g go n s5 q1 q2 hpn hgo hG hI => ?_)
    refine Calls.spliced_nil ?_
    refine call_function_tree F.kind_all F.plain_all F.entry_all (F.args_all1 _) ?_
    unfold Builtin.«all»
    refine wpAny_bind (m := oneArg "all" _) (wpAny_pure ?_)
    refine wpAny_bind (wpAny_pyIter_gen hG.1 ?_)
    rw [← q1, ← q2] at hG ⊢
    exact wpAny_pure ⟨plainId_quiet F.plain_all_loop _, all_g (X := Xb) hr.hd (by have := hr.dp; omega) hpn hgo (fun b s' H' σ' I' q => ⟨.bl b, H', hI s' H' σ' I', rfl, q⟩) n s5 hG⟩
  · refine wpAny_Call_Name_kw (ld_blt I hx hm boot_any ?_)
    refine PyProof.Rows.callWith_builtin1 ?_ hst (by rfl)
    rw [hst]
    show wpAny _ _ (spliced ((false, eval (.GeneratorExp elt [⟨tg, iter, [], 0⟩] scope gpos) X.env) :: backTo pos (starEach [] X.env))) _ _ s
    refine Calls.spliced_cons (gen_core hr hc hN TB hcode ok nc hco dot hi hs hg he I h fun Xb σb a g go n s5 q1 q2 hpn hgo hG hI => ?_)
    refine Calls.spliced_nil ?_
    refine call_function_tree F.kind_any F.plain_any F.entry_any (F.args_any1 _) ?_
    unfold Builtin.«any»
    refine wpAny_bind (m := oneArg "any" _) (wpAny_pure ?_)
    refine wpAny_bind (wpAny_pyIter_gen hG.1 ?_)
    rw [← q1, ← q2] at hG ⊢
    exact wpAny_pure ⟨plainId_quiet F.plain_any_loop _, any_g (X := Xb) hr.hd (by have := hr.dp; omega) hpn hgo (fun b s' H' σ' I' q => ⟨.bl b, H', hI s' H' σ' I', rfl, q⟩) n s5 hG⟩
end
end Wp

set_option Elab.async false
set_option linter.all false
set_option maxRecDepth 100000
set_option maxHeartbeats 1000000
/-! all, any over trees; the end of a law whose defs hold generator expressions -/
namespace Wp
open PySem PySem.Spec PyProof.Rows L2 GxR
theorem tabbed_ext {P : Addr} {H1 H2 : Hp} (h : TabG H1 P) (t : Tabbed P H1 H2) : Ext H1 H2 := by
  obtain ⟨ps, e, ht⟩ := h
  refine ⟨fun b xs q => ?_, fun b o u q => ?_, fun b ⟨qs, q, z⟩ => ?_⟩
  · rw [t.2 b (fun z => by rw [z, e] at q; cases q)]; exact q
  · rw [t.2 b (fun z => by rw [z, e] at q; cases q)]; exact q
  · by_cases hb : b = P
    · rw [hb]; exact t.1
    · exact ⟨qs, by rw [t.2 b hb]; exact q, z⟩
theorem tabbed_st {K : PySem.W.Frag} {S : Sta} {P : Addr} {H1 H2 : Hp} (h : TabG H1 P) (t : Tabbed P H1 H2) (s : St K S H1) : St K S H2 :=
  s.keep (tabbed_ext h t) fun a o q => t.2 a fun z => by
    obtain ⟨ps, e, _⟩ := h
    obtain ⟨u, hu, hs⟩ := s.has q
    rw [z, e] at hu
    cases hu
    exact hs
section
variable {B : Hp} {X : Cx}
def allW (g : WG) (te : WE) (stb : Sta → Prop) (σ : Sl) (Q : T → Sta → Prop) : List T → Sta → Prop
  | [], S => stb S ∧ Q (.bl true) S
  | x :: xs, S => stb S ∧ g x σ S fun σ2 S2 => te σ2 S2 fun y S3 => match y with
    | .bl b => wif b (allW g te stb σ Q xs S3) (Q (.bl false) S3)
    | _ => False
def anyW (g : WG) (te : WE) (stb : Sta → Prop) (σ : Sl) (Q : T → Sta → Prop) : List T → Sta → Prop
  | [], S => stb S ∧ Q (.bl false) S
  | x :: xs, S => stb S ∧ g x σ S fun σ2 S2 => te σ2 S2 fun y S3 => match y with
    | .bl b => wif b (Q (.bl true) S3) (anyW g te stb σ Q xs S3)
    | _ => False
def agW (sa : Bool) : WG → WE → (Sta → Prop) → Sl → (T → Sta → Prop) → List T → Sta → Prop := match sa with
  | false => allW
  | true => anyW
def wAll (wi : WI) (g : WG) (te : WE) (vs : List Nat) (σ : Sl) (S : Sta) (Q : T → Sta → Prop) : Prop := wi σ S fun xs stb S1 => allW g te stb (wipeT σ vs) Q xs S1
def wAny (wi : WI) (g : WG) (te : WE) (vs : List Nat) (σ : Sl) (S : Sta) (Q : T → Sta → Prop) : Prop := wi σ S fun xs stb S1 => anyW g te stb (wipeT σ vs) Q xs S1
def wAg (sa : Bool) (wi : WI) (g : WG) (te : WE) (vs : List Nat) (σ : Sl) (S : Sta) (Q : T → Sta → Prop) : Prop := wi σ S fun xs stb S1 => agW sa g te stb (wipeT σ vs) Q xs S1
theorem agW_stb {sa : Bool} {g : WG} {te : WE} {stb : Sta → Prop} {σ : Sl} {Q : T → Sta → Prop} {xs : List T} {S : Sta} (h : agW sa g te stb σ Q xs S) : stb S := by
  cases sa <;> cases xs <;> exact h.1
theorem agW_nil {sa : Bool} {g : WG} {te : WE} {stb : Sta → Prop} {σ : Sl} {Q : T → Sta → Prop} {S : Sta} (h : agW sa g te stb σ Q [] S) : Q (.bl (!sa)) S := by
  cases sa <;> exact h.2
theorem agW_cons {sa : Bool} {g : WG} {te : WE} {stb : Sta → Prop} {σ : Sl} {Q : T → Sta → Prop} {x : T} {xs : List T} {S : Sta} (h : agW sa g te stb σ Q (x :: xs) S) :
    ∃ F : Bool → Sta → Prop, (∀ b S3, F b S3 → (b = sa → Q (.bl sa) S3) ∧ (b ≠ sa → agW sa g te stb σ Q xs S3)) ∧ g x σ S fun σ2 S2 => te σ2 S2 fun y S3 => match y with
      | .bl b => F b S3
      | _ => False := by
  cases sa with
  | false => exact ⟨fun b S3 => wif b (allW g te stb σ Q xs S3) (Q (.bl false) S3), fun b S3 z => by cases b <;> exact ⟨fun e => (by first | exact wt z | exact wff z | cases e), fun e => (by first | exact wt z | exact wff z | exact absurd rfl e)⟩, h.2⟩
  | true => exact ⟨fun b S3 => wif b (Q (.bl true) S3) (anyW g te stb σ Q xs S3), fun b S3 z => by cases b <;> exact ⟨fun e => (by first | exact wt z | exact wff z | cases e), fun e => (by first | exact wt z | exact wff z | exact absurd rfl e)⟩, h.2⟩
theorem wipe_wipe (σ : L2.St) (vs : List Nat) : L2.wipe (L2.wipe σ vs) vs = L2.wipe σ vs := by
  have key : ∀ (us ws : List Nat) (τ : L2.St), (∀ i ∈ us, i ∈ ws) → L2.wipe (L2.wipe τ ws) us = L2.wipe τ ws := fun us => by
    induction us with
    | nil => intro ws τ _; rfl
    | cons u us ih =>
      intro ws τ hu
      show (L2.wipe (L2.wipe τ ws) us).set u none = L2.wipe τ ws
      rw [ih ws τ fun i hi => hu i (List.mem_cons_of_mem _ hi)]
      have hmem := hu u List.mem_cons_self
      have set_none : ∀ (ws : List Nat), u ∈ ws → (L2.wipe τ ws).set u none = L2.wipe τ ws := fun ws => by
        induction ws with
        | nil => intro h; cases h
        | cons w ws ih2 =>
          intro h
          show ((L2.wipe τ ws).set w none).set u none = (L2.wipe τ ws).set w none
          by_cases hw : u = w
          · subst hw; rw [List.set_set]
          · rw [List.set_comm _ _ (fun z => hw z.symm), ih2 ((List.mem_cons.mp h).resolve_left hw)]
      exact set_none ws hmem
  exact key vs vs σ fun i hi => hi
theorem le_ag {P : Addr} {sa : Bool} {wi : WI} {g : WG} {te : WE} {vs : List Nat} {σ : L2.St} {H : Hp} {Q : VK} (hB : TabG B P) (h : LE B X (wAg sa wi g te vs) σ H Q) : tAG P sa (LI B X wi) (LG X vs g) (LE B X te) vs σ H Q := by
  obtain ⟨st, S, Q0, he, hr, hs, h, im⟩ := h
  refine ⟨st, S, _, he, hr, hs, h, fun xs stb S1 h1 H1 e1 s1 J yl => ?_⟩
  have hP1 : TabG H1 P := (he.trans e1).tabs P hB
  refine ⟨hP1, fun HT hT => ?_⟩
  have eT := tabbed_ext hP1 hT
  refine ⟨fun i m H' => m = xs.length - i ∧ i ≤ xs.length ∧ ∃ S', Ext H1 H' ∧ St X.K S' H' ∧ agW sa g te stb (wipeT st vs) Q0 (xs.drop i) S', ⟨xs.length, by omega, Nat.zero_le _, _, eT, tabbed_st hP1 hT s1, h1⟩, fun i m H2 hW => ?_⟩
  obtain ⟨hm, hi, S2, e2, s2, h2⟩ := hW
  obtain ⟨y1, y2, y3⟩ := yl i S2 H2 e2 s2 (agW_stb h2)
  by_cases hlt : i < xs.length
  · refine .inr ⟨y1 hlt, fun H' => ∃ S', Ext H1 H' ∧ St X.K S' H' ∧ agW sa g te stb (wipeT st vs) Q0 (xs.drop (i + 1)) S', fun H' q => ⟨m - 1, by omega, by omega, by omega, q⟩, fun x H3 hy => ?_⟩
    obtain ⟨e3, s3, sl3, t, et, rt⟩ := y3 x H3 hy hlt
    have r3 := sl3 _ _ (((hr.mono e1).mono e2).wipe vs)
    rw [List.drop_eq_getElem_cons hlt] at h2
    have et' : xs[i] = t := by rw [List.getElem?_eq_getElem hlt] at et; exact Option.some.inj et
    rw [et'] at h2
    obtain ⟨F, hF, h2⟩ := agW_cons h2
    refine ⟨t, wipeT st vs, S2, _, rt, r3, s3, h2, fun st4 S4 h4 H4 σ4 e4 s4 r4 w4 => ⟨w4.trans (wipe_wipe σ vs), ?_⟩⟩
    have eb : Ext H1 H4 := e2.trans (e3.trans e4)
    refine ⟨st4, S4, _, he.trans (e1.trans eb), r4, s4, h4, fun y S6 h6 H6 v6 e6 s6 r6 => ?_⟩
    cases y with
    | bl b =>
      cases r6
      have z := hF b S6 h6
      exact ⟨b, rfl, fun hb => im _ _ (z.1 hb) H6 _ (e1.trans (eb.trans e6)) s6 (.bl _), fun hb => ⟨S6, eb.trans e6, s6, z.2 hb⟩⟩
    | _ => exact h6.elim
  · have ei : i = xs.length := by omega
    subst ei
    rw [List.drop_length] at h2
    exact .inl ⟨y2 (Nat.le_refl _), im _ _ (agW_nil h2) H2 _ (e1.trans e2) s2 (.bl _)⟩
/-- the table of a def with a generator expression -/
structure Tab1 (base : Heap) (mg : Str → Option Value) (tl : List Addr) (fd : FuncData) (c P : Addr) : Prop where
  code : fd.code = .ref c
  tab : TabB base mg c P
  mem : P ∈ tl
theorem j_ag {nm : Str} {c P : Addr} {elt tg iter : Expr} {p pos gpos : Pos} {scope : Scope} {own : List (Str × Nat)} {sa : Bool} {wi : WI} {g : WG} {te : WE} {k : Nat}
    (hr : Room (k + 1) X.A) (hc : X.calm = true) (hN : X.N.Nodup) (TB : TabB X.base X.mg c P) (hcode : X.env.code = .ref c) (hB : TabG B P) (ok : BlkOk X.N X.env.scope scope own) (nc : ∀ y ∈ scope.names, y.2 ≠ .cell) (hco : scope.isCoroutine = false) (dot : scope.names.lookup (".0" : Str) = some NameKind.local)
    (hi : JI B X tg iter wi) (hs : ∀ v, genFold iter X.env v = pure v)
    (hg : ∀ (A : Around) (s : Shared) (H : Hp) (C : Addr) (code : Value) (fp : List Addr) (pn : List (Addr × Obj)), Room k A → JG (gblk X A s H (genEnv scope (cloFrom X.env.cells scope.names []) C code builtinsNs X.env) fp pn) tg (own.map (·.2)) g)
    (he : ∀ (A : Around) (s : Shared) (H : Hp) (C : Addr) (code : Value) (fp : List Addr) (pn : List (Addr × Obj)), Room k A → JE B (gblk X A s H (genEnv scope (cloFrom X.env.cells scope.names []) C code builtinsNs X.env) fp pn) elt te)
    (hx : Gl X nm) (hm : X.mg nm = none) (hw : (nm = "all" ∧ sa = false) ∨ (nm = "any" ∧ sa = true))
    (hst : starEach [.GeneratorExp elt [⟨tg, iter, [], 0⟩] scope gpos] X.env = (false, eval (.GeneratorExp elt [⟨tg, iter, [], 0⟩] scope gpos) X.env) :: starEach [] X.env := by rfl) :
    JE B X (.Call (.Name nm p) [.GeneratorExp elt [⟨tg, iter, [], 0⟩] scope gpos] [] pos) (wAg sa wi g te (own.map (·.2))) :=
  pe_imp (pe_ag (gT := LG X (own.map fun (p : Str × Nat) => p.2) g) (te := LE B X te) hr hc hN TB hcode ok nc hco dot hi hs (fun A s H C code fp pn h => hg A s H C code fp pn h) (fun A s H C code fp pn h => he A s H C code fp pn h) hx hm hw hst) fun σ H Q h => le_ag hB h
theorem j_all {c P : Addr} {fd : FuncData} {tl : List Addr} {elt tg iter : Expr} {p pos gpos : Pos} {scope : Scope} {own : List (Str × Nat)} {wi : WI} {g : WG} {te : WE} {k : Nat}
    (hr : Room (k + 1) X.A) (t1 : Tab1 X.base X.mg tl fd c P) (hcd : X.env.code = fd.code) (ht : ∀ P ∈ tl, TabG B P) (hc : X.calm = true) (hN : X.N.Nodup) (ok : BlkOk X.N X.env.scope scope own) (nc : ∀ y ∈ scope.names, y.2 ≠ .cell)
    (hi : JI B X tg iter wi) (hs : ∀ v, genFold iter X.env v = pure v)
    (hg : ∀ (A : Around) (s : Shared) (H : Hp) (C : Addr) (code : Value) (fp : List Addr) (pn : List (Addr × Obj)), Room k A → JG (gblk X A s H (genEnv scope (cloFrom X.env.cells scope.names []) C code builtinsNs X.env) fp pn) tg (own.map (·.2)) g)
    (he : ∀ (A : Around) (s : Shared) (H : Hp) (C : Addr) (code : Value) (fp : List Addr) (pn : List (Addr × Obj)), Room k A → JE B (gblk X A s H (genEnv scope (cloFrom X.env.cells scope.names []) C code builtinsNs X.env) fp pn) elt te)
    (hx : Gl X "all") (hm : X.mg "all" = none) (hco : scope.isCoroutine = false := by rfl) (dot : scope.names.lookup (".0" : Str) = some NameKind.local := by rfl) :
    JE B X (.Call (.Name "all" p) [.GeneratorExp elt [⟨tg, iter, [], 0⟩] scope gpos] [] pos) (wAll wi g te (own.map (·.2))) :=
  j_ag (sa := false) hr hc hN t1.tab (hcd.trans t1.code) (ht P t1.mem) ok nc hco dot hi hs hg he hx hm (.inl ⟨rfl, rfl⟩)
theorem j_any {c P : Addr} {fd : FuncData} {tl : List Addr} {elt tg iter : Expr} {p pos gpos : Pos} {scope : Scope} {own : List (Str × Nat)} {wi : WI} {g : WG} {te : WE} {k : Nat}
    (hr : Room (k + 1) X.A) (t1 : Tab1 X.base X.mg tl fd c P) (hcd : X.env.code = fd.code) (ht : ∀ P ∈ tl, TabG B P) (hc : X.calm = true) (hN : X.N.Nodup) (ok : BlkOk X.N X.env.scope scope own) (nc : ∀ y ∈ scope.names, y.2 ≠ .cell)
    (hi : JI B X tg iter wi) (hs : ∀ v, genFold iter X.env v = pure v)
    (hg : ∀ (A : Around) (s : Shared) (H : Hp) (C : Addr) (code : Value) (fp : List Addr) (pn : List (Addr × Obj)), Room k A → JG (gblk X A s H (genEnv scope (cloFrom X.env.cells scope.names []) C code builtinsNs X.env) fp pn) tg (own.map (·.2)) g)
    (he : ∀ (A : Around) (s : Shared) (H : Hp) (C : Addr) (code : Value) (fp : List Addr) (pn : List (Addr × Obj)), Room k A → JE B (gblk X A s H (genEnv scope (cloFrom X.env.cells scope.names []) C code builtinsNs X.env) fp pn) elt te)
    (hx : Gl X "any") (hm : X.mg "any" = none) (hco : scope.isCoroutine = false := by rfl) (dot : scope.names.lookup (".0" : Str) = some NameKind.local := by rfl) :
    JE B X (.Call (.Name "any" p) [.GeneratorExp elt [⟨tg, iter, [], 0⟩] scope gpos] [] pos) (wAny wi g te (own.map (·.2))) :=
  j_ag (sa := true) hr hc hN t1.tab (hcd.trans t1.code) (ht P t1.mem) ok nc hco dot hi hs hg he hx hm (.inr ⟨rfl, rfl⟩)
end
end Wp
namespace Wp
open PySem PySem.Spec PyProof.Rows L2 GxR
/-! ### the end -/
/-- a def's code and its table, in what is known -/
structure TabK (K : PySem.W.Frag) (fd : FuncData) (c P : Addr) : Prop where
  code : fd.code = .ref c
  at_ : ∃ (e : Value) (dd : Option Addr) (vs : Array Value) (sl : Array (Option Value)), K.lookup c = some ⟨e, dd, .fields vs, sl⟩ ∧ vs[11]? = some (.ref P)
  no : K.lookup P = none
def DefG (K : PySem.W.Frag) (mg : Str → Option Value) (x : Str) (st : Stmt) (ps : List Str) : Prop := ∃ f fd c P, Fun K x x st f fd ∧ mg x = some (.ref f) ∧ Binds K fd ps [] ∧ TabK K fd c P
theorem defG_mk {K : PySem.W.Frag} {mg : Str → Option Value} {x : Str} {st : Stmt} {ps : List Str} {f cc PP : Addr} {oc : Value} {od an : Option Addr} {osl : Array (Option Value)} {kV doc pm cdv ct : Value} {e : Value} {dd : Option Addr} {vs : Array Value} {sl : Array (Option Value)}
    (hm : mg x = some (.ref f)) (l : K.lookup f = some ⟨oc, od, .func (PySem.W.fnOf x x (defArgs st) (defBody st) (defScope st) .none kV doc pm an cdv ct), osl⟩)
    (c : PySem.W.codeIn K cdv x = true) (k : PySem.W.keepIn K (.ref f) = true) (x1 : cdv = .ref cc) (x2 : K.lookup cc = some ⟨e, dd, .fields vs, sl⟩) (x3 : vs[11]? = some (.ref PP)) (x4 : (K.lookup PP).isNone = true)
    (h : ∀ (kV doc pm : Value) (an : Option Addr) (cdv ct : Value) (us : List Value), us.length = ps.length → bindArgs (PySem.W.fnOf x x (defArgs st) (defBody st) (defScope st) .none kV doc pm an cdv ct) ⟨us, []⟩ = pure (ps.zip us)) : DefG K mg x st ps :=
  ⟨f, _, cc, PP, fun_mk l c k, hm, (fun_mk l c k).binds h, x1, ⟨e, dd, vs, sl, x2, x3⟩, by simpa using x4⟩
/-- the empty tables at the head -/
def TabsE (K : PySem.W.Frag) (mg : Str → Option Value) (h : Heap) (names : List Str) : Prop := ∀ x ∈ names, ∀ f fd c P, mg x = some (.ref f) → (∃ oc od osl, K.lookup f = some ⟨oc, od, .func fd, osl⟩) → TabK K fd c P → h.get? P = some { cls := .none, data := .fields #[] } ∧ PySem.W.CodeHd h c P
theorem fn_frz {P : Program} {w : World} {K : PySem.W.Frag} {mg : Str → Option Value} {base : Heap} {k : Nat} {f : Addr} {fd : FuncData} {ps : List Str} {sp : Sp} (F : FnOk P w K mg base CX0 k f fd ps sp) :
    FnOk P w K mg base CX0 k f fd ps (fun vs H Q E => sp vs H Q E ∨ ∃ a xs, H a = some (.lst xs) ∧ ∀ o, sp vs (upd H a (.frz o (.lst xs))) Q E) := by
  refine ⟨fun vs H Q E h => ?_, fun A outer s H args us vs Q E hr e0 hb hv h => ?_⟩
  · rcases h with h | ⟨a, xs, _, h⟩
    · exact F.len _ _ _ _ h
    · exact F.len _ _ _ _ (h { cls := .none, data := .fields #[] })
  · rcases h with h | ⟨a, xs, ha, h⟩
    · exact F.run A outer s H args us vs Q E hr e0 hb hv h
    · obtain ⟨hz, its, n, rv, ho⟩ := e0.hok a _ ha
      generalize hob : ({ cls := .type "list", data := .seq its.toArray n } : Obj) = ob at ho
      have ne : ∀ {b : Addr} {u : HO}, H b = some u → u ≠ .lst xs → b ≠ a := fun {b u} e d z => by
        rw [z, ha] at e
        exact d (Option.some.inj e).symm
      have nn : ∀ {b : Addr}, H b = none → b ≠ a := fun {b} e z => by rw [z, ha] at e; cases e
      have at_ : ∀ {b : Addr}, b ≠ a → upd H a (.frz ob (.lst xs)) b = H b := fun {b} hb => upd_ne hb
      have hok' : HOk P w (upd H a (.frz ob (.lst xs))) s.heap := fun b u e => by
        by_cases hb : b = a
        · subst hb
          rw [upd_same] at e
          cases e
          exact ⟨ho, hz, its, n, rv, by rw [hob]; exact ho⟩
        · rw [at_ hb] at e
          exact (e0.hok b u e).stay (fun c v _ q => q) (fun c q => by rw [at_ (ne q (fun z => by cases z))]; exact q) fun c ys q => by rw [at_ (ne q (fun z => by cases z))]; exact q
      have e0' : Env0 P w K mg base A outer s (upd H a (.frz ob (.lst xs))) := ⟨e0.frames, e0.mod, fun b o e => ⟨(e0.bs b o e).1, by rw [at_ (nn (e0.bs b o e).2)]; exact (e0.bs b o e).2⟩, e0.bsz, e0.funs, fun b hb => by rw [at_ (nn (e0.frf b hb))]; exact e0.frf b hb, hok', e0.bare⟩
      refine codeAny_mono (F.run A outer s _ args us vs Q E hr e0' hb hv (h ob)) fun r s' hR => ?_
      cases r with
      | error e => exact hR
      | ok fl =>
        cases fl with
        | next => exact hR
        | brk => exact hR
        | cont => exact hR
        | ret u =>
          obtain ⟨v, H2, os, bare, un, hok2, rl, q⟩ := hR
          refine ⟨v, H2, os, bare, ⟨fun b o e n hb hx => un.keep b o e (by rw [at_ (nn n)]; exact n) hb hx, fun b o e n hb hx => un.slot b o e (by rw [at_ (nn n)]; exact n) hb hx, fun b o e n hx => un.free b o e (by rw [at_ (nn n)]; exact n) hx, un.there,
            fun b ys e => un.tups b ys (by rw [at_ (ne e (fun z => by cases z))]; exact e), fun b o ys e => un.frzs b o ys (by rw [at_ (ne e (fun z => by cases z))]; exact e), fun b qs e => un.tbls b qs (by rw [at_ (ne e (fun z => by cases z))]; exact e)⟩, hok2, rl, q⟩
theorem law_spT {tl : List Addr} (K : PySem.W.Frag) (H : Hp) (a : Addr) (ns : List Int) (hl : ns.length ≤ 63) (hT : ∀ P ∈ tl, TabG H P) (hf : FzL K H a (ns.map V.int)) : Lsp tl K 1 spLaw [.ref a] H (fun v _ => v = .bl true) fun _ _ _ => False := by
  refine ⟨hT, [.fl (ns.map .int)], fun _ => none, fun v _ => v = .bl true, fun _ _ => False, rfl, .cons (.fl hf (Reps.ints ns)) .nil, (fun b o q => by cases q), ⟨ns, rfl, hl, fun _ => rfl, fun _ => rfl⟩, fun v S e H' u _ _ r => ?_, fun _ _ _ q => q.elim⟩
  subst e
  cases r
  rfl
theorem law_spF {cs : List (Addr × Addr)} (K : PySem.W.Frag) (H : Hp) (a : Addr) (ns : List Int) (hl : ns.length ≤ 63) (hT : ∀ p ∈ cs, H p.2 = some (.tbl #[])) (hs : SqL K H a (ns.map V.int)) :
    (fun vs H Q E => Lsp (cs.map (·.2)) K 1 spLaw vs H Q E ∨ ∃ a xs, H a = some (.lst xs) ∧ ∀ o, Lsp (cs.map (·.2)) K 1 spLaw vs (upd H a (.frz o (.lst xs))) Q E) [.ref a] H (fun v _ => v = .bl true) fun _ _ _ => False := by
  have tg : ∀ P ∈ cs.map (·.2), TabG H P := fun P hP => by
    obtain ⟨p, hp, e⟩ := List.mem_map.mp hP
    subst e
    exact ⟨#[], hT p hp, by first | trivial | simp [TriplesOk]⟩
  rcases hs with (h | ⟨o, h⟩) | h
  · refine .inr ⟨a, _, h, fun o => law_spT K _ a ns hl (fun P hP => ?_) (.inl ⟨o, upd_same⟩)⟩
    obtain ⟨ps, e, t⟩ := tg P hP
    exact ⟨ps, by rw [upd_ne (fun z => by rw [z, h] at e; cases e)]; exact e, t⟩
  · exact .inl (law_spT K H a ns hl tg (.inl ⟨o, h⟩))
  · exact .inl (law_spT K H a ns hl tg (.inr h))
/-- the end: cs, the codes and tables of the defs that hold generator expressions -/
theorem law_walkT {l : PySem.W.OpenLaw} {k : Nat} {q : Program} {loose : List Str} {XP : (Str → Option Value) → Heap → Prop} {YP : World → Heap → Prop} {d : DefRec} {K : Params → PySem.W.Frag} {x : Str} (names : List Str)
    (hn : l.most = some 63) (hdf : d.params.defaults = []) (hr : Room k callerA) (hrec : (names.all fun x => (recsOf q).any fun e => e.name == x) = true)
    (hY : ∀ (w : World) (h : Heap), YP w h → (K w.params).In h)
    (F : ∀ (w : World) (mg : Str → Option Value) (fa : Addr) (h : Heap), (K w.params).In h → h.Ns mainGlobals mg → mg d.name = some (.ref fa) → TabsE (K w.params) mg h names →
      ∃ (fd : FuncData) (cs : List (Addr × Addr)), (∀ (s : Shared) (u : Value), BindsTo s fd ⟨[u], []⟩ [(x, u)]) ∧ (∀ p ∈ cs, h.get? p.2 = some { cls := .none, data := .fields #[] }) ∧ (∀ p ∈ cs, (K w.params).lookup p.2 = none) ∧ (∀ p ∈ cs, PySem.W.CodeHd h p.1 p.2) ∧
        ∀ base : Heap, (K w.params).In base → base.Ns mainGlobals mg → (∀ p ∈ cs, TabB base mg p.1 p.2) → FnOk l.prog w (K w.params) mg base CX0 k fa fd [x] (Lsp (cs.map (·.2)) (K w.params) 1 spLaw)) :
    PySem.W.WalkO q loose XP YP l.row.toRowW d [] (fun f vs => PySem.call f vs) := by
  refine Att.attach_callB hn hdf fun w s₀ s₁ mg mb fa o pm cd doc a vs ns G Y ho hd hcd hmg hobj hints hlen hbits hg => ?_
  have KX := hY w _ Y
  have tabs : TabsE (K w.params) mg s₁.heap names := fun x hx f fd c P k1 ⟨oc, od, osl, k2⟩ t => by
    obtain ⟨dL, hm, hn1⟩ := List.any_eq_true.mp (List.all_eq_true.mp hrec x hx)
    have hn2 : dL.name = x := beq_iff_eq.mp hn1
    obtain ⟨a', o', fd', c', P', h1, h2, h3, h4, h5, h6⟩ := G.T.tab dL hm
    rw [hn2, k1] at h1
    cases h1
    have g1 := KX _ _ k2
    rw [g1] at h2
    cases h2
    cases h3
    rw [t.code] at h4
    cases h4
    obtain ⟨e, dd, vs, sl, q1, q2⟩ := t.at_
    have hP := h6.2
    have hcd := PySem.W.CodeHd.of h5 h6
    obtain ⟨⟨oc2, vc, e1, _, e3, e4⟩, _⟩ := h6
    have g2 := KX _ _ q1
    rw [g2] at e1
    cases e1
    cases e3
    rw [q2] at e4
    cases e4
    exact ⟨hP, hcd⟩
  obtain ⟨fd, cs, hb, hT, nT, C, hF⟩ := F w mg fa _ KX G.T.g hmg tabs
  exact LamX.law_callTs KX G.T.g G.T.b G.T.builtins G.T.nolimit hg hT nT C G.T.bmain hobj hints (Nat.le_trans hlen (by decide)) hr (fun base hb hg2 hTB => fn_frz (hF base hb hg2 fun p hp => let z := hTB p hp; ⟨z.1, z.2, z.3⟩)) hb (fun H hH hS => law_spF (K w.params) H a ns hlen hH hS) fun H e s' h => h
end Wp

set_option Elab.async false
set_option linter.all false
set_option maxRecDepth 100000
set_option maxHeartbeats 1000000
/-! texts walked; sep.join of a list of texts -/
namespace Wp
open PySem PySem.Spec PyProof.Rows L2
section
variable {B : Hp} {X : Cx} {te : WE} {e : Expr}
/-- a text, sign by sign -/
def signsT (x : Str) : List T := x.cps.toList.map fun c => T.str ⟨#[c]⟩
def iStrW (te : WE) (σ : Sl) (S : Sta) (R : List T → (Sta → Prop) → Sta → Prop) : Prop := te σ S fun x S1 => match x with
  | .str x => R (signsT x) (fun _ => True) S1
  | _ => False
theorem ji_str {tg : Expr} (he : JE B X e te) : JI B X tg e (iStrW te) := pi_imp (pi_str he) fun σ H R ⟨st, S, Q0, he, hr, hs, h, im⟩ => by
  refine ⟨st, S, _, he, hr, hs, h, fun x S1 h1 H1 v1 e1 s1 r1 => ?_⟩
  cases x with
  | str x =>
    cases r1
    have hl : (signsT x).length = x.cps.size := by unfold signsT; rw [List.length_map, Array.length_toList]
    refine ⟨x, rfl, im _ _ _ h1 H1 e1 s1 _ fun i S2 H2 e2 s2 _ => ⟨fun hi => by rw [hl] at hi; exact hi, fun hi => by rw [hl] at hi; exact hi, fun y H' hy hi => ?_⟩⟩
    obtain ⟨eH, c, ec, ev⟩ := hy
    subst eH ev
    refine ⟨Ext.refl _, s2, fun _ _ q => q, .str ⟨#[c]⟩, ?_, .str _⟩
    unfold signsT
    rw [List.getElem?_map, Array.getElem?_toList, ec]
    rfl
  | _ => exact h1.elim
/-- the three sources told apart where the value has come -/
theorem pi_three {tg l : Expr} {tl : TE} (hl : PE X l tl) : PI X tg l fun σ H R => tl σ H fun x H1 => (∃ a, x = .ref a ∧ ((∃ xs, SqL X.K H1 a xs) ∧ R (Itl X.K a) H1 ∨ (∃ xs, SqT X.K H1 a xs) ∧ R (Itt X.K a) H1)) ∨ ∃ z, x = .str z ∧ R (Its z) H1 := by
  refine ⟨fun pins s σ H R I h => ?_⟩
  refine thn (hl.run pins s σ H _ I h) fun v s1 ⟨x, H1, I1, r1, q1⟩ => ?_
  rcases q1 with ⟨a, e, q1⟩ | ⟨z, e, q⟩
  · subst e
    cases r1
    rcases q1 with ⟨⟨xs, hq⟩, q⟩ | ⟨⟨xs, hq⟩, q⟩
    · obtain ⟨its, rv, p, hz⟩ := I1.list hq
      refine wpAny_pyIter_list p.isList ?_
      refine ⟨s1.heap.objs.size, [s1.heap.objs.size], _, _, H1, rfl, I1.kept (t' := s1.toks) fun b o e => Heap.get?_push_of_some _ e, turn_list a _, ⟨_, Heap.get?_push_size _ rfl, rfl, rfl⟩, fun b hb => ?_, q⟩
      have e : b = s1.heap.objs.size := by simpa using hb
      subst e
      exact I1.fpOk (Nat.le_refl _) (I1.hok.fresh (Nat.le_refl _))
    · obtain ⟨its, rv, p, hz⟩ := I1.tuple hq
      refine wpAny_pyIter_tuple (show s1.heap.IsTuple a its.toArray from p) ?_
      refine ⟨s1.heap.objs.size, [s1.heap.objs.size], _, _, H1, rfl, I1.kept (t' := s1.toks) fun b o e => Heap.get?_push_of_some _ e, turn_tuple a _, ⟨_, Heap.get?_push_size _ rfl, rfl, rfl⟩, fun b hb => ?_, q⟩
      have e : b = s1.heap.objs.size := by simpa using hb
      subst e
      exact I1.fpOk (Nat.le_refl _) (I1.hok.fresh (Nat.le_refl _))
  · subst e
    obtain ⟨t, rfl⟩ := r1
    cases ha : z.cps.all (· < 128)
    · exact wpAny_pyIter_wide ha (pi_one (tk := s1.toks) I1 _ (turn_str _ z t "str_iterator" (.inr rfl)) ⟨_, Heap.get?_push_size _ rfl, rfl, rfl⟩ q)
    · exact wpAny_pyIter_ascii ha (pi_one (tk := s1.toks) I1 _ (turn_str _ z t "str_ascii_iterator" (.inl rfl)) ⟨_, Heap.get?_push_size _ rfl, rfl, rfl⟩ q)
def iAnyW (te : WE) (σ : Sl) (S : Sta) (R : List T → (Sta → Prop) → Sta → Prop) : Prop := te σ S fun x S1 => match x with
  | .tup ts => R ts (fun _ => True) S1
  | .fl ts => R ts (fun _ => True) S1
  | .ref p => ∃ ts, S1 p = some (.lst ts) ∧ R ts (fun S' => S' p = some (.lst ts)) S1
  | .str z => R (signsT z) (fun _ => True) S1
  | _ => False
theorem ji_any {tg : Expr} (he : JE B X e te) : JI B X tg e (iAnyW te) := pi_imp (pi_three he) fun σ H R ⟨st, S, Q0, he, hr, hs, h, im⟩ => by
  refine ⟨st, S, _, he, hr, hs, h, fun x S1 h1 H1 v1 e1 s1 r1 => ?_⟩
  cases x with
  | tup ts =>
    cases r1 with
    | @tup a xs _ g10 g2 =>
      have g1 := sqT_of (K := X.K) g10
      refine .inl ⟨a, rfl, .inr ⟨⟨xs, g1⟩, im _ _ _ h1 H1 e1 s1 _ fun i S2 H2 e2 s2 _ => ⟨fun hi => ?_, fun hi => ⟨xs, e2.sqT g1, by rw [← g2.length]; exact hi⟩, fun x H' y hi => ?_⟩⟩⟩
      · obtain ⟨v, g3, _⟩ := g2.get (List.getElem?_eq_getElem hi)
        exact ⟨xs, v, e2.sqT g1, g3⟩
      · obtain ⟨eH, y⟩ := y
        subst eH
        obtain ⟨v, g3, g4⟩ := g2.get (List.getElem?_eq_getElem hi)
        have ev : x = v := Option.some.inj ((y xs (e2.sqT g1)).symm.trans g3)
        subst ev
        exact ⟨Ext.refl _, s2, fun _ _ q => q, _, List.getElem?_eq_getElem hi, Rep.mono e2 _ _ g4⟩
  | fl ts =>
    cases r1 with
    | @fl a xs _ g1 g2 =>
      refine .inl ⟨a, rfl, .inl ⟨⟨xs, g1.sq⟩, im _ _ _ h1 H1 e1 s1 _ fun i S2 H2 e2 s2 _ => ⟨fun hi => ?_, fun hi => ⟨xs, (e2.fzL g1).sq, by rw [← g2.length]; exact hi⟩, fun x H' y hi => ?_⟩⟩⟩
      · obtain ⟨v, g3, _⟩ := g2.get (List.getElem?_eq_getElem hi)
        exact ⟨xs, v, (e2.fzL g1).sq, g3⟩
      · obtain ⟨eH, y⟩ := y
        subst eH
        obtain ⟨v, g3, g4⟩ := g2.get (List.getElem?_eq_getElem hi)
        have ev : x = v := Option.some.inj ((y xs ((e2.fzL g1).sq)).symm.trans g3)
        subst ev
        exact ⟨Ext.refl _, s2, fun _ _ q => q, _, List.getElem?_eq_getElem hi, Rep.mono e2 _ _ g4⟩
  | ref p =>
    obtain ⟨ts, eS, h1⟩ := h1
    cases r1
    obtain ⟨xs0, g10, g20⟩ := s1 p _ eS
    refine .inl ⟨p, rfl, .inl ⟨⟨xs0, .inl (.inl g10)⟩, im _ _ _ h1 H1 e1 s1 _ fun i S2 H2 e2 s2 stb => ?_⟩⟩
    obtain ⟨xs, g1, g2⟩ := s2 p _ stb
    refine ⟨fun hi => ?_, fun hi => ⟨xs, .inl (.inl g1), by rw [← g2.length]; exact hi⟩, fun x H' y hi => ?_⟩
    · obtain ⟨v, g3, _⟩ := g2.get (List.getElem?_eq_getElem hi)
      exact ⟨xs, v, .inl (.inl g1), g3⟩
    · obtain ⟨eH, y⟩ := y
      subst eH
      obtain ⟨v, g3, g4⟩ := g2.get (List.getElem?_eq_getElem hi)
      have ev : x = v := Option.some.inj ((y xs (.inl (.inl g1))).symm.trans g3)
      subst ev
      exact ⟨Ext.refl _, s2, fun _ _ q => q, _, List.getElem?_eq_getElem hi, g4⟩
  | str x =>
    cases r1
    have hl : (signsT x).length = x.cps.size := by unfold signsT; rw [List.length_map, Array.length_toList]
    refine .inr ⟨x, rfl, im _ _ _ h1 H1 e1 s1 _ fun i S2 H2 e2 s2 _ => ⟨fun hi => by rw [hl] at hi; exact hi, fun hi => by rw [hl] at hi; exact hi, fun y H' hy hi => ?_⟩⟩
    obtain ⟨eH, c, ec, ev⟩ := hy
    subst eH ev
    refine ⟨Ext.refl _, s2, fun _ _ q => q, .str ⟨#[c]⟩, ?_, .str _⟩
    unfold signsT
    rw [List.getElem?_map, Array.getElem?_toList, ec]
    rfl
  | _ => exact h1.elim
/-- sep.join(..) of a list or a tuple of texts -/
def wJoin (to te : WE) (σ : Sl) (S : Sta) (Q : T → Sta → Prop) : Prop := to σ S fun x S1 => match x with
  | .str a => te σ S1 fun y S2 => ∃ ys : List Str, itemsT S2 y = some (ys.map T.str) ∧ (ys.map (·.length)).sum + ys.length * a.length ≤ 16777216 ∧ Q (.str (Txt.join a ys)) S2
  | _ => False
theorem j_join {o : Expr} {to : WE} {apos pos : Pos} (ho : JE B X o to) (he : JE B X e te) (hs : starEach [e] X.env = [(false, eval e X.env)] := by rfl) (hbase : attributeBase o "join" X.env (eval o X.env) = eval o X.env := by rfl) (hline : (apos.endLine == pos.line) = true := by rfl) :
    JE B X (.Call (.Attribute o "join" apos) [e] [] pos) (wJoin to te) := pe_imp (pe_join ho he hs hbase hline) fun σ H Q ⟨st, S, Q0, he, hr, hs, h, im⟩ => by
  refine ⟨st, S, _, he, hr, hs, h, fun x S1 h1 H1 v1 e1 s1 r1 => ?_⟩
  cases x with
  | str a =>
    cases r1
    refine ⟨⟨a, rfl⟩, st, S1, _, he.trans e1, hr.mono e1, s1, h1, fun y S2 h2 H2 v2 e2 s2 r2 => ?_⟩
    obtain ⟨ys, hy, hz, q⟩ := h2
    obtain ⟨p, xs, rfl, hp, r3⟩ := items_sq s2 r2 hy
    have ex := r3.strsV
    subst ex
    exact ⟨a, p, ys, rfl, rfl, hp.imp id sqT_of, hz, im _ _ q H2 _ (e1.trans e2) s2 (.str _)⟩
  | _ => exact h1.elim
end
end Wp

set_option Elab.async false
set_option linter.all false
set_option maxRecDepth 100000
set_option maxHeartbeats 1000000
/-! enumerate(list or tuple, start=k) -/
namespace Wp
open PySem PySem.Spec PyProof.Rows L2
section
variable {M : Model} {A : Around} {E : Value → Shared → Prop} {s : Shared} {env : Env}
theorem callWith_typeKw {pos : Pos} {T : String} {e : Expr} {rest : List Expr} {kws : List Keyword} {Q : Value → Shared → Prop}
    (h : wpAny M A (spliced (backTo pos (starEach (e :: rest) env))) (fun vs s₁ => wpAny M A (evalAll ((backToKw pos (keywordEach kws env)).map (·.2)))
      (fun kvs s₂ => wpAny M A (call (.type T) vs (((backToKw pos (keywordEach kws env)).filterMap (·.1)).zip kvs)) Q E s₂) E s₁) E s)
    (he : backTo pos (starEach (e :: rest) env) = (false, eval e env) :: backTo pos (starEach rest env) := by rfl)
    (hplain : (backTo pos (starEach (e :: rest) env)).any (·.1) = false := by rfl)
    (hall : (backToKw pos (keywordEach kws env)).all (·.1.isSome) = true := by rfl)
    (hkw : (backToKw pos (keywordEach kws env)).any (·.1.isNone) = false := by rfl) :
    wpAny M A (callWith pos (.type T) [] (backTo pos (starEach (e :: rest) env)) (backToKw pos (keywordEach kws env))) Q E s := by
  have hev : wpAny M A (evalArgs (.type T) true (backTo pos (starEach (e :: rest) env)) (backToKw pos (keywordEach kws env))) (fun a s₁ => wpAny M A (call (.type T) ([] ++ a.pos) a.kw) Q E s₁) E s := by
    rw [he] at h ⊢
    exact evalArgs_kwB hall h
  unfold callWith
  refine wpAny_bind (wpAny_holding (wpAny_mono hev (fun a s₁ h₁ => wpAny_bind (wpAny_standAt ?_)) fun _ _ x => x))
  simp only [hplain, hkw, Bool.or_false]
  refine wpAny_bind (wpAny_pure ?_)
  exact wpAny_bind (wpAny_mono h₁ (fun r s₂ hr => wpAny_bind (wpAny_holding (wpAny_point (wpAny_pure hr)))) fun _ _ x => x)
end
/-- the n items in new pairs, counted from k -/
def IteS (Sq : Hp → List V → Prop) (k : Int) (n : Nat) : It :=
  ⟨fun i H => ∃ (xs : List V) (x : V), Sq H xs ∧ xs.length = n ∧ xs[i]? = some x, fun i H v H' => ∃ T x, v = .ref T ∧ H T = none ∧ H' = upd H T (.tup [.int (k + (i : Nat)), x]) ∧ ∀ xs, Sq H xs → xs[i]? = some x, fun i H => ∃ xs : List V, Sq H xs ∧ xs.length = n ∧ n ≤ i⟩
/-- what the counting asks of the walked thing -/
structure Src (P : Program) (w : World) (K : PySem.W.Frag) (Sq : Hp → List V → Prop) (it : Addr) (St : Nat → Heap → Prop) : Prop where
  obj : ∀ i h, St i h → ∃ o : Obj, h.get? it = some o ∧ ∀ v, o.data ≠ .cell v
  keep : ∀ i (h h' : Heap), St i h → (∀ o, h.get? it = some o → h'.get? it = some o) → St i h'
  inj : ∀ (X : Cx) pins σ H s xs ys, X.prog = P → X.w = w → X.K = K → Inv X pins σ H s → Sq H xs → Sq H ys → xs = ys
  draws : ∀ (X : Cx) pins σ H s xs, X.prog = P → X.w = w → X.K = K → Inv X pins σ H s → Sq H xs → X.A.handled = none → (∃ i, St i s.heap) →
    ∃ (its : List Value) (a : Addr) (St2 : Nat → Heap → Prop), Vals xs its ∧ Draws P w X.A.in1 it [it, a] its.length (fun i v => its[i]? = some v) St2 ∧ (∃ o : Obj, s.heap.get? a = some o ∧ o.cls ≠ .type "enumerate") ∧
      (∀ i, St i s.heap → St2 i s.heap) ∧ ∀ i h, St2 i h → St i h
theorem turn_enumS {P : Program} {w : World} {K : PySem.W.Frag} {Sq : Hp → List V → Prop} {St : Nat → Heap → Prop} {elts : List Expr} {kk : Nat} {tpos : Pos} (e it : Addr) (k : Int) (n : Nat) (D : Src P w K Sq it St) :
    Turn P w K (.Tuple elts kk tpos) (IteS Sq k n) [e, it] e (fun i h => (∃ old, IsEnum h e it (k + ((i : Nat) : Int)) old) ∧ St i h ∧ e ≠ it ∧ i ≤ n) where
  mem := by simp
  obj := fun i h st b hb => by
    obtain ⟨⟨old, he⟩, hit, _⟩ := st
    have e' : b = e ∨ b = it := by simpa using hb
    rcases e' with z | z
    · rw [z]; exact ⟨_, he, fun v q => nomatch q⟩
    · rw [z]; exact D.obj i h hit
  keep := fun i h h' st k => let ⟨⟨old, he⟩, hi, hne⟩ := st; ⟨⟨old, k e (by simp) _ he⟩, D.keep i h h' hi fun o q => k it (by simp) o q, hne⟩
  item := by
    intro X hP hw hK hc i pins s σ H E I hf st hg
    obtain ⟨⟨old, he⟩, hit, hne, hin⟩ := st
    obtain ⟨xs, x, hq, hn, hx⟩ := hg
    obtain ⟨its, a, St2, rv, DD, ⟨oa, hoa, hna⟩, s1, s2⟩ := D.draws X pins σ H s xs hP hw hK I hq (I.ok.hd hc) ⟨i, hit⟩
    subst hP hw hK
    obtain ⟨u, hu, ru⟩ := rv.get hx
    have hel : e < s.heap.objs.size := Heap.lt_size he
    have hil : it < s.heap.objs.size := by obtain ⟨_, q, _⟩ := D.obj i _ hit; exact Heap.lt_size q
    have hea : e ≠ a := fun z => by
      have he' : s.heap.get? e = some _ := he
      rw [z, hoa] at he'
      exact hna (congrArg Obj.cls (Option.some.inj he'))
    have hil2 : i < its.length := (List.getElem?_eq_some_iff.mp hu).1
    have hlen := rv.length
    refine wpAny_pyNext_enum_itemC DD he (s1 i hit) hil2 hne (by simp [hne, hea]) fun x' h' tk px ho hit' hT hsz hk => ?_
    have ex : x' = u := Option.some.inj (px.symm.trans hu)
    subst ex
    refine ⟨_, rfl, wpAny_letOwnedTupleGo_enum (s := { s with heap := h', toks := tk + 1 }) ho fun h'' he' sb => ?_⟩
    have hT2 : h''.get? s.heap.objs.size = some { cls := .type "tuple", data := .seq #[.int (k + (i : Nat)) tk, x'] } := (sb.2 _ (Nat.ne_of_gt hel)).trans hT
    have new : ObjOk X.prog X.w (upd H s.heap.objs.size (.tup [.int (k + (i : Nat)), x])) h'' s.heap.objs.size (.tup [.int (k + (i : Nat)), x]) :=
      ⟨by show 2 ≤ sizeLine; decide, [.int (k + (i : Nat)) tk, x'], .cons ⟨_, rfl⟩ (.cons ru .nil), ⟨_, hT2, rfl, _, rfl⟩⟩
    have I1 : Inv X pins σ (upd H s.heap.objs.size (.tup [.int (k + (i : Nat)), x])) { s with heap := h'', toks := tk + 1 } :=
      I.turnedNew (ch := [e, it]) (fun b ob hb q => (sb.2 b (fun z => hb (by simp [z]))).trans (hk b ob (fun z => hb (by simp [z])) (fun z => hb (by simp [z])) q)) hf (Nat.le_refl _) new
    refine ⟨.ref s.heap.objs.size, _, I1, rfl, ⟨_, x, rfl, I.hok.fresh (Nat.le_refl _), rfl, fun ys hy => by rw [D.inj X pins σ H s _ _ rfl rfl rfl I hy hq]; exact hx⟩, ⟨⟨x', ?_⟩, D.keep _ _ _ (s2 _ _ hit') (fun o q => (sb.2 it (Ne.symm hne)).trans q), hne, by omega⟩, fun b hb => ?_⟩
    · have e1 : k + ((i + 1 : Nat) : Int) = k + (i : Int) + 1 := by omega
      rw [e1]; exact he'
    · have hb' : b < s.heap.objs.size := by
        have e' : b = e ∨ b = it := by simpa using hb
        rcases e' with z | z
        · rw [z]; exact hel
        · rw [z]; exact hil
      rw [upd_ne (Nat.ne_of_lt hb')]
      exact (hf b hb).1
  done := by
    intro X hP hw hK hc i pins s σ H E I hf st hg
    obtain ⟨⟨old, he⟩, hit, hne, hin⟩ := st
    obtain ⟨xs, hq, hn, hx⟩ := hg
    obtain ⟨its, a, St2, rv, DD, ⟨oa, hoa, hna⟩, s1, s2⟩ := D.draws X pins σ H s xs hP hw hK I hq (I.ok.hd hc) ⟨i, hit⟩
    subst hP hw hK
    obtain ⟨f0, f1, f2, f3, f4, f5⟩ := hf it (by simp)
    have hlen := rv.length
    have ei : i = its.length := by omega
    exact wpAny_pyNext_enum_endD DD he (by rw [← ei]; exact s1 i hit) fun h' eb => ⟨rfl, I.turned (t' := s.toks) (fun b o hb q => eb b o hb q) f0 f1 f3 f4 f5⟩
  self := fun A i s Q E st h => let ⟨⟨_, he⟩, _⟩ := st; wpAny_pyIter_enum he h
theorem src_list {P : Program} {w : World} {K : PySem.W.Frag} (a it : Addr) (hne : a ≠ it) : Src P w K (fun H xs => SqL K H a xs) it (fun i h => h.IsListIter it a i) where
  obj := fun i h st => by
    obtain ⟨o, ho, hc, hd⟩ := st
    exact ⟨o, ho, fun v q => by rw [hd] at q; cases q⟩
  keep := fun i h h' st k => st.at k
  inj := fun X pins σ H s xs ys hP hw hK I h1 h2 => by
    subst hK
    exact I.list_inj h1 h2
  draws := fun X pins σ H s xs hP hw hK I hq hh _ => by
    subst hP hw hK
    obtain ⟨its, rv, p, hz⟩ := I.list hq
    have D := Draws.list (prog := X.prog) (w := X.w) (A := X.A.in1) hh it a hne its.toArray
    refine ⟨its, a, fun i h => h.IsListIter it a i ∧ h.IsList a its.toArray, rv, by simpa using D, ?_, fun i st => ⟨st, p.isList⟩, fun i h st => st.1⟩
    obtain ⟨o, n, e, c, _⟩ := p
    exact ⟨o, e, by rw [c]; decide⟩
theorem src_tup {P : Program} {w : World} {K : PySem.W.Frag} (a it : Addr) (hne : a ≠ it) : Src P w K (fun H xs => SqT K H a xs) it (fun i h => h.IsTupleIter it a i) where
  obj := fun i h st => by
    obtain ⟨o, ho, hc, hd⟩ := st
    exact ⟨o, ho, fun v q => by rw [hd] at q; cases q⟩
  keep := fun i h h' st k => st.at k
  inj := fun X pins σ H s xs ys hP hw hK I h1 h2 => by
    subst hK
    exact I.tuple_inj h1 h2
  draws := fun X pins σ H s xs hP hw hK I hq hh _ => by
    subst hP hw hK
    obtain ⟨its, rv, p, hz⟩ := I.tuple hq
    have D := Draws.tuple (prog := X.prog) (w := X.w) (A := X.A.in1) hh it a hne its.toArray
    refine ⟨its, a, fun i h => h.IsTupleIter it a i ∧ h.IsTuple a its.toArray, rv, by simpa using D, ?_, fun i st => ⟨st, p⟩, fun i h st => st.1⟩
    obtain ⟨o, e, c, _⟩ := p
    exact ⟨o, e, by rw [c]; decide⟩
section
variable {B : Hp} {X : Cx} {te tk : WE} {e ke : Expr}
theorem pi_enumS {te : TE} {tk : TE} {p pos tpos kp : Pos} {elts : List Expr} {kk : Nat} (hg : Gl X "enumerate") (hm : X.mg "enumerate" = none) (ha : PE X e te) (hk : PE X ke tk)
    (hs : starEach [e] X.env = (false, eval e X.env) :: starEach [] X.env := by rfl) (he : backTo pos (starEach [e] X.env) = (false, eval e X.env) :: backTo pos (starEach [] X.env) := by rfl) :
    PI X (.Tuple elts kk tpos) (.Call (.Name "enumerate" p) [e] [⟨some "start", ke, kp⟩] pos) fun σ H R => te σ H fun x H1 => tk σ H1 fun z H2 => ∃ a k, x = .ref a ∧ z = .int k ∧ (-(2 ^ 63) ≤ k ∧ k < 2 ^ 63) ∧
      ((∃ xs : List V, SqL X.K H2 a xs ∧ R (IteS (fun H xs => SqL X.K H a xs) k xs.length) H2) ∨ ∃ xs : List V, SqT X.K H2 a xs ∧ R (IteS (fun H xs => SqT X.K H a xs) k xs.length) H2) := by
  refine ⟨fun pins s σ H R I h => ?_⟩
  refine wpAny_Call_Name_kw (ld_blt I hg hm boot_enumerate ?_)
  have pa := pa_cons ha pa_nil hs
  have pk := pk_cons (nm := some "start") (kpos := kp) hk (pk_nil (X := X))
  let G : V → V → Hp → Prop := fun x z H2 => ∃ a k, x = .ref a ∧ z = .int k ∧ (-(2 ^ 63) ≤ k ∧ k < 2 ^ 63) ∧
      ((∃ xs : List V, SqL X.K H2 a xs ∧ R (IteS (fun H xs => SqL X.K H a xs) k xs.length) H2) ∨ ∃ xs : List V, SqT X.K H2 a xs ∧ R (IteS (fun H xs => SqT X.K H a xs) k xs.length) H2)
  have h1 : tCons te tNil σ H (fun vs H1 => match vs with
      | [x] => tk σ H1 fun z H2 => G x z H2
      | _ => False) := h
  refine callWith_typeKw (T := "enumerate") (thn (pa.run pos pins s σ H _ I h1) fun us s1 ⟨vs, H1, I1, r1, q1⟩ => ?_) he (by rw [he]; rfl)
  match vs, r1, q1 with
  | [x], r1, q1 =>
  have h2 : tCons tk tNil σ H1 (fun zs H2 => match zs with
      | [z] => G x z H2
      | _ => False) := q1
  refine thn (pk.run pos pins s1 σ H1 _ I1 h2) fun ws s2 ⟨zs, H2, I2, r2, q2⟩ => ?_
  match zs, r2, q2 with
  | [z], r2, q2 =>
    obtain ⟨a, k, rfl, rfl, ⟨hk0, hk1⟩, q⟩ := q2
    cases r1 with
    | cons r rr =>
    cases rr
    cases r
    cases r2 with
    | cons r rr =>
    cases rr
    obtain ⟨t, rfl⟩ := r
    rcases q with ⟨xs, hq, q⟩ | ⟨xs, hq, q⟩
    · obtain ⟨its, rv, p', hz⟩ := I2.list hq
      have lt_a : a < s2.heap.objs.size := by obtain ⟨o, n, e, _⟩ := p'; exact Heap.lt_size e
      refine enum_begins_start (begins_list a its.toArray) p'.isList hk0 hk1 fun h' he hit hsz hkp => wpAny_pyIter_enum he ?_
      have I3 : Inv X pins σ H2 { s2 with heap := h' } := I2.kept (t' := s2.toks) hkp
      refine ⟨s2.heap.objs.size + 1, [s2.heap.objs.size + 1, s2.heap.objs.size], _, _, H2, rfl, I3, turn_enumS (s2.heap.objs.size + 1) s2.heap.objs.size k xs.length (src_list a _ (Nat.ne_of_lt lt_a)), ⟨⟨.none, by simpa using he⟩, ⟨_, hit, rfl, rfl⟩, Nat.succ_ne_self _, Nat.zero_le _⟩, fun b hb => ?_, q⟩
      have e' : b = s2.heap.objs.size + 1 ∨ b = s2.heap.objs.size := by simpa using hb
      have hle : s2.heap.objs.size ≤ b := by
        rcases e' with z | z
        · rw [z]; exact Nat.le_add_right _ _
        · rw [z]; exact Nat.le_refl _
      exact I2.fpOk hle (I2.hok.fresh hle)
    · obtain ⟨its, rv, p', hz⟩ := I2.tuple hq
      have lt_a : a < s2.heap.objs.size := by obtain ⟨o, e, _⟩ := p'; exact Heap.lt_size e
      refine enum_begins_start (begins_tuple a its.toArray) p' hk0 hk1 fun h' he hit hsz hkp => wpAny_pyIter_enum he ?_
      have I3 : Inv X pins σ H2 { s2 with heap := h' } := I2.kept (t' := s2.toks) hkp
      refine ⟨s2.heap.objs.size + 1, [s2.heap.objs.size + 1, s2.heap.objs.size], _, _, H2, rfl, I3, turn_enumS (s2.heap.objs.size + 1) s2.heap.objs.size k xs.length (src_tup a _ (Nat.ne_of_lt lt_a)), ⟨⟨.none, by simpa using he⟩, ⟨_, hit, rfl, rfl⟩, Nat.succ_ne_self _, Nat.zero_le _⟩, fun b hb => ?_, q⟩
      have e' : b = s2.heap.objs.size + 1 ∨ b = s2.heap.objs.size := by simpa using hb
      have hle : s2.heap.objs.size ≤ b := by
        rcases e' with z | z
        · rw [z]; exact Nat.le_add_right _ _
        · rw [z]; exact Nat.le_refl _
      exact I2.fpOk hle (I2.hok.fresh hle)
/-- enumerate(.., start=k) of a list that stands, or a tuple -/
def pairsT (k : Int) (ts : List T) : List T := ts.mapIdx fun i t => T.tup [.int (k + (i : Int)), t]
def iEnuW (te tk : WE) (σ : Sl) (S : Sta) (R : List T → (Sta → Prop) → Sta → Prop) : Prop := te σ S fun x S1 => tk σ S1 fun z S2 => match z with
  | .int k => (-(2 ^ 63) ≤ k ∧ k < 2 ^ 63) ∧ match x with
    | .tup ts => R (pairsT k ts) (fun _ => True) S2
    | .fl ts => R (pairsT k ts) (fun _ => True) S2
    | .ref p => ∃ ts, S2 p = some (.lst ts) ∧ R (pairsT k ts) (fun S' => S' p = some (.lst ts)) S2
    | _ => False
  | _ => False
theorem pairs_at {k : Int} {ts : List T} {i : Nat} {t : T} (h : ts[i]? = some t) : (pairsT k ts)[i]? = some (T.tup [.int (k + (i : Int)), t]) := by
  unfold pairsT
  rw [List.getElem?_mapIdx, h]
  rfl
theorem pairs_len {k : Int} {ts : List T} : (pairsT k ts).length = ts.length := by unfold pairsT; rw [List.length_mapIdx]
theorem yields_enu {K : PySem.W.Frag} {H1 : Hp} {Sq : Hp → List V → Prop} {k : Int} {ts : List T} {n : Nat} {stb : Sta → Prop} (hn : n = ts.length)
    (hq : ∀ S H, Ext H1 H → St K S H → stb S → ∃ xs, Sq H xs ∧ Reps K H ts xs) : Yields K (pairsT k ts) stb H1 (IteS Sq k n) := fun i S H2 e2 s2 sb => by
  obtain ⟨xs, hs, r⟩ := hq S H2 e2 s2 sb
  rw [pairs_len]
  refine ⟨fun hi => ?_, fun hi => ⟨xs, hs, by rw [hn]; exact r.length.symm, by rw [hn]; exact hi⟩, fun x H' hy hi => ?_⟩
  · obtain ⟨v, g3, _⟩ := r.get (List.getElem?_eq_getElem hi)
    exact ⟨xs, v, hs, by rw [hn]; exact r.length.symm, g3⟩
  · obtain ⟨p, v, rfl, hp, rfl, hv⟩ := hy
    have ev := hv xs hs
    obtain ⟨t, et, rt⟩ := r.getV ev
    have ex : Ext H2 (upd H2 p (.tup [.int (k + (i : Nat)), v])) := Ext.new hp
    exact ⟨ex, s2.new hp _, fun st σ q => q.mono ex, _, pairs_at et, .tup upd_same (.cons (.int _) (.cons (Rep.mono ex _ _ rt) .nil))⟩
theorem ji_enu {p pos tpos kp : Pos} {elts : List Expr} {kk : Nat} (hg : Gl X "enumerate") (hm : X.mg "enumerate" = none) (ha : JE B X e te) (hk : JE B X ke tk)
    (hs : starEach [e] X.env = (false, eval e X.env) :: starEach [] X.env := by rfl) (he : backTo pos (starEach [e] X.env) = (false, eval e X.env) :: backTo pos (starEach [] X.env) := by rfl) :
    JI B X (.Tuple elts kk tpos) (.Call (.Name "enumerate" p) [e] [⟨some "start", ke, kp⟩] pos) (iEnuW te tk) := pi_imp (pi_enumS hg hm ha hk hs he) fun σ H R ⟨st, S, Q0, he, hr, hs, h, im⟩ => by
  refine ⟨st, S, _, he, hr, hs, h, fun x S1 h1 H1 v1 e1 s1 r1 => ?_⟩
  refine ⟨st, S1, _, he.trans e1, hr.mono e1, s1, h1, fun z S2 h2 H2 v2 e2 s2 r2 => ?_⟩
  cases z with
  | int k =>
    cases r2
    obtain ⟨hk, h2⟩ := h2
    cases x with
    | tup ts =>
      cases r1 with
      | @tup a xs _ g10 g2 =>
        have g1 := sqT_of (K := X.K) g10
        exact ⟨a, k, rfl, rfl, hk, .inr ⟨xs, e2.sqT g1, im _ _ _ h2 H2 (e1.trans e2) s2 _ (yields_enu g2.length.symm fun S H e s _ => ⟨xs, (e2.trans e).sqT g1, Reps.mono (e2.trans e) _ _ g2⟩)⟩⟩
    | fl ts =>
      cases r1 with
      | @fl a xs _ g1 g2 =>
        exact ⟨a, k, rfl, rfl, hk, .inl ⟨xs, (e2.fzL g1).sq, im _ _ _ h2 H2 (e1.trans e2) s2 _ (yields_enu g2.length.symm fun S H e s _ => ⟨xs, ((e2.trans e).fzL g1).sq, Reps.mono (e2.trans e) _ _ g2⟩)⟩⟩
    | ref p =>
      cases r1
      obtain ⟨ts, eS, h2⟩ := h2
      obtain ⟨xs, g1, g2⟩ := s2 p _ eS
      refine ⟨p, k, rfl, rfl, hk, .inl ⟨xs, .inl (.inl g1), im _ _ _ h2 H2 (e1.trans e2) s2 _ (yields_enu g2.length.symm fun S H e s sb => ?_)⟩⟩
      obtain ⟨ys, g3, g4⟩ := s p _ sb
      exact ⟨ys, .inl (.inl g3), g4⟩
    | _ => exact h2.elim
  | _ => exact h2.elim
end
end Wp

set_option Elab.async false
set_option linter.all false
set_option maxRecDepth 100000
/-! bags, draws, what stays: for all laws -/
namespace Wp
open PySem PySem.Spec PyProof.Rows L2
local macro_rules | `(tactic| walk_at "go") => `(tactic| (with_reducible refine goS_i ?_))
local macro_rules | `(tactic| walk_at "wp") => `(tactic| simp (disch := omega) only [wSeq, wNext, wSet, wVar, wC, wOp, wRet, wIfS, wTest, wCall, wCons, wNil, wTup, wLst, wAsg, gTp, gC, gNm, gN0, gIx, rSet, Wp.rAdd, rMul, rMod, Wp.rSub, rFdiv, rPow, rInt, Wp.rIx, rLt, rLe, rCmp, rGeI, rGtI, wCB, rLen, rLen1, rInt1, rMax2, rMin2, rTupOf, rListOf,
  wIsi, rBIs, rIsN, isNon, wMt, rAppendT, rExtendT, rReverseT, wNot, wOr, wAnd, wAndV, wOrV, wNotV, wFor, iRg1, iRg2, iAnyW, wAll, wChain, wSl, wNoPart, wPart, rSl, wNeg, rNeg, wLc, wYes, wDrop, wipeT, wAug, List.map, List.set_cons_zero, List.set_cons_succ, List.getElem?_cons_zero, List.getElem?_cons_succ, List.length_cons, List.length_nil, List.cons_append, List.nil_append, List.replicate, Wp.startT,
  true_and, and_true, wif_true, wif_false, ex_some, ex_some1, ex_eq, ex_lst, ex_lst0, rEq_int, Bool.false_bne, Bool.true_bne, Int.reduceLT, Int.reduceLE, Int.reduceAdd, Nat.reduceAdd, eq_self, ite_true, ite_false, beq_self_eq_true, Bool.not_true, Bool.not_false, isB_0, isB_1, isB_2, isB_3, isB_4, isB_5, isB_6, isB_7, isB_8, isB_9, isB_10, isB_11, isB_12, isB_13, isB_14, isB_15, isB_16, isB_17, isB_18, isB_19, isB_20, isB_21, isB_22, isB_23, isB_24, isB_25, isB_26, isB_27, isB_28, isB_29, isB_30, isB_31, isB_32, isB_33, isB_34, isB_35, cmul_l, cmul_r, cpow_lit, size_le, size_lt, atI_0, atI_1, atI_2, atI_3, atI_4, atI_5, atI_6, ixN_0, ixN_1, ixN_2, itemsT, tyT, reduceIte, upS, upS_upS, *])
local macro_rules | `(tactic| walk_at "run") => `(tactic| repeat (first | walk_at "wp" | walk_at "go"))
local macro_rules | `(tactic| walk_at "wq") => `(tactic| simp (disch := omega) only [wSeq, wNext, wSet, wVar, wC, wOp, wRet, wIfS, wTest, wCall, wCons, wNil, wTup, wLst, wAsg, gTp, gC, gNm, gN0, gIx, rSet, Wp.rAdd, rMul, rMod, Wp.rSub, rFdiv, rPow, rInt, Wp.rIx, rLt, rLe, rCmp, rGeI, rGtI, wCB, rLen, rLen1, rInt1, rMax2, rMin2, rTupOf, rListOf,
  wIsi, rBIs, rIsN, isNon, wMt, rAppendT, rExtendT, rReverseT, wNot, wOr, wAnd, wAndV, wOrV, wNotV, wFor, iRg1, iRg2, iAnyW, wAll, wChain, wSl, wNoPart, wPart, rSl, wNeg, rNeg, wLc, wYes, wDrop, wipeT, wAug, List.map, List.set_cons_zero, List.set_cons_succ, List.getElem?_cons_zero, List.getElem?_cons_succ, List.length_cons, List.length_nil, List.cons_append, List.nil_append, List.replicate, Wp.startT,
  true_and, and_true, wif_true, wif_false, ex_some, ex_some1, ex_eq, ex_lst, ex_lst0, rEq_int, Bool.false_bne, Bool.true_bne, Int.reduceLT, Int.reduceLE, Int.reduceAdd, Nat.reduceAdd, eq_self, ite_true, ite_false, beq_self_eq_true, Bool.not_true, Bool.not_false, isB_0, isB_1, isB_2, isB_3, isB_4, isB_5, isB_6, isB_7, isB_8, isB_9, isB_10, isB_11, isB_12, isB_13, isB_14, isB_15, isB_16, isB_17, isB_18, isB_19, isB_20, isB_21, isB_22, isB_23, isB_24, isB_25, isB_26, isB_27, isB_28, isB_29, isB_30, isB_31, isB_32, isB_33, isB_34, isB_35, cmul_l, cmul_r, cpow_lit, size_le, size_lt, atI_0, atI_1, atI_2, atI_3, atI_4, atI_5, atI_6, ixN_0, ixN_1, ixN_2, itemsT, tyT, reduceIte, *])
local macro_rules | `(tactic| walk_at "r2") => `(tactic| repeat (first | walk_at "wq" | walk_at "go"))
local macro_rules | `(tactic| walk_at "w0") => `(tactic| simp (disch := omega) only [wSeq, wNext, wSet, wVar, wC, wOp, wRet, wIfS, wTest, wCall, wCons, wNil, wTup, wLst, wAsg, gTp, gC, gNm, gN0, gIx, rSet, Wp.rAdd, rMul, rMod, Wp.rSub, rFdiv, rPow, rInt, Wp.rIx, rLt, rLe, rCmp, rGeI, rGtI, wCB, rLen, rLen1, rInt1, rMax2, rMin2, rTupOf, rListOf,
  wIsi, rBIs, rIsN, isNon, wMt, rAppendT, rExtendT, rReverseT, wNot, wOr, wAnd, wAndV, wOrV, wNotV, wFor, iRg1, iRg2, iAnyW, wAll, wChain, wSl, wNoPart, wPart, rSl, wNeg, rNeg, wLc, wYes, wDrop, wipeT, wAug, List.map, List.set_cons_zero, List.set_cons_succ, List.getElem?_cons_zero, List.getElem?_cons_succ, List.length_cons, List.length_nil, List.cons_append, List.nil_append, List.replicate, Wp.startT,
  true_and, and_true, wif_true, wif_false, ex_some, ex_some1, ex_eq, ex_lst, ex_lst0, rEq_int, Bool.false_bne, Bool.true_bne, Int.reduceLT, Int.reduceLE, Int.reduceAdd, Nat.reduceAdd, eq_self, ite_true, ite_false, beq_self_eq_true, Bool.not_true, Bool.not_false, isB_0, isB_1, isB_2, isB_3, isB_4, isB_5, isB_6, isB_7, isB_8, isB_9, isB_10, isB_11, isB_12, isB_13, isB_14, isB_15, isB_16, isB_17, isB_18, isB_19, isB_20, isB_21, isB_22, isB_23, isB_24, isB_25, isB_26, isB_27, isB_28, isB_29, isB_30, isB_31, isB_32, isB_33, isB_34, isB_35, cmul_l, cmul_r, cpow_lit, size_le, size_lt, atI_0, atI_1, atI_2, atI_3, atI_4, atI_5, atI_6, ixN_0, ixN_1, ixN_2, itemsT, tyT, reduceIte])
local macro_rules | `(tactic| walk_at "r0") => `(tactic| repeat (first | walk_at "w0" | walk_at "go"))
def Gr (S S' : Sta) : Prop := ∀ a o, S a = some o → S' a = some o
theorem Gr.refl (S : Sta) : Gr S S := fun _ _ h => h
theorem Gr.trans {S S1 S2 : Sta} (a : Gr S S1) (b : Gr S1 S2) : Gr S S2 := fun x o h => b x o (a x o h)
theorem gr_new {S : Sta} {q : Addr} {o : O} (h : S q = none) : Gr S (upS S q o) := fun a u e => by
  rw [upS_ne (fun z => by rw [z, h] at e; cases e)]; exact e
theorem al_ {S : Sta} {q : Addr} {o : O} (h : S q = none) : ∃ S1 : Sta, upS S q o = S1 ∧ Gr S S1 ∧ S1 q = some o := ⟨_, rfl, gr_new h, upS_same⟩
/-- the two kinds of a law's bag -/
def IsBag : Option Addr → Sta → Addr → Prop
  | none, S, p => ∃ a b c : Int, S p = some (.lst [.int a, .int b, .int c])
  | some q, S, p => ∃ (a b c d : Int) (ns : List Int), S p = some (.lst [.int a, .int b, .int c, .int d, .ref q]) ∧ q ≠ p ∧ S q = some (.lst (ns.map T.int)) ∧ 0 ≤ c
theorem IsBag.has {k : Option Addr} {S : Sta} {p : Addr} (h : IsBag k S p) : ∃ xs, S p = some (.lst xs) := by
  cases k with
  | none => obtain ⟨a, b, c, e⟩ := h; exact ⟨_, e⟩
  | some q => obtain ⟨a, b, c, d, ns, e, _⟩ := h; exact ⟨_, e⟩
/-- all stays but the bag at p -/
structure Grb (k : Option Addr) (p : Addr) (S S' : Sta) : Prop where
  keep : ∀ a o, S a = some o → a ≠ p → S' a = some o
  bag : IsBag k S' p
theorem IsBag.gr {k : Option Addr} {p : Addr} {S S' : Sta} (h : IsBag k S p) (g : Gr S S') : IsBag k S' p := by
  cases k with
  | none => obtain ⟨a, b, c, e⟩ := h; exact ⟨a, b, c, g _ _ e⟩
  | some q => obtain ⟨a, b, c, d, ns, e, n, e2, z⟩ := h; exact ⟨a, b, c, d, ns, g _ _ e, n, g _ _ e2, z⟩
theorem Grb.trans {k : Option Addr} {p : Addr} {S S1 S2 : Sta} (a : Grb k p S S1) (b : Grb k p S1 S2) : Grb k p S S2 := ⟨fun x o h n => b.keep x o (a.keep x o h n) n, b.bag⟩
theorem Grb.refl {k : Option Addr} {p : Addr} {S : Sta} (h : IsBag k S p) : Grb k p S S := ⟨fun _ _ h _ => h, h⟩
theorem Grb.gr {k : Option Addr} {p : Addr} {S S1 S2 : Sta} (a : Grb k p S S1) (g : Gr S1 S2) : Grb k p S S2 := ⟨fun x o h n => g _ _ (a.keep x o h n), a.bag.gr g⟩
theorem Gr.grb {k : Option Addr} {p : Addr} {S S1 : Sta} (h : IsBag k S p) (g : Gr S S1) : Grb k p S S1 := ⟨fun x o e _ => g _ _ e, h.gr g⟩
theorem new_ne {k : Option Addr} {S : Sta} {p q : Addr} (h : IsBag k S p) (hq : S q = none) : q ≠ p := fun e => by
  obtain ⟨xs, z⟩ := h.has
  rw [e, z] at hq; cases hq
theorem Grb.new {k : Option Addr} {p q : Addr} {S S1 S2 : Sta} {o : O} (h : IsBag k S p) (hq : S q = none) (e : S1 q = some o) (g : Grb k p S1 S2) : S2 q = some o := g.keep q o e (new_ne h hq)
/-- not of the bag -/
def Off (k : Option Addr) (p D : Addr) : Prop := D ≠ p ∧ ∀ q, k = some q → D ≠ q
theorem IsBag.free {k : Option Addr} {S : Sta} {p D : Addr} (h : IsBag k S p) (e : S D = none) : Off k p D := by
  refine ⟨new_ne h e, fun q hq => ?_⟩
  subst hq
  obtain ⟨a, b, c, d, ns, h1, h2, h3, h4⟩ := h
  intro z
  rw [z, h3] at e
  cases e
theorem IsBag.up {k : Option Addr} {S : Sta} {p D : Addr} {o : O} (h : IsBag k S p) (n : Off k p D) : IsBag k (upS S D o) p := by
  cases k with
  | none =>
    obtain ⟨a, b, c, e⟩ := h
    exact ⟨a, b, c, by rw [upS_ne n.1.symm]; exact e⟩
  | some q =>
    obtain ⟨a, b, c, d, ns, h1, h2, h3, h4⟩ := h
    exact ⟨a, b, c, d, ns, by rw [upS_ne n.1.symm]; exact h1, h2, by rw [upS_ne (n.2 q rfl).symm]; exact h3, h4⟩
/-- what was made since may be written -/
theorem Grb.up {k : Option Addr} {p D : Addr} {S S' : Sta} {o : O} (g : Grb k p S S') (hb : IsBag k S p) (hD : S D = none) : Grb k p S (upS S' D o) :=
  ⟨fun a u e n => by rw [upS_ne (fun z => by rw [z, hD] at e; cases e)]; exact g.keep a u e n, g.bag.up (hb.free hD)⟩
theorem le_sz {n : Nat} (h : n ≤ 1000000) : n ≤ sizeLine := Nat.le_trans h (by rw [sizeLine_eq]; decide)
theorem lt_sz {n : Nat} (h : n ≤ 1000000) : n < sizeLine := Nat.lt_of_le_of_lt h (by rw [sizeLine_eq]; decide)
def b_bag3 : WS :=
  (wSeq (wSet 2 (wC (.int 0)))
    (wSeq (wIfS (wTest (wOp rLt (wVar 1) (wCB rLen (wCons (wVar 0) wNil)))) (wSet 2 (wCB rInt1 (wCons (wOp rIx (wVar 0) (wVar 1)) wNil))) wNext)
    (wSeq (wIfS (wTest (wOp rGeI (wVar 2) (wOp rPow (wC (.int 10)) (wC (.int 18))))) (wRet (wLst (wCons (wVar 2) (wCons (wVar 2) (wCons (wVar 1) wNil))))) wNext)
    (wRet (wLst (wCons (wC (.int 0)) (wCons (wVar 2) (wCons (wVar 1) wNil))))))))
def b_draw3 : WS :=
  (wSeq (wIfS (wTest (wOp (rEq false) (wOp rIx (wVar 0) (wC (.int 0))) (wC (.int 0)))) (wSeq (wSet 2 (wOp rMod (wCB rInt1 (wCons (wOp rAdd (wOp rAdd (wOp rMul (wOp rIx (wVar 0) (wC (.int 1))) (wC (.int 48271))) (wOp rMul (wOp rIx (wVar 0) (wC (.int 2))) (wC (.int 69621)))) (wC (.int 11))) wNil)) (wC (.int 2147483647))))
    (wSeq (wAsg (wOp rAdd (wOp rMul (wVar 2) (wC (.int 2147483629))) (wOp rMod (wCB rInt1 (wCons (wOp rAdd (wOp rMul (wVar 2) (wVar 2)) (wOp rMul (wOp rIx (wVar 0) (wC (.int 2))) (wC (.int 16807)))) wNil)) (wC (.int 2147483629)))) (gIx (wVar 0) (wC (.int 0))))
    (wAsg (wVar 2) (gIx (wVar 0) (wC (.int 1)))))) wNext)
    (wSeq (wSet 3 (wOp rIx (wVar 0) (wC (.int 0))))
    (wSeq (wAsg (wOp rFdiv (wVar 3) (wVar 1)) (gIx (wVar 0) (wC (.int 0))))
    (wRet (wOp rMod (wCB rInt1 (wCons (wVar 3) wNil)) (wVar 1))))))
def b_bag5 : WS :=
  (wRet (wLst (wCons (wC (.int 0)) (wCons (wC (.int 7)) (wCons (wC (.int 0)) (wCons (wC (.int 0)) (wCons (wCB rListOf (wCons (wVar 0) wNil)) wNil)))))))
def b_draw5 : WS :=
  (wSeq (wIfS (wTest (wOp (rEq false) (wOp rIx (wVar 0) (wC (.int 0))) (wC (.int 0)))) (wSeq (wSet 2 (wCB rInt1 (wCons (wOp rIx (wVar 0) (wC (.int 3))) wNil)))
    (wSeq (wSet 3 (wOp rIx (wVar 0) (wC (.int 4))))
    (wSeq (wIfS (wTest (wOp rLt (wOp rIx (wVar 0) (wC (.int 2))) (wCB rLen (wCons (wVar 3) wNil)))) (wSet 2 (wCB rInt1 (wCons (wOp rIx (wVar 3) (wOp rIx (wVar 0) (wC (.int 2)))) wNil))) wNext)
    (wSeq (wAsg (wOp rAdd (wOp rIx (wVar 0) (wC (.int 2))) (wC (.int 1))) (gIx (wVar 0) (wC (.int 2))))
    (wSeq (wSet 4 (wOp rMod (wCB rInt1 (wCons (wOp rAdd (wOp rAdd (wOp rAdd (wOp rMul (wOp rIx (wVar 0) (wC (.int 1))) (wC (.int 48271))) (wOp rMul (wVar 2) (wC (.int 69621)))) (wOp rMul (wOp rIx (wVar 0) (wC (.int 2))) (wC (.int 16807)))) (wC (.int 11))) wNil)) (wC (.int 2147483647))))
    (wSeq (wAsg (wOp rAdd (wOp rMul (wVar 4) (wC (.int 2147483629))) (wOp rMod (wCB rInt1 (wCons (wOp rAdd (wOp rMul (wVar 4) (wVar 4)) (wVar 2)) wNil)) (wC (.int 2147483629)))) (gIx (wVar 0) (wC (.int 0))))
    (wSeq (wIfS (wTest (wOp rGeI (wVar 2) (wOp rPow (wC (.int 10)) (wC (.int 18))))) (wAsg (wVar 2) (gIx (wVar 0) (wC (.int 0)))) wNext)
    (wAsg (wVar 4) (gIx (wVar 0) (wC (.int 1))))))))))) wNext)
    (wSeq (wSet 5 (wOp rIx (wVar 0) (wC (.int 0))))
    (wSeq (wAsg (wOp rFdiv (wVar 5) (wVar 1)) (gIx (wVar 0) (wC (.int 0))))
    (wRet (wOp rMod (wCB rInt1 (wCons (wVar 5) wNil)) (wVar 1))))))
def spBag3 : WSp := fun ts S Q _ => match ts with
  | [.fl us, .int k] => ∃ ns : List Int, us = ns.map T.int ∧ 0 ≤ k ∧ ns.length ≤ 1000 ∧ ∀ (p : Addr) S', S p = none → Gr S S' → IsBag none S' p → Q (.ref p) S'
  | _ => False
theorem hw_bag3 : ∀ ts S Q E, ts.length = 2 → spBag3 ts S Q E → b_bag3 { nx := fun _ S' => Q .non S', rt := Q } (Wp.startT ["script", "k", "cell"] ts) S := by
  intro ts S Q E _ h
  match ts, h with
  | [.fl us, .int k], ⟨ns, e, h0, hl, h⟩ =>
    subst e
    have fin : ∀ (a b c : Int) (p : Addr), S p = none → Q (.ref p) (upS S p (.lst [.int a, .int b, .int c])) := fun a b c p hp => h p _ hp (gr_new hp) ⟨a, b, c, upS_same⟩
    clear h
    unfold b_bag3
    walk_at "r0"
    refine if_dec (fun hk => ?_) (fun hk => ?_)
    · obtain ⟨x, hx, hm⟩ := atI_in (xs := ns.map T.int) h0 hk
      obtain ⟨n, _, rfl⟩ := List.mem_map.mp hm
      walk_at "r0"
      simp only [hx]
      walk_at "r0"
      refine if_dec (fun _ => ?_) (fun _ => ?_)
      · walk_at "r0"
        exact fun p hp => fin _ _ _ p hp
      · walk_at "r0"
        exact fun p hp => fin _ _ _ p hp
    · walk_at "r0"
      refine if_dec (fun _ => ?_) (fun _ => ?_)
      · walk_at "r0"
        exact fun p hp => fin _ _ _ p hp
      · walk_at "r0"
        exact fun p hp => fin _ _ _ p hp
def spDraw (f : Bool) : WSp := fun ts S Q _ => match ts with
  | [.ref p, .int m] => ∃ k, k.isSome = f ∧ IsBag k S p ∧ 0 < m ∧ m < 2 ^ 62 ∧ ∀ (r : Int) (S' : Sta), 0 ≤ r → r < m → Grb k p S S' → Q (.int r) S'
  | _ => False
theorem hw_draw3 : ∀ ts S Q E, ts.length = 2 → spDraw false ts S Q E → b_draw3 { nx := fun _ S' => Q .non S', rt := Q } (Wp.startT ["bag", "many", "seed", "rest"] ts) S := by
  intro ts S Q E _ h
  match ts, h with
  | [.ref p, .int m], ⟨none, _, ⟨a, b, c, hS⟩, h0, h1, h⟩ =>
    have fin : ∀ (r a b c : Int), 0 ≤ r → r < m → Q (.int r) (upS S p (.lst [.int a, .int b, .int c])) := fun r a b c g1 g2 => h r _ g1 g2 ⟨fun x o e n => by rw [upS_ne n]; exact e, _, _, _, upS_same⟩
    clear h
    unfold b_draw3
    walk_at "run"
    refine if_bool (fun _ => ?_) (fun _ => ?_)
    · walk_at "run"
      exact fin _ _ _ _ (Int.emod_nonneg _ (by omega)) (Int.emod_lt_of_pos _ h0)
    · walk_at "run"
      exact fin _ _ _ _ (Int.emod_nonneg _ (by omega)) (Int.emod_lt_of_pos _ h0)
def spBag5 : WSp := fun ts S Q _ => match ts with
  | [.fl us] => ∃ ns : List Int, us = ns.map T.int ∧ ∀ (p : Addr) S', S p = none → Gr S S' → (∃ q, IsBag (some q) S' p) → Q (.ref p) S'
  | _ => False
theorem hw_bag5 : ∀ ts S Q E, ts.length = 1 → spBag5 ts S Q E → b_bag5 { nx := fun _ S' => Q .non S', rt := Q } (Wp.startT ["script"] ts) S := by
  intro ts S Q E _ h
  match ts, h with
  | [.fl us], ⟨ns, e, h⟩ =>
    subst e
    unfold b_bag5
    walk_at "r0"
    intro q hq p hp
    have hqp : q ≠ p := fun e => by rw [e, upS_same] at hp; cases hp
    rw [upS_ne hqp.symm] at hp
    refine h p _ hp ((gr_new hq).trans (gr_new (by rw [upS_ne hqp.symm]; exact hp))) ⟨q, 0, 7, 0, 0, ns, upS_same, hqp, by rw [upS_ne hqp, upS_same], by omega⟩
theorem hw_draw5 : ∀ ts S Q E, ts.length = 2 → spDraw true ts S Q E → b_draw5 { nx := fun _ S' => Q .non S', rt := Q } (Wp.startT ["bag", "many", "cell", "cells", "seed", "rest"] ts) S := by
  intro ts S Q E _ h
  match ts, h with
  | [.ref p, .int m], ⟨some q, _, ⟨a, b, c, d, ns, hS, hqp, hq, hc⟩, h0, h1, h⟩ =>
    have fin : ∀ (r a b c d : Int), 0 ≤ r → r < m → 0 ≤ c → Q (.int r) (upS S p (.lst [.int a, .int b, .int c, .int d, .ref q])) := fun r a b c d g1 g2 g3 => h r _ g1 g2 ⟨fun x o e n => by rw [upS_ne n]; exact e, _, _, _, _, ns, upS_same, hqp, by rw [upS_ne hqp]; exact hq, g3⟩
    clear h
    have at3 : atI [T.int a, T.int b, T.int c, T.int d, T.ref q] 3 = some (.int d) := by rw [atI_3]; rfl
    unfold b_draw5
    have it : ∀ o, itemsT (upS S p o) (.ref q) = some (ns.map T.int) := fun o => itemsT_ref (by rw [upS_ne hqp]; exact hq)
    have it0 : itemsT S (.ref q) = some (ns.map T.int) := itemsT_ref hq
    walk_at "run"
    refine if_bool (fun _ => ?_) (fun _ => ?_)
    · walk_at "run"
      refine if_dec (fun hk => ?_) (fun hk => ?_)
      · obtain ⟨x, hx, hm⟩ := atI_in (xs := ns.map T.int) hc hk
        obtain ⟨n, _, rfl⟩ := List.mem_map.mp hm
        walk_at "run"
        refine if_dec (fun _ => ?_) (fun _ => ?_)
        · walk_at "run"
          exact fin _ _ _ _ _ (Int.emod_nonneg _ (by omega)) (Int.emod_lt_of_pos _ h0) (by omega)
        · walk_at "run"
          exact fin _ _ _ _ _ (Int.emod_nonneg _ (by omega)) (Int.emod_lt_of_pos _ h0) (by omega)
      · walk_at "run"
        refine if_dec (fun _ => ?_) (fun _ => ?_)
        · walk_at "run"
          exact fin _ _ _ _ _ (Int.emod_nonneg _ (by omega)) (Int.emod_lt_of_pos _ h0) (by omega)
        · walk_at "run"
          exact fin _ _ _ _ _ (Int.emod_nonneg _ (by omega)) (Int.emod_lt_of_pos _ h0) (by omega)
    · walk_at "run"
      exact fin _ _ _ _ _ (Int.emod_nonneg _ (by omega)) (Int.emod_lt_of_pos _ h0) (by omega)
end Wp

set_option Elab.async false
set_option linter.all false
set_option maxRecDepth 100000
/-! loops and comprehensions by an invariant over the turn -/
namespace Wp
open PySem PySem.Spec PyProof.Rows L2
theorem loop_inv_at {g : WG} {tb : WS} {stb : Sta → Prop} {D : WEnds} (xs : List T) (Inv : Nat → Sl → Sta → Prop) (hstb : ∀ i σ S, Inv i σ S → stb S)
    (step : ∀ i x σ S (LP : Sl → Sta → Prop), xs[i]? = some x → Inv i σ S → (∀ σ' S', Inv (i + 1) σ' S' → LP σ' S') → g x σ S fun σ2 S2 => tb { D with nx := LP, ct := LP, bk := D.nx } σ2 S2)
    (done : ∀ σ S, Inv xs.length σ S → D.nx σ S) : ∀ (n i : Nat), n + i = xs.length → ∀ σ S, Inv i σ S → loopW g tb stb D (xs.drop i) σ S
  | 0, i, hn, σ, S, h => by
    rw [show xs.drop i = [] by rw [List.drop_eq_nil_iff]; omega]
    exact ⟨hstb _ _ _ h, done σ S (by rw [← hn, Nat.zero_add]; exact h)⟩
  | n + 1, i, hn, σ, S, h => by
    have hi : i < xs.length := by omega
    rw [List.drop_eq_getElem_cons hi]
    exact ⟨hstb _ _ _ h, step i xs[i] σ S _ (List.getElem?_eq_getElem hi) h fun σ' S' h' => loop_inv_at xs Inv hstb step done n (i + 1) (by omega) σ' S' h'⟩
theorem loop_inv {g : WG} {tb : WS} {stb : Sta → Prop} {D : WEnds} {xs : List T} {σ : Sl} {S : Sta} (Inv : Nat → Sl → Sta → Prop) (h0 : Inv 0 σ S) (hstb : ∀ i σ S, Inv i σ S → stb S)
    (step : ∀ i x σ S (LP : Sl → Sta → Prop), xs[i]? = some x → Inv i σ S → (∀ σ' S', Inv (i + 1) σ' S' → LP σ' S') → g x σ S fun σ2 S2 => tb { D with nx := LP, ct := LP, bk := D.nx } σ2 S2)
    (done : ∀ σ S, Inv xs.length σ S → D.nx σ S) : loopW g tb stb D xs σ S := by
  have := loop_inv_at xs Inv hstb step done xs.length 0 (by omega) σ S h0
  rwa [List.drop_zero] at this
theorem comp_inv_at {g : WG} {tt : WT} {te : WE} {stb : Sta → Prop} {σ : Sl} {D : Addr} {Q : T → Sta → Prop} (xs : List T) (Inv : Nat → Sta → Prop) (hstb : ∀ i S, Inv i S → stb S)
    (step : ∀ i x S (LP : Sta → Prop), xs[i]? = some x → Inv i S → (∀ S', Inv (i + 1) S' → LP S') → g x σ S fun σ2 S2 => tt σ2 S2 fun b S3 => wif b (te σ2 S3 fun y S4 => ∃ acc, S4 D = some (.lst acc) ∧ acc.length < sizeLine ∧ LP (upS S4 D (.lst (acc ++ [y])))) (LP S3))
    (done : ∀ S, Inv xs.length S → Q (.ref D) S) : ∀ (n i : Nat), n + i = xs.length → ∀ S, Inv i S → compW g tt te stb σ D Q (xs.drop i) S
  | 0, i, hn, S, h => by
    rw [show xs.drop i = [] by rw [List.drop_eq_nil_iff]; omega]
    exact ⟨hstb _ _ h, done S (by rw [← hn, Nat.zero_add]; exact h)⟩
  | n + 1, i, hn, S, h => by
    have hi : i < xs.length := by omega
    rw [List.drop_eq_getElem_cons hi]
    exact ⟨hstb _ _ h, step i xs[i] S _ (List.getElem?_eq_getElem hi) h fun S' h' => comp_inv_at xs Inv hstb step done n (i + 1) (by omega) S' h'⟩
theorem comp_inv {g : WG} {tt : WT} {te : WE} {stb : Sta → Prop} {σ : Sl} {D : Addr} {Q : T → Sta → Prop} {xs : List T} {S : Sta} (Inv : Nat → Sta → Prop) (h0 : Inv 0 S) (hstb : ∀ i S, Inv i S → stb S)
    (step : ∀ i x S (LP : Sta → Prop), xs[i]? = some x → Inv i S → (∀ S', Inv (i + 1) S' → LP S') → g x σ S fun σ2 S2 => tt σ2 S2 fun b S3 => wif b (te σ2 S3 fun y S4 => ∃ acc, S4 D = some (.lst acc) ∧ acc.length < sizeLine ∧ LP (upS S4 D (.lst (acc ++ [y])))) (LP S3))
    (done : ∀ S, Inv xs.length S → Q (.ref D) S) : compW g tt te stb σ D Q xs S := by
  have := comp_inv_at xs Inv hstb step done xs.length 0 (by omega) S h0
  rwa [List.drop_zero] at this
/-- a comprehension without a test whose element is f of the item; what stands stays, a bag may change -/
theorem comp_map {g : WG} {te : WE} {stb : Sta → Prop} {σ : Sl} {D : Addr} {Q : T → Sta → Prop} {xs : List T} {S0 : Sta} (Rel : Sta → Sta → Prop) (f : Nat → T) (hS0 : S0 D = some (.lst [])) (hl : xs.length ≤ 1000000)
    (r0 : Rel S0 S0) (hstb : ∀ S, Rel S0 S → stb S)
    (up : ∀ S acc o, Rel S0 S → S D = some (.lst acc) → Rel S0 (upS S D o))
    (step : ∀ i x S acc (R : T → Sta → Prop), xs[i]? = some x → Rel S0 S → S D = some (.lst acc) → (∀ S', Rel S0 S' → S' D = some (.lst acc) → R (f i) S') → g x σ S fun σ2 S2 => te σ2 S2 R)
    (done : ∀ S, Rel S0 S → S D = some (.lst ((List.range xs.length).map f)) → Q (.ref D) S) : compW g wYes te stb σ D Q xs S0 :=
  comp_inv (fun i S => Rel S0 S ∧ S D = some (.lst ((List.range i).map f))) ⟨r0, hS0⟩ (fun i S h => hstb S h.1) (fun i x S LP hx h nx => by
    have hi : i < xs.length := (List.getElem?_eq_some_iff.mp hx).1
    have hh := step i x S _ (fun y S4 => ∃ acc, S4 D = some (.lst acc) ∧ acc.length < sizeLine ∧ LP (upS S4 D (.lst (acc ++ [y])))) hx h.1 h.2 fun S' r e => by
      refine ⟨_, e, ?_, nx _ ⟨up S' _ _ r e, ?_⟩⟩
      · rw [List.length_map, List.length_range]; exact lt_sz (by omega)
      · rw [upS_same, List.range_succ, List.map_append]; rfl
    exact (by
      show g x σ S fun σ2 S2 => wif true (te σ2 S2 _) _
      simp only [wif_true]
      exact hh)) fun S h => done S h.1 h.2
theorem all_inv_at {g : WG} {te : WE} {stb : Sta → Prop} {σ : Sl} {Q : T → Sta → Prop} (xs : List T) (f : T → Bool) (S : Sta) (hstb : stb S) (q : Q (.bl (xs.all f)) S)
    (step : ∀ x (R : T → Sta → Prop), x ∈ xs → R (.bl (f x)) S → g x σ S fun σ2 S2 => te σ2 S2 R) : allW g te stb σ Q xs S := by
  induction xs with
  | nil => exact ⟨hstb, q⟩
  | cons x xs ih =>
    refine ⟨hstb, step x _ List.mem_cons_self ?_⟩
    rw [List.all_cons] at q
    show wif (f x) _ _
    refine if_bool (fun h => ?_) (fun h => ?_)
    · rw [h, Bool.true_and] at q
      exact ih q fun y R hy => step y R (List.mem_cons_of_mem _ hy)
    · rw [h, Bool.false_and] at q
      exact q
theorem range_at {lo : Int} {n i : Nat} {x : T} (h : (rangeT lo n)[i]? = some x) : i < n ∧ x = .int (lo + (i : Int)) := by
  unfold rangeT at h
  rw [List.getElem?_map] at h
  cases e : (List.range n)[i]? with
  | none => rw [e] at h; cases h
  | some j =>
    obtain ⟨hi, ej⟩ := List.getElem?_eq_some_iff.mp e
    rw [List.length_range] at hi
    rw [List.getElem_range] at ej
    subst ej
    rw [e] at h
    cases h
    exact ⟨hi, rfl⟩
theorem rangeT_length {lo : Int} {n : Nat} : (rangeT lo n).length = n := by unfold rangeT; rw [List.length_map, List.length_range]
theorem map_at {α β : Type} {f : α → β} {xs : List α} {i : Nat} {y : β} (h : (xs.map f)[i]? = some y) : ∃ x, xs[i]? = some x ∧ y = f x := by
  rw [List.getElem?_map] at h
  cases e : xs[i]? with
  | none => rw [e] at h; cases h
  | some x => rw [e] at h; cases h; exact ⟨x, rfl, rfl⟩
end Wp

set_option Elab.async false
set_option linter.all false
set_option maxRecDepth 100000
/-! == over data without bools -/
namespace Wp
open PySem PySem.Spec PyProof.Rows L2
mutual
/-- data: no bools, no things that change -/
def nbT : T → Bool
  | .non => true
  | .bl _ => false
  | .int _ => true
  | .str x => PyData.strOk x
  | .tup ts => nbTs ts
  | .fl ts => nbTs ts
  | .ref _ => false
def nbTs : List T → Bool
  | [] => true
  | t :: ts => nbT t && nbTs ts
end
mutual
def dpT : T → Nat
  | .tup ts => dpTs ts + 1
  | .fl ts => dpTs ts + 1
  | _ => 0
def dpTs : List T → Nat
  | [] => 0
  | t :: ts => max (dpT t) (dpTs ts)
end
mutual
theorem nb_toD : ∀ t : T, nbT t = true → ∃ d, toD t = some d ∧ d.canLay0 = true ∧ d.depth ≤ dpT t + 1
  | .non, _ => ⟨.none, by simp only [toD], by simp only [PyData.canLay0], by simp only [PyData.depth]; omega⟩
  | .bl _, h => by simp [nbT] at h
  | .int i, _ => ⟨.int i, by simp only [toD], by simp only [PyData.canLay0], by simp only [PyData.depth]; omega⟩
  | .str x, h => ⟨.str x, by simp only [toD], by simp only [PyData.canLay0]; simpa only [nbT] using h, by simp only [PyData.depth]; omega⟩
  | .tup ts, h => by
    obtain ⟨ds, e1, e2, e3⟩ := nb_toDs ts (by simpa only [nbT] using h)
    exact ⟨.tuple ds, by simp only [toD, e1, Option.map_some], by simpa only [PyData.canLay0] using e2, by simp only [PyData.depth, dpT]; omega⟩
  | .fl ts, h => by
    obtain ⟨ds, e1, e2, e3⟩ := nb_toDs ts (by simpa only [nbT] using h)
    exact ⟨.list ds, by simp only [toD, e1, Option.map_some], by simpa only [PyData.canLay0] using e2, by simp only [PyData.depth, dpT]; omega⟩
  | .ref _, h => by simp [nbT] at h
theorem nb_toDs : ∀ ts : List T, nbTs ts = true → ∃ ds, toDs ts = some ds ∧ PyData.canLayAll0 ds = true ∧ PyData.depthAll ds ≤ dpTs ts + 1
  | [], _ => ⟨[], by simp only [toDs], by simp only [PyData.canLayAll0], by simp only [PyData.depthAll]; omega⟩
  | t :: ts, h => by
    simp only [nbTs, Bool.and_eq_true] at h
    obtain ⟨d, e1, e2, e3⟩ := nb_toD t h.1
    obtain ⟨ds, g1, g2, g3⟩ := nb_toDs ts h.2
    exact ⟨d :: ds, by simp only [toDs, e1, g1], by simp only [PyData.canLayAll0, e2, g2, Bool.and_self], by simp only [PyData.depthAll, dpTs]; omega⟩
end
mutual
theorem nb_eqv : ∀ (x y : T) (d e : PyData), nbT x = true → nbT y = true → toD x = some d → toD y = some e → (PyData.eqv d e = true ↔ x = y)
  | .non, y, d, e, hx, hy, ex, ey => by
    simp only [toD, Option.some.injEq] at ex; subst ex
    cases y <;> simp only [nbT] at hy <;> simp only [toD, Option.some.injEq, Option.map_eq_some_iff, reduceCtorEq] at ey <;> first
      | (subst ey; simp [PyData.eqv]; done)
      | (obtain ⟨es, _, rfl⟩ := ey; simp [PyData.eqv]; done)
      | (simp at hy; done)
  | .bl _, y, d, e, hx, hy, ex, ey => by simp [nbT] at hx
  | .int i, y, d, e, hx, hy, ex, ey => by
    simp only [toD, Option.some.injEq] at ex; subst ex
    cases y <;> simp only [nbT] at hy <;> simp only [toD, Option.some.injEq, Option.map_eq_some_iff, reduceCtorEq] at ey <;> first
      | (subst ey; simp [PyData.eqv]; done)
      | (obtain ⟨es, _, rfl⟩ := ey; simp [PyData.eqv]; done)
      | (simp at hy; done)
  | .str z, y, d, e, hx, hy, ex, ey => by
    simp only [toD, Option.some.injEq] at ex; subst ex
    cases y <;> simp only [nbT] at hy <;> simp only [toD, Option.some.injEq, Option.map_eq_some_iff, reduceCtorEq] at ey <;> first
      | (subst ey; simp [PyData.eqv]; done)
      | (obtain ⟨es, _, rfl⟩ := ey; simp [PyData.eqv]; done)
      | (simp at hy; done)
  | .tup ts, y, d, e, hx, hy, ex, ey => by
    simp only [toD, Option.map_eq_some_iff] at ex
    obtain ⟨ds, e1, rfl⟩ := ex
    cases y <;> simp only [nbT] at hy <;> simp only [toD, Option.some.injEq, Option.map_eq_some_iff, reduceCtorEq] at ey <;> first
      | (subst ey; simp [PyData.eqv]; done)
      | (obtain ⟨es, e2, rfl⟩ := ey; simp only [PyData.eqv, nb_eqvs ts _ ds es (by simpa only [nbT] using hx) (by simpa only [nbT] using hy) e1 e2, T.tup.injEq]; done)
      | (obtain ⟨es, _, rfl⟩ := ey; simp [PyData.eqv]; done)
      | (simp at hy; done)
  | .fl ts, y, d, e, hx, hy, ex, ey => by
    simp only [toD, Option.map_eq_some_iff] at ex
    obtain ⟨ds, e1, rfl⟩ := ex
    cases y <;> simp only [nbT] at hy <;> simp only [toD, Option.some.injEq, Option.map_eq_some_iff, reduceCtorEq] at ey <;> first
      | (subst ey; simp [PyData.eqv]; done)
      | (obtain ⟨es, e2, rfl⟩ := ey; simp only [PyData.eqv, nb_eqvs ts _ ds es (by simpa only [nbT] using hx) (by simpa only [nbT] using hy) e1 e2, T.fl.injEq]; done)
      | (obtain ⟨es, _, rfl⟩ := ey; simp [PyData.eqv]; done)
      | (simp at hy; done)
  | .ref _, y, d, e, hx, hy, ex, ey => by simp [nbT] at hx
theorem nb_eqvs : ∀ (xs ys : List T) (ds es : List PyData), nbTs xs = true → nbTs ys = true → toDs xs = some ds → toDs ys = some es → (PyData.eqvAll ds es = true ↔ xs = ys)
  | [], [], ds, es, _, _, e1, e2 => by simp only [toDs, Option.some.injEq] at e1 e2; subst e1 e2; simp [PyData.eqvAll]
  | [], y :: ys, ds, es, _, hy, e1, e2 => by
    obtain ⟨es', g1, _, _⟩ := nb_toDs (y :: ys) hy
    simp only [toDs, Option.some.injEq] at e1
    subst e1
    cases es with
    | nil => simp only [toDs] at e2; split at e2 <;> cases e2
    | cons _ _ => simp [PyData.eqvAll]
  | x :: xs, [], ds, es, hx, _, e1, e2 => by
    simp only [toDs, Option.some.injEq] at e2
    subst e2
    cases ds with
    | nil => simp only [toDs] at e1; split at e1 <;> cases e1
    | cons _ _ => simp [PyData.eqvAll]
  | x :: xs, y :: ys, ds, es, hx, hy, e1, e2 => by
    simp only [nbTs, Bool.and_eq_true] at hx hy
    obtain ⟨d, a1, _, _⟩ := nb_toD x hx.1
    obtain ⟨ds', a2, _, _⟩ := nb_toDs xs hx.2
    obtain ⟨e, b1, _, _⟩ := nb_toD y hy.1
    obtain ⟨es', b2, _, _⟩ := nb_toDs ys hy.2
    simp only [toDs, a1, a2, Option.some.injEq] at e1
    simp only [toDs, b1, b2, Option.some.injEq] at e2
    subst e1 e2
    rw [PyData.eqvAll, Bool.and_eq_true, nb_eqv x y d e hx.1 hy.1 a1 b1, nb_eqvs xs ys ds' es' hx.2 hy.2 a2 b2, List.cons.injEq]
end
/-- a value as it stands: a list by its items -/
def see (S : Sta) : T → T
  | .ref p => match S p with
    | some (.lst ts) => .fl ts
    | _ => .ref p
  | t => t
theorem see_ref {S : Sta} {p : Addr} {ts : List T} (h : S p = some (.lst ts)) : see S (.ref p) = .fl ts := by simp only [see, h]
theorem dd_see {S : Sta} {t : T} : dd S t = toD (see S t) := by
  cases t with
  | ref p =>
    simp only [dd, see]
    cases e : S p with
    | none => simp only [toD]
    | some o => cases o <;> simp only [toD]
  | _ => rfl
/-- == -/
theorem rEq_nb {neg : Bool} {x y : T} {S : Sta} {Q : T → Sta → Prop} {x' y' : T} (ex : see S x = x') (ey : see S y = y') (hx : nbT x' = true) (hy : nbT y' = true) (dx : dpT x' ≤ 60) (dy : dpT y' ≤ 60) (h1 : x' = y' → Q (.bl (!neg)) S) (h2 : x' ≠ y' → Q (.bl neg) S) : Wp.rEq neg x y S Q := by
  subst ex ey
  obtain ⟨d, a1, a2, a3⟩ := nb_toD _ hx
  obtain ⟨e, b1, b2, b3⟩ := nb_toD _ hy
  refine ⟨d, by rw [dd_see]; exact a1, e, by rw [dd_see]; exact b1, ?_, ?_, ?_⟩
  · unfold SeqAt.shaped; rw [a2, Bool.true_and]; exact decide_eq_true (by omega)
  · unfold SeqAt.shaped; rw [b2, Bool.true_and]; exact decide_eq_true (by omega)
  · have k := nb_eqv _ _ d e hx hy a1 b1
    by_cases h : see S x = see S y
    · rw [k.mpr h]
      have := h1 h
      cases neg <;> exact this
    · have z : PyData.eqv d e = false := by
        cases q : PyData.eqv d e with
        | false => rfl
        | true => exact absurd (k.mp q) h
      rw [z]
      have := h2 h
      cases neg <;> exact this
theorem nb_ints (ns : List Int) : nbTs (ns.map T.int) = true := by
  induction ns with
  | nil => rfl
  | cons n ns ih => simp only [List.map_cons, nbTs, nbT, ih, Bool.and_self]
theorem dp_ints (ns : List Int) : dpTs (ns.map T.int) = 0 := by
  induction ns with
  | nil => rfl
  | cons n ns ih => simp only [List.map_cons, dpTs, dpT, ih, Nat.max_self]
theorem ints_inj {ns ms : List Int} : ns.map T.int = ms.map T.int ↔ ns = ms := by
  constructor
  · intro h
    induction ns generalizing ms with
    | nil => cases ms with
      | nil => rfl
      | cons m ms => simp at h
    | cons n ns ih => cases ms with
      | nil => simp at h
      | cons m ms =>
        simp only [List.map_cons, List.cons.injEq, T.int.injEq] at h
        rw [h.1, ih h.2]
  · intro h; rw [h]
end Wp
namespace Wp
open PySem PySem.Spec PyProof.Rows L2
theorem sIx_nat {n d : Nat} (i : Nat) : HT.sIx n d (some (i : Int)) = min i n := by
  unfold HT.sIx
  simp
  omega
theorem sIx_none {n d : Nat} : HT.sIx n d none = d := rfl
theorem cutT_to (xs : List T) (i : Nat) : cutT xs none (some (i : Int)) = xs.take i := by
  unfold cutT
  rw [sIx_nat, sIx_none, List.drop_zero, Nat.sub_zero]
  by_cases h : i ≤ xs.length
  · rw [Nat.min_eq_left h]
  · rw [Nat.min_eq_right (by omega), List.take_of_length_le (Nat.le_refl _), List.take_of_length_le (by omega)]
theorem cutT_from (xs : List T) (i : Nat) : cutT xs (some (i : Int)) none = xs.drop i := by
  unfold cutT
  rw [sIx_nat, sIx_none]
  by_cases h : i ≤ xs.length
  · rw [Nat.min_eq_left h, List.take_of_length_le (by rw [List.length_drop]; omega)]
  · rw [Nat.min_eq_right (by omega), Nat.sub_self, List.take_zero, List.drop_eq_nil_of_le (by omega)]
theorem cutT_both (xs : List T) (i j : Nat) : cutT xs (some (i : Int)) (some (j : Int)) = (xs.drop i).take (j - i) := by
  unfold cutT
  rw [sIx_nat, sIx_nat]
  by_cases h : i ≤ xs.length
  · rw [Nat.min_eq_left h]
    by_cases h2 : j ≤ xs.length
    · rw [Nat.min_eq_left h2]
    · rw [Nat.min_eq_right (by omega), List.take_of_length_le (by rw [List.length_drop]; omega), List.take_of_length_le (by rw [List.length_drop]; omega)]
  · rw [Nat.min_eq_right (show xs.length ≤ i by omega), List.drop_eq_nil_of_le (show xs.length ≤ i by omega), List.drop_length]
    simp
theorem ex_map_ints {ns : List Int} {P : List Int → Prop} : (∃ ds, ns.map T.int = ds.map T.int ∧ P ds) = P ns := by
  apply propext
  constructor
  · rintro ⟨ds, e, h⟩; rw [ints_inj.mp e]; exact h
  · intro h; exact ⟨ns, rfl, h⟩
end Wp

set_option Elab.async false
set_option linter.all false
set_option maxRecDepth 100000
set_option maxHeartbeats 1000000
/-! objects: attributes, methods, new instances; errors -/
namespace Wp
open PySem PySem.Spec PyProof.Rows L2
def putFT (f : Str) (v : T) : List (Str × T) → List (Str × T)
  | [] => [(f, v)]
  | (g, x) :: r => if g = f then (g, v) :: r else (g, x) :: putFT f v r
theorem KRep.put {K : PySem.W.Frag} {H : Hp} {f : Str} {t : T} {v : V} (r : Rep K H t v) : ∀ {fs : List (Str × T)} {gs : List (Str × V)}, FRep K H fs gs → FRep K H (putFT f t fs) (putF f v gs)
  | _, _, .nil => .cons r .nil
  | _, _, .cons (f := g) h1 h2 => by
    unfold putFT putF
    split
    · exact .cons r h2
    · exact .cons h1 (KRep.put r h2)
theorem KRep.look {K : PySem.W.Frag} {H : Hp} {f : Str} {t : T} : ∀ {fs : List (Str × T)} {gs : List (Str × V)}, FRep K H fs gs → fs.lookup f = some t → ∃ v, gs.lookup f = some v ∧ Rep K H t v
  | _, _, .nil, e => by cases e
  | _, _, .cons (f := g) h1 h2, e => by
    rw [List.lookup_cons] at e ⊢
    split at e
    · cases e; exact ⟨_, rfl, h1⟩
    · exact KRep.look h2 e
theorem KRep.lookN {K : PySem.W.Frag} {H : Hp} {f : Str} : ∀ {fs : List (Str × T)} {gs : List (Str × V)}, FRep K H fs gs → fs.lookup f = none → gs.lookup f = none
  | _, _, .nil, e => rfl
  | _, _, .cons (f := g) h1 h2, e => by
    rw [List.lookup_cons] at e ⊢
    split at e
    · cases e
    · exact KRep.lookN h2 e
section
variable {B : Hp} {X : Cx} {C : Addr} {f : Str} {o e value : Expr} {to te : WE} {pos pos' tpos : Pos}
/-- o.f -/
def wFld (C : Addr) (f : Str) (to : WE) (σ : Sl) (S : Sta) (Q : T → Sta → Prop) : Prop := to σ S fun x S1 => match x with
  | .ref p => ∃ fs, S1 p = some (.ins C fs) ∧ ∃ v, fs.lookup f = some v ∧ Q v S1
  | _ => False
theorem j_fld (c : Cls X.K C) (n : NoAttr X.K C f) (ho : JE B X o to) (hb : attributeBase o f X.env (eval o X.env) = eval o X.env := by rfl) : JE B X (.Attribute o f pos) (wFld C f to) :=
  pe_imp (pe_fld ho hb) fun σ H Q ⟨st, S, Q0, he, hr, hs, h, im⟩ => by
    refine ⟨st, S, _, he, hr, hs, h, fun x S1 h1 H1 v e1 s1 r1 => ?_⟩
    cases x with
    | ref p =>
      obtain ⟨fs, e2, y, e3, q⟩ := h1
      cases r1
      obtain ⟨dx, gs, e4, r4⟩ := s1 p _ e2
      obtain ⟨w, e5, r5⟩ := r4.look e3
      exact ⟨p, C, dx, gs, w, rfl, e4, c, n, e5, im _ _ q H1 w e1 s1 r5⟩
    | _ => exact h1.elim
/-- o.f = e -/
def wFSet (C : Addr) (f : Str) (to te : WE) (D : WEnds) (σ : Sl) (S : Sta) : Prop := te σ S fun y S1 => to σ S1 fun x S2 => match x with
  | .ref p => ∃ fs, S2 p = some (.ins C fs) ∧ fs.length < 1000 ∧ goS D.nx σ (upS S2 p (.ins C (putFT f y fs)))
  | _ => False
theorem insW {K : PySem.W.Frag} {S : Sta} {H : Hp} {p C dx : Addr} {fs : List (Str × T)} {gs : List (Str × V)} {f : Str} {y : T} {v : V} (hs : St K S H) (e : H p = some (.ins C dx gs)) (r : FRep K H fs gs) (ry : Rep K H y v) :
    Ext H (upd H p (.ins C dx (putF f v gs))) ∧ St K (upS S p (.ins C (putFT f y fs))) (upd H p (.ins C dx (putF f v gs))) :=
  hs.setO e trivial fun ex => ⟨dx, _, upd_same, (r.put ry).mono ex⟩
theorem js_fset (c : Cls X.K C) (n : NoAttr X.K C f) (ho : JE B X o to) (hv : JE B X value te) (hs : swapsWith value (some (.Attribute o f pos')) pos.line X.env = pure false := by rfl) : JS B X (.Assign [.Attribute o f pos'] value pos) (wFSet C f to te) :=
  ps_imp (ps_fld ho hv hs) fun D σ H ⟨st, S, D0, he, hr, hs, h, im⟩ => by
    refine ⟨st, S, _, he, hr, hs, h, fun y S1 h1 H1 v e1 s1 r1 => ?_⟩
    refine ⟨st, S1, _, he.trans e1, hr.mono e1, s1, h1, fun x S2 h2 H2 u e2 s2 r2 => ?_⟩
    cases x with
    | ref p =>
      obtain ⟨fs, e3, hl, q⟩ := h2
      cases r2
      obtain ⟨dx, gs, e4, r4⟩ := s2 p _ e3
      have ry := Rep.mono e2 _ _ r1
      obtain ⟨e5, s5⟩ := insW (f := f) s2 e4 r4 ry
      refine ⟨p, C, dx, gs, rfl, e4, c, n, by rw [← r4.length]; exact hl, ?_⟩
      exact im.nx _ _ q _ σ ((e1.trans e2).trans e5) s5 (hr.mono ((e1.trans e2).trans e5))
    | _ => exact h2.elim
/-- o.f op= e -/
def wFAug (C : Addr) (f : Str) (r : R3) (to te : WE) (D : WEnds) (σ : Sl) (S : Sta) : Prop := to σ S fun x S1 => match x with
  | .ref p => ∃ fs, S1 p = some (.ins C fs) ∧ ∃ v, fs.lookup f = some v ∧ te σ S1 fun y S2 => r v y S2 fun z S3 => ∃ fs', S3 p = some (.ins C fs') ∧ fs'.length < 1000 ∧ goS D.nx σ (upS S3 p (.ins C (putFT f z fs')))
  | _ => False
theorem js_faug {op : Operator} {r : R3} (c : Cls X.K C) (n : NoAttr X.K C f) (ho : JE B X o to) (hv : JE B X value te) (hop : OpT X (inplaceOp op) r) : JS B X (.AugAssign (.Attribute o f tpos) op value pos) (wFAug C f r to te) :=
  ps_imp (ps_fldaug (rd := L3 X.K r) ho hv (fun pins s σ H x y u v Q I ru rv h => hop pins s σ H x y u v Q I ru rv h)) fun D σ H ⟨st, S, D0, he, hr, hs, h, im⟩ => by
    refine ⟨st, S, _, he, hr, hs, h, fun x S1 h1 H1 v e1 s1 r1 => ?_⟩
    cases x with
    | ref p =>
      obtain ⟨fs, e2, y, e3, q⟩ := h1
      cases r1
      obtain ⟨dx, gs, e4, r4⟩ := s1 p _ e2
      obtain ⟨w, e5, r5⟩ := r4.look e3
      refine ⟨p, C, dx, gs, w, rfl, e4, c, n, e5, st, S1, _, he.trans e1, hr.mono e1, s1, q, fun z S2 q2 H2 u e6 s6 r6 => ?_⟩
      refine ⟨y, z, S2, _, Rep.mono e6 _ _ r5, r6, s6, q2, fun z2 S3 q3 H3 u3 e7 s7 r7 => ?_⟩
      obtain ⟨fs', e8, hl, q4⟩ := q3
      obtain ⟨dx', gs', e9, r9⟩ := s7 p _ e8
      obtain ⟨e10, s10⟩ := insW (f := f) s7 e9 r9 r7
      refine ⟨dx', gs', e9, by rw [← r9.length]; exact hl, ?_⟩
      have ee := e1.trans (e6.trans (e7.trans e10))
      exact im.nx _ _ q4 _ σ ee s10 (hr.mono ee)
    | _ => exact h1.elim
end
/-! ### methods, new instances -/
section
variable {B : Hp} {X : Cx} {C : Addr} {m x : Str} {o e : Expr} {es : List Expr} {to : WE} {t : WA} {p pos apos : Pos} {k : Nat} {ps : List Str} {s : WSp} {tl : List Addr}
/-- a class's method -/
def CalM (P : Program) (w : World) (K : PySem.W.Frag) (mg : Str → Option Value) (base : Heap) (tl : List Addr) (k : Nat) (C : Addr) (m : Str) (ps : List Str) (s : WSp) : Prop :=
  ∃ f fd, FnOk P w K mg base CX0 k f fd ps (Lsp tl K ps.length s) ∧ Meth K C m f ∧ Binds K fd ps []
theorem CalM.mono {P : Program} {w : World} {K : PySem.W.Frag} {mg : Str → Option Value} {base : Heap} {j : Nat} (c : CalM P w K mg base tl j C m ps s) (h : j ≤ k) : CalM P w K mg base tl k C m ps s := by
  obtain ⟨f, fd, F, m, b⟩ := c
  exact ⟨f, fd, F.mono h, m, b⟩
theorem CalM.imp {P : Program} {w : World} {K : PySem.W.Frag} {mg : Str → Option Value} {base : Heap} {s' : WSp} (c : CalM P w K mg base tl k C m ps s) (h : ∀ ts S Q E, s' ts S Q E → s ts S Q E) : CalM P w K mg base tl k C m ps s' := by
  obtain ⟨f, fd, F, m, b⟩ := c
  exact ⟨f, fd, fn_imp F h, m, b⟩
def wMeth (C : Addr) (m : Str) (n : Nat) (w : WSp) (to : WE) (t : WA) (σ : Sl) (S : Sta) (Q : T → Sta → Prop) : Prop := to σ S fun x S1 => match x with
  | .ref p => ∃ fs, S1 p = some (.ins C fs) ∧ fs.lookup m = none ∧ t σ S1 fun ts S2 => ts.length + 1 = n ∧ w (.ref p :: ts) S2 Q fun _ _ => False
  | _ => False
theorem j_meth (c : CalM X.prog X.w X.K X.mg X.base tl k C m ps s) (cl : Cls X.K C) (ht : ∀ P ∈ tl, GxR.TabG B P) (hr : Room k X.A) (ho : JE B X o to) (ha : JA B X (e :: es) t)
    (hst : starEach (e :: es) X.env = (false, eval e X.env) :: starEach es X.env := by rfl) (hpl : (backTo pos (starEach es X.env)).any (·.1) = false := by rfl) {pl : Sem Bool}
    (hte : eval (.Call (.Attribute o m apos) (e :: es) [] pos) X.env = (do
      let ov ← eval o X.env
      standAt apos.atName
      let (f, first) ← holding [ov] (getMethod ov m pl)
      callWith pos f first (backTo pos (starEach (e :: es) X.env)) (backToKw pos (keywordEach [] X.env))) := by rfl) :
    JE B X (.Call (.Attribute o m apos) (e :: es) [] pos) (wMeth C m ps.length s to t) := by
  obtain ⟨f, fd, F, hm, b⟩ := c
  refine pe_imp (pe_meth (pl := pl) ho cl hm F hr b .nil pass0 ha hst hpl hte) fun σ H Q ⟨st, S, Q0, he, hr, hs, h, im⟩ => ?_
  refine ⟨st, S, _, he, hr, hs, h, fun x S1 h1 H1 v e1 s1 r1 => ?_⟩
  cases x with
  | ref p =>
    obtain ⟨fs, e2, hl, q⟩ := h1
    cases r1
    obtain ⟨dx, gs, e4, r4⟩ := s1 p _ e2
    refine ⟨p, dx, gs, rfl, e4, r4.lookN hl, st, S1, _, he.trans e1, hr.mono e1, s1, q, fun ts S2 h2 H2 vs e6 s6 r6 => ?_⟩
    refine ⟨fun P hP => (he.trans (e1.trans e6)).tabs P (ht P hP), .ref p :: ts, S2, Q0, fun _ _ => False, by rw [List.length_cons]; exact h2.1, by rw [List.append_nil]; exact .cons (.ref p) r6, s6, h2.2, fun z S3 q => fin_ext (e1.trans e6) (im z S3 q), fun C S' H' q => q.elim⟩
  | _ => exact h1.elim
theorem j_meth0 (c : CalM X.prog X.w X.K X.mg X.base tl k C m ps s) (cl : Cls X.K C) (ht : ∀ P ∈ tl, GxR.TabG B P) (hr : Room k X.A) (ho : JE B X o to) {pl : Sem Bool}
    (hte : eval (.Call (.Attribute o m apos) [] [] pos) X.env = (do
      let ov ← eval o X.env
      standAt apos.atName
      let (f, first) ← holding [ov] (getMethod ov m pl)
      callWith pos f first (backTo pos (starEach [] X.env)) (backToKw pos (keywordEach [] X.env))) := by rfl) :
    JE B X (.Call (.Attribute o m apos) [] [] pos) (wMeth C m ps.length s to wNil) := by
  obtain ⟨f, fd, F, hm, b⟩ := c
  refine pe_imp (pe_meth0 (pl := pl) ho cl hm F hr b .nil pass0 hte) fun σ H Q ⟨st, S, Q0, he, hr, hs, h, im⟩ => ?_
  refine ⟨st, S, _, he, hr, hs, h, fun x S1 h1 H1 v e1 s1 r1 => ?_⟩
  cases x with
  | ref p =>
    obtain ⟨fs, e2, hl, h2⟩ := h1
    cases r1
    obtain ⟨dx, gs, e4, r4⟩ := s1 p _ e2
    refine ⟨p, dx, gs, rfl, e4, r4.lookN hl, fun P hP => (he.trans e1).tabs P (ht P hP), [.ref p], S1, Q0, fun _ _ => False, h2.1, .cons (.ref p) .nil, s1, h2.2, fun z S3 q => fin_ext e1 (im z S3 q), fun C S' H' q => q.elim⟩
  | _ => exact h1.elim
/-- a class and its __init__ -/
def CalI (P : Program) (w : World) (K : PySem.W.Frag) (mg : Str → Option Value) (base : Heap) (tl : List Addr) (k : Nat) (C : Addr) (x : Str) (ps : List Str) (s : WSp) : Prop :=
  ∃ f fd, FnOk P w K mg base CX0 k f fd ps (Lsp tl K ps.length s) ∧ Mk K C f ∧ mg x = some (.ref C) ∧ Binds K fd ps []
theorem CalI.mono {P : Program} {w : World} {K : PySem.W.Frag} {mg : Str → Option Value} {base : Heap} {j : Nat} (c : CalI P w K mg base tl j C x ps s) (h : j ≤ k) : CalI P w K mg base tl k C x ps s := by
  obtain ⟨f, fd, F, m, b⟩ := c
  exact ⟨f, fd, F.mono h, m, b⟩
def wMake (C : Addr) (n : Nat) (w : WSp) (t : WA) (σ : Sl) (S : Sta) (Q : T → Sta → Prop) : Prop := t σ S fun ts S1 => ts.length + 1 = n ∧ ∀ p, S1 p = none → w (.ref p :: ts) (upS S1 p (.ins C [])) (fun v S2 => v = .non ∧ Q (.ref p) S2) fun _ _ => False
theorem make_le {B H1 : Hp} {n : Nat} {S1 : Sta} {ts : List T} {vs : List V} {Q0 : T → Sta → Prop} {Q : VK} (he : Ext B H1) (hs : St X.K S1 H1) (r : Reps X.K H1 ts vs) (ht : ∀ P ∈ tl, GxR.TabG B P) (im : Im2 Q0 (fin X.K H1 Q))
    (h : ts.length + 1 = n ∧ ∀ p, S1 p = none → s (.ref p :: ts) (upS S1 p (.ins C [])) (fun v S2 => v = .non ∧ Q0 (.ref p) S2) fun _ _ => False) : ∀ x dx, H1 x = none → H1 dx = none → dx ≠ x →
      Lsp tl X.K n s (.ref x :: (vs ++ [])) (upd (upd H1 dx (.own x)) x (.ins C dx [])) (fun v H2 => v = .non ∧ Q (.ref x) H2) E0 := fun x dx hx hd hne => by
  have e1 := Ext.new (o := HO.own x) hd
  have s1 := hs.new hd (.own x)
  have hx1 : upd H1 dx (.own x) x = none := by rw [upd_ne hne.symm]; exact hx
  obtain ⟨e2, s2⟩ := s1.newO (u' := .ins C dx []) (o' := .ins C []) hx1 fun ex => ⟨dx, [], upd_same, .nil⟩
  have ee := e1.trans e2
  refine ⟨fun P hP => (he.trans ee).tabs P (ht P hP), .ref x :: ts, _, _, fun _ _ => False, by rw [List.length_cons]; exact h.1, by rw [List.append_nil]; exact .cons (.ref x) (Reps.mono ee _ _ r), s2, h.2 x (s1.free hx1), fun z S3 q H3 v e3 s3 r3 => ?_, fun C S' H' q => q.elim⟩
  obtain ⟨ez, q⟩ := q
  subst ez
  cases r3
  exact ⟨rfl, im _ _ q H3 _ (ee.trans e3) s3 (.ref x)⟩
theorem j_make (c : CalI X.prog X.w X.K X.mg X.base tl k C x ps s) (ht : ∀ P ∈ tl, GxR.TabG B P) (hr : Room (k + 1) X.A) (hg : Gl X x) (ha : JA B X (e :: es) t) (hdb : (x == ("__debug__" : Str)) = false := by decide)
    (he : starEach (e :: es) X.env = (false, eval e X.env) :: starEach es X.env := by rfl) (hpl : (backTo pos (starEach es X.env)).any (·.1) = false := by rfl) : JE B X (.Call (.Name x p) (e :: es) [] pos) (wMake C ps.length s t) := by
  obtain ⟨f, fd, F, M, hm, b⟩ := c
  refine pe_imp (pe_make M F hr hg hm b .nil pass0 ha hdb he hpl) fun σ H Q ⟨st, S, Q0, he, hr, hs, h, im⟩ => ?_
  refine ⟨st, S, _, he, hr, hs, h, fun ts S1 h1 H1 vs e1 s1 r1 => ?_⟩
  exact make_le (he.trans e1) s1 r1 ht (fun z S3 q => fin_ext e1 (im z S3 q)) h1
theorem j_make0 (c : CalI X.prog X.w X.K X.mg X.base tl k C x ps s) (ht : ∀ P ∈ tl, GxR.TabG B P) (hr : Room (k + 1) X.A) (hg : Gl X x) (hdb : (x == ("__debug__" : Str)) = false := by decide) : JE B X (.Call (.Name x p) [] [] pos) (wMake C ps.length s wNil) := by
  obtain ⟨f, fd, F, M, hm, b⟩ := c
  refine pe_imp (pe_make0 M F hr hg hm b .nil pass0 hdb) fun σ H Q ⟨st, S, Q0, he, hr, hs, h, im⟩ => ?_
  exact make_le (vs := []) he hs .nil ht im h
end
/-- a method of the text -/
def DefM (K : PySem.W.Frag) (C : Addr) (m qual : Str) (st : Stmt) (ps : List Str) : Prop := ∃ f fd, Fun K m qual st f fd ∧ Meth K C m f ∧ Binds K fd ps []
def DefI (K : PySem.W.Frag) (mg : Str → Option Value) (C : Addr) (x qual : Str) (st : Stmt) (ps : List Str) : Prop := ∃ f fd, Fun K "__init__" qual st f fd ∧ Mk K C f ∧ mg x = some (.ref C) ∧ Binds K fd ps []
section
variable {P : Program} {w : World} {K : PySem.W.Frag} {mg : Str → Option Value} {base : Heap} {k : Nat} {C : Addr} {m x qual : Str} {st : Stmt} {ps : List Str} {s : WSp} {tl : List Addr}
theorem DefM.cal (D : DefM K C m qual st ps) (h : ∀ f fd, Fun K m qual st f fd → FnOk P w K mg base CX0 k f fd ps (Lsp tl K ps.length s)) : CalM P w K mg base tl k C m ps s := by
  obtain ⟨f, fd, F, m, b⟩ := D
  exact ⟨f, fd, h f fd F, m, b⟩
theorem DefI.cal (D : DefI K mg C x qual st ps) (h : ∀ f fd, Fun K "__init__" qual st f fd → FnOk P w K mg base CX0 k f fd ps (Lsp tl K ps.length s)) : CalI P w K mg base tl k C x ps s := by
  obtain ⟨f, fd, F, M, m, b⟩ := D
  exact ⟨f, fd, h f fd F, M, m, b⟩
theorem defM_mk {f : Addr} {oc : Value} {od an : Option Addr} {osl : Array (Option Value)} {kV doc pm cdv ct : Value} (a : PySem.W.findIn K (.ref C) m = some (some (.ref f))) (i : PySem.W.isFn K (.ref f) = true)
    (l : K.lookup f = some ⟨oc, od, .func (PySem.W.fnOf m qual (defArgs st) (defBody st) (defScope st) .none kV doc pm an cdv ct), osl⟩) (c : PySem.W.codeIn K cdv qual = true) (k : PySem.W.keepIn K (.ref f) = true)
    (h : ∀ (kV doc pm : Value) (an : Option Addr) (cdv ct : Value) (us : List Value), us.length = ps.length → bindArgs (PySem.W.fnOf m qual (defArgs st) (defBody st) (defScope st) .none kV doc pm an cdv ct) ⟨us, []⟩ = pure (ps.zip us)) : DefM K C m qual st ps :=
  ⟨f, _, fun_mk l c k, ⟨a, i, k⟩, (fun_mk l c k).binds h⟩
theorem defI_mk {f : Addr} {oc : Value} {od an : Option Addr} {osl : Array (Option Value)} {kV doc pm cdv ct : Value} (a : PySem.W.findIn K (.ref C) "__init__" = some (some (.ref f))) (i : PySem.W.isFn K (.ref f) = true) (mk : PySem.W.makesIn K C = true) (kc : PySem.W.keepIn K (.ref C) = true) (hm : mg x = some (.ref C))
    (l : K.lookup f = some ⟨oc, od, .func (PySem.W.fnOf "__init__" qual (defArgs st) (defBody st) (defScope st) .none kV doc pm an cdv ct), osl⟩) (c : PySem.W.codeIn K cdv qual = true) (k : PySem.W.keepIn K (.ref f) = true)
    (h : ∀ (kV doc pm : Value) (an : Option Addr) (cdv ct : Value) (us : List Value), us.length = ps.length → bindArgs (PySem.W.fnOf "__init__" qual (defArgs st) (defBody st) (defScope st) .none kV doc pm an cdv ct) ⟨us, []⟩ = pure (ps.zip us)) : DefI K mg C x qual st ps :=
  ⟨f, _, fun_mk l c k, ⟨mk, a, i, kc⟩, hm, (fun_mk l c k).binds h⟩
end
end Wp

set_option Elab.async false
set_option linter.all false
set_option maxRecDepth 100000
set_option maxHeartbeats 1000000
/-! dicts -/
namespace Wp
open PySem PySem.Spec PyProof.Rows L2
section
variable {κ : Type} [DecidableEq κ]
def valT (kvs : List (κ × T)) (k : κ) : Option T := (kvs.find? fun kv => decide (kv.1 = k)).map (·.2)
def putT (kvs : List (κ × T)) (k : κ) (v : T) : List (κ × T) :=
  if (kvs.any fun kv => decide (kv.1 = k)) = true then kvs.map (fun kv => if kv.1 = k then (kv.1, v) else kv) else kvs ++ [(k, v)]
def dropT (kvs : List (κ × T)) (k : κ) : List (κ × T) := kvs.filter fun kv => decide (kv.1 ≠ k)
/-- two options that stand for each other -/
def RepO (K : PySem.W.Frag) (H : Hp) : Option T → Option V → Prop
  | some t, some v => Rep K H t v
  | none, none => True
  | _, _ => False
theorem KRep.val {K : PySem.W.Frag} {H : Hp} (k : κ) : ∀ {kvs : List (κ × T)} {vs : List (κ × V)}, KRep K H kvs vs → RepO K H (valT kvs k) (valV vs k)
  | _, _, .nil => trivial
  | _, _, .cons (f := g) (t := t) (v := v) (fs := fs) (gs := gs) h1 h2 => by
    unfold valT valV
    rw [List.find?_cons, List.find?_cons]
    by_cases e : g = k
    · have e1 : decide (((g, t) : κ × T).1 = k) = true := decide_eq_true e
      have e2 : decide (((g, v) : κ × V).1 = k) = true := decide_eq_true e
      rw [e1]
      exact h1
    · have e1 : decide (((g, t) : κ × T).1 = k) = false := decide_eq_false e
      have e2 : decide (((g, v) : κ × V).1 = k) = false := decide_eq_false e
      rw [e1]
      exact KRep.val k h2
theorem KRep.any {K : PySem.W.Frag} {H : Hp} (k : κ) : ∀ {kvs : List (κ × T)} {vs : List (κ × V)}, KRep K H kvs vs → (kvs.any fun kv => decide (kv.1 = k)) = vs.any fun kv => decide (kv.1 = k)
  | _, _, .nil => rfl
  | _, _, .cons h1 h2 => by rw [List.any_cons, List.any_cons, KRep.any k h2]
theorem KRep.repl {K : PySem.W.Frag} {H : Hp} (k : κ) {t : T} {v : V} (r : Rep K H t v) : ∀ {kvs : List (κ × T)} {vs : List (κ × V)}, KRep K H kvs vs → KRep K H (kvs.map fun kv => if kv.1 = k then (kv.1, t) else kv) (vs.map fun kv => if kv.1 = k then (kv.1, v) else kv)
  | _, _, .nil => .nil
  | _, _, .cons (f := g) h1 h2 => by
    rw [List.map_cons, List.map_cons]
    by_cases e : g = k
    · simp only [e, if_true]; exact .cons r (KRep.repl k r h2)
    · simp only [e, if_false]; exact .cons h1 (KRep.repl k r h2)
theorem KRep.app {K : PySem.W.Frag} {H : Hp} : ∀ {a b : List (κ × T)} {c d : List (κ × V)}, KRep K H a c → KRep K H b d → KRep K H (a ++ b) (c ++ d)
  | _, _, _, _, .nil, h => h
  | _, _, _, _, .cons h1 h2, h => .cons h1 (KRep.app h2 h)
theorem KRep.putd {K : PySem.W.Frag} {H : Hp} (k : κ) {t : T} {v : V} (r : Rep K H t v) {kvs : List (κ × T)} {vs : List (κ × V)} (h : KRep K H kvs vs) : KRep K H (putT kvs k t) (putK vs k v) := by
  unfold putT putK
  rw [h.any k]
  split
  · exact h.repl k r
  · exact h.app (.cons r .nil)
theorem KRep.drop {K : PySem.W.Frag} {H : Hp} (k : κ) : ∀ {kvs : List (κ × T)} {vs : List (κ × V)}, KRep K H kvs vs → KRep K H (dropT kvs k) (dropK vs k)
  | _, _, .nil => .nil
  | _, _, .cons (f := g) (t := t) (v := v) (fs := fs) (gs := gs) h1 h2 => by
    have ih := KRep.drop k h2
    unfold dropT dropK at ih ⊢
    rw [List.filter_cons, List.filter_cons]
    by_cases e : g ≠ k
    · have e1 : decide (((g, t) : κ × T).1 ≠ k) = true := decide_eq_true e
      have e2 : decide (((g, v) : κ × V).1 ≠ k) = true := decide_eq_true e
      rw [if_pos e1, if_pos e2]
      exact .cons h1 ih
    · have e1 : ¬ decide (((g, t) : κ × T).1 ≠ k) = true := by simpa using e
      have e2 : ¬ decide (((g, v) : κ × V).1 ≠ k) = true := by simpa using e
      rw [if_neg e1, if_neg e2]
      exact ih
theorem KRep.keys {K : PySem.W.Frag} {H : Hp} : ∀ {kvs : List (κ × T)} {vs : List (κ × V)}, KRep K H kvs vs → kvs.map (·.1) = vs.map (·.1)
  | _, _, .nil => rfl
  | _, _, .cons h1 h2 => by rw [List.map_cons, List.map_cons, KRep.keys h2]
/-! what a dict holds -/
theorem valT_nil {k : κ} : valT ([] : List (κ × T)) k = none := rfl
theorem valT_cons {k j : κ} {v : T} {r : List (κ × T)} : valT ((j, v) :: r) k = if j = k then some v else valT r k := by
  unfold valT
  rw [List.find?_cons]
  by_cases e : j = k
  · rw [if_pos e, show decide (((j, v) : κ × T).1 = k) = true from decide_eq_true e]; rfl
  · rw [if_neg e, show decide (((j, v) : κ × T).1 = k) = false from decide_eq_false e]
theorem valT_any (k : κ) : ∀ kvs : List (κ × T), (kvs.any fun kv => decide (kv.1 = k)) = (valT kvs k).isSome
  | [] => rfl
  | (j, v) :: r => by
    rw [List.any_cons, valT_cons, valT_any k r]
    by_cases e : j = k
    · rw [if_pos e, show decide (((j, v) : κ × T).1 = k) = true from decide_eq_true e]; rfl
    · rw [if_neg e, show decide (((j, v) : κ × T).1 = k) = false from decide_eq_false e, Bool.false_or]
theorem valT_map (k j : κ) (y : T) : ∀ kvs : List (κ × T), valT (kvs.map fun kv => if kv.1 = k then (kv.1, y) else kv) j = (valT kvs j).map fun x => if j = k then y else x
  | [] => rfl
  | (i, v) :: r => by
    rw [List.map_cons]
    by_cases e : i = k
    · simp only [e, if_true]
      rw [valT_cons, valT_cons, valT_map k j y r]
      by_cases e2 : k = j
      · simp [e2]
      · rw [if_neg e2, if_neg e2]
    · simp only [e, if_false]
      rw [valT_cons, valT_cons, valT_map k j y r]
      by_cases e2 : i = j
      · rw [if_pos e2, if_pos e2, Option.map_some, if_neg (fun z => e (e2.trans z))]
      · rw [if_neg e2, if_neg e2]
theorem valT_snoc (k j : κ) (y : T) : ∀ kvs : List (κ × T), valT kvs k = none → valT (kvs ++ [(k, y)]) j = if j = k then some y else valT kvs j
  | [], _ => by
    rw [List.nil_append, valT_cons, valT_nil]
    by_cases e : k = j
    · rw [if_pos e, if_pos e.symm]
    · rw [if_neg e, if_neg (fun z => e z.symm)]
  | (i, v) :: r, h => by
    rw [valT_cons] at h
    by_cases e : i = k
    · rw [if_pos e] at h; cases h
    · rw [if_neg e] at h
      rw [List.cons_append, valT_cons, valT_cons, valT_snoc k j y r h]
      by_cases e2 : i = j
      · rw [if_pos e2, if_pos e2, if_neg (fun z => e (e2.trans z))]
      · rw [if_neg e2, if_neg e2]
theorem valT_put (kvs : List (κ × T)) (k j : κ) (y : T) : valT (putT kvs k y) j = if j = k then some y else valT kvs j := by
  unfold putT
  rw [valT_any]
  split
  · rename_i h
    rw [valT_map]
    by_cases e : j = k
    · subst e
      obtain ⟨x, hx⟩ := Option.isSome_iff_exists.mp h
      rw [hx, if_pos rfl, Option.map_some, if_pos rfl]
    · rw [if_neg e]
      cases valT kvs j <;> simp [e]
  · rename_i h
    exact valT_snoc k j y kvs (by simpa using h)
theorem valT_drop (k j : κ) : ∀ kvs : List (κ × T), valT (dropT kvs k) j = if j = k then none else valT kvs j
  | [] => by simp [dropT, valT_nil]
  | (i, v) :: r => by
    have ih := valT_drop k j r
    unfold dropT at ih ⊢
    rw [List.filter_cons]
    by_cases e : i = k
    · rw [if_neg (by simp [e]), ih, valT_cons]
      by_cases e2 : j = k
      · rw [if_pos e2, if_pos e2]
      · rw [if_neg e2, if_neg e2, if_neg (fun z => e2 (z.symm.trans e))]
    · rw [if_pos (by simp [e]), valT_cons, valT_cons, ih]
      by_cases e2 : i = j
      · rw [if_pos e2, if_pos e2, if_neg (fun z => e (e2.trans z))]
      · rw [if_neg e2, if_neg e2]
theorem length_putT (kvs : List (κ × T)) (k : κ) (v : T) : (putT kvs k v).length ≤ kvs.length + 1 := by
  unfold putT
  split
  · rw [List.length_map]; omega
  · rw [List.length_append]; exact Nat.le_refl _
theorem length_dropT (kvs : List (κ × T)) (k : κ) : (dropT kvs k).length ≤ kvs.length := List.length_filter_le _ _
theorem keys_putT (kvs : List (κ × T)) (k : κ) (v : T) : (putT kvs k v).map (·.1) = if (valT kvs k).isSome = true then kvs.map (·.1) else kvs.map (·.1) ++ [k] := by
  unfold putT
  rw [valT_any]
  split
  · rw [List.map_map]
    refine List.map_congr_left fun p _ => ?_
    simp only [Function.comp]
    split <;> rfl
  · rw [List.map_append]; rfl
theorem valT_mem {kvs : List (κ × T)} {k : κ} : (valT kvs k).isSome = true ↔ k ∈ kvs.map (·.1) := by
  rw [← valT_any]
  simp only [List.any_eq_true, decide_eq_true_eq, List.mem_map]
theorem nodup_putT {kvs : List (κ × T)} {k : κ} {v : T} (h : (kvs.map (·.1)).Nodup) : ((putT kvs k v).map (·.1)).Nodup := by
  rw [keys_putT]
  split
  · exact h
  · rename_i hn
    rw [valT_mem] at hn
    rw [List.nodup_append]
    exact ⟨h, List.nodup_cons.mpr ⟨(by simp), List.nodup_nil⟩, fun a ha b hb => by rw [List.mem_singleton.mp hb]; intro e; subst e; exact hn ha⟩
theorem nodup_dropT {kvs : List (κ × T)} {k : κ} (h : (kvs.map (·.1)).Nodup) : ((dropT kvs k).map (·.1)).Nodup := by
  unfold dropT
  exact (List.filter_sublist.map _).nodup h
end
/-! ### keys -/
def keyT : T → Option Key
  | .int i => some (.inl i)
  | .str x => some (.inr x)
  | _ => none
def keysL : List T → Option (List Key)
  | [] => some []
  | t :: ts => match keyT t, keysL ts with
    | some k, some ks => some (k :: ks)
    | _, _ => none
def keysT : T → Option (List Key)
  | .tup ts => keysL ts
  | _ => none
theorem keyT_rep {K : PySem.W.Frag} {H : Hp} {t : T} {v : V} {k : Key} (r : Rep K H t v) (e : keyT t = some k) : v = kV k := by
  cases t <;> simp only [keyT, Option.some.injEq, reduceCtorEq] at e <;> subst e <;> cases r <;> rfl
theorem keysL_rep {K : PySem.W.Frag} {H : Hp} : ∀ {ts : List T} {vs : List V} {ks : List Key}, Reps K H ts vs → keysL ts = some ks → vs = ks.map kV
  | [], _, _, r, e => by cases r; simp only [keysL, Option.some.injEq] at e; subst e; rfl
  | t :: ts, _, ks, r, e => by
    cases r with
    | cons h1 h2 =>
      simp only [keysL] at e
      cases e1 : keyT t with
      | none => rw [e1] at e; cases e
      | some k =>
        cases e2 : keysL ts with
        | none => rw [e1, e2] at e; cases e
        | some ks' =>
          rw [e1, e2] at e
          cases e
          rw [keyT_rep h1 e1, keysL_rep h2 e2]
          rfl
theorem keysT_rep {K : PySem.W.Frag} {H : Hp} {t : T} {v : V} {ks : List Key} (r : Rep K H t v) (e : keysT t = some ks) : ∃ b, v = .ref b ∧ H b = some (.tup (ks.map kV)) := by
  cases t with
  | tup ts =>
    cases r with
    | @tup a xs _ g1 g2 => exact ⟨a, rfl, by rw [← keysL_rep g2 e]; exact g1⟩
  | _ => cases e
/-- what the dict at p holds at y -/
def getD (S : Sta) (p : Addr) (y : T) : Option (Option T) := match S p with
  | some (.dct kvs) => (keyT y).map (valT kvs)
  | some (.dtt kvs) => (keysT y).map (valT kvs)
  | _ => none
/-- the state behind d[y] = v -/
def putD (S : Sta) (p : Addr) (y v : T) : Option O := match S p with
  | some (.dct kvs) => if kvs.length < sizeLine then (keyT y).map fun k => .dct (putT kvs k v) else none
  | some (.dtt kvs) => if kvs.length < sizeLine then (keysT y).map fun k => .dtt (putT kvs k v) else none
  | _ => none
theorem getD_rep {K : PySem.W.Frag} {S : Sta} {H : Hp} {p : Addr} {y : T} {w : V} {o : Option T} (hs : St K S H) (r : Rep K H y w) (e : getD S p y = some o) : ∃ o', DGet H p w o' ∧ RepO K H o o' := by
  unfold getD at e
  cases eS : S p with
  | none => rw [eS] at e; cases e
  | some u =>
    rw [eS] at e
    cases u with
    | lst _ => cases e
    | ins _ _ => cases e
    | dct kvs =>
      obtain ⟨vs, h1, h2⟩ := hs p _ eS
      simp only [Option.map_eq_some_iff] at e
      obtain ⟨k, ek, rfl⟩ := e
      rw [keyT_rep r ek]
      exact ⟨_, .k h1, h2.val k⟩
    | dtt kvs =>
      obtain ⟨vs, h1, h2⟩ := hs p _ eS
      simp only [Option.map_eq_some_iff] at e
      obtain ⟨k, ek, rfl⟩ := e
      obtain ⟨b, rfl, hb⟩ := keysT_rep r ek
      exact ⟨_, .t h1 hb, h2.val k⟩
theorem putD_rep {K : PySem.W.Frag} {S : Sta} {H : Hp} {p : Addr} {y v : T} {w z : V} {o : O} (hs : St K S H) (r : Rep K H y w) (rv : Rep K H v z) (e : putD S p y v = some o) : ∃ H', DPut H p w z H' ∧ Ext H H' ∧ St K (upS S p o) H' := by
  unfold putD at e
  cases eS : S p with
  | none => rw [eS] at e; cases e
  | some u =>
    rw [eS] at e
    cases u with
    | lst _ => cases e
    | ins _ _ => cases e
    | dct kvs =>
      obtain ⟨vs, h1, h2⟩ := hs p _ eS
      simp only at e
      split at e
      · rename_i hl
        simp only [Option.map_eq_some_iff] at e
        obtain ⟨k, ek, rfl⟩ := e
        rw [keyT_rep r ek]
        obtain ⟨e3, s3⟩ := hs.setO (u' := .dK (putK vs k z)) (o' := .dct (putT kvs k v)) h1 trivial fun ex => ⟨_, upd_same, (h2.putd k rv).mono ex⟩
        exact ⟨_, .k h1 (by rw [← h2.length]; exact hl), e3, s3⟩
      · cases e
    | dtt kvs =>
      obtain ⟨vs, h1, h2⟩ := hs p _ eS
      simp only at e
      split at e
      · rename_i hl
        simp only [Option.map_eq_some_iff] at e
        obtain ⟨k, ek, rfl⟩ := e
        obtain ⟨b, rfl, hb⟩ := keysT_rep r ek
        obtain ⟨e3, s3⟩ := hs.setO (u' := .dT (putK vs k z)) (o' := .dtt (putT kvs k v)) h1 trivial fun ex => ⟨_, upd_same, (h2.putd k rv).mono ex⟩
        exact ⟨_, .t h1 hb (by rw [← h2.length]; exact hl), e3, s3⟩
      · cases e
theorem itemsT_ref' {S : Sta} {p : Addr} {ts : List T} (h : S p = some (.lst ts)) : itemsT S (.ref p) = some ts := by simp only [itemsT, h]
def isDT (S : Sta) (p : Addr) : Prop := match S p with
  | some (.dct _) => True
  | some (.dtt _) => True
  | _ => False
theorem isDT_rep {K : PySem.W.Frag} {S : Sta} {H : Hp} {p : Addr} (hs : St K S H) (e : isDT S p) : IsD H p := by
  unfold isDT at e
  cases eS : S p with
  | none => rw [eS] at e; cases e
  | some u =>
    rw [eS] at e
    cases u with
    | lst _ => cases e
    | ins _ _ => cases e
    | dct kvs => obtain ⟨vs, h1, h2⟩ := hs p _ eS; exact .inl ⟨vs, .inl h1⟩
    | dtt kvs => obtain ⟨vs, h1, h2⟩ := hs p _ eS; exact .inr ⟨vs, .inl h1⟩
/-! ### o[i], in, o[i] = v, len: of dicts, too -/
section
variable {B : Hp} {X : Cx} {a b o i e value : Expr} {ta tb to te : WE} {pos pos' tpos cpos apos : Pos}
theorem ix_D (hu : X.A.units + 1 < cLine) : IxR X (fun x y H Q => ∃ a v, x = .ref a ∧ DGet H a y (some v) ∧ Q v H) := by
  intro value slice pins s σ H x y v u Q I rx ry ⟨a, z, ex, g, q⟩ hs
  subst ex
  obtain rfl : v = Value.ref a := rx
  have hT := dict_typeIs I g
  unfold subscriptTail
  refine wpAny_bind ?_
  rw [getitemInPython_of_ne hT.not_modules]
  refine wpAny_bind (wpAny_specialOf hT PySem.F.slot_dict_getitem.lookup ?_)
  have h₂ : wpAny (model X.prog X.w) X.A (getItem (.ref a) u) (EP X pins σ Q) X.xe s := d_getItem hu I g ry fun w' s3 I3 rw' => ⟨z, H, I3, rw', q⟩
  have fin : wpAny (model X.prog X.w) X.A (subscripted slice false (.ref a) u) (fun r s₃ => wpAny (model X.prog X.w) X.A (letTemporaryGo value (.ref a) r >>= fun _ => pure r) (EP X pins σ Q) X.xe s₃) X.xe s := by
    rw [hs]
    exact wpAny_operating (wpAny_mono h₂ (fun r s₃ h₃ => wpAny_bind (wpAny_letTemporaryGo (wpAny_pure h₃))) fun _ _ x => x)
  first
    | exact wpAny_pure (wpAny_bind fin)
    | exact wpAny_bind (wpAny_pure (wpAny_bind fin))
    | exact wpAny_bind fin
def isD (S : Sta) (p : Addr) : Bool := match S p with
  | some (.dct _) => true
  | some (.dtt _) => true
  | _ => false
def rIxM (x : T) (y : T) (S : Sta) (Q : T → Sta → Prop) : Prop := match x with
  | .ref p => match S p with
    | some (.dct kvs) => ∃ k, keyT y = some k ∧ ∃ v, valT kvs k = some v ∧ Q v S
    | some (.dtt kvs) => ∃ k, keysT y = some k ∧ ∃ v, valT kvs k = some v ∧ Q v S
    | _ => Wp.rIx (.ref p) y S Q
  | x => Wp.rIx x y S Q
theorem ix_M (hu : X.A.units + 1 < cLine) : IxR X (L3 X.K rIxM) := by
  intro value slice pins s σ H x y v u Q I rx ry ⟨a, b, S, Q0, ra, rb, hs, q, im⟩ hsub
  have go : rIx a b S Q0 → _ := fun q => ix_T value slice pins s σ H x y v u Q I rx ry ⟨a, b, S, Q0, ra, rb, hs, q, im⟩ hsub
  have gd : ∀ p z, a = .ref p → getD S p b = some (some z) → Q0 z S → wpAny (model X.prog X.w) X.A (subscriptTail value slice v u) (EP X pins σ Q) X.xe s := fun p z ea eg q0 => by
    subst ea
    cases ra
    obtain ⟨o', g, r⟩ := getD_rep hs rb eg
    cases o' with
    | none => exact r.elim
    | some w => exact ix_D hu value slice pins s σ H _ y v u Q I rx ry ⟨p, w, rfl, g, im _ _ q0 H w (Ext.refl H) hs r⟩ hsub
  cases a with
  | ref p =>
    unfold rIxM at q
    cases eS : S p with
    | none => simp only [eS] at q; exact go q
    | some u =>
      cases u with
      | lst ts => simp only [eS] at q; exact go q
      | ins C fs => simp only [eS] at q; exact go q
      | dct kvs =>
        simp only [eS] at q
        obtain ⟨k, ek, z, ez, q⟩ := q
        exact gd p z rfl (by unfold getD; rw [eS, ek]; simp only [Option.map_some, ez]) q
      | dtt kvs =>
        simp only [eS] at q
        obtain ⟨k, ek, z, ez, q⟩ := q
        exact gd p z rfl (by unfold getD; rw [eS, ek]; simp only [Option.map_some, ez]) q
  | non => exact go q
  | bl _ => exact go q
  | int _ => exact go q
  | str _ => exact go q
  | tup _ => exact go q
  | fl _ => exact go q
/-- what o[i] is -/
def ixA (S : Sta) (x y : T) : Option T := match x with
  | .ref p => match S p with
    | some (.lst ts) => match y with
      | .int i => atI ts i
      | _ => none
    | some (.dct kvs) => (keyT y).bind (valT kvs)
    | some (.dtt kvs) => (keysT y).bind (valT kvs)
    | _ => none
  | .tup ts => match y with
    | .int i => atI ts i
    | _ => none
  | .fl ts => match y with
    | .int i => atI ts i
    | _ => none
  | .str s => match y with
    | .int i => if s.length ≤ sizeLine then (atI s.cps.toList i).map fun c => .str ⟨#[c]⟩ else none
    | _ => none
  | _ => none
def rIxA (x : T) (y : T) (S : Sta) (Q : T → Sta → Prop) : Prop := ∃ v, ixA S x y = some v ∧ Q v S
theorem rIxA_M {x y : T} {S : Sta} {Q : T → Sta → Prop} (h : rIxA x y S Q) : rIxM x y S Q := by
  obtain ⟨v, e, q⟩ := h
  unfold ixA at e
  cases x with
  | ref p =>
    unfold rIxM
    simp only at e ⊢
    cases eS : S p with
    | none => rw [eS] at e; cases e
    | some u =>
      rw [eS] at e
      cases u with
      | lst ts =>
        cases y with
        | int i => exact ⟨ts, itemsT_ref' eS, v, e, q⟩
        | _ => cases e
      | ins C fs => cases e
      | dct kvs =>
        obtain ⟨k, ek, ev⟩ := Option.bind_eq_some_iff.mp e
        exact ⟨k, ek, v, ev, q⟩
      | dtt kvs =>
        obtain ⟨k, ek, ev⟩ := Option.bind_eq_some_iff.mp e
        exact ⟨k, ek, v, ev, q⟩
  | tup ts => cases y with
    | int i => exact ⟨ts, rfl, v, e, q⟩
    | _ => cases e
  | fl ts => cases y with
    | int i => exact ⟨ts, rfl, v, e, q⟩
    | _ => cases e
  | str s => cases y with
    | int i =>
      simp only at e
      split at e
      · rename_i hl
        simp only [Option.map_eq_some_iff] at e
        obtain ⟨c, ec, rfl⟩ := e
        exact ⟨hl, c, ec, q⟩
      · cases e
    | _ => cases e
  | _ => cases e
theorem L3_mono {K : PySem.W.Frag} {r r' : R3} (h : ∀ x y S Q, r x y S Q → r' x y S Q) {x y : V} {H : Hp} {Q : VK} : L3 K r x y H Q → L3 K r' x y H Q := fun ⟨a, b, S, Q0, ra, rb, hs, q, im⟩ => ⟨a, b, S, Q0, ra, rb, hs, h _ _ _ _ q, im⟩
theorem ix_A (hu : X.A.units + 1 < cLine) : IxR X (L3 X.K rIxA) := fun value slice pins s σ H x y v u Q I rx ry q hs => ix_M hu value slice pins s σ H x y v u Q I rx ry (L3_mono (fun _ _ _ _ => rIxA_M) q) hs
theorem j_ixA (hu : X.A.units + 1 < cLine) (ha : JE B X a ta) (hb : JE B X b tb) (hs : PlainIx b) : JE B X (.Subscript a b pos) (wOp rIxA ta tb) := pe_imp (pe_ix (ix_A hu) ha hb hs) fun _ _ _ h => le_op h
/-- in, not in -/
def rInM (neg : Bool) (x : T) (y : T) (S : Sta) (Q : T → Sta → Prop) : Prop := match y with
  | .ref p => match S p with
    | some (.dct kvs) => ∃ k, keyT x = some k ∧ Q (.bl (neg != (valT kvs k).isSome)) S
    | some (.dtt kvs) => ∃ k, keysT x = some k ∧ Q (.bl (neg != (valT kvs k).isSome)) S
    | _ => Wp.rIn neg x (.ref p) S Q
  | y => Wp.rIn neg x y S Q
theorem RepO.some {K : PySem.W.Frag} {H : Hp} {o : Option T} {o' : Option V} (r : RepO K H o o') : o'.isSome = o.isSome := by
  cases o <;> cases o' <;> first | rfl | exact r.elim
theorem o_inM (hu : X.A.units + 1 < cLine) : OpT X (compareOp .In) (rInM false) := by
  intro pins s σ H x y v u Q I rx ry ⟨a, b, S, Q0, ra, rb, hs, q, im⟩
  have go : rIn false a b S Q0 → _ := fun q => o_in pins s σ H x y v u Q I rx ry ⟨a, b, S, Q0, ra, rb, hs, q, im⟩
  have gd : ∀ p z, b = .ref p → getD S p a = some z → Q0 (.bl (false != z.isSome)) S → wpAny (model X.prog X.w) X.A (compareOp .In v u) (EP X pins σ Q) X.xe s := fun p z eb eg q0 => by
    subst eb
    cases rb
    obtain ⟨o', g, r⟩ := getD_rep hs ra eg
    obtain rfl : u = Value.ref p := ry
    refine d_in hu I g rx fun s3 I3 => ⟨.bl o'.isSome, H, I3, rfl, ?_⟩
    rw [r.some]
    rw [Bool.false_bne] at q0
    exact im _ _ q0 H _ (Ext.refl H) hs (.bl _)
  cases b with
  | ref p =>
    unfold rInM at q
    cases eS : S p with
    | none => simp only [eS] at q; exact go q
    | some u =>
      cases u with
      | lst ts => simp only [eS] at q; exact go q
      | ins C fs => simp only [eS] at q; exact go q
      | dct kvs =>
        simp only [eS] at q
        obtain ⟨k, ek, q⟩ := q
        exact gd p _ rfl (by unfold getD; rw [eS, ek]; rfl) q
      | dtt kvs =>
        simp only [eS] at q
        obtain ⟨k, ek, q⟩ := q
        exact gd p _ rfl (by unfold getD; rw [eS, ek]; rfl) q
  | non => exact go q
  | bl _ => exact go q
  | int _ => exact go q
  | str _ => exact go q
  | tup _ => exact go q
  | fl _ => exact go q
theorem o_notInM (hu : X.A.units + 1 < cLine) : OpT X (compareOp .NotIn) (rInM true) := by
  intro pins s σ H x y v u Q I rx ry ⟨a, b, S, Q0, ra, rb, hs, q, im⟩
  have go : rIn true a b S Q0 → _ := fun q => o_notIn pins s σ H x y v u Q I rx ry ⟨a, b, S, Q0, ra, rb, hs, q, im⟩
  have gd : ∀ p z, b = .ref p → getD S p a = some z → Q0 (.bl (true != z.isSome)) S → wpAny (model X.prog X.w) X.A (compareOp .NotIn v u) (EP X pins σ Q) X.xe s := fun p z eb eg q0 => by
    subst eb
    cases rb
    obtain ⟨o', g, r⟩ := getD_rep hs ra eg
    obtain rfl : u = Value.ref p := ry
    refine d_notIn hu I g rx fun s3 I3 => ⟨.bl (!o'.isSome), H, I3, rfl, ?_⟩
    rw [r.some]
    rw [Bool.true_bne] at q0
    exact im _ _ q0 H _ (Ext.refl H) hs (.bl _)
  cases b with
  | ref p =>
    unfold rInM at q
    cases eS : S p with
    | none => simp only [eS] at q; exact go q
    | some u =>
      cases u with
      | lst ts => simp only [eS] at q; exact go q
      | ins C fs => simp only [eS] at q; exact go q
      | dct kvs =>
        simp only [eS] at q
        obtain ⟨k, ek, q⟩ := q
        exact gd p _ rfl (by unfold getD; rw [eS, ek]; rfl) q
      | dtt kvs =>
        simp only [eS] at q
        obtain ⟨k, ek, q⟩ := q
        exact gd p _ rfl (by unfold getD; rw [eS, ek]; rfl) q
  | non => exact go q
  | bl _ => exact go q
  | int _ => exact go q
  | str _ => exact go q
  | tup _ => exact go q
  | fl _ => exact go q
/-- is x in y -/
def inA (S : Sta) (x y : T) : Option Bool := match y with
  | .ref p => match S p with
    | some (.lst ts) => if flatT x && ts.all flatT then some (inF x ts) else none
    | some (.dct kvs) => (keyT x).map fun k => (valT kvs k).isSome
    | some (.dtt kvs) => (keysT x).map fun k => (valT kvs k).isSome
    | _ => none
  | .tup ts => if flatT x && ts.all flatT then some (inF x ts) else none
  | .fl ts => if flatT x && ts.all flatT then some (inF x ts) else none
  | _ => none
def rInA (neg : Bool) (x : T) (y : T) (S : Sta) (Q : T → Sta → Prop) : Prop := ∃ b, inA S x y = some b ∧ Q (.bl (neg != b)) S
theorem rInA_M {neg : Bool} {x y : T} {S : Sta} {Q : T → Sta → Prop} (h : rInA neg x y S Q) : rInM neg x y S Q := by
  obtain ⟨b, e, q⟩ := h
  have seq : ∀ ts : List T, itemsT S y = some ts → (if flatT x && ts.all flatT then some (inF x ts) else none) = some b → Wp.rIn neg x y S Q := fun ts ei e => by
    split at e
    · rename_i h
      rw [Bool.and_eq_true] at h
      cases e
      exact ⟨ts, ei, h.1, h.2, q⟩
    · cases e
  unfold inA at e
  cases y with
  | ref p =>
    unfold rInM
    simp only at e ⊢
    cases eS : S p with
    | none => rw [eS] at e; cases e
    | some u =>
      rw [eS] at e
      cases u with
      | lst ts => exact seq ts (itemsT_ref' eS) e
      | ins C fs => cases e
      | dct kvs =>
        simp only [Option.map_eq_some_iff] at e
        obtain ⟨k, ek, rfl⟩ := e
        exact ⟨k, ek, q⟩
      | dtt kvs =>
        simp only [Option.map_eq_some_iff] at e
        obtain ⟨k, ek, rfl⟩ := e
        exact ⟨k, ek, q⟩
  | tup ts => exact seq ts rfl e
  | fl ts => exact seq ts rfl e
  | _ => cases e
theorem o_inA (hu : X.A.units + 1 < cLine) : OpT X (compareOp .In) (rInA false) := fun pins s σ H x y v u Q I rx ry q => o_inM hu pins s σ H x y v u Q I rx ry (L3_mono (fun _ _ _ _ => rInA_M) q)
theorem o_notInA (hu : X.A.units + 1 < cLine) : OpT X (compareOp .NotIn) (rInA true) := fun pins s σ H x y v u Q I rx ry q => o_notInM hu pins s σ H x y v u Q I rx ry (L3_mono (fun _ _ _ _ => rInA_M) q)
/-- o[i] = v -/
def rSetM : T → T → T → Sta → (Sta → Prop) → Prop := fun o i v S Q => match o with
  | .ref p => match S p with
    | some (.dct kvs) => ∃ k, keyT i = some k ∧ kvs.length < sizeLine ∧ Q (upS S p (.dct (putT kvs k v)))
    | some (.dtt kvs) => ∃ k, keysT i = some k ∧ kvs.length < sizeLine ∧ Q (upS S p (.dtt (putT kvs k v)))
    | _ => rSet (.ref p) i v S Q
  | _ => False
theorem set_M (hu : X.A.units + 1 < cLine) : PSet X (L3t X.K rSetM) := by
  intro pins s σ H o i v ov iv u Q I ro ri rv ⟨a, b, c, S, Q0, ra, rb, rc, hs, q, im⟩
  cases a with
  | ref p =>
    have go : rSet (.ref p) b c S Q0 → _ := fun q => set_T pins s σ H o i v ov iv u Q I ro ri rv ⟨.ref p, b, c, S, Q0, ra, rb, rc, hs, q, im⟩
    have gd : ∀ z, putD S p b c = some z → Q0 (upS S p z) → wpAny (model X.prog X.w) X.A (setItem ov iv u) (fun _ s' => ∃ H', Inv X pins σ H' s' ∧ Q H') X.xe s := fun z eg q0 => by
      cases ra
      obtain ⟨H', g, e, s3⟩ := putD_rep hs rb rc eg
      obtain rfl : ov = Value.ref p := ro
      exact d_setItem hu I g ri rv fun s4 I4 => ⟨H', I4, im _ q0 H' e s3⟩
    unfold rSetM at q
    cases eS : S p with
    | none => simp only [eS] at q; exact go q
    | some u =>
      cases u with
      | lst ts => simp only [eS] at q; exact go q
      | ins C fs => simp only [eS] at q; exact go q
      | dct kvs =>
        simp only [eS] at q
        obtain ⟨k, ek, hl, q⟩ := q
        exact gd _ (by unfold putD; simp only [eS, ek, if_pos hl]; rfl) q
      | dtt kvs =>
        simp only [eS] at q
        obtain ⟨k, ek, hl, q⟩ := q
        exact gd _ (by unfold putD; simp only [eS, ek, if_pos hl]; rfl) q
  | _ => exact q.elim
/-- the thing at o behind o[i] = v -/
def setA (S : Sta) (p : Addr) (i v : T) : Option O := match S p with
  | some (.lst ts) => match i with
    | .int k => (ixN ts.length k).map fun j => .lst (ts.set j v)
    | _ => none
  | some (.dct kvs) => if kvs.length < sizeLine then (keyT i).map fun k => .dct (putT kvs k v) else none
  | some (.dtt kvs) => if kvs.length < sizeLine then (keysT i).map fun k => .dtt (putT kvs k v) else none
  | _ => none
def rSetA : T → T → T → Sta → (Sta → Prop) → Prop := fun o i v S Q => match o with
  | .ref p => ∃ u, setA S p i v = some u ∧ Q (upS S p u)
  | _ => False
theorem rSetA_M {o i v : T} {S : Sta} {Q : Sta → Prop} (h : rSetA o i v S Q) : rSetM o i v S Q := by
  unfold rSetA at h
  cases o with
  | ref p =>
    obtain ⟨u, e, q⟩ := h
    unfold setA at e
    unfold rSetM
    simp only
    cases eS : S p with
    | none => rw [eS] at e; cases e
    | some w =>
      rw [eS] at e
      cases w with
      | lst ts =>
        cases i with
        | int k =>
          simp only [Option.map_eq_some_iff] at e
          obtain ⟨j, ej, rfl⟩ := e
          exact ⟨ts, eS, j, ej, q⟩
        | _ => cases e
      | ins C fs => cases e
      | dct kvs =>
        simp only at e
        split at e
        · rename_i hl
          simp only [Option.map_eq_some_iff] at e
          obtain ⟨k, ek, rfl⟩ := e
          exact ⟨k, ek, hl, q⟩
        · cases e
      | dtt kvs =>
        simp only at e
        split at e
        · rename_i hl
          simp only [Option.map_eq_some_iff] at e
          obtain ⟨k, ek, rfl⟩ := e
          exact ⟨k, ek, hl, q⟩
        · cases e
  | _ => exact h.elim
theorem set_A (hu : X.A.units + 1 < cLine) : PSet X (L3t X.K rSetA) := fun pins s σ H o i v ov iv u Q I ro ri rv ⟨a, b, c, S, Q0, ra, rb, rc, hs, q, im⟩ => set_M hu pins s σ H o i v ov iv u Q I ro ri rv ⟨a, b, c, S, Q0, ra, rb, rc, hs, rSetA_M q, im⟩
def gIxA (to ti : WE) (v : T) (σ : Sl) (S : Sta) (Q : Sl → Sta → Prop) : Prop := to σ S fun o S1 => ti σ S1 fun i S2 => rSetA o i v S2 fun S3 => Q σ S3
theorem jg_ixA {ti : WE} (hu : X.A.units + 1 < cLine) (ho : JE B X o to) (hi : JE B X i ti)
    (ha : ∀ v, assign (.Subscript o i pos) X.env v = (do
      let ov ← holding [v] (eval o X.env)
      let iv ← holding [v, ov] (eval i X.env)
      standAt pos
      holding [v, ov, iv] (setItem ov iv v)
      release [v, ov, iv] []) := by intro _; rfl) : JG2 B X (.Subscript o i pos) (gIxA to ti) := pg_imp (pg_sub ho hi (set_A hu) ha) fun v σ H Q ⟨t, st, S, Q0, he, rv, hr, hs, h, im⟩ => by
  refine ⟨st, S, _, he, hr, hs, h, fun x S1 h1 H1 v1 e1 s1 r1 => ?_⟩
  refine ⟨st, S1, _, he.trans e1, hr.mono e1, s1, h1, fun y S2 h2 H2 v2 e2 s2 r2 => ?_⟩
  exact ⟨x, y, t, S2, _, Rep.mono e2 _ _ r1, r2, Rep.mono (e1.trans e2) _ _ rv, s2, h2, fun S3 q H3 e3 s3 => im _ _ q H3 σ (e1.trans (e2.trans e3)) s3 (hr.mono (e1.trans (e2.trans e3)))⟩
/-- {} -/
def wDNew (u0 : Sl) (S : Sta) (Q : T → Sta → Prop) : Prop := ∀ p, S p = none → Q (.ref p) (upS S p (.dct []))
def wDNewT (u0 : Sl) (S : Sta) (Q : T → Sta → Prop) : Prop := ∀ p, S p = none → Q (.ref p) (upS S p (.dtt []))
theorem j_dnew : JE B X (.Dict [] [] pos) wDNew := pe_imp pe_dnewK fun σ H Q ⟨st, S, Q0, he, hr, hs, h, im⟩ => fun p hp => by
  obtain ⟨e1, s1⟩ := hs.newO (u' := .dK []) (o' := .dct []) hp fun ex => ⟨[], upd_same, .nil⟩
  exact im _ _ (h p (hs.free hp)) _ _ e1 s1 (.ref p)
theorem j_dnewT : JE B X (.Dict [] [] pos) wDNewT := pe_imp pe_dnewT fun σ H Q ⟨st, S, Q0, he, hr, hs, h, im⟩ => fun p hp => by
  obtain ⟨e1, s1⟩ := hs.newO (u' := .dT []) (o' := .dtt []) hp fun ex => ⟨[], upd_same, .nil⟩
  exact im _ _ (h p (hs.free hp)) _ _ e1 s1 (.ref p)
/-- d.get(y), d.get(y, x) -/
def rGet1 (p : Addr) (y : T) (S : Sta) (Q : T → Sta → Prop) : Prop := ∃ o, Wp.getD S p y = some o ∧ Q (o.getD .non) S
def rGet2 (p : Addr) (y z : T) (S : Sta) (Q : T → Sta → Prop) : Prop := ∃ o, Wp.getD S p y = some o ∧ Q (o.getD z) S
theorem RepO.getD {K : PySem.W.Frag} {H : Hp} {o : Option T} {o' : Option V} {t : T} {v : V} (r : RepO K H o o') (rt : Rep K H t v) : Rep K H (o.getD t) (o'.getD v) := by
  cases o <;> cases o' <;> first | exact rt | exact r | exact r.elim
def wGet1 (to te : WE) (σ : Sl) (S : Sta) (Q : T → Sta → Prop) : Prop := to σ S fun x S1 => match x with
  | .ref p => isDT S1 p ∧ te σ S1 fun y S2 => rGet1 p y S2 Q
  | _ => False
def wGet2 (to te tz : WE) (σ : Sl) (S : Sta) (Q : T → Sta → Prop) : Prop := to σ S fun x S1 => match x with
  | .ref p => isDT S1 p ∧ te σ S1 fun y S2 => tz σ S2 fun z S3 => rGet2 p y z S3 Q
  | _ => False
theorem j_get1 (hu : X.A.units + 1 < cLine) (ho : JE B X o to) (he : JE B X e te) (m : M1 X o "get" apos e cpos := by exact ⟨rfl, rfl, rfl, rfl⟩) : JE B X (.Call (.Attribute o "get" apos) [e] [] cpos) (wGet1 to te) :=
  pe_imp (pe_dget1 hu ho he m) fun σ H Q ⟨st, S, Q0, he, hr, hs, h, im⟩ => by
    refine ⟨st, S, _, he, hr, hs, h, fun x S1 h1 H1 v e1 s1 r1 => ?_⟩
    cases x with
    | ref p =>
      obtain ⟨hd, h1⟩ := h1
      cases r1
      refine ⟨p, rfl, isDT_rep s1 hd, st, S1, _, he.trans e1, hr.mono e1, s1, h1, fun y S2 h2 H2 w e2 s2 r2 => ?_⟩
      obtain ⟨o, eo, q⟩ := h2
      obtain ⟨o', g, r⟩ := getD_rep s2 r2 eo
      exact ⟨o', g, im _ _ q H2 _ (e1.trans e2) s2 (r.getD .non)⟩
    | _ => exact h1.elim
theorem j_get2 {f : Expr} {tf : WE} (hu : X.A.units + 1 < cLine) (ho : JE B X o to) (he : JE B X e te) (hf : JE B X f tf) (m : M2 X o "get" apos e f cpos := by exact ⟨rfl, rfl, rfl, rfl⟩) : JE B X (.Call (.Attribute o "get" apos) [e, f] [] cpos) (wGet2 to te tf) :=
  pe_imp (pe_dget2 hu ho he hf m) fun σ H Q ⟨st, S, Q0, he, hr, hs, h, im⟩ => by
    refine ⟨st, S, _, he, hr, hs, h, fun x S1 h1 H1 v e1 s1 r1 => ?_⟩
    cases x with
    | ref p =>
      obtain ⟨hd, h1⟩ := h1
      cases r1
      refine ⟨p, rfl, isDT_rep s1 hd, st, S1, _, he.trans e1, hr.mono e1, s1, h1, fun y S2 h2 H2 w e2 s2 r2 => ?_⟩
      refine ⟨st, S2, _, he.trans (e1.trans e2), hr.mono (e1.trans e2), s2, h2, fun z S3 h3 H3 w3 e3 s3 r3 => ?_⟩
      obtain ⟨o, eo, q⟩ := h3
      obtain ⟨o', g, r⟩ := getD_rep s3 (Rep.mono e3 _ _ r2) eo
      exact ⟨o', g, im _ _ q H3 _ (e1.trans (e2.trans e3)) s3 (r.getD r3)⟩
    | _ => exact h1.elim
/-- d.pop(k), there; d.pop(k, x): keys that are ints and texts -/
def wPop1 (to te : WE) (σ : Sl) (S : Sta) (Q : T → Sta → Prop) : Prop := to σ S fun x S1 => match x with
  | .ref p => isDT S1 p ∧ te σ S1 fun y S2 => match S2 p with
    | some (.dct kvs) => ∃ k, keyT y = some k ∧ ∃ v, valT kvs k = some v ∧ Q v (upS S2 p (.dct (dropT kvs k)))
    | _ => False
  | _ => False
def wPop2 (to te tz : WE) (σ : Sl) (S : Sta) (Q : T → Sta → Prop) : Prop := to σ S fun x S1 => match x with
  | .ref p => isDT S1 p ∧ te σ S1 fun y S2 => tz σ S2 fun z S3 => match S3 p with
    | some (.dct kvs) => ∃ k, keyT y = some k ∧ match valT kvs k with
      | some v => Q v (upS S3 p (.dct (dropT kvs k)))
      | none => Q z S3
    | _ => False
  | _ => False
theorem dropW {K : PySem.W.Frag} {S : Sta} {H : Hp} {p : Addr} {kvs : List (Key × T)} {vs : List (Key × V)} (hs : St K S H) (h1 : H p = some (.dK vs)) (h2 : KRep K H kvs vs) (k : Key) :
    Ext H (upd H p (.dK (dropK vs k))) ∧ St K (upS S p (.dct (dropT kvs k))) (upd H p (.dK (dropK vs k))) := hs.setO h1 trivial fun ex => ⟨_, upd_same, (h2.drop k).mono ex⟩
theorem j_pop1 (ho : JE B X o to) (he : JE B X e te) (m : M1 X o "pop" apos e cpos := by exact ⟨rfl, rfl, rfl, rfl⟩) : JE B X (.Call (.Attribute o "pop" apos) [e] [] cpos) (wPop1 to te) :=
  pe_imp (pe_dpop1 ho he m) fun σ H Q ⟨st, S, Q0, he, hr, hs, h, im⟩ => by
    refine ⟨st, S, _, he, hr, hs, h, fun x S1 h1 H1 v e1 s1 r1 => ?_⟩
    cases x with
    | ref p =>
      obtain ⟨hd, h1⟩ := h1
      cases r1
      refine ⟨p, rfl, isDT_rep s1 hd, st, S1, _, he.trans e1, hr.mono e1, s1, h1, fun y S2 h2 H2 w e2 s2 r2 => ?_⟩
      cases eS : S2 p with
      | none => simp only [eS] at h2
      | some u =>
        cases u with
        | lst ts => simp only [eS] at h2
        | ins C fs => simp only [eS] at h2
        | dtt kvs => simp only [eS] at h2
        | dct kvs =>
          simp only [eS] at h2
          obtain ⟨k, ek, z, ez, q⟩ := h2
          obtain ⟨vs, g1, g2⟩ := s2 p _ eS
          have rv := g2.val k
          rw [ez] at rv
          cases ev : valV vs k with
          | none => rw [ev] at rv; exact rv.elim
          | some w3 =>
            rw [ev] at rv
            obtain ⟨e3, s3⟩ := dropW s2 g1 g2 k
            exact ⟨vs, k, w3, g1, keyT_rep r2 ek, ev, im _ _ q _ w3 (e1.trans (e2.trans e3)) s3 (Rep.mono e3 _ _ rv)⟩
    | _ => exact h1.elim
theorem j_pop2 {f : Expr} {tf : WE} (ho : JE B X o to) (he : JE B X e te) (hf : JE B X f tf) (m : M2 X o "pop" apos e f cpos := by exact ⟨rfl, rfl, rfl, rfl⟩) : JE B X (.Call (.Attribute o "pop" apos) [e, f] [] cpos) (wPop2 to te tf) :=
  pe_imp (pe_dpop2 ho he hf m) fun σ H Q ⟨st, S, Q0, he, hr, hs, h, im⟩ => by
    refine ⟨st, S, _, he, hr, hs, h, fun x S1 h1 H1 v e1 s1 r1 => ?_⟩
    cases x with
    | ref p =>
      obtain ⟨hd, h1⟩ := h1
      cases r1
      refine ⟨p, rfl, isDT_rep s1 hd, st, S1, _, he.trans e1, hr.mono e1, s1, h1, fun y S2 h2 H2 w e2 s2 r2 => ?_⟩
      refine ⟨st, S2, _, he.trans (e1.trans e2), hr.mono (e1.trans e2), s2, h2, fun z S3 h3 H3 w3 e3 s3 r3 => ?_⟩
      cases eS : S3 p with
      | none => simp only [eS] at h3
      | some u =>
        cases u with
        | lst ts => simp only [eS] at h3
        | ins C fs => simp only [eS] at h3
        | dtt kvs => simp only [eS] at h3
        | dct kvs =>
          simp only [eS] at h3
          obtain ⟨k, ek, q⟩ := h3
          obtain ⟨vs, g1, g2⟩ := s3 p _ eS
          have rv := g2.val k
          refine ⟨vs, k, g1, keyT_rep (Rep.mono e3 _ _ r2) ek, fun v3 ev => ?_, fun ev => ?_⟩
          · rw [ev] at rv
            cases ez : valT kvs k with
            | none => rw [ez] at rv; exact rv.elim
            | some t3 =>
              rw [ez] at rv
              simp only [ez] at q
              obtain ⟨e4, s4⟩ := dropW s3 g1 g2 k
              exact im _ _ q _ v3 (e1.trans (e2.trans (e3.trans e4))) s4 (Rep.mono e4 _ _ rv)
          · rw [ev] at rv
            cases ez : valT kvs k with
            | some t3 => rw [ez] at rv; exact rv.elim
            | none =>
              simp only [ez] at q
              exact im _ _ q _ w3 (e1.trans (e2.trans e3)) s3 r3
    | _ => exact h1.elim
/-- del d[k] -/
def wDel (to ti : WE) (D : WEnds) (σ : Sl) (S : Sta) : Prop := to σ S fun x S1 => ti σ S1 fun y S2 => match x with
  | .ref p => match S2 p with
    | some (.dct kvs) => ∃ k, keyT y = some k ∧ (valT kvs k).isSome = true ∧ goS D.nx σ (upS S2 p (.dct (dropT kvs k)))
    | _ => False
  | _ => False
theorem js_del {ti : WE} (ho : JE B X o to) (hi : JE B X i ti) : JS B X (.Delete [.Subscript o i tpos] pos) (wDel to ti) := ps_imp (ps_ddel ho hi) fun D σ H ⟨st, S, D0, he, hr, hs, h, im⟩ => by
  refine ⟨st, S, _, he, hr, hs, h, fun x S1 h1 H1 v1 e1 s1 r1 => ?_⟩
  refine ⟨st, S1, _, he.trans e1, hr.mono e1, s1, h1, fun y S2 h2 H2 v2 e2 s2 r2 => ?_⟩
  cases x with
  | ref p =>
    cases r1
    simp only at h2
    cases eS : S2 p with
    | none => simp only [eS] at h2
    | some u =>
      cases u with
      | lst ts => simp only [eS] at h2
      | ins C fs => simp only [eS] at h2
      | dtt kvs => simp only [eS] at h2
      | dct kvs =>
        simp only [eS] at h2
        obtain ⟨k, ek, hk, q⟩ := h2
        obtain ⟨vs, g1, g2⟩ := s2 p _ eS
        obtain ⟨e3, s3⟩ := dropW s2 g1 g2 k
        have rv := g2.val k
        refine ⟨p, vs, k, rfl, g1, keyT_rep r2 ek, by rw [rv.some]; exact hk, ?_⟩
        exact im.nx _ _ q _ σ (e1.trans (e2.trans e3)) s3 (hr.mono (e1.trans (e2.trans e3)))
  | _ => exact h2.elim
/-- sorted(d), keys that are ints, below 64 -/
def rSortD (xs : List T) (S : Sta) (Q : T → Sta → Prop) : Prop := match xs with
  | [.ref p] => ∃ (kvs : List (Key × T)) (ks : List Int), S p = some (.dct kvs) ∧ kvs.map (·.1) = ks.map Sum.inl ∧ ks.length < 64 ∧ ∀ (ys : List Int) (q : Addr), ys.Perm ks → ys.Pairwise (· ≤ ·) → S q = none → Q (.ref q) (upS S q (.lst (ys.map T.int)))
  | _ => False
theorem c_sortD (hc : X.calm = true) : CallR X (.builtin "sorted") (LC X.K rSortD) := by
  intro pins s σ H xs us Q I rx ⟨ts, S, Q0, r, hs, q, im⟩
  match ts, q with
  | [.ref p], ⟨kvs, ks, e, ek, hl, q⟩ =>
    obtain ⟨v, rfl, r1⟩ := r.one
    cases r1
    obtain ⟨vs, g1, g2⟩ := hs p _ e
    refine call_sortedDI hc pins s σ H _ us Q I rx ⟨p, vs, ks, rfl, .inl g1, by rw [← g2.keys]; exact ek, hl, fun ys l h1 h2 h3 => ?_⟩
    obtain ⟨e3, s3⟩ := hs.newL h3 (Reps.ints (K := X.K) ys)
    exact im _ _ (q ys l h1 h2 (hs.free h3)) _ _ e3 s3 (.ref l)
/-- max(xs), a list of ints -/
def rMaxL (xs : List T) (S : Sta) (Q : T → Sta → Prop) : Prop := match xs with
  | [.ref p] => ∃ ns : List Int, S p = some (.lst (ns.map T.int)) ∧ 0 < ns.length ∧ ∀ m, m ∈ ns → (∀ y, y ∈ ns → y ≤ m) → Q (.int m) S
  | _ => False
theorem c_maxL (hc : X.calm = true) : CallR X (.builtin "max") (LC X.K rMaxL) := by
  intro pins s σ H xs us Q I rx ⟨ts, S, Q0, r, hs, q, im⟩
  match ts, q with
  | [.ref p], ⟨ns, e, hl, q⟩ =>
    obtain ⟨v, rfl, r1⟩ := r.one
    cases r1
    obtain ⟨ys, g1, g2⟩ := hs p _ e
    have ey := g2.intsV
    subst ey
    exact cr_max hc pins s σ H _ us Q I rx ⟨p, ns, rfl, .inl (.inl g1), hl, fun m h1 h2 => im _ _ (q m h1 h2) _ _ (Ext.refl H) hs (.int _)⟩
/-- xs.pop(i) -/
def rPopL (x : T) (ts : List T) (S : Sta) (Q : T → Sta → Prop) : Prop := match x, ts with
  | .ref p, [.int i] => ∃ xs, S p = some (.lst xs) ∧ 0 ≤ i ∧ i < 2 ^ 62 ∧ ∃ y, xs[i.toNat]? = some y ∧ Q y (upS S p (.lst (xs.eraseIdx i.toNat)))
  | _, _ => False
theorem Reps.eraseIdx {K : PySem.W.Frag} {H : Hp} : ∀ {ts : List T} {vs : List V} (i : Nat), Reps K H ts vs → Reps K H (ts.eraseIdx i) (vs.eraseIdx i)
  | [], _, _, h => by cases h; exact .nil
  | t :: ts, _, 0, h => by
    cases h with
    | cons h1 h2 => exact h2
  | t :: ts, _, i + 1, h => by
    cases h with
    | cons h1 h2 => exact .cons h1 (Reps.eraseIdx i h2)
theorem m_popL : MtR X "list.pop" (LM X.K rPopL) := by
  intro pins s σ H x xs v us Q I rx rxs ⟨t, ts, S, Q0, rt, rts, hs, q, im⟩
  match t, ts, q with
  | .ref p, [.int i], ⟨zs, e, h0, h1, y, ey, q⟩ =>
    cases rt
    obtain ⟨w, rfl, rw'⟩ := rts.one
    cases rw'
    obtain ⟨ys, g1, g2⟩ := hs p _ e
    obtain ⟨z, g3, g4⟩ := g2.get ey
    obtain ⟨e2, s2⟩ := hs.setL g1 (g2.eraseIdx i.toNat)
    have hl : i.toNat < ys.length := (List.getElem?_eq_some_iff.mp g3).1
    exact mt_popAt pins s σ H _ _ v us Q I rx rxs ⟨p, ys, i, i.toNat, z, rfl, rfl, g1, by omega, by omega, seqIndex_of h0 (by omega), g3, im _ _ q _ _ e2 s2 (Rep.mono e2 _ _ g4)⟩
/-- len(d) -/
def rLenM (xs : List T) (S : Sta) (Q : T → Sta → Prop) : Prop := match xs with
  | [.ref p] => match S p with
    | some (.dct kvs) => Q (.int kvs.length) S
    | _ => rLen [.ref p] S Q
  | xs => rLen xs S Q
theorem c_lenM : CallR X (.builtin "len") (LC X.K rLenM) := by
  intro pins s σ H xs us Q I rx ⟨ts, S, Q0, r, hs, q, im⟩
  have go : rLen ts S Q0 → _ := fun q => c_len pins s σ H xs us Q I rx ⟨ts, S, Q0, r, hs, q, im⟩
  match ts, q with
  | [.ref p], q =>
    unfold rLenM at q
    cases eS : S p with
    | none => simp only [eS] at q; exact go q
    | some u =>
      cases u with
      | lst ts => simp only [eS] at q; exact go q
      | ins C fs => simp only [eS] at q; exact go q
      | dtt kvs => simp only [eS] at q; exact go q
      | dct kvs =>
        simp only [eS] at q
        obtain ⟨v, rfl, r1⟩ := r.one
        cases r1
        obtain ⟨vs, g1, g2⟩ := hs p _ eS
        refine call_lenD pins s σ H _ us Q I rx ?_
        first
          | exact ⟨p, vs, rfl, g1, by rw [← g2.length]; exact im _ _ q H _ (Ext.refl H) hs (.int _)⟩
          | exact ⟨p, vs, rfl, .inl g1, by rw [← g2.length]; exact im _ _ q H _ (Ext.refl H) hs (.int _)⟩
  | [], q => exact go q
  | [.non], q => exact go q
  | [.bl _], q => exact go q
  | [.int _], q => exact go q
  | [.str _], q => exact go q
  | [.tup _], q => exact go q
  | [.fl _], q => exact go q
  | a :: b :: c, q => exact go (by cases a <;> exact q)
def lenA (S : Sta) (x : T) : Option Int := match x with
  | .ref p => match S p with
    | some (.lst ts) => some ts.length
    | some (.dct kvs) => some kvs.length
    | _ => none
  | .tup ts => some ts.length
  | .fl ts => some ts.length
  | .str z => if z.length ≤ sizeLine then some z.length else none
  | _ => none
def rLenA (xs : List T) (S : Sta) (Q : T → Sta → Prop) : Prop := match xs with
  | [x] => ∃ n, lenA S x = some n ∧ Q (.int n) S
  | _ => False
theorem rLenA_M {xs : List T} {S : Sta} {Q : T → Sta → Prop} (h : rLenA xs S Q) : rLenM xs S Q := by
  match xs, h with
  | [x], ⟨n, e, q⟩ =>
    unfold lenA at e
    cases x with
    | ref p =>
      unfold rLenM
      simp only at e ⊢
      cases eS : S p with
      | none => rw [eS] at e; cases e
      | some w =>
        rw [eS] at e
        cases w with
        | lst ts => cases e; exact ⟨ts, itemsT_ref' eS, q⟩
        | ins C fs => cases e
        | dct kvs => cases e; exact q
        | dtt kvs => cases e
    | tup ts => cases e; exact ⟨ts, rfl, q⟩
    | fl ts => cases e; exact ⟨ts, rfl, q⟩
    | str z =>
      simp only at e
      split at e
      · rename_i hl; cases e; exact ⟨hl, q⟩
      · cases e
    | _ => cases e
theorem c_lenA : CallR X (.builtin "len") (LC X.K rLenA) := fun pins s σ H xs us Q I rx ⟨ts, S, Q0, r, hs, q, im⟩ => c_lenM pins s σ H xs us Q I rx ⟨ts, S, Q0, r, hs, rLenA_M q, im⟩
end
end Wp

set_option Elab.async false
set_option linter.all false
set_option maxRecDepth 100000
/-! the bags again, over the readings that know dicts -/
namespace Wp
open PySem PySem.Spec PyProof.Rows L2
theorem nodup_filter {α : Type} [DecidableEq α] (k : α) : ∀ ks : List α, ks.Nodup → ks.length ≤ (ks.filter fun x => decide (x ≠ k)).length + 1
  | [], _ => Nat.zero_le _
  | x :: ks, h => by
    obtain ⟨h1, h2⟩ := List.nodup_cons.mp h
    rw [List.filter_cons]
    by_cases e : x = k
    · subst e
      have e2 : ks.filter (fun y => decide (y ≠ x)) = ks := List.filter_eq_self.mpr fun y hy => decide_eq_true fun (e : y = x) => h1 (by rw [← e]; exact hy)
      rw [if_neg (by simp), e2]
      exact Nat.le_refl _
    · rw [if_pos (by simpa using e), List.length_cons, List.length_cons]
      have := nodup_filter k ks h2
      omega
/-- distinct keys of a range -/
theorem nodup_keys : ∀ (n : Nat) (ks : List Key), ks.Nodup → (∀ k ∈ ks, ∃ b : Int, k = .inl b ∧ 0 ≤ b ∧ b < (n : Int)) → ks.length ≤ n
  | 0, ks, _, h => by
    cases ks with
    | nil => exact Nat.le_refl _
    | cons k ks => obtain ⟨b, _, h0, h1⟩ := h k List.mem_cons_self; omega
  | n + 1, ks, hn, h => by
    refine Nat.le_trans (nodup_filter (Sum.inl (n : Int) : Key) ks hn) (Nat.succ_le_succ (nodup_keys n _ (hn.filter _) fun k hk => ?_))
    rw [List.mem_filter, decide_eq_true_eq] at hk
    obtain ⟨b, rfl, h0, h1⟩ := h k hk.1
    refine ⟨b, rfl, h0, ?_⟩
    have : b ≠ (n : Int) := fun e => hk.2 (by rw [e])
    omega
theorem ex_ins {C : Addr} {a : List (Str × T)} {P : List (Str × T) → Prop} : (∃ v, some (O.ins C a) = some (O.ins C v) ∧ P v) = P a := by
  apply propext
  constructor
  · rintro ⟨v, e, h⟩; cases e; exact h
  · intro h; exact ⟨a, rfl, h⟩
theorem ex_dct {a : List (Key × T)} {P : List (Key × T) → Prop} : (∃ v, some (O.dct a) = some (O.dct v) ∧ P v) = P a := by
  apply propext
  constructor
  · rintro ⟨v, e, h⟩; cases e; exact h
  · intro h; exact ⟨a, rfl, h⟩
local macro_rules | `(tactic| walk_at "go") => `(tactic| (with_reducible refine goS_i ?_))
local macro_rules | `(tactic| walk_at "wp") => `(tactic| simp (disch := omega) only [Wp.wSeq, Wp.wNext, Wp.wSet, Wp.wVar, Wp.wC, Wp.wOp, Wp.wRet, Wp.wIfS, Wp.wTest, Wp.wCall, Wp.wCons, Wp.wNil, Wp.wTup, Wp.wLst, Wp.wAsg, Wp.gTp, Wp.gC, Wp.gNm, Wp.gN0, Wp.gIx, Wp.rSet, Wp.rAdd, Wp.rMul, Wp.rMod, Wp.rSub, Wp.rFdiv, Wp.rPow, Wp.rInt, Wp.rIx, Wp.rLt, Wp.rLe, Wp.rCmp, Wp.rGeI, Wp.rGtI, Wp.wCB, Wp.rLen, Wp.rLen1, Wp.rInt1, Wp.rMax2, Wp.rMin2, Wp.rTupOf, Wp.rListOf,
  Wp.wIsi, Wp.rBIs, Wp.rIsN, Wp.isNon, Wp.wMt, Wp.rAppendT, Wp.rExtendT, Wp.rReverseT, Wp.wNot, Wp.wOr, Wp.wAnd, Wp.wAndV, Wp.wOrV, Wp.wNotV, Wp.wFor, Wp.iRg1, Wp.iRg2, Wp.iAnyW, Wp.wAll, Wp.wChain, Wp.wSl, Wp.wNoPart, Wp.wPart, Wp.rSl, Wp.wNeg, Wp.rNeg, Wp.wLc, Wp.wYes, Wp.wDrop, Wp.wipeT, Wp.wAug, List.map, List.set_cons_zero, List.set_cons_succ, List.getElem?_cons_zero, List.getElem?_cons_succ, List.length_cons, List.length_nil, List.cons_append, List.nil_append, List.replicate, Wp.startT,
  true_and, and_true, Wp.wif_true, Wp.wif_false, Wp.ex_some, Wp.ex_some1, Wp.ex_eq, Wp.ex_lst, Wp.ex_lst0, Wp.rEq_int, Bool.false_bne, Bool.true_bne, Int.reduceLT, Int.reduceLE, Int.reduceAdd, Nat.reduceAdd, Nat.reduceSub, eq_self, ite_true, ite_false, beq_self_eq_true, Bool.not_true, Bool.not_false, Wp.isB_0, Wp.isB_1, Wp.isB_2, Wp.isB_3, Wp.isB_4, Wp.isB_5, Wp.isB_6, Wp.isB_7, Wp.isB_8, Wp.isB_9, Wp.isB_10, Wp.isB_11, Wp.isB_12, Wp.isB_13, Wp.isB_14, Wp.isB_15, Wp.isB_16, Wp.isB_17, Wp.isB_18, Wp.isB_19, Wp.isB_20, Wp.isB_21, Wp.isB_22, Wp.isB_23, Wp.isB_24, Wp.isB_25, Wp.isB_26, Wp.isB_27, Wp.isB_28, Wp.isB_29, Wp.isB_30, Wp.isB_31, Wp.isB_32, Wp.isB_33, Wp.isB_34, Wp.isB_35, Wp.cmul_l, Wp.cmul_r, Wp.cpow_lit, Wp.size_le, Wp.size_lt, Wp.atI_0, Wp.atI_1, Wp.atI_2, Wp.atI_3, Wp.atI_4, Wp.atI_5, Wp.atI_6, Wp.ixN_0, Wp.ixN_1, Wp.ixN_2, Wp.itemsT, Wp.tyT, reduceIte, Wp.wFld, Wp.wFSet, Wp.wFAug, Wp.wMeth, Wp.wMake, Wp.rIxA, Wp.rInA, Wp.rSetA, Wp.ixA, Wp.inA, Wp.setA, Wp.lenA, Wp.getD, Option.map_some, Option.bind_some, Option.getD_some,  Wp.gIxA, Wp.wDNew, Wp.wDNewT, Wp.rLenA, Wp.rSortD, Wp.rMaxL, Wp.rPopL, Wp.rGet1, Wp.rGet2, Wp.wGet1, Wp.wGet2, Wp.wPop1, Wp.wPop2, Wp.wDel, Wp.isDT, Wp.keyT, Wp.keysT, Wp.keysL, Wp.ex_ins, Wp.ex_dct, Wp.upS, Wp.upS_upS, *])
local macro_rules | `(tactic| walk_at "run") => `(tactic| repeat (first | walk_at "wp" | walk_at "go"))
local macro_rules | `(tactic| walk_at "wq") => `(tactic| simp (disch := omega) only [Wp.wSeq, Wp.wNext, Wp.wSet, Wp.wVar, Wp.wC, Wp.wOp, Wp.wRet, Wp.wIfS, Wp.wTest, Wp.wCall, Wp.wCons, Wp.wNil, Wp.wTup, Wp.wLst, Wp.wAsg, Wp.gTp, Wp.gC, Wp.gNm, Wp.gN0, Wp.gIx, Wp.rSet, Wp.rAdd, Wp.rMul, Wp.rMod, Wp.rSub, Wp.rFdiv, Wp.rPow, Wp.rInt, Wp.rIx, Wp.rLt, Wp.rLe, Wp.rCmp, Wp.rGeI, Wp.rGtI, Wp.wCB, Wp.rLen, Wp.rLen1, Wp.rInt1, Wp.rMax2, Wp.rMin2, Wp.rTupOf, Wp.rListOf,
  Wp.wIsi, Wp.rBIs, Wp.rIsN, Wp.isNon, Wp.wMt, Wp.rAppendT, Wp.rExtendT, Wp.rReverseT, Wp.wNot, Wp.wOr, Wp.wAnd, Wp.wAndV, Wp.wOrV, Wp.wNotV, Wp.wFor, Wp.iRg1, Wp.iRg2, Wp.iAnyW, Wp.wAll, Wp.wChain, Wp.wSl, Wp.wNoPart, Wp.wPart, Wp.rSl, Wp.wNeg, Wp.rNeg, Wp.wLc, Wp.wYes, Wp.wDrop, Wp.wipeT, Wp.wAug, List.map, List.set_cons_zero, List.set_cons_succ, List.getElem?_cons_zero, List.getElem?_cons_succ, List.length_cons, List.length_nil, List.cons_append, List.nil_append, List.replicate, Wp.startT,
  true_and, and_true, Wp.wif_true, Wp.wif_false, Wp.ex_some, Wp.ex_some1, Wp.ex_eq, Wp.ex_lst, Wp.ex_lst0, Wp.rEq_int, Bool.false_bne, Bool.true_bne, Int.reduceLT, Int.reduceLE, Int.reduceAdd, Nat.reduceAdd, Nat.reduceSub, eq_self, ite_true, ite_false, beq_self_eq_true, Bool.not_true, Bool.not_false, Wp.isB_0, Wp.isB_1, Wp.isB_2, Wp.isB_3, Wp.isB_4, Wp.isB_5, Wp.isB_6, Wp.isB_7, Wp.isB_8, Wp.isB_9, Wp.isB_10, Wp.isB_11, Wp.isB_12, Wp.isB_13, Wp.isB_14, Wp.isB_15, Wp.isB_16, Wp.isB_17, Wp.isB_18, Wp.isB_19, Wp.isB_20, Wp.isB_21, Wp.isB_22, Wp.isB_23, Wp.isB_24, Wp.isB_25, Wp.isB_26, Wp.isB_27, Wp.isB_28, Wp.isB_29, Wp.isB_30, Wp.isB_31, Wp.isB_32, Wp.isB_33, Wp.isB_34, Wp.isB_35, Wp.cmul_l, Wp.cmul_r, Wp.cpow_lit, Wp.size_le, Wp.size_lt, Wp.atI_0, Wp.atI_1, Wp.atI_2, Wp.atI_3, Wp.atI_4, Wp.atI_5, Wp.atI_6, Wp.ixN_0, Wp.ixN_1, Wp.ixN_2, Wp.itemsT, Wp.tyT, reduceIte, Wp.wFld, Wp.wFSet, Wp.wFAug, Wp.wMeth, Wp.wMake, Wp.rIxA, Wp.rInA, Wp.rSetA, Wp.ixA, Wp.inA, Wp.setA, Wp.lenA, Wp.getD, Option.map_some, Option.bind_some, Option.getD_some,  Wp.gIxA, Wp.wDNew, Wp.wDNewT, Wp.rLenA, Wp.rSortD, Wp.rMaxL, Wp.rPopL, Wp.rGet1, Wp.rGet2, Wp.wGet1, Wp.wGet2, Wp.wPop1, Wp.wPop2, Wp.wDel, Wp.isDT, Wp.keyT, Wp.keysT, Wp.keysL, Wp.ex_ins, Wp.ex_dct, *])
local macro_rules | `(tactic| walk_at "r2") => `(tactic| repeat (first | walk_at "wq" | walk_at "go"))
local macro_rules | `(tactic| walk_at "w0") => `(tactic| simp (disch := omega) only [Wp.wSeq, Wp.wNext, Wp.wSet, Wp.wVar, Wp.wC, Wp.wOp, Wp.wRet, Wp.wIfS, Wp.wTest, Wp.wCall, Wp.wCons, Wp.wNil, Wp.wTup, Wp.wLst, Wp.wAsg, Wp.gTp, Wp.gC, Wp.gNm, Wp.gN0, Wp.gIx, Wp.rSet, Wp.rAdd, Wp.rMul, Wp.rMod, Wp.rSub, Wp.rFdiv, Wp.rPow, Wp.rInt, Wp.rIx, Wp.rLt, Wp.rLe, Wp.rCmp, Wp.rGeI, Wp.rGtI, Wp.wCB, Wp.rLen, Wp.rLen1, Wp.rInt1, Wp.rMax2, Wp.rMin2, Wp.rTupOf, Wp.rListOf,
  Wp.wIsi, Wp.rBIs, Wp.rIsN, Wp.isNon, Wp.wMt, Wp.rAppendT, Wp.rExtendT, Wp.rReverseT, Wp.wNot, Wp.wOr, Wp.wAnd, Wp.wAndV, Wp.wOrV, Wp.wNotV, Wp.wFor, Wp.iRg1, Wp.iRg2, Wp.iAnyW, Wp.wAll, Wp.wChain, Wp.wSl, Wp.wNoPart, Wp.wPart, Wp.rSl, Wp.wNeg, Wp.rNeg, Wp.wLc, Wp.wYes, Wp.wDrop, Wp.wipeT, Wp.wAug, List.map, List.set_cons_zero, List.set_cons_succ, List.getElem?_cons_zero, List.getElem?_cons_succ, List.length_cons, List.length_nil, List.cons_append, List.nil_append, List.replicate, Wp.startT,
  true_and, and_true, Wp.wif_true, Wp.wif_false, Wp.ex_some, Wp.ex_some1, Wp.ex_eq, Wp.ex_lst, Wp.ex_lst0, Wp.rEq_int, Bool.false_bne, Bool.true_bne, Int.reduceLT, Int.reduceLE, Int.reduceAdd, Nat.reduceAdd, Nat.reduceSub, eq_self, ite_true, ite_false, beq_self_eq_true, Bool.not_true, Bool.not_false, Wp.isB_0, Wp.isB_1, Wp.isB_2, Wp.isB_3, Wp.isB_4, Wp.isB_5, Wp.isB_6, Wp.isB_7, Wp.isB_8, Wp.isB_9, Wp.isB_10, Wp.isB_11, Wp.isB_12, Wp.isB_13, Wp.isB_14, Wp.isB_15, Wp.isB_16, Wp.isB_17, Wp.isB_18, Wp.isB_19, Wp.isB_20, Wp.isB_21, Wp.isB_22, Wp.isB_23, Wp.isB_24, Wp.isB_25, Wp.isB_26, Wp.isB_27, Wp.isB_28, Wp.isB_29, Wp.isB_30, Wp.isB_31, Wp.isB_32, Wp.isB_33, Wp.isB_34, Wp.isB_35, Wp.cmul_l, Wp.cmul_r, Wp.cpow_lit, Wp.size_le, Wp.size_lt, Wp.atI_0, Wp.atI_1, Wp.atI_2, Wp.atI_3, Wp.atI_4, Wp.atI_5, Wp.atI_6, Wp.ixN_0, Wp.ixN_1, Wp.ixN_2, Wp.itemsT, Wp.tyT, reduceIte, Wp.wFld, Wp.wFSet, Wp.wFAug, Wp.wMeth, Wp.wMake, Wp.rIxA, Wp.rInA, Wp.rSetA, Wp.ixA, Wp.inA, Wp.setA, Wp.lenA, Wp.getD, Option.map_some, Option.bind_some, Option.getD_some,  Wp.gIxA, Wp.wDNew, Wp.wDNewT, Wp.rLenA, Wp.rSortD, Wp.rMaxL, Wp.rPopL, Wp.rGet1, Wp.rGet2, Wp.wGet1, Wp.wGet2, Wp.wPop1, Wp.wPop2, Wp.wDel, Wp.isDT, Wp.keyT, Wp.keysT, Wp.keysL, Wp.ex_ins, Wp.ex_dct])
local macro_rules | `(tactic| walk_at "r0") => `(tactic| repeat (first | walk_at "w0" | walk_at "go"))
def b_bag3A : WS :=
  (wSeq (wSet 2 (wC (.int 0)))
    (wSeq (wIfS (wTest (wOp rLt (wVar 1) (wCB rLenA (wCons (wVar 0) wNil)))) (wSet 2 (wCB rInt1 (wCons (wOp rIxA (wVar 0) (wVar 1)) wNil))) wNext)
    (wSeq (wIfS (wTest (wOp rGeI (wVar 2) (wOp rPow (wC (.int 10)) (wC (.int 18))))) (wRet (wLst (wCons (wVar 2) (wCons (wVar 2) (wCons (wVar 1) wNil))))) wNext)
    (wRet (wLst (wCons (wC (.int 0)) (wCons (wVar 2) (wCons (wVar 1) wNil))))))))
def b_draw3A : WS :=
  (wSeq (wIfS (wTest (wOp (rEq false) (wOp rIxA (wVar 0) (wC (.int 0))) (wC (.int 0)))) (wSeq (wSet 2 (wOp rMod (wCB rInt1 (wCons (wOp rAdd (wOp rAdd (wOp rMul (wOp rIxA (wVar 0) (wC (.int 1))) (wC (.int 48271))) (wOp rMul (wOp rIxA (wVar 0) (wC (.int 2))) (wC (.int 69621)))) (wC (.int 11))) wNil)) (wC (.int 2147483647))))
    (wSeq (wAsg (wOp rAdd (wOp rMul (wVar 2) (wC (.int 2147483629))) (wOp rMod (wCB rInt1 (wCons (wOp rAdd (wOp rMul (wVar 2) (wVar 2)) (wOp rMul (wOp rIxA (wVar 0) (wC (.int 2))) (wC (.int 16807)))) wNil)) (wC (.int 2147483629)))) (gIxA (wVar 0) (wC (.int 0))))
    (wAsg (wVar 2) (gIxA (wVar 0) (wC (.int 1)))))) wNext)
    (wSeq (wSet 3 (wOp rIxA (wVar 0) (wC (.int 0))))
    (wSeq (wAsg (wOp rFdiv (wVar 3) (wVar 1)) (gIxA (wVar 0) (wC (.int 0))))
    (wRet (wOp rMod (wCB rInt1 (wCons (wVar 3) wNil)) (wVar 1))))))
def b_bag5A : WS :=
  (wRet (wLst (wCons (wC (.int 0)) (wCons (wC (.int 7)) (wCons (wC (.int 0)) (wCons (wC (.int 0)) (wCons (wCB rListOf (wCons (wVar 0) wNil)) wNil)))))))
def b_draw5A : WS :=
  (wSeq (wIfS (wTest (wOp (rEq false) (wOp rIxA (wVar 0) (wC (.int 0))) (wC (.int 0)))) (wSeq (wSet 2 (wCB rInt1 (wCons (wOp rIxA (wVar 0) (wC (.int 3))) wNil)))
    (wSeq (wSet 3 (wOp rIxA (wVar 0) (wC (.int 4))))
    (wSeq (wIfS (wTest (wOp rLt (wOp rIxA (wVar 0) (wC (.int 2))) (wCB rLenA (wCons (wVar 3) wNil)))) (wSet 2 (wCB rInt1 (wCons (wOp rIxA (wVar 3) (wOp rIxA (wVar 0) (wC (.int 2)))) wNil))) wNext)
    (wSeq (wAsg (wOp rAdd (wOp rIxA (wVar 0) (wC (.int 2))) (wC (.int 1))) (gIxA (wVar 0) (wC (.int 2))))
    (wSeq (wSet 4 (wOp rMod (wCB rInt1 (wCons (wOp rAdd (wOp rAdd (wOp rAdd (wOp rMul (wOp rIxA (wVar 0) (wC (.int 1))) (wC (.int 48271))) (wOp rMul (wVar 2) (wC (.int 69621)))) (wOp rMul (wOp rIxA (wVar 0) (wC (.int 2))) (wC (.int 16807)))) (wC (.int 11))) wNil)) (wC (.int 2147483647))))
    (wSeq (wAsg (wOp rAdd (wOp rMul (wVar 4) (wC (.int 2147483629))) (wOp rMod (wCB rInt1 (wCons (wOp rAdd (wOp rMul (wVar 4) (wVar 4)) (wVar 2)) wNil)) (wC (.int 2147483629)))) (gIxA (wVar 0) (wC (.int 0))))
    (wSeq (wIfS (wTest (wOp rGeI (wVar 2) (wOp rPow (wC (.int 10)) (wC (.int 18))))) (wAsg (wVar 2) (gIxA (wVar 0) (wC (.int 0)))) wNext)
    (wAsg (wVar 4) (gIxA (wVar 0) (wC (.int 1))))))))))) wNext)
    (wSeq (wSet 5 (wOp rIxA (wVar 0) (wC (.int 0))))
    (wSeq (wAsg (wOp rFdiv (wVar 5) (wVar 1)) (gIxA (wVar 0) (wC (.int 0))))
    (wRet (wOp rMod (wCB rInt1 (wCons (wVar 5) wNil)) (wVar 1))))))
theorem hw_bag3A : ∀ ts S Q E, ts.length = 2 → spBag3 ts S Q E → b_bag3A { nx := fun _ S' => Q .non S', rt := Q } (Wp.startT ["script", "k", "cell"] ts) S := by
  intro ts S Q E _ h
  match ts, h with
  | [.fl us, .int k], ⟨ns, e, h0, hl, h⟩ =>
    subst e
    have fin : ∀ (a b c : Int) (p : Addr), S p = none → Q (.ref p) (upS S p (.lst [.int a, .int b, .int c])) := fun a b c p hp => h p _ hp (gr_new hp) ⟨a, b, c, upS_same⟩
    clear h
    unfold b_bag3A
    walk_at "r0"
    refine if_dec (fun hk => ?_) (fun hk => ?_)
    · obtain ⟨x, hx, hm⟩ := atI_in (xs := ns.map T.int) h0 hk
      obtain ⟨n, _, rfl⟩ := List.mem_map.mp hm
      walk_at "r0"
      simp only [hx]
      walk_at "r0"
      refine if_dec (fun _ => ?_) (fun _ => ?_)
      · walk_at "r0"
        exact fun p hp => fin _ _ _ p hp
      · walk_at "r0"
        exact fun p hp => fin _ _ _ p hp
    · walk_at "r0"
      refine if_dec (fun _ => ?_) (fun _ => ?_)
      · walk_at "r0"
        exact fun p hp => fin _ _ _ p hp
      · walk_at "r0"
        exact fun p hp => fin _ _ _ p hp
theorem hw_draw3A : ∀ ts S Q E, ts.length = 2 → spDraw false ts S Q E → b_draw3A { nx := fun _ S' => Q .non S', rt := Q } (Wp.startT ["bag", "many", "seed", "rest"] ts) S := by
  intro ts S Q E _ h
  match ts, h with
  | [.ref p, .int m], ⟨none, _, ⟨a, b, c, hS⟩, h0, h1, h⟩ =>
    have fin : ∀ (r a b c : Int), 0 ≤ r → r < m → Q (.int r) (upS S p (.lst [.int a, .int b, .int c])) := fun r a b c g1 g2 => h r _ g1 g2 ⟨fun x o e n => by rw [upS_ne n]; exact e, _, _, _, upS_same⟩
    clear h
    unfold b_draw3A
    walk_at "run"
    refine if_bool (fun _ => ?_) (fun _ => ?_)
    · walk_at "run"
      exact fin _ _ _ _ (Int.emod_nonneg _ (by omega)) (Int.emod_lt_of_pos _ h0)
    · walk_at "run"
      exact fin _ _ _ _ (Int.emod_nonneg _ (by omega)) (Int.emod_lt_of_pos _ h0)
theorem hw_bag5A : ∀ ts S Q E, ts.length = 1 → spBag5 ts S Q E → b_bag5A { nx := fun _ S' => Q .non S', rt := Q } (Wp.startT ["script"] ts) S := by
  intro ts S Q E _ h
  match ts, h with
  | [.fl us], ⟨ns, e, h⟩ =>
    subst e
    unfold b_bag5A
    walk_at "r0"
    intro q hq p hp
    have hqp : q ≠ p := fun e => by rw [e, upS_same] at hp; cases hp
    rw [upS_ne hqp.symm] at hp
    refine h p _ hp ((gr_new hq).trans (gr_new (by rw [upS_ne hqp.symm]; exact hp))) ⟨q, 0, 7, 0, 0, ns, upS_same, hqp, by rw [upS_ne hqp, upS_same], by omega⟩
theorem hw_draw5A : ∀ ts S Q E, ts.length = 2 → spDraw true ts S Q E → b_draw5A { nx := fun _ S' => Q .non S', rt := Q } (Wp.startT ["bag", "many", "cell", "cells", "seed", "rest"] ts) S := by
  intro ts S Q E _ h
  match ts, h with
  | [.ref p, .int m], ⟨some q, _, ⟨a, b, c, d, ns, hS, hqp, hq, hc⟩, h0, h1, h⟩ =>
    have fin : ∀ (r a b c d : Int), 0 ≤ r → r < m → 0 ≤ c → Q (.int r) (upS S p (.lst [.int a, .int b, .int c, .int d, .ref q])) := fun r a b c d g1 g2 g3 => h r _ g1 g2 ⟨fun x o e n => by rw [upS_ne n]; exact e, _, _, _, _, ns, upS_same, hqp, by rw [upS_ne hqp]; exact hq, g3⟩
    clear h
    have at3 : atI [T.int a, T.int b, T.int c, T.int d, T.ref q] 3 = some (.int d) := by rw [atI_3]; rfl
    unfold b_draw5A
    have it : ∀ o, itemsT (upS S p o) (.ref q) = some (ns.map T.int) := fun o => itemsT_ref (by rw [upS_ne hqp]; exact hq)
    have it0 : itemsT S (.ref q) = some (ns.map T.int) := itemsT_ref hq
    walk_at "run"
    refine if_bool (fun _ => ?_) (fun _ => ?_)
    · walk_at "run"
      refine if_dec (fun hk => ?_) (fun hk => ?_)
      · obtain ⟨x, hx, hm⟩ := atI_in (xs := ns.map T.int) hc hk
        obtain ⟨n, _, rfl⟩ := List.mem_map.mp hm
        walk_at "run"
        refine if_dec (fun _ => ?_) (fun _ => ?_)
        · walk_at "run"
          exact fin _ _ _ _ _ (Int.emod_nonneg _ (by omega)) (Int.emod_lt_of_pos _ h0) (by omega)
        · walk_at "run"
          exact fin _ _ _ _ _ (Int.emod_nonneg _ (by omega)) (Int.emod_lt_of_pos _ h0) (by omega)
      · walk_at "run"
        refine if_dec (fun _ => ?_) (fun _ => ?_)
        · walk_at "run"
          exact fin _ _ _ _ _ (Int.emod_nonneg _ (by omega)) (Int.emod_lt_of_pos _ h0) (by omega)
        · walk_at "run"
          exact fin _ _ _ _ _ (Int.emod_nonneg _ (by omega)) (Int.emod_lt_of_pos _ h0) (by omega)
    · walk_at "run"
      exact fin _ _ _ _ _ (Int.emod_nonneg _ (by omega)) (Int.emod_lt_of_pos _ h0) (by omega)
end Wp

set_option Elab.async false
set_option linter.all false
set_option maxRecDepth 100000
/-! comprehensions with a test; lists without repetition -/
namespace Wp
open PySem PySem.Spec PyProof.Rows L2
theorem comp_filt_at {α : Type} {g : WG} {tt : WT} {te : WE} {stb : Sta → Prop} {σ : Sl} {D : Addr} {Q : T → Sta → Prop} {S0 : Sta} (tr : α → T) (p : α → Bool) (f : α → T) (hstb : ∀ acc, stb (upS S0 D (.lst acc))) : ∀ (xs : List α) (acc : List T), acc.length + xs.length ≤ 1000000 →
    (∀ x ∈ xs, ∀ (acc : List T) (A : Sta → Prop) (R : T → Sta → Prop), (p x = true → R (f x) (upS S0 D (.lst acc))) → (p x = false → A (upS S0 D (.lst acc))) → g (tr x) σ (upS S0 D (.lst acc)) fun σ2 S2 => tt σ2 S2 fun b S3 => wif b (te σ2 S3 R) (A S3)) →
    Q (.ref D) (upS S0 D (.lst (acc ++ (xs.filter p).map f))) → compW g tt te stb σ D Q (xs.map tr) (upS S0 D (.lst acc))
  | [], acc, _, _, q => ⟨hstb acc, by simpa using q⟩
  | x :: xs, acc, hl, step, q => by
    rw [List.length_cons] at hl
    refine ⟨hstb acc, step x List.mem_cons_self acc _ _ (fun hp => ⟨acc, upS_same, lt_sz (by omega), ?_⟩) (fun hp => ?_)⟩
    · rw [upS_upS]
      refine comp_filt_at tr p f hstb xs (acc ++ [f x]) (by rw [List.length_append, List.length_cons, List.length_nil]; omega) (fun y hy => step y (List.mem_cons_of_mem _ hy)) ?_
      rw [List.filter_cons, if_pos hp, List.map_cons] at q
      rw [List.append_assoc]
      exact q
    · refine comp_filt_at tr p f hstb xs acc (by omega) (fun y hy => step y (List.mem_cons_of_mem _ hy)) ?_
      rw [List.filter_cons, if_neg (by rw [hp]; exact Bool.false_ne_true)] at q
      exact q
theorem comp_filt {α : Type} {g : WG} {tt : WT} {te : WE} {stb : Sta → Prop} {σ : Sl} {D : Addr} {Q : T → Sta → Prop} {S0 : Sta} {xs : List α} (tr : α → T) (p : α → Bool) (f : α → T) (hl : xs.length ≤ 1000000) (hstb : ∀ acc, stb (upS S0 D (.lst acc)))
    (step : ∀ x ∈ xs, ∀ (acc : List T) (A : Sta → Prop) (R : T → Sta → Prop), (p x = true → R (f x) (upS S0 D (.lst acc))) → (p x = false → A (upS S0 D (.lst acc))) → g (tr x) σ (upS S0 D (.lst acc)) fun σ2 S2 => tt σ2 S2 fun b S3 => wif b (te σ2 S3 R) (A S3))
    (q : Q (.ref D) (upS S0 D (.lst ((xs.filter p).map f)))) : compW g tt te stb σ D Q (xs.map tr) (upS S0 D (.lst [])) :=
  comp_filt_at tr p f hstb xs [] (by simpa using hl) step (by rw [List.nil_append]; exact q)
/-- without a test -/
theorem comp_each {α : Type} {g : WG} {te : WE} {stb : Sta → Prop} {σ : Sl} {D : Addr} {Q : T → Sta → Prop} {S0 : Sta} {xs : List α} (tr : α → T) (f : α → T) (hl : xs.length ≤ 1000000) (hstb : ∀ acc, stb (upS S0 D (.lst acc)))
    (step : ∀ x ∈ xs, ∀ (acc : List T) (R : T → Sta → Prop), R (f x) (upS S0 D (.lst acc)) → g (tr x) σ (upS S0 D (.lst acc)) fun σ2 S2 => te σ2 S2 R)
    (q : Q (.ref D) (upS S0 D (.lst (xs.map f)))) : compW g wYes te stb σ D Q (xs.map tr) (upS S0 D (.lst [])) :=
  comp_filt tr (fun _ => true) f hl hstb (fun x hx acc A R h1 _ => by
    have := step x hx acc R (h1 rfl)
    show g (tr x) σ _ fun σ2 S2 => wif true (te σ2 S2 R) _
    simp only [wif_true]
    exact this) (by rw [List.filter_eq_self.mpr (fun _ _ => rfl)]; exact q)
@[elab_as_elim] theorem snoc_ind {α : Type} {motive : List α → Prop} (nil : motive []) (app : ∀ xs x, motive xs → motive (xs ++ [x])) (l : List α) : motive l := by
  rw [← List.reverse_reverse l]
  induction l.reverse with
  | nil => exact nil
  | cons x xs ih => rw [List.reverse_cons]; exact app _ _ ih
theorem nodup_of_map {α β : Type} (f : α → β) {xs : List α} (h : (xs.map f).Nodup) : xs.Nodup := List.Pairwise.of_map f (fun a b h e => h (by rw [e])) h
theorem perm_of_nodup {α : Type} [BEq α] [LawfulBEq α] {xs ys : List α} (hx : xs.Nodup) (hy : ys.Nodup) (h : ∀ a, a ∈ xs ↔ a ∈ ys) : xs.Perm ys := by
  rw [List.perm_iff_count]
  intro a
  have h1 := List.nodup_iff_count.mp hx a
  have h2 := List.nodup_iff_count.mp hy a
  by_cases m : a ∈ xs
  · have m2 := (h a).mp m
    have p1 := List.count_pos_iff.mpr m
    have p2 := List.count_pos_iff.mpr m2
    omega
  · have m2 := fun z => m ((h a).mpr z)
    rw [List.count_eq_zero.mpr m, List.count_eq_zero.mpr m2]
/-- a list that is sorted and has just these items -/
theorem sorted_is {xs ys : List Int} (hp : ys.Perm xs) (hs : ys.Pairwise (· ≤ ·)) {zs : List Int} (hn : xs.Nodup) (hz : zs.Pairwise (· < ·)) (h : ∀ a, a ∈ xs ↔ a ∈ zs) : ys = zs := by
  have hzn : zs.Nodup := hz.imp fun h => by omega
  exact PySem.W.ksm_same (hp.trans (perm_of_nodup hn hzn h)) hs (hz.imp fun h => by omega)
end Wp

set_option Elab.async false
set_option linter.all false
set_option maxRecDepth 100000
/-! written dicts of tuples of texts; zip of such a tuple and a tuple; displays of dicts; > of texts -/
namespace Wp
open PySem PySem.Spec PyProof.Rows L2
/-- a written tuple of texts -/
def KTup (K : PySem.W.Frag) (a : Addr) (zs : List Str) : Prop :=
  ∃ (o : Obj) (its : Array Value) (n : Nat), K.lookup a = some o ∧ o.cls = .type "tuple" ∧ o.data = .seq its n ∧ its.size ≤ sizeLine ∧ Vals (zs.map V.str) its.toList
theorem KTup.sqT {K : PySem.W.Frag} {H : Hp} {a : Addr} {zs : List Str} (h : KTup K a zs) : SqT K H a (zs.map V.str) := .inr h
def tblGet : List (Str × List Str) → Str → Option (List Str)
  | [], _ => none
  | (z, zs) :: r, x => if z = x then some zs else tblGet r x
def TblOk (K : PySem.W.Frag) (P : Params) : List DictEntry → List (Str × List Str) → Prop
  | [], [] => True
  | e :: r, (z, zs) :: t => (∃ tk, e.key = .str z tk ∧ e.hash = PyData.keyHash P z) ∧ (∃ a, e.val = .ref a ∧ KTup K a zs) ∧ TblOk K P r t
  | _, _ => False
/-- a written dict at d -/
structure WDict (K : PySem.W.Frag) (P : Params) (d : Addr) (tbl : List (Str × List Str)) : Prop where
  ex : ∃ es n, K.lookup d = some ⟨.type "dict", none, .dict es n, #[]⟩ ∧ TblOk K P es.toList tbl
  low : (d == sysModules) = false
theorem tbl_find {K : PySem.W.Frag} {P : Params} (x : Str) : ∀ {l : List DictEntry} {t : List (Str × List Str)}, TblOk K P l t →
    match tblGet t x with
    | none => (l.find? fun e => nkIs (some (.inr x)) e.key) = none
    | some zs => ∃ e a, (l.find? fun e => nkIs (some (.inr x)) e.key) = some e ∧ e.val = .ref a ∧ KTup K a zs
  | [], [], _ => rfl
  | e :: r, (z, zs) :: t, ⟨⟨tk, ek, _⟩, ⟨a, ev, kt⟩, h⟩ => by
    have ih := tbl_find x h
    have hk : nkIs (some (.inr x)) e.key = decide (z = x) := by
      rw [ek]
      show Value.isStrOf x (.str z tk) = decide (z = x)
      unfold Value.isStrOf
      by_cases c : z = x
      · subst c; simp
      · simp only [c, decide_false]
        first | exact beq_eq_false_iff_ne.mpr c | exact beq_eq_false_iff_ne.mpr (fun y => c y.symm)
    unfold tblGet
    by_cases c : z = x
    · rw [if_pos c]
      exact ⟨e, a, by rw [List.find?_cons, hk, decide_eq_true c], ev, kt⟩
    · rw [if_neg c, List.find?_cons, hk, decide_eq_false c]
      exact ih
theorem tbl_none {K : PySem.W.Frag} {P : Params} : ∀ {l : List DictEntry} {t : List (Str × List Str)}, TblOk K P l t → (l.find? fun e => nkIs none e.key) = none
  | [], [], _ => rfl
  | e :: r, (z, zs) :: t, ⟨⟨tk, ek, _⟩, _, h⟩ => by
    have hk : nkIs none e.key = false := by rw [ek]; rfl
    rw [List.find?_cons, hk]
    exact tbl_none h
theorem tbl_keys {K : PySem.W.Frag} {P : Params} : ∀ {l : List DictEntry} {t : List (Str × List Str)}, TblOk K P l t → ∀ e ∈ l, ∃ z tk, e.key = .str z tk ∧ e.hash = PyData.keyHash P z
  | e :: r, (z, zs) :: t, ⟨⟨tk, ek, eh⟩, _, h⟩, f, hf => by
    rcases List.mem_cons.mp hf with q | q
    · rw [q]; exact ⟨z, tk, ek, eh⟩
    · exact tbl_keys h f q
section
variable {X : Cx} {B : Hp} {pins : List (Addr × Obj)} {σ : L2.St} {H : Hp} {s : Shared} {d : Addr} {tbl : List (Str × List Str)}
theorem wd_map (D : WDict X.K X.w.params d tbl) (I : Inv X pins σ H s) : ∃ (es : Array DictEntry) (n : Nat), s.heap.get? d = some ⟨.type "dict", none, .dict es n, #[]⟩ ∧ TblOk X.K X.w.params es.toList tbl ∧
    s.heap.MapOf (noneKind X.prog X.w) d (fun k => findBy (noneKind X.prog X.w).is es k) := by
  obtain ⟨es, n, hl, ht⟩ := D.ex
  have hg := I.kIn _ _ hl
  refine ⟨es, n, hg, ht, ⟨_, es, n, hg, ⟨rfl, rfl, rfl⟩, rfl, fun e he => ?_, fun _ => rfl⟩⟩
  obtain ⟨z, tk, e1, e2⟩ := tbl_keys ht e (Array.mem_toList_iff.mpr he)
  exact ⟨some (.inr z), by rw [e1]; exact keyIs_str z tk, by rw [e2]; rfl⟩
theorem wd_find (es : Array DictEntry) (k : Option Key) : findBy (noneKind X.prog X.w).is es k = (es.toList.find? fun e => nkIs k e.key).map (·.val) := by
  unfold findBy
  rw [← Array.find?_toList]
  rfl
end
/-- TABLE.get(e), TABLE written -/
def wKGet (K : PySem.W.Frag) (tbl : List (Str × List Str)) (te : WE) (σ : Sl) (S : Sta) (Q : T → Sta → Prop) : Prop := te σ S fun y S1 => match y with
  | .str z => match tblGet tbl z with
    | none => Q .non S1
    | some zs => ∀ a, KTup K a zs → Q (.ref a) S1
  | .non => Q .non S1
  | _ => False
/-- TABLE[e], TABLE written -/
def wKIx (K : PySem.W.Frag) (tbl : List (Str × List Str)) (te : WE) (σ : Sl) (S : Sta) (Q : T → Sta → Prop) : Prop := te σ S fun y S1 => match y with
  | .str z => ∃ zs, tblGet tbl z = some zs ∧ ∀ a, KTup K a zs → Q (.ref a) S1
  | _ => False
section
variable {X : Cx} {B : Hp} {e : Expr} {te : WE} {tbl : List (Str × List Str)} {x : Str} {p apos pos cpos : Pos}
/-- the name of a written dict -/
def GWD (K : PySem.W.Frag) (P : Params) (mg : Str → Option Value) (x : Str) (tbl : List (Str × List Str)) : Prop := ∃ d, mg x = some (.ref d) ∧ WDict K P d tbl
theorem pe_gref {d : Addr} (hg : Gl X x) (hm : X.mg x = some (.ref d)) (hd : (x == ("__debug__" : Str)) = false := by decide) : PE X (.Name x p) (tC (.ref d)) := pe_glob (v := .ref d) hg hm rfl hd
theorem j_kget (g : GWD X.K X.w.params X.mg x tbl) (hg : Gl X x) (he : JE B X e te) (hd : (x == ("__debug__" : Str)) = false := by decide) (m : M1 X (.Name x p) "get" apos e cpos := by exact ⟨rfl, rfl, rfl, rfl⟩) :
    JE B X (.Call (.Attribute (.Name x p) "get" apos) [e] [] cpos) (wKGet X.K tbl te) := by
  obtain ⟨d, hm, D⟩ := g
  refine ⟨fun pins s σ H Q I ⟨st, S, Q0, hb, hr, hs, h, im⟩ => ?_⟩
  refine wpAny_Call_method m.base m.few m.line PySem.F.plainAttrs_dict PySem.F.slot_dict_get PySem.F.type_dict_get (thn ((pe_gref hg hm hd).run pins s σ H (fun v H' => v = .ref d ∧ H' = H) I ⟨rfl, rfl⟩) fun u s1 ⟨x', H1, I1, rx, ex, eH⟩ => ?_)
  subst ex eH
  obtain rfl : u = Value.ref d := rx
  obtain ⟨es, n, hget, ht, hmap⟩ := wd_map D I1
  refine ⟨hmap.typeIs, fun b q => ?_, ?_⟩
  · cases q
    exact ⟨_, hget, rfl⟩
  rw [m.trees]
  refine Calls.callWith_builtin rfl (Calls.evalArgs_plain (Calls.spliced_cons (thn (he.run pins s1 σ H1 (fun v H2 => ∃ t S2, Ext H1 H2 ∧ St X.K S2 H2 ∧ Rep X.K H2 t v ∧ (match t with
    | .str z => match tblGet tbl z with
      | none => Q0 .non S2
      | some zs => ∀ a, KTup X.K a zs → Q0 (.ref a) S2
    | .non => Q0 .non S2
    | _ => False)) I1 ⟨st, S, _, hb, hr, hs, h, fun y S2 h2 H2 v e2 s2 r2 => ⟨y, S2, e2, s2, r2, h2⟩⟩) fun iv s2 ⟨y, H2, I2, ry, t, S2, e2, s2', rt, q2⟩ => Calls.spliced_nil ?_)))
  obtain ⟨es, n, hget, ht, hmap⟩ := wd_map D I2
  have go : ∀ (k : Option Key) (v : V) (t' : T), (noneKind X.prog X.w).is k iv = true → RelV v ((findBy (noneKind X.prog X.w).is es k).getD .none) → Rep X.K H2 t' v → Q0 t' S2 → wpAny (model X.prog X.w) X.A (call (.builtin "dict.get") [.ref d, iv]) (EP X pins σ Q) X.xe s2 := fun k v t' hk rv rt' q => by
    refine call_meetsIn PySem.F.slot_dict_get hmap.typeIs PySem.F.entry_dict_get (PySem.F.args_dict_get_2 _ _) (meets_dict_get (noneKind X.prog X.w) d hk D.low) ⟨_, hmap, ?_⟩
    exact ⟨v, H2, I2.tok _, rv, im _ _ q H2 _ e2 s2' rt'⟩
  cases t with
  | str z =>
    cases rt
    obtain ⟨tk, rfl⟩ := (show ∃ t, iv = Value.str z t from ry)
    have hf := tbl_find z ht
    cases hz : tblGet tbl z with
    | none =>
      simp only [hz] at hf q2
      refine go (some (.inr z)) .non .non (keyIs_str z tk) ?_ .non q2
      rw [wd_find, hf]
      rfl
    | some zs =>
      simp only [hz] at hf q2
      obtain ⟨en, a, e1, e3, kt⟩ := hf
      refine go (some (.inr z)) (.ref a) (.ref a) (keyIs_str z tk) ?_ (.ref a) (q2 a kt)
      rw [wd_find, e1]
      simp only [Option.map_some, Option.getD_some, e3]
      rfl
  | non =>
    cases rt
    obtain rfl : iv = Value.none := ry
    refine go none .non .non rfl ?_ .non q2
    rw [wd_find, tbl_none ht]
    rfl
  | _ => exact q2.elim
end

section
variable {X : Cx} {B : Hp} {e : Expr} {te : WE} {tbl : List (Str × List Str)} {x : Str} {p apos pos cpos : Pos}
theorem j_kix (g : GWD X.K X.w.params X.mg x tbl) (hg : Gl X x) (he : JE B X e te) (hs0 : PlainIx e) (hd : (x == ("__debug__" : Str)) = false := by decide) :
    JE B X (.Subscript (.Name x p) e pos) (wKIx X.K tbl te) := by
  obtain ⟨d, hm, D⟩ := g
  refine ⟨fun pins s σ H Q I ⟨st, S, Q0, hb, hr, hs, h, im⟩ => ?_⟩
  refine Subscript_ (binT (pe_gref hg hm hd) he I (R := fun x y H2 => x = V.ref d ∧ ∃ t S2, Ext H H2 ∧ St X.K S2 H2 ∧ Rep X.K H2 t y ∧ (match t with
    | .str z => ∃ zs, tblGet tbl z = some zs ∧ ∀ a, KTup X.K a zs → Q0 (.ref a) S2
    | _ => False)) (show LE B X te σ H _ from ⟨st, S, _, hb, hr, hs, h, fun y S2 h2 H2 v e2 s2 r2 => ⟨rfl, y, S2, e2, s2, r2, h2⟩⟩) fun v u s2 x y H2 I2 rx ry q => ?_)
  obtain ⟨ex, t, S2, e2, s2', rt, q2⟩ := q
  subst ex
  obtain rfl : v = Value.ref d := rx
  obtain ⟨es, n, hget, ht, hmap⟩ := wd_map D I2
  cases t with
  | str z =>
    cases rt
    obtain ⟨tk, rfl⟩ := (show ∃ t, u = Value.str z t from ry)
    obtain ⟨zs, hz, q2⟩ := q2
    have hf := tbl_find z ht
    simp only [hz] at hf
    obtain ⟨en, a, e1, e3, kt⟩ := hf
    refine tail_any hmap.typeIs slot_dict_getitem.lookup (wpAny_getItem_of (knd := noneKind X.prog X.w) (k := some (.inr z)) (keyIs_str z tk) hmap (v := .ref a) ?_ ⟨.ref a, H2, I2.tok _, rfl, im _ _ (q2 a kt) H2 _ e2 s2' (.ref a)⟩) (hs0 _ _)
    rw [wd_find, e1]
    simp only [Option.map_some, e3]
  | _ => exact q2.elim
/-- len of a written tuple -/
def rLenK (K : PySem.W.Frag) (xs : List T) (S : Sta) (Q : T → Sta → Prop) : Prop := match xs with
  | [.ref a] => ∃ zs, KTup K a zs ∧ Q (.int zs.length) S
  | _ => False
theorem c_lenK : CallR X (.builtin "len") (LC X.K (rLenK X.K)) := by
  intro pins s σ H xs us Q I rx ⟨ts, S, Q0, r, hs, q, im⟩
  match ts, q with
  | [.ref a], ⟨zs, kt, q⟩ =>
    obtain ⟨v, rfl, r1⟩ := r.one
    cases r1
    refine call_len_seq pins s σ H _ us Q I rx ⟨a, zs.map V.str, rfl, .inr kt.sqT, ?_⟩
    rw [List.length_map]
    exact im _ _ q H _ (Ext.refl H) hs (.int _)
/-- zip(TUPLE, tuple), the first written -/
def zipT (zs : List Str) (ps : List T) : List T := List.zipWith (fun z p => T.tup [.str z, p]) zs ps
def iZipK (K : PySem.W.Frag) (ta : WA) (σ : Sl) (S : Sta) (R : List T → (Sta → Prop) → Sta → Prop) : Prop := ta σ S fun xs S1 => match xs with
  | [.ref a, .tup ps] => ∃ zs, KTup K a zs ∧ R (zipT zs ps) (fun _ => True) S1
  | _ => False
theorem zip_at {zs : List Str} {ps : List T} {i : Nat} {z : Str} {p : T} (h1 : zs[i]? = some z) (h2 : ps[i]? = some p) : (zipT zs ps)[i]? = some (T.tup [.str z, p]) := by
  unfold zipT
  rw [List.getElem?_zipWith, h1, h2]
theorem yields_zip {K : PySem.W.Frag} {H1 : Hp} {zs : List Str} {ps : List T} {ys : List V} {a b : Addr} (hn : True) (kt : KTup K a zs) (hq : ∀ H, Ext H1 H → SqT K H b ys ∧ Reps K H ps ys) : Yields K (zipT zs ps) (fun _ => True) H1 (RZ.ItzT K a b) := fun i S H2 e2 s2 _ => by
  obtain ⟨hb, r⟩ := hq H2 e2
  have hl : (zipT zs ps).length = min zs.length ps.length := by unfold zipT; rw [List.length_zipWith]
  have hlr := r.length
  rw [hl]
  refine ⟨fun hi => ?_, fun hi => ⟨zs.map V.str, ys, kt.sqT, hb, by rw [List.length_map]; omega⟩, fun x H' hy hi => ?_⟩
  · obtain ⟨v, g3, _⟩ := r.get (List.getElem?_eq_getElem (show i < ps.length by omega))
    refine ⟨zs.map V.str, ys, V.str (zs[i]'(by omega)), v, kt.sqT, hb, ?_, g3⟩
    rw [List.getElem?_map, List.getElem?_eq_getElem (show i < zs.length by omega)] <;> rfl
  · obtain ⟨T0, x0, y0, rfl, hp, rfl, h1, h2⟩ := hy
    have ev := h2 ys hb
    obtain ⟨t, et, rt⟩ := r.getV ev
    have ex0 := h1 _ kt.sqT
    rw [List.getElem?_map, List.getElem?_eq_getElem (show i < zs.length by omega)] at ex0
    cases ex0
    have ex : Ext H2 (upd H2 T0 (.tup [V.str (zs[i]'(by omega)), y0])) := Ext.new hp
    exact ⟨ex, s2.new hp _, fun st σ q => q.mono ex, _, zip_at (List.getElem?_eq_getElem (by omega)) et, .tup upd_same (.cons (.str _) (.cons (Rep.mono ex _ _ rt) .nil))⟩
theorem ji_zipK {e2 : Expr} {ta : WA} {tpos : Pos} {elts : List Expr} {kk : Nat} (hg : Gl X "zip") (hm : X.mg "zip" = none) (ha : JA B X [e, e2] ta)
    (hs : starEach [e, e2] X.env = (false, eval e X.env) :: starEach [e2] X.env := by rfl) (hpl : (backTo pos (starEach [e2] X.env)).any (·.1) = false := by rfl) :
    JI B X (.Tuple elts kk tpos) (.Call (.Name "zip" p) [e, e2] [] pos) (iZipK X.K ta) := pi_imp (RZ.pi_zipA hg hm ha hs hpl) fun σ H R ⟨st, S, Q0, he, hr, hs, h, im⟩ => by
  refine ⟨st, S, _, he, hr, hs, h, fun xs S1 h1 H1 vs e1 s1 r1 => ?_⟩
  match xs, h1 with
  | [.ref a, .tup ps], ⟨zs, kt, h1⟩ =>
    obtain ⟨v, w, rfl, ra, rb⟩ := r1.two
    cases ra
    cases rb with
    | @tup b ys _ g10 g2 =>
      refine ⟨a, b, zs.map V.str, ys, rfl, .inr ⟨kt.sqT, sqT_of g10, im _ _ _ h1 H1 e1 s1 _ (yields_zip trivial kt fun H3 e3 => ⟨e3.sqT (sqT_of g10), Reps.mono e3 _ _ g2⟩)⟩⟩
end
/-! ### displays of dicts -/
abbrev WP := Sl → Sta → (List (T × T) → Sta → Prop) → Prop
def wPNil (u0 : Sl) (S : Sta) (Q : List (T × T) → Sta → Prop) : Prop := Q [] S
def wPCons (tk tv : WE) (tr : WP) (σ : Sl) (S : Sta) (Q : List (T × T) → Sta → Prop) : Prop := tk σ S fun x S1 => tv σ S1 fun y S2 => tr σ S2 fun ps S3 => Q ((x, y) :: ps) S3
def PRep (K : PySem.W.Frag) (H : Hp) : List (T × T) → List (V × V) → Prop
  | [], [] => True
  | (a, b) :: r, (x, y) :: t => Rep K H a x ∧ Rep K H b y ∧ PRep K H r t
  | _, _ => False
theorem PRep.mono {K : PySem.W.Frag} {H H' : Hp} (e : Ext H H') : ∀ {ps : List (T × T)} {vs : List (V × V)}, PRep K H ps vs → PRep K H' ps vs
  | [], [], _ => trivial
  | (a, b) :: r, (x, y) :: t, ⟨h1, h2, h3⟩ => ⟨Rep.mono e _ _ h1, Rep.mono e _ _ h2, PRep.mono e h3⟩
def finP (K : PySem.W.Frag) (H : Hp) (Q : List (V × V) → Hp → Prop) : List (T × T) → Sta → Prop := fun ps S => ∀ H' vs, Ext H H' → St K S H' → PRep K H' ps vs → Q vs H'
def JP (B : Hp) (X : Cx) (pos : Pos) (keys : List (Option Expr)) (values : List Expr) (t : WP) : Prop :=
  ∃ trs, PPs X pos keys values trs ∧ ∀ σ H Q, (∃ st S Q0, Ext B H ∧ SlR X.K H st σ ∧ St X.K S H ∧ t st S Q0 ∧ ∀ ps S', Q0 ps S' → finP X.K H Q ps S') → tPairs trs σ H Q
section
variable {X : Cx} {B : Hp} {pos : Pos} {k v : Expr} {ks : List (Option Expr)} {vs : List Expr} {tk tv : WE} {tr : WP}
theorem jp_nil : JP B X pos [] [] wPNil := ⟨[], pps_nil, fun σ H Q ⟨st, S, Q0, he, hr, hs, h, im⟩ => im _ _ h H [] (Ext.refl H) hs trivial⟩
theorem jp_cons (hk : JE B X k tk) (hv : JE B X v tv) (hr : JP B X pos ks vs tr) : JP B X pos (some k :: ks) (v :: vs) (wPCons tk tv tr) := by
  obtain ⟨trs, hp, h0⟩ := hr
  refine ⟨_, pps_cons hk hv hp, fun σ H Q ⟨st, S, Q0, he, hr, hs, h, im⟩ => ?_⟩
  refine ⟨st, S, _, he, hr, hs, h, fun x S1 h1 H1 u1 e1 s1 r1 => ?_⟩
  refine ⟨st, S1, _, he.trans e1, hr.mono e1, s1, h1, fun y S2 h2 H2 u2 e2 s2 r2 => ?_⟩
  refine h0 σ H2 _ ⟨st, S2, _, (he.trans e1).trans e2, (hr.mono e1).mono e2, s2, h2, fun ps S3 h3 H3 us e3 s3 r3 => ?_⟩
  exact im _ _ h3 H3 _ ((e1.trans e2).trans e3) s3 ⟨Rep.mono (e2.trans e3) _ _ r1, Rep.mono e3 _ _ r2, r3⟩
def mergeT (kvs more : List (Key × T)) : List (Key × T) := more.foldl (fun acc kv => putT acc kv.1 kv.2) kvs
theorem KRep.merge {K : PySem.W.Frag} {H : Hp} : ∀ {more : List (Key × T)} {ms : List (Key × V)} {kvs : List (Key × T)} {us : List (Key × V)}, KRep K H more ms → KRep K H kvs us → KRep K H (mergeT kvs more) (mergeK us ms)
  | [], _, _, _, h, g => by cases h; exact g
  | (f, t) :: more, _, kvs, us, h, g => by
    cases h with
    | @cons _ _ v _ gs r h1 => exact (KRep.merge (more := more) (ms := gs) (kvs := putT kvs f t) (us := putK us f v) h1 (KRep.putd f r g))
/-- keys of the pairs -/
def keysP : List (T × T) → Option (List (Key × T))
  | [] => some []
  | (a, b) :: r => match keyT a with
    | some k => (keysP r).map fun l => (k, b) :: l
    | none => none
theorem keysP_rep {K : PySem.W.Frag} {H : Hp} : ∀ {ps : List (T × T)} {us : List (V × V)} {l : List (Key × T)}, PRep K H ps us → keysP ps = some l → ∃ ms, KRep K H l ms ∧ us = ms.map (fun kv => (kV kv.1, kv.2)) ∧ ms.length = ps.length
  | [], [], _, _, e => by cases e; exact ⟨[], .nil, rfl, rfl⟩
  | (a, b) :: r, (x, y) :: t, l, ⟨h1, h2, h3⟩, e => by
    unfold keysP at e
    cases ek : keyT a with
    | none => rw [ek] at e; cases e
    | some k =>
      rw [ek] at e
      simp only at e
      cases el : keysP r with
      | none => rw [el] at e; cases e
      | some l' =>
        rw [el] at e
        cases e
        obtain ⟨ms, g1, g2, g3⟩ := keysP_rep h3 el
        exact ⟨(k, y) :: ms, .cons h2 g1, by rw [keyT_rep h1 ek, g2]; rfl, by rw [List.length_cons, List.length_cons, g3]⟩
def wDisp (t : WP) (σ : Sl) (S : Sta) (Q : T → Sta → Prop) : Prop := ∀ p, S p = none → t σ (upS S p (.dct [])) fun ps S2 => S2 p = some (.dct []) ∧ ps.length ≤ 15 ∧ ∃ l, keysP ps = some l ∧ Q (.ref p) (upS S2 p (.dct (mergeT [] l)))
theorem j_disp (h : JP B X pos ks vs tr) (hall : ks.all (·.isSome) = true) (hl : ks.length = vs.length) (h0 : ks ≠ []) (h15 : ks.length ≤ 15 := by decide) : JE B X (.Dict ks vs pos) (wDisp tr) := by
  obtain ⟨trs, hp, h1⟩ := h
  refine pe_imp (pe_disp hp hall hl h0 h15) fun σ H Q ⟨st, S, Q0, he, hr, hs, h, im⟩ => fun p hpn => ?_
  obtain ⟨e1, s1⟩ := hs.newO (o' := .dct []) hpn fun ex => ⟨[], upd_same, .nil⟩
  refine h1 σ _ _ ⟨st, _, _, he.trans e1, hr.mono e1, s1, h p (hs.free hpn), fun ps S2 h2 H2 us e2 s2 r2 => ?_⟩
  obtain ⟨eS, hlen, l, el, q⟩ := h2
  obtain ⟨xs, g1, g2⟩ := s2 p _ eS
  cases g2
  obtain ⟨ms, m1, m2, m3⟩ := keysP_rep r2 el
  refine ⟨g1, ms, m2, by omega, ?_⟩
  obtain ⟨e3, s3⟩ := s2.setO (o' := .dct (mergeT [] l)) g1 trivial fun ex => ⟨mergeK [] ms, upd_same, KRep.mono ex (KRep.merge m1 .nil)⟩
  exact im _ _ q _ _ ((e1.trans e2).trans e3) s3 (.ref p)
end
/-! ### a > b, texts too -/
def rGt : R3 := rCmp (fun i j => decide (j < i)) fun a b => decide (b < a)
theorem o_gtA {X : Cx} : OpT X (compareOp .Gt) rGt := by
  intro pins s σ H x y v u Q I rx ry ⟨a, b, S, Q0, ra, rb, hs, q, im⟩
  cases a with
  | int i =>
    cases b with
    | int j =>
      cases ra
      cases rb
      exact op_gt pins s σ H _ _ v u Q I rx ry ⟨i, j, rfl, rfl, im _ _ q H _ (Ext.refl H) hs (.bl _)⟩
    | _ => exact q.elim
  | str i =>
    cases b with
    | str j =>
      cases ra
      cases rb
      exact op_gt_str pins s σ H _ _ v u Q I rx ry ⟨i, j, rfl, rfl, im _ _ q H _ (Ext.refl H) hs (.bl _)⟩
    | _ => exact q.elim
  | _ => exact q.elim
end Wp

set_option Elab.async false
set_option linter.all false
set_option maxRecDepth 100000
set_option maxHeartbeats 4000000
/-! tuple * 0, tuple * 1 -/
namespace Wp
open PySem PySem.Spec PyProof.Rows L2
theorem tuple_mul1 (l : Addr) (items : Array Value) (n : Nat) (dd : Option Addr) (sl : Array (Option Value)) (x : Int) (u : Tok) (c0 : (decide (x < -(2 ^ 63)) || decide (x ≥ 2 ^ 63)) = false) (c1 : (items.isEmpty || x == 1) = true) :
    Meets (Builtin.«tuple.__mul__» ⟨[.ref l, .int x u], []⟩) (fun _ R s => s.heap.get? l = some { cls := .type "tuple", dict := dd, data := .seq items n, slots := sl } ∧ R (.ok (.ret (Value.ref l))) s) :=
  .of_wp fun prog w A R s h => by
    obtain ⟨hp, g, d, tk, os⟩ := s
    obtain ⟨hl, h⟩ := h
    have f1 := AutoSeq1.idx_int
    wp_walk using wpAny_loadPart' hl
    repeat (first
      | (refine wpAny_ite_false (decide_eq_false (by rw [c0]; exact Bool.false_ne_true)) ?_; wp_walk using wpAny_loadPart' hl)
      | (refine wpAny_ite_true (decide_eq_true c1) ?_; wp_walk using wpAny_loadPart' hl))
    exact ⟨_, rfl, h⟩
theorem tuple_mul0 (l : Addr) (items : Array Value) (n : Nat) (dd : Option Addr) (sl : Array (Option Value)) (x : Int) (u : Tok) (c0 : (decide (x < -(2 ^ 63)) || decide (x ≥ 2 ^ 63)) = false) (c1 : (items.isEmpty || x == 1) = false) (c2 : (decide (x ≤ 0) || items.isEmpty) = true) :
    Meets (Builtin.«tuple.__mul__» ⟨[.ref l, .int x u], []⟩) (fun _ R s => s.heap.get? l = some { cls := .type "tuple", dict := dd, data := .seq items n, slots := sl } ∧
      R (.ok (.ret (Value.ref s.heap.objs.size))) { s with heap := s.heap.push { cls := Value.type "tuple", data := Data.seq #[] }, toks := s.toks }) :=
  .of_wp fun prog w A R s h => by
    obtain ⟨hp, g, d, tk, os⟩ := s
    obtain ⟨hl, h⟩ := h
    have f1 := AutoSeq1.idx_int
    wp_walk using wpAny_loadPart' hl
    repeat (first
      | (refine wpAny_ite_false (decide_eq_false (by rw [c0]; exact Bool.false_ne_true)) ?_; wp_walk using wpAny_loadPart' hl)
      | (refine wpAny_ite_false (decide_eq_false (by rw [c1]; exact Bool.false_ne_true)) ?_; wp_walk using wpAny_loadPart' hl)
      | (refine wpAny_ite_true (decide_eq_true c2) ?_; wp_walk using wpAny_loadPart' hl))
    exact ⟨_, rfl, h⟩
/-- products: of numbers; of a tuple and 0 or 1 -/
def rMulA (x : T) (y : T) (S : Sta) (Q : T → Sta → Prop) : Prop := match x, y with
  | .int i, .int j => CMul i j ∧ Q (.int (i * j)) S
  | .tup ts, .int k => (k = 0 ∨ k = 1) ∧ ts.length ≤ 1000000 ∧ Q (.tup (if k = 1 then ts else [])) S
  | _, _ => False
section
variable {X : Cx}
theorem o_mulA : OpT X (binaryOp .Mult) rMulA := by
  intro pins s σ H x y v u Q I rx ry ⟨a, b, S, Q0, ra, rb, hs, q, im⟩
  cases a with
  | int i =>
    cases b with
    | int j =>
      exact o_mul pins s σ H x y v u Q I rx ry ⟨.int i, .int j, S, Q0, ra, rb, hs, ⟨q.1, q.2⟩, im⟩
    | _ => exact q.elim
  | tup ts =>
    cases b with
    | int k =>
      cases rb
      cases ra with
      | @tup l xs _ h1 h2 =>
        obtain ⟨hk, hz, q⟩ := q
        cases rx
        obtain ⟨t, rfl⟩ := ry
        obtain ⟨its, r, ⟨⟨cls, dd, data, sl⟩, ho, hc, n, hd⟩, hs2⟩ := I.tuple (sqT_of (K := X.K) h1)
        simp only at hc hd
        subst hc hd
        have c0 : (decide (k < -(2 ^ 63)) || decide (k ≥ 2 ^ 63)) = false := by
          rw [decide_eq_false (by omega), decide_eq_false (by omega)] <;> rfl
        by_cases c1 : (its.toArray.isEmpty || k == 1) = true
        · have hts : (if k = 1 then ts else []) = ts := by
            by_cases e : k = 1
            · rw [if_pos e]
            · rw [if_neg e]
              have e2 : its.toArray.isEmpty = true := by
                rcases Bool.or_eq_true _ _ ▸ c1 with z | z
                · exact z
                · exact absurd (by simpa using z) e
              have e3 : its = [] := by
                cases its with
                | nil => rfl
                | cons a b => cases e2
              have e4 := r.length
              rw [e3] at e4
              have e5 := h2.length
              exact (List.eq_nil_of_length_eq_zero (e5.trans e4)).symm
          rw [hts] at q
          refine wpAny_binaryOp_repeat_ref (T := "tuple") (U := "int") (by decide) ⟨_, ho, rfl⟩ (fun s' => typeIs_int s' k t) noFill_tuple_mul F.fills_int_mul F.slot_int_rmul repeat_tuple F.slot_int_index.lookup
            (call_meets F.slot_int_rmul (typeIs_int s k t) F.entry_int_rmul (F.args_int_rmul_2 _ _) (int_rmul_tuple k t l its.toArray n dd sl)
              ⟨ho, rfl, ⟨_, ho, rfl⟩, call_meets F.slot_tuple_mul ⟨_, ho, rfl⟩ F.entry_tuple_mul (F.args_tuple_mul_2 _ _) (tuple_mul1 l its.toArray n dd sl k t c0 c1) ⟨ho, ?_⟩⟩)
          exact ⟨.ref l, H, I, rfl, im _ _ q H _ (Ext.refl H) hs (.tup h1 h2)⟩
        · have c1 : (its.toArray.isEmpty || k == 1) = false := by simpa using c1
          have hk0 : k = 0 := by
            rcases hk with e | e
            · exact e
            · rw [e] at c1; simp at c1
          subst hk0
          rw [if_neg (by decide)] at q
          refine wpAny_binaryOp_repeat_ref (T := "tuple") (U := "int") (by decide) ⟨_, ho, rfl⟩ (fun s' => typeIs_int s' 0 t) noFill_tuple_mul F.fills_int_mul F.slot_int_rmul repeat_tuple F.slot_int_index.lookup
            (call_meets F.slot_int_rmul (typeIs_int s 0 t) F.entry_int_rmul (F.args_int_rmul_2 _ _) (int_rmul_tuple 0 t l its.toArray n dd sl)
              ⟨ho, rfl, ⟨_, ho, rfl⟩, call_meets F.slot_tuple_mul ⟨_, ho, rfl⟩ F.entry_tuple_mul (F.args_tuple_mul_2 _ _) (tuple_mul0 l its.toArray n dd sl 0 t c0 c1 (by rw [decide_eq_true (by decide), Bool.true_or])) ⟨ho, ?_⟩⟩)
          have hp : H s.heap.objs.size = none := I.hok.fresh (Nat.le_refl _)
          refine ⟨.ref s.heap.objs.size, _, I.laid (t' := s.toks) (o := .tup []) (fun b ob q => Heap.get?_push_of_some _ q) (Nat.le_refl _) ?_, rfl, im _ _ q _ _ (Ext.new hp) (hs.new hp _) (.tup upd_same .nil)⟩
          exact ⟨by rw [sizeLine_eq]; decide, _, .nil, IsTup.new _ _⟩
    | _ => exact q.elim
  | _ => exact q.elim
end
end Wp

set_option Elab.async false
set_option linter.all false
set_option maxRecDepth 100000
set_option maxHeartbeats 4000000
/-! lists of lists: ==, and x[::-1] -/
namespace Wp
open PySem PySem.Spec PyProof.Rows L2
section
variable {B : Hp} {X : Cx} {a b : Expr} {ta tb : WE} {pos : Pos}
def rRev (x : T) (S : Sta) (Q : T → Sta → Prop) : Prop := match x with
  | .ref p => ∃ ts, S p = some (.lst ts) ∧ ∀ q, S q = none → Q (.ref q) (upS S q (.lst ts.reverse))
  | _ => False
def wRev (t : WE) (σ : Sl) (S : Sta) (Q : T → Sta → Prop) : Prop := t σ S fun x S1 => rRev x S1 Q
theorem j_rev {k : Nat} {p1 p2 p3 : Pos} (ha : JE B X a ta) : JE B X (.Subscript a (.Slice none none (some (.UnaryOp .USub (.Constant (.int 1) k p1) p2)) p3) pos) (wRev ta) :=
  pe_imp (pe_revL ha) fun σ H Q ⟨st, S, Q0, he, hr, hs, h, im⟩ => by
    refine ⟨st, S, _, he, hr, hs, h, fun x S1 h1 H1 v e1 s1 r1 => ?_⟩
    cases x with
    | ref p =>
      obtain ⟨ts, e, q⟩ := h1
      cases r1
      obtain ⟨xs, g1, g2⟩ := s1 p _ e
      refine ⟨p, xs, rfl, .inl (.inl g1), fun p' hp' => ?_⟩
      obtain ⟨e3, s3⟩ := s1.newL hp' g2.reverse
      exact im _ _ (q p' (s1.free hp')) _ _ (e1.trans e3) s3 (.ref p')
    | _ => exact h1.elim
def see2 (S : Sta) : T → T
  | .ref p => match S p with
    | some (.lst ts) => .fl (ts.map (see S))
    | _ => .ref p
  | t => t
theorem see2_ref {S : Sta} {p : Addr} {ts : List T} (h : S p = some (.lst ts)) : see2 S (.ref p) = .fl (ts.map (see S)) := by simp only [see2, h]
theorem sees_dp {K : PySem.W.Frag} {H : Hp} {S : Sta} (hs : St K S H) : ∀ (ts : List T) (vs : List V) (ds : List PyData), Reps K H ts vs → toDs (ts.map (see S)) = some ds → DpAll K H vs ds
  | [], _, _, r, e => by cases r; simp only [List.map_nil, toDs, Option.some.injEq] at e; subst e; exact .nil
  | t :: ts, _, ds, r, e => by
    cases r with
    | cons h1 h2 =>
      simp only [List.map_cons, toDs] at e
      cases e1 : toD (see S t) with
      | none => rw [e1] at e; cases e
      | some d =>
        cases e2 : toDs (ts.map (see S)) with
        | none => rw [e1, e2] at e; cases e
        | some es =>
          rw [e1, e2] at e
          cases e
          exact .cons (dd_dp hs h1 (by rw [dd_see]; exact e1)) (sees_dp hs ts _ es h2 e2)
theorem see2_dp {K : PySem.W.Frag} {H : Hp} {S : Sta} {t : T} {v : V} {d : PyData} (hs : St K S H) (r : Rep K H t v) (e : toD (see2 S t) = some d) : Dp K H v d := by
  cases t with
  | ref p =>
    cases r
    simp only [see2] at e
    cases q : S p with
    | none => rw [q] at e; simp only [toD] at e; cases e
    | some o =>
      rw [q] at e
      cases o with
      | ins C fs => simp only [toD] at e; cases e
      | dct kvs => simp only [toD] at e; cases e
      | dtt kvs => simp only [toD] at e; cases e
      | lst ts =>
        simp only [toD, Option.map_eq_some_iff] at e
        obtain ⟨ds, e1, e2⟩ := e
        subst e2
        obtain ⟨xs, h1, h2⟩ := hs p _ q
        exact .lst (.inl (.inl h1)) (sees_dp hs ts _ ds h2 e1)
  | non => exact Rep.dp _ _ _ r e
  | bl b => exact Rep.dp _ _ _ r e
  | int b => exact Rep.dp _ _ _ r e
  | str b => exact Rep.dp _ _ _ r e
  | tup b => exact Rep.dp _ _ _ r e
  | fl b => exact Rep.dp _ _ _ r e
def rEq2 (neg : Bool) (x : T) (y : T) (S : Sta) (Q : T → Sta → Prop) : Prop := ∃ d, toD (see2 S x) = some d ∧ ∃ e, toD (see2 S y) = some e ∧ SeqAt.shaped d = true ∧ SeqAt.shaped e = true ∧ Q (.bl (neg != PyData.eqv d e)) S
theorem o_eq2 (hu : X.A.units + 64 < cLine) : OpT X (compareOp .Eq) (rEq2 false) := by
  intro pins s σ H x y v u Q I rx ry ⟨a, b, S, Q0, ra, rb, hs, ⟨d, h1, e, h2, h3, h4, q⟩, im⟩
  refine op_eqD hu pins s σ H _ _ v u Q I rx ry ⟨d, e, see2_dp hs ra h1, see2_dp hs rb h2, h3, h4, ?_⟩
  rw [Bool.false_bne] at q
  exact im _ _ q H _ (Ext.refl H) hs (.bl _)
theorem o_ne2 (hu : X.A.units + 64 < cLine) : OpT X (compareOp .NotEq) (rEq2 true) := by
  intro pins s σ H x y v u Q I rx ry ⟨a, b, S, Q0, ra, rb, hs, ⟨d, h1, e, h2, h3, h4, q⟩, im⟩
  refine op_neD hu pins s σ H _ _ v u Q I rx ry ⟨d, e, see2_dp hs ra h1, see2_dp hs rb h2, h3, h4, ?_⟩
  rw [Bool.true_bne] at q
  exact im _ _ q H _ (Ext.refl H) hs (.bl _)
theorem rEq2_same {neg : Bool} {x y : T} {S : Sta} {Q : T → Sta → Prop} {z : T} (ex : see2 S x = z) (ey : see2 S y = z) (hz : nbT z = true) (dz : dpT z ≤ 60) (h : Q (.bl neg) S) : rEq2 (!neg) x y S Q := by
  obtain ⟨d, a1, a2, a3⟩ := nb_toD _ hz
  have sh : SeqAt.shaped d = true := by unfold SeqAt.shaped; rw [a2, Bool.true_and]; exact decide_eq_true (by omega)
  refine ⟨d, by rw [ex]; exact a1, d, by rw [ey]; exact a1, sh, sh, ?_⟩
  rw [(nb_eqv _ _ d d hz hz a1 a1).mpr rfl]
  cases neg <;> exact h
end
end Wp

set_option Elab.async false
set_option linter.all false
set_option maxRecDepth 100000
namespace Gn
open PySem PySem.Spec PyProof.Rows L2 Wp
def topS (i : Nat) : Stmt := PySem.Challenge.pw_heldflows_k40_whole_muxes_keep_nothing.main.body.getD i (.Pass ⟨0, 0, 0, 0⟩)
abbrev st_Table_init : Stmt := inClass (topS 41) 0
abbrev N_Table_init : List Str := ["self"]
theorem sc_Table_init : FnScope N_Table_init ["self"] (defScope st_Table_init) := ⟨rfl, rfl, rfl, by decide +kernel, rfl, by decide +kernel, by decide +kernel⟩
abbrev st_Table_take : Stmt := inClass (topS 41) 1
abbrev N_Table_take : List Str := ["self", "rows", "row", "bucket", "version", "_"]
theorem sc_Table_take : FnScope N_Table_take ["self", "rows"] (defScope st_Table_take) := ⟨rfl, rfl, rfl, by decide +kernel, rfl, by decide +kernel, by decide +kernel⟩
abbrev st_Table_birth : Stmt := inClass (topS 41) 2
abbrev N_Table_birth : List Str := ["self", "bucket"]
theorem sc_Table_birth : FnScope N_Table_birth ["self", "bucket"] (defScope st_Table_birth) := ⟨rfl, rfl, rfl, by decide +kernel, rfl, by decide +kernel, by decide +kernel⟩
abbrev st_Table_rows : Stmt := inClass (topS 41) 3
abbrev N_Table_rows : List Str := ["self", "bucket"]
theorem sc_Table_rows : FnScope N_Table_rows ["self"] (defScope st_Table_rows) := ⟨rfl, rfl, rfl, by decide +kernel, rfl, by decide +kernel, by decide +kernel⟩
abbrev st_Table_forget : Stmt := inClass (topS 41) 4
abbrev N_Table_forget : List Str := ["self"]
theorem sc_Table_forget : FnScope N_Table_forget ["self"] (defScope st_Table_forget) := ⟨rfl, rfl, rfl, by decide +kernel, rfl, by decide +kernel, by decide +kernel⟩
abbrev st_Mux_init : Stmt := inClass (topS 43) 0
abbrev N_Mux_init : List Str := ["self", "number"]
theorem sc_Mux_init : FnScope N_Mux_init ["self", "number"] (defScope st_Mux_init) := ⟨rfl, rfl, rfl, by decide +kernel, rfl, by decide +kernel, by decide +kernel⟩
abbrev st_Mux_receive : Stmt := inClass (topS 43) 1
abbrev N_Mux_receive : List Str := ["self", "message"]
theorem sc_Mux_receive : FnScope N_Mux_receive ["self", "message"] (defScope st_Mux_receive) := ⟨rfl, rfl, rfl, by decide +kernel, rfl, by decide +kernel, by decide +kernel⟩
abbrev st_Mux_forget : Stmt := inClass (topS 43) 2
abbrev N_Mux_forget : List Str := ["self"]
theorem sc_Mux_forget : FnScope N_Mux_forget ["self"] (defScope st_Mux_forget) := ⟨rfl, rfl, rfl, by decide +kernel, rfl, by decide +kernel, by decide +kernel⟩
abbrev st_Mux_rows : Stmt := inClass (topS 43) 3
abbrev N_Mux_rows : List Str := ["self"]
theorem sc_Mux_rows : FnScope N_Mux_rows ["self"] (defScope st_Mux_rows) := ⟨rfl, rfl, rfl, by decide +kernel, rfl, by decide +kernel, by decide +kernel⟩
abbrev st_Mux__pass_on : Stmt := inClass (topS 43) 4
abbrev N_Mux__pass_on : List Str := ["self", "packet", "bucket", "birth"]
theorem sc_Mux__pass_on : FnScope N_Mux__pass_on ["self", "packet"] (defScope st_Mux__pass_on) := ⟨rfl, rfl, rfl, by decide +kernel, rfl, by decide +kernel, by decide +kernel⟩
abbrev st_is_integer : Stmt := topS 11
abbrev N_is_integer : List Str := ["value", "least", "greatest"]
theorem sc_is_integer : FnScope N_is_integer ["value", "least", "greatest"] (defScope st_is_integer) := ⟨rfl, rfl, rfl, by decide +kernel, rfl, by decide +kernel, by decide +kernel⟩
abbrev st_is_bytes : Stmt := topS 12
abbrev N_is_bytes : List Str := ["value", "item"]
theorem sc_is_bytes : FnScope N_is_bytes ["value"] (defScope st_is_bytes) := ⟨rfl, rfl, rfl, by decide +kernel, rfl, by decide +kernel, by decide +kernel⟩
abbrev st_is_flow : Stmt := topS 13
abbrev N_is_flow : List Str := ["value"]
theorem sc_is_flow : FnScope N_is_flow ["value"] (defScope st_is_flow) := ⟨rfl, rfl, rfl, by decide +kernel, rfl, by decide +kernel, by decide +kernel⟩
abbrev st_is_birth : Stmt := topS 14
abbrev N_is_birth : List Str := ["value"]
theorem sc_is_birth : FnScope N_is_birth ["value"] (defScope st_is_birth) := ⟨rfl, rfl, rfl, by decide +kernel, rfl, by decide +kernel, by decide +kernel⟩
abbrev st_is_life : Stmt := topS 15
abbrev N_is_life : List Str := ["value"]
theorem sc_is_life : FnScope N_is_life ["value"] (defScope st_is_life) := ⟨rfl, rfl, rfl, by decide +kernel, rfl, by decide +kernel, by decide +kernel⟩
abbrev st_is_packet : Stmt := topS 16
abbrev N_is_packet : List Str := ["value", "word"]
theorem sc_is_packet : FnScope N_is_packet ["value"] (defScope st_is_packet) := ⟨rfl, rfl, rfl, by decide +kernel, rfl, by decide +kernel, by decide +kernel⟩
abbrev st_goes_up : Stmt := topS 17
abbrev N_goes_up : List Str := ["packet"]
theorem sc_goes_up : FnScope N_goes_up ["packet"] (defScope st_goes_up) := ⟨rfl, rfl, rfl, by decide +kernel, rfl, by decide +kernel, by decide +kernel⟩
abbrev st_bucket_of : Stmt := topS 18
abbrev N_bucket_of : List Str := ["flow", "client", "number"]
theorem sc_bucket_of : FnScope N_bucket_of ["flow"] (defScope st_bucket_of) := ⟨rfl, rfl, rfl, by decide +kernel, rfl, by decide +kernel, by decide +kernel⟩
abbrev st_first_word : Stmt := topS 19
abbrev N_first_word : List Str := ["value"]
theorem sc_first_word : FnScope N_first_word ["value"] (defScope st_first_word) := ⟨rfl, rfl, rfl, by decide +kernel, rfl, by decide +kernel, by decide +kernel⟩
abbrev st__is_tuple : Stmt := topS 20
abbrev N__is_tuple : List Str := ["value", "many"]
theorem sc__is_tuple : FnScope N__is_tuple ["value", "many"] (defScope st__is_tuple) := ⟨rfl, rfl, rfl, by decide +kernel, rfl, by decide +kernel, by decide +kernel⟩
abbrev st__is_below : Stmt := topS 21
abbrev N__is_below : List Str := ["value", "many"]
theorem sc__is_below : FnScope N__is_below ["value", "many"] (defScope st__is_below) := ⟨rfl, rfl, rfl, by decide +kernel, rfl, by decide +kernel, by decide +kernel⟩
abbrev st__is_ordinal : Stmt := topS 22
abbrev N__is_ordinal : List Str := ["value"]
theorem sc__is_ordinal : FnScope N__is_ordinal ["value"] (defScope st__is_ordinal) := ⟨rfl, rfl, rfl, by decide +kernel, rfl, by decide +kernel, by decide +kernel⟩
abbrev st__is_segment : Stmt := topS 23
abbrev N__is_segment : List Str := ["parts", "offset", "data", "last", "taken"]
theorem sc__is_segment : FnScope N__is_segment ["parts"] (defScope st__is_segment) := ⟨rfl, rfl, rfl, by decide +kernel, rfl, by decide +kernel, by decide +kernel⟩
abbrev st_can_be_written : Stmt := topS 25
abbrev N_can_be_written : List Str := ["value"]
theorem sc_can_be_written : FnScope N_can_be_written ["value"] (defScope st_can_be_written) := ⟨rfl, rfl, rfl, by decide +kernel, rfl, by decide +kernel, by decide +kernel⟩
abbrev st__can_stand : Stmt := topS 26
abbrev N__can_stand : List Str := ["value", "levels", "item"]
theorem sc__can_stand : FnScope N__can_stand ["value", "levels"] (defScope st__can_stand) := ⟨rfl, rfl, rfl, by decide +kernel, rfl, by decide +kernel, by decide +kernel⟩
abbrev st__is_word : Stmt := topS 27
abbrev N__is_word : List Str := ["value", "letter"]
theorem sc__is_word : FnScope N__is_word ["value"] (defScope st__is_word) := ⟨rfl, rfl, rfl, by decide +kernel, rfl, by decide +kernel, by decide +kernel⟩
abbrev st_is_message : Stmt := topS 33
abbrev N_is_message : List Str := ["address", "value", "receiver", "word"]
theorem sc_is_message : FnScope N_is_message ["address", "value"] (defScope st_is_message) := ⟨rfl, rfl, rfl, by decide +kernel, rfl, by decide +kernel, by decide +kernel⟩
abbrev st__is_packet_up : Stmt := topS 34
abbrev N__is_packet_up : List Str := ["value"]
theorem sc__is_packet_up : FnScope N__is_packet_up ["value"] (defScope st__is_packet_up) := ⟨rfl, rfl, rfl, by decide +kernel, rfl, by decide +kernel, by decide +kernel⟩
abbrev st__is_wrap : Stmt := topS 35
abbrev N__is_wrap : List Str := ["value", "_", "bucket", "hops", "packet"]
theorem sc__is_wrap : FnScope N__is_wrap ["value"] (defScope st__is_wrap) := ⟨rfl, rfl, rfl, by decide +kernel, rfl, by decide +kernel, by decide +kernel⟩
abbrev st__has_parts : Stmt := topS 36
abbrev N__has_parts : List Str := ["kinds", "value"]
theorem sc__has_parts : FnScope N__has_parts ["kinds", "value"] (defScope st__has_parts) := ⟨rfl, rfl, rfl, by decide +kernel, rfl, by decide +kernel, by decide +kernel⟩
abbrev st__are_parts : Stmt := topS 37
abbrev N__are_parts : List Str := ["kinds", "parts", "kind", "part"]
theorem sc__are_parts : FnScope N__are_parts ["kinds", "parts"] (defScope st__are_parts) := ⟨rfl, rfl, rfl, by decide +kernel, rfl, by decide +kernel, by decide +kernel⟩
abbrev st__is_part : Stmt := topS 38
abbrev N__is_part : List Str := ["kind", "value", "row"]
theorem sc__is_part : FnScope N__is_part ["kind", "value"] (defScope st__is_part) := ⟨rfl, rfl, rfl, by decide +kernel, rfl, by decide +kernel, by decide +kernel⟩
abbrev st__is_row : Stmt := topS 39
abbrev N__is_row : List Str := ["kind", "row"]
theorem sc__is_row : FnScope N__is_row ["kind", "row"] (defScope st__is_row) := ⟨rfl, rfl, rfl, by decide +kernel, rfl, by decide +kernel, by decide +kernel⟩
abbrev st__law_bag : Stmt := topS 45
abbrev N__law_bag : List Str := ["script", "k", "cell"]
theorem sc__law_bag : FnScope N__law_bag ["script", "k"] (defScope st__law_bag) := ⟨rfl, rfl, rfl, by decide +kernel, rfl, by decide +kernel, by decide +kernel⟩
abbrev st__law_draw : Stmt := topS 46
abbrev N__law_draw : List Str := ["bag", "many", "seed", "rest"]
theorem sc__law_draw : FnScope N__law_draw ["bag", "many"] (defScope st__law_draw) := ⟨rfl, rfl, rfl, by decide +kernel, rfl, by decide +kernel, by decide +kernel⟩
abbrev st__law_count : Stmt := topS 47
abbrev N__law_count : List Str := ["bag", "least"]
theorem sc__law_count : FnScope N__law_count ["bag", "least"] (defScope st__law_count) := ⟨rfl, rfl, rfl, by decide +kernel, rfl, by decide +kernel, by decide +kernel⟩
abbrev st__law_flow : Stmt := topS 48
abbrev N__law_flow : List Str := ["bag"]
theorem sc__law_flow : FnScope N__law_flow ["bag"] (defScope st__law_flow) := ⟨rfl, rfl, rfl, by decide +kernel, rfl, by decide +kernel, by decide +kernel⟩
abbrev st__law_birth : Stmt := topS 49
abbrev N__law_birth : List Str := ["bag"]
theorem sc__law_birth : FnScope N__law_birth ["bag"] (defScope st__law_birth) := ⟨rfl, rfl, rfl, by decide +kernel, rfl, by decide +kernel, by decide +kernel⟩
abbrev st__law_life : Stmt := topS 50
abbrev N__law_life : List Str := ["bag"]
theorem sc__law_life : FnScope N__law_life ["bag"] (defScope st__law_life) := ⟨rfl, rfl, rfl, by decide +kernel, rfl, by decide +kernel, by decide +kernel⟩
abbrev st__law_packet : Stmt := topS 51
abbrev N__law_packet : List Str := ["bag", "words", "word", "packet", "data", "k", "offset"]
theorem sc__law_packet : FnScope N__law_packet ["bag", "words"] (defScope st__law_packet) := ⟨rfl, rfl, rfl, by decide +kernel, rfl, by decide +kernel, by decide +kernel⟩
abbrev st__law_rows : Stmt := topS 52
abbrev N__law_rows : List Str := ["bag", "most", "rows", "k", "birth"]
theorem sc__law_rows : FnScope N__law_rows ["bag", "most"] (defScope st__law_rows) := ⟨rfl, rfl, rfl, by decide +kernel, rfl, by decide +kernel, by decide +kernel⟩
abbrev st__law_newest : Stmt := topS 53
abbrev N__law_newest : List Str := ["rows", "found", "bucket", "own", "row", "most"]
theorem sc__law_newest : FnScope N__law_newest ["rows"] (defScope st__law_newest) := ⟨rfl, rfl, rfl, by decide +kernel, rfl, by decide +kernel, by decide +kernel⟩
abbrev st_law : Stmt := topS 54
abbrev N_law : List Str := ["script", "words", "k", "bag", "rows", "row", "one", "other", "told", "packets", "j", "before", "packet"]
theorem sc_law : FnScope N_law ["script"] (defScope st_law) := ⟨rfl, rfl, rfl, by decide +kernel, rfl, by decide +kernel, by decide +kernel⟩
def F_Table (v0 : T) : List (Str × T) := [("_rows", v0)]
theorem q_Table_birth__rows : (("birth" : Str) == ("_rows" : Str)) = false := by decide +kernel
theorem q_Table_forget__rows : (("forget" : Str) == ("_rows" : Str)) = false := by decide +kernel
theorem q_Table_rows__rows : (("rows" : Str) == ("_rows" : Str)) = false := by decide +kernel
theorem q_Table_take__rows : (("take" : Str) == ("_rows" : Str)) = false := by decide +kernel
theorem lk_Table__rows {v0 : T} : (F_Table v0).lookup ("_rows" : Str) = some v0 := by simp only [F_Table, List.lookup, beq_self_eq_true]
theorem pt_Table__rows {v0 y : T} : putFT "_rows" y (F_Table v0) = F_Table y := by simp only [F_Table, putFT, if_true, if_false]
theorem no_Table_birth {v0 : T} : (F_Table v0).lookup ("birth" : Str) = none := by simp only [F_Table, List.lookup, q_Table_birth__rows]
theorem no_Table_forget {v0 : T} : (F_Table v0).lookup ("forget" : Str) = none := by simp only [F_Table, List.lookup, q_Table_forget__rows]
theorem no_Table_rows {v0 : T} : (F_Table v0).lookup ("rows" : Str) = none := by simp only [F_Table, List.lookup, q_Table_rows__rows]
theorem no_Table_take {v0 : T} : (F_Table v0).lookup ("take" : Str) = none := by simp only [F_Table, List.lookup, q_Table_take__rows]
theorem ln_Table {v0 : T} : (F_Table v0).length = 1 := rfl
theorem mk_Table {v0 : T} : (putFT "_rows" v0 []) = F_Table v0 := by simp only [F_Table, putFT, if_true, if_false]
def F_Mux (v0 v1 : T) : List (Str × T) := [("_number", v0), ("_table", v1)]
theorem q_Mux__number__table : (("_number" : Str) == ("_table" : Str)) = false := by decide +kernel
theorem q_Mux__table__number : (("_table" : Str) == ("_number" : Str)) = false := by decide +kernel
theorem q_Mux__pass_on__number : (("_pass_on" : Str) == ("_number" : Str)) = false := by decide +kernel
theorem q_Mux__pass_on__table : (("_pass_on" : Str) == ("_table" : Str)) = false := by decide +kernel
theorem q_Mux_forget__number : (("forget" : Str) == ("_number" : Str)) = false := by decide +kernel
theorem q_Mux_forget__table : (("forget" : Str) == ("_table" : Str)) = false := by decide +kernel
theorem q_Mux_receive__number : (("receive" : Str) == ("_number" : Str)) = false := by decide +kernel
theorem q_Mux_receive__table : (("receive" : Str) == ("_table" : Str)) = false := by decide +kernel
theorem q_Mux_rows__number : (("rows" : Str) == ("_number" : Str)) = false := by decide +kernel
theorem q_Mux_rows__table : (("rows" : Str) == ("_table" : Str)) = false := by decide +kernel
theorem e_Mux__number__table : (("_number" : Str) = ("_table" : Str)) = False := eq_false (by decide +kernel)
theorem e_Mux__table__number : (("_table" : Str) = ("_number" : Str)) = False := eq_false (by decide +kernel)
theorem lk_Mux__number {v0 v1 : T} : (F_Mux v0 v1).lookup ("_number" : Str) = some v0 := by simp only [F_Mux, List.lookup, beq_self_eq_true, q_Mux__number__table]
theorem pt_Mux__number {v0 v1 y : T} : putFT "_number" y (F_Mux v0 v1) = F_Mux y v1 := by simp only [F_Mux, putFT, if_true, if_false, e_Mux__table__number]
theorem lk_Mux__table {v0 v1 : T} : (F_Mux v0 v1).lookup ("_table" : Str) = some v1 := by simp only [F_Mux, List.lookup, beq_self_eq_true, q_Mux__table__number]
theorem pt_Mux__table {v0 v1 y : T} : putFT "_table" y (F_Mux v0 v1) = F_Mux v0 y := by simp only [F_Mux, putFT, if_true, if_false, e_Mux__number__table]
theorem no_Mux__pass_on {v0 v1 : T} : (F_Mux v0 v1).lookup ("_pass_on" : Str) = none := by simp only [F_Mux, List.lookup, q_Mux__pass_on__number, q_Mux__pass_on__table]
theorem no_Mux_forget {v0 v1 : T} : (F_Mux v0 v1).lookup ("forget" : Str) = none := by simp only [F_Mux, List.lookup, q_Mux_forget__number, q_Mux_forget__table]
theorem no_Mux_receive {v0 v1 : T} : (F_Mux v0 v1).lookup ("receive" : Str) = none := by simp only [F_Mux, List.lookup, q_Mux_receive__number, q_Mux_receive__table]
theorem no_Mux_rows {v0 v1 : T} : (F_Mux v0 v1).lookup ("rows" : Str) = none := by simp only [F_Mux, List.lookup, q_Mux_rows__number, q_Mux_rows__table]
theorem ln_Mux {v0 v1 : T} : (F_Mux v0 v1).length = 2 := rfl
theorem mk_Mux {v0 v1 : T} : (putFT "_table" v1 (putFT "_number" v0 [])) = F_Mux v0 v1 := by simp only [F_Mux, putFT, if_true, if_false, e_Mux__number__table, e_Mux__table__number]
def tbl_ROWS : List (Str × List Str) := [("table", ["bucket", "count", "birth"]), ("directory", ["flow", "life", "count", "birth"]), ("report", ["flow", "life", "count", "birth or none"])]
def tbl_TO_AGENT : List (Str × List Str) := [("grant", ["birth or none", "birth", "bucket", "count", "directory"]), ("granted", ["birth", "birth", "bucket", "count"]), ("hand", ["birth", "birth", "flow", "life", "count", "picture"]), ("handed", ["birth", "birth", "flow", "life", "count"]), ("moved", ["birth", "flow", "life", "count", "birth"]), ("ended", ["birth", "flow", "life", "count"]), ("noted", ["birth", "flow", "life", "count"]), ("births", ["births"]), ("stop", ["bucket", "count", "births"]), ("give", ["birth", "bucket", "count", "birth"]), ("known", ["birth", "bucket", "count"]), ("push", ["birth", "count", "count", "birth"]), ("table", ["table"])]
def tbl_TO_CONTROLLER : List (Str × List Str) := [("born", ["birth"]), ("report", ["birth", "bucket", "count", "report"]), ("owns", ["birth", "bucket", "count"]), ("pushed", ["birth", "count"]), ("held", ["birth", "count"])]
def tbl_TO_MUX : List (Str × List Str) := [("table", ["table"])]
/-- what the top has left -/
structure Facts (K : PySem.W.Frag) (mg : Str → Option Value) (PA : Params) (C_Table : Addr) (C_Mux : Addr) : Prop where
  w_ROWS : GWD K PA mg "ROWS" tbl_ROWS
  w_TO_AGENT : GWD K PA mg "TO_AGENT" tbl_TO_AGENT
  w_TO_CONTROLLER : GWD K PA mg "TO_CONTROLLER" tbl_TO_CONTROLLER
  w_TO_MUX : GWD K PA mg "TO_MUX" tbl_TO_MUX
  d_Table_init : DefI K mg C_Table "Table" "Table.__init__" st_Table_init ["self"]
  d_Table_take : DefM K C_Table "take" "Table.take" st_Table_take ["self", "rows"]
  d_Table_birth : DefM K C_Table "birth" "Table.birth" st_Table_birth ["self", "bucket"]
  d_Table_rows : DefM K C_Table "rows" "Table.rows" st_Table_rows ["self"]
  d_Table_forget : DefM K C_Table "forget" "Table.forget" st_Table_forget ["self"]
  d_Mux_init : DefI K mg C_Mux "Mux" "Mux.__init__" st_Mux_init ["self", "number"]
  d_Mux_receive : DefM K C_Mux "receive" "Mux.receive" st_Mux_receive ["self", "message"]
  d_Mux_forget : DefM K C_Mux "forget" "Mux.forget" st_Mux_forget ["self"]
  d_Mux_rows : DefM K C_Mux "rows" "Mux.rows" st_Mux_rows ["self"]
  d_Mux__pass_on : DefM K C_Mux "_pass_on" "Mux._pass_on" st_Mux__pass_on ["self", "packet"]
  d_is_integer : DefT K mg "is_integer" st_is_integer ["value", "least", "greatest"]
  d_is_bytes : DefG K mg "is_bytes" st_is_bytes ["value"]
  d_is_flow : DefT K mg "is_flow" st_is_flow ["value"]
  d_is_birth : DefT K mg "is_birth" st_is_birth ["value"]
  d_is_life : DefT K mg "is_life" st_is_life ["value"]
  d_is_packet : DefT K mg "is_packet" st_is_packet ["value"]
  d_goes_up : DefT K mg "goes_up" st_goes_up ["packet"]
  d_bucket_of : DefT K mg "bucket_of" st_bucket_of ["flow"]
  d_first_word : DefT K mg "first_word" st_first_word ["value"]
  d__is_tuple : DefT K mg "_is_tuple" st__is_tuple ["value", "many"]
  d__is_below : DefT K mg "_is_below" st__is_below ["value", "many"]
  d__is_ordinal : DefT K mg "_is_ordinal" st__is_ordinal ["value"]
  d__is_segment : DefT K mg "_is_segment" st__is_segment ["parts"]
  d_can_be_written : DefT K mg "can_be_written" st_can_be_written ["value"]
  d__can_stand : DefG K mg "_can_stand" st__can_stand ["value", "levels"]
  d__is_word : DefG K mg "_is_word" st__is_word ["value"]
  d_is_message : DefT K mg "is_message" st_is_message ["address", "value"]
  d__is_packet_up : DefT K mg "_is_packet_up" st__is_packet_up ["value"]
  d__is_wrap : DefT K mg "_is_wrap" st__is_wrap ["value"]
  d__has_parts : DefT K mg "_has_parts" st__has_parts ["kinds", "value"]
  d__are_parts : DefT K mg "_are_parts" st__are_parts ["kinds", "parts"]
  d__is_part : DefG K mg "_is_part" st__is_part ["kind", "value"]
  d__is_row : DefT K mg "_is_row" st__is_row ["kind", "row"]
  d__law_bag : DefT K mg "_law_bag" st__law_bag ["script", "k"]
  d__law_draw : DefT K mg "_law_draw" st__law_draw ["bag", "many"]
  d__law_count : DefT K mg "_law_count" st__law_count ["bag", "least"]
  d__law_flow : DefT K mg "_law_flow" st__law_flow ["bag"]
  d__law_birth : DefT K mg "_law_birth" st__law_birth ["bag"]
  d__law_life : DefT K mg "_law_life" st__law_life ["bag"]
  d__law_packet : DefT K mg "_law_packet" st__law_packet ["bag", "words"]
  d__law_rows : DefT K mg "_law_rows" st__law_rows ["bag", "most"]
  d__law_newest : DefT K mg "_law_newest" st__law_newest ["rows"]
  d_law : DefT K mg "law" st_law ["script"]
  k_Table : Cls K C_Table
  k_Mux : Cls K C_Mux
  n_Mux__number : NoAttr K C_Mux "_number"
  n_Mux__table : NoAttr K C_Mux "_table"
  n_Table__rows : NoAttr K C_Table "_rows"
  c_BUCKETS : ∃ t, mg "BUCKETS" = some (.int 16 t)
  c_MOST_AGENTS : ∃ t, mg "MOST_AGENTS" = some (.int 6 t)
  c_MOST_CLIENTS : ∃ t, mg "MOST_CLIENTS" = some (.int 6 t)
  c_MOST_COUNT : ∃ t, mg "MOST_COUNT" = some (.int 1000000 t)
  c_MOST_DATA : ∃ t, mg "MOST_DATA" = some (.int 8 t)
  c_MOST_HOPS : ∃ t, mg "MOST_HOPS" = some (.int 8 t)
  c_MOST_INTEGER : ∃ t, mg "MOST_INTEGER" = some (.int 4294967295 t)
  c_MOST_NESTED : ∃ t, mg "MOST_NESTED" = some (.int 16 t)
  c_MOST_STREAM : ∃ t, mg "MOST_STREAM" = some (.int 4000 t)
  c_MOST_WORD : ∃ t, mg "MOST_WORD" = some (.int 12 t)
  z_all : mg "all" = none
  z_bool : mg "bool" = none
  z_int : mg "int" = none
  z_isinstance : mg "isinstance" = none
  z_len : mg "len" = none
  z_max : mg "max" = none
  z_min : mg "min" = none
  z_range : mg "range" = none
  z_sorted : mg "sorted" = none
  z_str : mg "str" = none
  z_tuple : mg "tuple" = none
  z_zip : mg "zip" = none
def b_Table_init (K : PySem.W.Frag) (C_Table : Addr) (C_Mux : Addr) : WS :=
  (wFSet C_Table "_rows" (wVar 0) wDNew)
def l1_Table_take (K : PySem.W.Frag) (C_Table : Addr) (C_Mux : Addr) : WS :=
  (wSeq (wAsg (wVar 2) (gTp 3 (gC (gNm 3) (gC (gNm 4) (gC (gNm 5) gN0)))))
    (wIfS (wOr (wTest (wOp (rInA true) (wVar 3) (wFld C_Table "_rows" (wVar 0)))) (wTest (wOp rGt (wVar 4) (wOp rIxA (wOp rIxA (wFld C_Table "_rows" (wVar 0)) (wVar 3)) (wC (.int 1)))))) (wAsg (wVar 2) (gIxA (wFld C_Table "_rows" (wVar 0)) (wVar 3))) wNext))
def b_Table_take (K : PySem.W.Frag) (C_Table : Addr) (C_Mux : Addr) : WS :=
  (wFor (iAnyW (wVar 1)) (gNm 2) (l1_Table_take K C_Table C_Mux))
def b_Table_birth (K : PySem.W.Frag) (C_Table : Addr) (C_Mux : Addr) : WS :=
  (wSeq (wIfS (wTest (wOp (rInA true) (wVar 1) (wFld C_Table "_rows" (wVar 0)))) (wRet (wC .non)) wNext)
    (wRet (wOp rIxA (wOp rIxA (wFld C_Table "_rows" (wVar 0)) (wVar 1)) (wC (.int 2)))))
def l1_Table_rows (K : PySem.W.Frag) (C_Table : Addr) (C_Mux : Addr) : WE :=
  (wOp rIxA (wFld C_Table "_rows" (wVar 0)) (wVar 1))
def b_Table_rows (K : PySem.W.Frag) (C_Table : Addr) (C_Mux : Addr) : WS :=
  (wRet (wCB rTupOf (wCons (wLc (iAnyW (wCB rSortD (wCons (wFld C_Table "_rows" (wVar 0)) wNil))) (gNm 1) wYes (l1_Table_rows K C_Table C_Mux) [1]) wNil)))
def b_Table_forget (K : PySem.W.Frag) (C_Table : Addr) (C_Mux : Addr) : WS :=
  (wFSet C_Table "_rows" (wVar 0) wDNew)
def b_Mux_init (K : PySem.W.Frag) (C_Table : Addr) (C_Mux : Addr) (s_Table_init : WSp) : WS :=
  (wSeq (wFSet C_Mux "_number" (wVar 0) (wVar 1))
    (wFSet C_Mux "_table" (wVar 0) (wMake C_Table 1 s_Table_init wNil)))
def b_Mux_receive (K : PySem.W.Frag) (C_Table : Addr) (C_Mux : Addr) (s_is_message s_Table_take s_Mux__pass_on : WSp) : WS :=
  (wSeq (wIfS (wNot (wTest (wCall 2 s_is_message (wCons (wTup (wCons (wC (.str "mux")) (wCons (wFld C_Mux "_number" (wVar 0)) wNil))) (wCons (wVar 1) wNil))))) (wRet (wLst wNil)) wNext)
    (wSeq (wIfS (wTest (wOp (rEq false) (wOp rIxA (wVar 1) (wC (.int 0))) (wC (.str "table")))) (wSeq (wDrop (wMeth C_Table "take" 2 s_Table_take (wFld C_Mux "_table" (wVar 0)) (wCons (wOp rIxA (wVar 1) (wC (.int 1))) wNil)))
    (wRet (wLst wNil))) wNext)
    (wRet (wMeth C_Mux "_pass_on" 2 s_Mux__pass_on (wVar 0) (wCons (wVar 1) wNil)))))
def b_Mux_forget (K : PySem.W.Frag) (C_Table : Addr) (C_Mux : Addr) (s_Table_forget : WSp) : WS :=
  (wDrop (wMeth C_Table "forget" 1 s_Table_forget (wFld C_Mux "_table" (wVar 0)) wNil))
def b_Mux_rows (K : PySem.W.Frag) (C_Table : Addr) (C_Mux : Addr) (s_Table_rows : WSp) : WS :=
  (wRet (wMeth C_Table "rows" 1 s_Table_rows (wFld C_Mux "_table" (wVar 0)) wNil))
def b_Mux__pass_on (K : PySem.W.Frag) (C_Table : Addr) (C_Mux : Addr) (s_bucket_of s_Table_birth : WSp) : WS :=
  (wSeq (wSet 2 (wCall 1 s_bucket_of (wCons (wOp rIxA (wVar 1) (wC (.int 1))) wNil)))
    (wSeq (wSet 3 (wMeth C_Table "birth" 2 s_Table_birth (wFld C_Mux "_table" (wVar 0)) (wCons (wVar 2) wNil)))
    (wSeq (wIfS (wTest (wOp (rIsN false) (wVar 3) (wC .non))) (wRet (wLst wNil)) wNext)
    (wRet (wLst (wCons (wTup (wCons (wTup (wCons (wC (.str "agent")) (wCons (wOp rIxA (wVar 3) (wC (.int 0))) wNil))) (wCons (wTup (wCons (wC (.str "wrap")) (wCons (wVar 2) (wCons (wC (.int 8)) (wCons (wVar 1) wNil))))) wNil))) wNil))))))
def b_is_integer (K : PySem.W.Frag) (C_Table : Addr) (C_Mux : Addr) : WS :=
  (wRet (wAndV (wIsi "int" (wVar 0)) (wAndV (wNotV (wIsi "bool" (wVar 0))) (wChain rLe rLe (wVar 1) (wVar 0) (wVar 2)))))
def l1_is_bytes (K : PySem.W.Frag) (C_Table : Addr) (C_Mux : Addr) (s_is_integer : WSp) : WE :=
  (wCall 3 s_is_integer (wCons (wVar 1) (wCons (wC (.int 0)) (wCons (wC (.int 255)) wNil))))
def b_is_bytes (K : PySem.W.Frag) (C_Table : Addr) (C_Mux : Addr) (s_is_integer : WSp) : WS :=
  (wRet (wAndV (wIsi "tuple" (wVar 0)) (wAll (iAnyW (wVar 0)) (gNm 1) (l1_is_bytes K C_Table C_Mux s_is_integer) [1])))
def b_is_flow (K : PySem.W.Frag) (C_Table : Addr) (C_Mux : Addr) (s__is_tuple s__is_below s__is_ordinal : WSp) : WS :=
  (wRet (wAndV (wCall 2 s__is_tuple (wCons (wVar 0) (wCons (wC (.int 2)) wNil))) (wAndV (wCall 2 s__is_below (wCons (wOp rIxA (wVar 0) (wC (.int 0))) (wCons (wC (.int 6)) wNil))) (wCall 1 s__is_ordinal (wCons (wOp rIxA (wVar 0) (wC (.int 1))) wNil)))))
def b_is_birth (K : PySem.W.Frag) (C_Table : Addr) (C_Mux : Addr) (s__is_tuple s__is_below s__is_ordinal : WSp) : WS :=
  (wRet (wAndV (wCall 2 s__is_tuple (wCons (wVar 0) (wCons (wC (.int 2)) wNil))) (wAndV (wCall 2 s__is_below (wCons (wOp rIxA (wVar 0) (wC (.int 0))) (wCons (wC (.int 6)) wNil))) (wCall 1 s__is_ordinal (wCons (wOp rIxA (wVar 0) (wC (.int 1))) wNil)))))
def b_is_life (K : PySem.W.Frag) (C_Table : Addr) (C_Mux : Addr) (s__is_tuple s_is_birth s__is_ordinal : WSp) : WS :=
  (wRet (wAndV (wCall 2 s__is_tuple (wCons (wVar 0) (wCons (wC (.int 3)) wNil))) (wAndV (wCall 1 s_is_birth (wCons (wSl (wVar 0) wNoPart (wPart (wC (.int 2)))) wNil)) (wCall 1 s__is_ordinal (wCons (wOp rIxA (wVar 0) (wC (.int 2))) wNil)))))
def b_is_packet (K : PySem.W.Frag) (C_Table : Addr) (C_Mux : Addr) (s_first_word s_is_flow s_is_life s__is_segment : WSp) : WS :=
  (wSeq (wSet 1 (wCall 1 s_first_word (wCons (wVar 0) wNil)))
    (wSeq (wIfS (wTest (wOp (rEq false) (wVar 1) (wC (.str "open")))) (wRet (wAndV (wOp (rEq false) (wCB rLenA (wCons (wVar 0) wNil)) (wC (.int 2))) (wCall 1 s_is_flow (wCons (wOp rIxA (wVar 0) (wC (.int 1))) wNil)))) wNext)
    (wSeq (wIfS (wTest (wOp (rInA false) (wVar 1) (wTup (wCons (wC (.str "hello")) (wCons (wC (.str "gone")) (wCons (wC (.str "no")) wNil)))))) (wRet (wAndV (wOp (rEq false) (wCB rLenA (wCons (wVar 0) wNil)) (wC (.int 3))) (wAndV (wCall 1 s_is_flow (wCons (wOp rIxA (wVar 0) (wC (.int 1))) wNil)) (wCall 1 s_is_life (wCons (wOp rIxA (wVar 0) (wC (.int 2))) wNil))))) wNext)
    (wSeq (wIfS (wTest (wOp (rInA false) (wVar 1) (wTup (wCons (wC (.str "up")) (wCons (wC (.str "down")) wNil))))) (wRet (wAndV (wOp (rEq false) (wCB rLenA (wCons (wVar 0) wNil)) (wC (.int 7))) (wAndV (wCall 1 s_is_flow (wCons (wOp rIxA (wVar 0) (wC (.int 1))) wNil)) (wAndV (wCall 1 s_is_life (wCons (wOp rIxA (wVar 0) (wC (.int 2))) wNil)) (wCall 1 s__is_segment (wCons (wSl (wVar 0) (wPart (wC (.int 3))) wNoPart) wNil)))))) wNext)
    (wRet (wC (.bl false)))))))
def b_goes_up (K : PySem.W.Frag) (C_Table : Addr) (C_Mux : Addr) : WS :=
  (wRet (wOp (rInA false) (wOp rIxA (wVar 0) (wC (.int 0))) (wTup (wCons (wC (.str "open")) (wCons (wC (.str "up")) (wCons (wC (.str "no")) wNil))))))
def b_bucket_of (K : PySem.W.Frag) (C_Table : Addr) (C_Mux : Addr) : WS :=
  (wSeq (wAsg (wVar 0) (gTp 2 (gC (gNm 1) (gC (gNm 2) gN0))))
    (wRet (wOp rMod (wOp rAdd (wOp rMul (wC (.int 5)) (wVar 2)) (wOp rMul (wC (.int 7)) (wVar 1))) (wC (.int 16)))))
def b_first_word (K : PySem.W.Frag) (C_Table : Addr) (C_Mux : Addr) : WS :=
  (wSeq (wIfS (wAnd (wTest (wIsi "tuple" (wVar 0))) (wAnd (wTest (wOp rGt (wCB rLenA (wCons (wVar 0) wNil)) (wC (.int 0)))) (wTest (wIsi "str" (wOp rIxA (wVar 0) (wC (.int 0))))))) (wRet (wOp rIxA (wVar 0) (wC (.int 0)))) wNext)
    (wRet (wC .non)))
def b__is_tuple (K : PySem.W.Frag) (C_Table : Addr) (C_Mux : Addr) : WS :=
  (wRet (wAndV (wIsi "tuple" (wVar 0)) (wOp (rEq false) (wCB rLenA (wCons (wVar 0) wNil)) (wVar 1))))
def b__is_below (K : PySem.W.Frag) (C_Table : Addr) (C_Mux : Addr) (s_is_integer : WSp) : WS :=
  (wRet (wCall 3 s_is_integer (wCons (wVar 0) (wCons (wC (.int 0)) (wCons (wOp rSub (wVar 1) (wC (.int 1))) wNil)))))
def b__is_ordinal (K : PySem.W.Frag) (C_Table : Addr) (C_Mux : Addr) (s_is_integer : WSp) : WS :=
  (wRet (wCall 3 s_is_integer (wCons (wVar 0) (wCons (wC (.int 1)) (wCons (wC (.int 1000000)) wNil)))))
def b__is_segment (K : PySem.W.Frag) (C_Table : Addr) (C_Mux : Addr) (s_is_integer s_is_bytes : WSp) : WS :=
  (wSeq (wAsg (wVar 0) (gTp 4 (gC (gNm 1) (gC (gNm 2) (gC (gNm 3) (gC (gNm 4) gN0))))))
    (wSeq (wIfS (wOr (wNot (wTest (wCall 3 s_is_integer (wCons (wVar 1) (wCons (wC (.int 0)) (wCons (wC (.int 4000)) wNil)))))) (wNot (wTest (wCall 3 s_is_integer (wCons (wVar 3) (wCons (wC (.int 0)) (wCons (wC (.int 1)) wNil))))))) (wRet (wC (.bl false))) wNext)
    (wRet (wAndV (wCall 1 s_is_bytes (wCons (wVar 2) wNil)) (wAndV (wOp rLe (wCB rLenA (wCons (wVar 2) wNil)) (wC (.int 8))) (wCall 3 s_is_integer (wCons (wVar 4) (wCons (wC (.int 0)) (wCons (wOp rAdd (wC (.int 4000)) (wC (.int 1))) wNil)))))))))
def b_can_be_written (K : PySem.W.Frag) (C_Table : Addr) (C_Mux : Addr) (s__can_stand : WSp) : WS :=
  (wRet (wCall 2 s__can_stand (wCons (wVar 0) (wCons (wC (.int 16)) wNil))))
def l1__can_stand (K : PySem.W.Frag) (C_Table : Addr) (C_Mux : Addr) (s__can_stand s_is_integer s__is_word : WSp) : WE :=
  (wCall 2 s__can_stand (wCons (wVar 2) (wCons (wOp rSub (wVar 1) (wC (.int 1))) wNil)))
def b__can_stand (K : PySem.W.Frag) (C_Table : Addr) (C_Mux : Addr) (s__can_stand s_is_integer s__is_word : WSp) : WS :=
  (wSeq (wIfS (wTest (wIsi "tuple" (wVar 0))) (wRet (wAndV (wOp rGt (wVar 1) (wC (.int 0))) (wAll (iAnyW (wVar 0)) (gNm 2) (l1__can_stand K C_Table C_Mux s__can_stand s_is_integer s__is_word) [2]))) wNext)
    (wRet (wOrV (wOp (rIsN false) (wVar 0) (wC .non)) (wOrV (wCall 3 s_is_integer (wCons (wVar 0) (wCons (wC (.int 0)) (wCons (wC (.int 4294967295)) wNil)))) (wCall 1 s__is_word (wCons (wVar 0) wNil))))))
def l1__is_word (K : PySem.W.Frag) (C_Table : Addr) (C_Mux : Addr) : WE :=
  (wChain rLe rLe (wC (.str "a")) (wVar 1) (wC (.str "z")))
def b__is_word (K : PySem.W.Frag) (C_Table : Addr) (C_Mux : Addr) : WS :=
  (wSeq (wIfS (wOr (wNot (wTest (wIsi "str" (wVar 0)))) (wNot (wTest (wChain rLe rLe (wC (.int 1)) (wCB rLenA (wCons (wVar 0) wNil)) (wC (.int 12)))))) (wRet (wC (.bl false))) wNext)
    (wRet (wAll (iAnyW (wVar 0)) (gNm 1) (l1__is_word K C_Table C_Mux) [1])))
def b_is_message (K : PySem.W.Frag) (C_Table : Addr) (C_Mux : Addr) (s_first_word s_is_packet s_goes_up s__is_packet_up s__has_parts s__is_wrap : WSp) : WS :=
  (wSeq (wSet 2 (wOp rIxA (wVar 0) (wC (.int 0))))
    (wSeq (wSet 3 (wCall 1 s_first_word (wCons (wVar 1) wNil)))
    (wSeq (wIfS (wTest (wOp (rEq false) (wVar 2) (wC (.str "client")))) (wRet (wAndV (wCall 1 s_is_packet (wCons (wVar 1) wNil)) (wAndV (wNotV (wCall 1 s_goes_up (wCons (wVar 1) wNil))) (wOp (rEq false) (wOp rIxA (wOp rIxA (wVar 1) (wC (.int 1))) (wC (.int 0))) (wOp rIxA (wVar 0) (wC (.int 1))))))) wNext)
    (wSeq (wIfS (wTest (wOp (rEq false) (wVar 2) (wC (.str "mux")))) (wRet (wOrV (wCall 1 s__is_packet_up (wCons (wVar 1) wNil)) (wCall 2 s__has_parts (wCons (wKGet K tbl_TO_MUX (wVar 3)) (wCons (wVar 1) wNil))))) wNext)
    (wSeq (wIfS (wTest (wOp (rEq false) (wVar 2) (wC (.str "agent")))) (wRet (wOrV (wCall 1 s__is_wrap (wCons (wVar 1) wNil)) (wCall 2 s__has_parts (wCons (wKGet K tbl_TO_AGENT (wVar 3)) (wCons (wVar 1) wNil))))) wNext)
    (wRet (wCall 2 s__has_parts (wCons (wKGet K tbl_TO_CONTROLLER (wVar 3)) (wCons (wVar 1) wNil)))))))))
def b__is_packet_up (K : PySem.W.Frag) (C_Table : Addr) (C_Mux : Addr) (s_is_packet s_goes_up : WSp) : WS :=
  (wRet (wAndV (wCall 1 s_is_packet (wCons (wVar 0) wNil)) (wCall 1 s_goes_up (wCons (wVar 0) wNil))))
def b__is_wrap (K : PySem.W.Frag) (C_Table : Addr) (C_Mux : Addr) (s_first_word s__is_part s_is_integer s__is_packet_up s_bucket_of : WSp) : WS :=
  (wSeq (wIfS (wOr (wTest (wOp (rEq true) (wCall 1 s_first_word (wCons (wVar 0) wNil)) (wC (.str "wrap")))) (wTest (wOp (rEq true) (wCB rLenA (wCons (wVar 0) wNil)) (wC (.int 4))))) (wRet (wC (.bl false))) wNext)
    (wSeq (wAsg (wVar 0) (gTp 4 (gC (gNm 1) (gC (gNm 2) (gC (gNm 3) (gC (gNm 4) gN0))))))
    (wSeq (wIfS (wOr (wNot (wTest (wCall 2 s__is_part (wCons (wC (.str "bucket")) (wCons (wVar 2) wNil))))) (wNot (wTest (wCall 3 s_is_integer (wCons (wVar 3) (wCons (wC (.int 0)) (wCons (wC (.int 8)) wNil))))))) (wRet (wC (.bl false))) wNext)
    (wRet (wAndV (wCall 1 s__is_packet_up (wCons (wVar 4) wNil)) (wOp (rEq false) (wVar 2) (wCall 1 s_bucket_of (wCons (wOp rIxA (wVar 4) (wC (.int 1))) wNil))))))))
def b__has_parts (K : PySem.W.Frag) (C_Table : Addr) (C_Mux : Addr) (s__are_parts : WSp) : WS :=
  (wRet (wAndV (wOp (rIsN true) (wVar 0) (wC .non)) (wCall 2 s__are_parts (wCons (wVar 0) (wCons (wSl (wVar 1) (wPart (wC (.int 1))) wNoPart) wNil)))))
def l1__are_parts (K : PySem.W.Frag) (C_Table : Addr) (C_Mux : Addr) (s__is_part : WSp) : WS :=
  (wIfS (wNot (wTest (wCall 2 s__is_part (wCons (wVar 2) (wCons (wVar 3) wNil))))) (wRet (wC (.bl false))) wNext)
def b__are_parts (K : PySem.W.Frag) (C_Table : Addr) (C_Mux : Addr) (s__is_part : WSp) : WS :=
  (wSeq (wIfS (wTest (wOp (rEq true) (wCB rLenA (wCons (wVar 1) wNil)) (wCB (rLenK K) (wCons (wVar 0) wNil)))) (wRet (wC (.bl false))) wNext)
    (wSeq (wFor (iZipK K (wCons (wVar 0) (wCons (wVar 1) wNil))) (gTp 2 (gC (gNm 2) (gC (gNm 3) gN0))) (l1__are_parts K C_Table C_Mux s__is_part))
    (wRet (wC (.bl true)))))
def l1__is_part (K : PySem.W.Frag) (C_Table : Addr) (C_Mux : Addr) (s_is_birth s_is_flow s_is_life s_is_integer s_can_be_written s__is_row : WSp) : WE :=
  (wCall 2 s__is_row (wCons (wVar 0) (wCons (wVar 2) wNil)))
def b__is_part (K : PySem.W.Frag) (C_Table : Addr) (C_Mux : Addr) (s_is_birth s_is_flow s_is_life s_is_integer s_can_be_written s__is_row : WSp) : WS :=
  (wSeq (wIfS (wTest (wOp (rEq false) (wVar 0) (wC (.str "birth")))) (wRet (wCall 1 s_is_birth (wCons (wVar 1) wNil))) wNext)
    (wSeq (wIfS (wTest (wOp (rEq false) (wVar 0) (wC (.str "birth or none")))) (wRet (wOrV (wOp (rIsN false) (wVar 1) (wC .non)) (wCall 1 s_is_birth (wCons (wVar 1) wNil)))) wNext)
    (wSeq (wIfS (wTest (wOp (rEq false) (wVar 0) (wC (.str "flow")))) (wRet (wCall 1 s_is_flow (wCons (wVar 1) wNil))) wNext)
    (wSeq (wIfS (wTest (wOp (rEq false) (wVar 0) (wC (.str "life")))) (wRet (wCall 1 s_is_life (wCons (wVar 1) wNil))) wNext)
    (wSeq (wIfS (wTest (wOp (rEq false) (wVar 0) (wC (.str "bucket")))) (wRet (wCall 3 s_is_integer (wCons (wVar 1) (wCons (wC (.int 0)) (wCons (wOp rSub (wC (.int 16)) (wC (.int 1))) wNil))))) wNext)
    (wSeq (wIfS (wTest (wOp (rEq false) (wVar 0) (wC (.str "count")))) (wRet (wCall 3 s_is_integer (wCons (wVar 1) (wCons (wC (.int 0)) (wCons (wC (.int 1000000)) wNil))))) wNext)
    (wSeq (wIfS (wTest (wOp (rEq false) (wVar 0) (wC (.str "picture")))) (wRet (wCall 1 s_can_be_written (wCons (wVar 1) wNil))) wNext)
    (wRet (wAndV (wIsi "tuple" (wVar 1)) (wAll (iAnyW (wVar 1)) (gNm 2) (l1__is_part K C_Table C_Mux s_is_birth s_is_flow s_is_life s_is_integer s_can_be_written s__is_row) [2]))))))))))
def b__is_row (K : PySem.W.Frag) (C_Table : Addr) (C_Mux : Addr) (s_is_birth s__are_parts : WSp) : WS :=
  (wSeq (wIfS (wTest (wOp (rEq false) (wVar 0) (wC (.str "births")))) (wRet (wCall 1 s_is_birth (wCons (wVar 1) wNil))) wNext)
    (wRet (wAndV (wIsi "tuple" (wVar 1)) (wCall 2 s__are_parts (wCons (wKIx K tbl_ROWS (wVar 0)) (wCons (wVar 1) wNil))))))
def b__law_bag (K : PySem.W.Frag) (C_Table : Addr) (C_Mux : Addr) : WS :=
  (wSeq (wSet 2 (wC (.int 0)))
    (wSeq (wIfS (wTest (wOp rLt (wVar 1) (wCB rLenA (wCons (wVar 0) wNil)))) (wSet 2 (wCB rInt1 (wCons (wOp rIxA (wVar 0) (wVar 1)) wNil))) wNext)
    (wSeq (wIfS (wTest (wOp rGeI (wVar 2) (wOp rPow (wC (.int 10)) (wC (.int 18))))) (wRet (wLst (wCons (wVar 2) (wCons (wVar 2) (wCons (wVar 1) wNil))))) wNext)
    (wRet (wLst (wCons (wC (.int 0)) (wCons (wVar 2) (wCons (wVar 1) wNil))))))))
def b__law_draw (K : PySem.W.Frag) (C_Table : Addr) (C_Mux : Addr) : WS :=
  (wSeq (wIfS (wTest (wOp (rEq false) (wOp rIxA (wVar 0) (wC (.int 0))) (wC (.int 0)))) (wSeq (wSet 2 (wOp rMod (wCB rInt1 (wCons (wOp rAdd (wOp rAdd (wOp rMul (wOp rIxA (wVar 0) (wC (.int 1))) (wC (.int 48271))) (wOp rMul (wOp rIxA (wVar 0) (wC (.int 2))) (wC (.int 69621)))) (wC (.int 11))) wNil)) (wC (.int 2147483647))))
    (wSeq (wAsg (wOp rAdd (wOp rMul (wVar 2) (wC (.int 2147483629))) (wOp rMod (wCB rInt1 (wCons (wOp rAdd (wOp rMul (wVar 2) (wVar 2)) (wOp rMul (wOp rIxA (wVar 0) (wC (.int 2))) (wC (.int 16807)))) wNil)) (wC (.int 2147483629)))) (gIxA (wVar 0) (wC (.int 0))))
    (wAsg (wVar 2) (gIxA (wVar 0) (wC (.int 1)))))) wNext)
    (wSeq (wSet 3 (wOp rIxA (wVar 0) (wC (.int 0))))
    (wSeq (wAsg (wOp rFdiv (wVar 3) (wVar 1)) (gIxA (wVar 0) (wC (.int 0))))
    (wRet (wOp rMod (wCB rInt1 (wCons (wVar 3) wNil)) (wVar 1))))))
def b__law_count (K : PySem.W.Frag) (C_Table : Addr) (C_Mux : Addr) (s__law_draw : WSp) : WS :=
  (wRet (wOp rIxA (wLst (wCons (wVar 1) (wCons (wC (.int 1)) (wCons (wC (.int 2)) (wCons (wC (.int 999999)) (wCons (wC (.int 1000000)) (wCons (wOp rAdd (wC (.int 1)) (wCall 2 s__law_draw (wCons (wVar 0) (wCons (wC (.int 1000000)) wNil)))) wNil))))))) (wCall 2 s__law_draw (wCons (wVar 0) (wCons (wC (.int 6)) wNil)))))
def b__law_flow (K : PySem.W.Frag) (C_Table : Addr) (C_Mux : Addr) (s__law_count s__law_draw : WSp) : WS :=
  (wRet (wTup (wCons (wCall 2 s__law_draw (wCons (wVar 0) (wCons (wC (.int 6)) wNil))) (wCons (wCall 2 s__law_count (wCons (wVar 0) (wCons (wC (.int 1)) wNil))) wNil))))
def b__law_birth (K : PySem.W.Frag) (C_Table : Addr) (C_Mux : Addr) (s__law_count s__law_draw : WSp) : WS :=
  (wRet (wTup (wCons (wCall 2 s__law_draw (wCons (wVar 0) (wCons (wC (.int 6)) wNil))) (wCons (wCall 2 s__law_count (wCons (wVar 0) (wCons (wC (.int 1)) wNil))) wNil))))
def b__law_life (K : PySem.W.Frag) (C_Table : Addr) (C_Mux : Addr) (s__law_birth s__law_count : WSp) : WS :=
  (wRet (wOp rAdd (wCall 1 s__law_birth (wCons (wVar 0) wNil)) (wTup (wCons (wCall 2 s__law_count (wCons (wVar 0) (wCons (wC (.int 1)) wNil))) wNil))))
def l1__law_packet (K : PySem.W.Frag) (C_Table : Addr) (C_Mux : Addr) (s__law_draw s__law_flow s__law_life : WSp) : WE :=
  (wOp rIxA (wLst (wCons (wC (.int 0)) (wCons (wC (.int 255)) (wCons (wCall 2 s__law_draw (wCons (wVar 0) (wCons (wC (.int 256)) wNil))) wNil)))) (wCall 2 s__law_draw (wCons (wVar 0) (wCons (wC (.int 3)) wNil))))
def b__law_packet (K : PySem.W.Frag) (C_Table : Addr) (C_Mux : Addr) (s__law_draw s__law_flow s__law_life : WSp) : WS :=
  (wSeq (wSet 2 (wOp rIxA (wVar 1) (wCall 2 s__law_draw (wCons (wVar 0) (wCons (wCB rLenA (wCons (wVar 1) wNil)) wNil)))))
    (wSeq (wIfS (wTest (wOp (rEq false) (wVar 2) (wC (.str "open")))) (wRet (wTup (wCons (wVar 2) (wCons (wCall 1 s__law_flow (wCons (wVar 0) wNil)) wNil)))) wNext)
    (wSeq (wSet 3 (wTup (wCons (wVar 2) (wCons (wCall 1 s__law_flow (wCons (wVar 0) wNil)) (wCons (wCall 1 s__law_life (wCons (wVar 0) wNil)) wNil)))))
    (wSeq (wIfS (wTest (wOp (rInA true) (wVar 2) (wLst (wCons (wC (.str "up")) (wCons (wC (.str "down")) wNil))))) (wRet (wVar 3)) wNext)
    (wSeq (wSet 4 (wCB rTupOf (wCons (wLc (iRg1 (wCons (wCall 2 s__law_draw (wCons (wVar 0) (wCons (wC (.int 9)) wNil))) wNil)) (gNm 5) wYes (l1__law_packet K C_Table C_Mux s__law_draw s__law_flow s__law_life) [5]) wNil)))
    (wSeq (wSet 6 (wOp rIxA (wLst (wCons (wC (.int 0)) (wCons (wC (.int 3999)) (wCons (wC (.int 4000)) (wCons (wCall 2 s__law_draw (wCons (wVar 0) (wCons (wC (.int 4001)) wNil))) wNil))))) (wCall 2 s__law_draw (wCons (wVar 0) (wCons (wC (.int 4)) wNil)))))
    (wRet (wOp rAdd (wVar 3) (wTup (wCons (wVar 6) (wCons (wVar 4) (wCons (wCall 2 s__law_draw (wCons (wVar 0) (wCons (wC (.int 2)) wNil))) (wCons (wOp rIxA (wLst (wCons (wC (.int 0)) (wCons (wC (.int 4000)) (wCons (wC (.int 4001)) (wCons (wCall 2 s__law_draw (wCons (wVar 0) (wCons (wC (.int 4002)) wNil))) wNil))))) (wCall 2 s__law_draw (wCons (wVar 0) (wCons (wC (.int 4)) wNil)))) wNil)))))))))))))
def l1__law_rows (K : PySem.W.Frag) (C_Table : Addr) (C_Mux : Addr) (s__law_draw : WSp) : WS :=
  (wSeq (wSet 4 (wTup (wCons (wCall 2 s__law_draw (wCons (wVar 0) (wCons (wC (.int 6)) wNil))) (wCons (wOp rAdd (wC (.int 1)) (wCall 2 s__law_draw (wCons (wVar 0) (wCons (wC (.int 3)) wNil)))) wNil))))
    (wDrop (wMt rAppendT (wVar 2) (wCons (wTup (wCons (wOp rFdiv (wCall 2 s__law_draw (wCons (wVar 0) (wCons (wC (.int 16)) wNil))) (wOp rIxA (wLst (wCons (wC (.int 1)) (wCons (wC (.int 4)) (wCons (wC (.int 8)) wNil)))) (wCall 2 s__law_draw (wCons (wVar 0) (wCons (wC (.int 3)) wNil))))) (wCons (wCall 2 s__law_draw (wCons (wVar 0) (wCons (wOp rIxA (wLst (wCons (wC (.int 5)) (wCons (wC (.int 60)) wNil))) (wCall 2 s__law_draw (wCons (wVar 0) (wCons (wC (.int 2)) wNil)))) wNil))) (wCons (wVar 4) wNil)))) wNil))))
def b__law_rows (K : PySem.W.Frag) (C_Table : Addr) (C_Mux : Addr) (s__law_draw : WSp) : WS :=
  (wSeq (wSet 2 (wLst wNil))
    (wSeq (wFor (iRg1 (wCons (wCall 2 s__law_draw (wCons (wVar 0) (wCons (wOp rAdd (wVar 1) (wC (.int 1))) wNil))) wNil)) (gNm 3) (l1__law_rows K C_Table C_Mux s__law_draw))
    (wRet (wCB rTupOf (wCons (wVar 2) wNil)))))
def l1__law_newest (K : PySem.W.Frag) (C_Table : Addr) (C_Mux : Addr) : WT :=
  (wTest (wOp (rEq false) (wOp rIxA (wVar 4) (wC (.int 0))) (wVar 2)))
def l2__law_newest (K : PySem.W.Frag) (C_Table : Addr) (C_Mux : Addr) : WE :=
  (wVar 4)
def l3__law_newest (K : PySem.W.Frag) (C_Table : Addr) (C_Mux : Addr) : WE :=
  (wOp rIxA (wVar 4) (wC (.int 1)))
def l4__law_newest (K : PySem.W.Frag) (C_Table : Addr) (C_Mux : Addr) : WT :=
  (wTest (wOp (rEq false) (wOp rIxA (wVar 4) (wC (.int 1))) (wVar 5)))
def l5__law_newest (K : PySem.W.Frag) (C_Table : Addr) (C_Mux : Addr) : WE :=
  (wVar 4)
def l6__law_newest (K : PySem.W.Frag) (C_Table : Addr) (C_Mux : Addr) : WS :=
  (wSeq (wSet 3 (wLc (iAnyW (wVar 0)) (gNm 4) (l1__law_newest K C_Table C_Mux) (l2__law_newest K C_Table C_Mux) [4]))
    (wIfS (wTest (wOp rGt (wCB rLenA (wCons (wVar 3) wNil)) (wC (.int 0)))) (wSeq (wSet 5 (wCB rMaxL (wCons (wLc (iAnyW (wVar 3)) (gNm 4) wYes (l3__law_newest K C_Table C_Mux) [4]) wNil)))
    (wDrop (wMt rAppendT (wVar 1) (wCons (wOp rIxA (wLc (iAnyW (wVar 3)) (gNm 4) (l4__law_newest K C_Table C_Mux) (l5__law_newest K C_Table C_Mux) [4]) (wC (.int 0))) wNil)))) wNext))
def b__law_newest (K : PySem.W.Frag) (C_Table : Addr) (C_Mux : Addr) : WS :=
  (wSeq (wSet 1 (wLst wNil))
    (wSeq (wFor (iRg1 (wCons (wC (.int 16)) wNil)) (gNm 2) (l6__law_newest K C_Table C_Mux))
    (wRet (wCB rTupOf (wCons (wVar 1) wNil)))))
def l1_law (K : PySem.W.Frag) (C_Table : Addr) (C_Mux : Addr) (s__law_bag s__law_rows s_Mux_init s_Mux_receive s_Mux_forget s__law_draw s__law_packet s_Mux_rows s__law_newest : WSp) : WE :=
  (wTup (wCons (wOp rIxA (wVar 5) (wC (.int 0))) (wCons (wOp rIxA (wVar 5) (wC (.int 1))) (wCons (wTup (wCons (wOp rMod (wCB rInt1 (wCons (wOp rAdd (wOp rIxA (wVar 5) (wC (.int 0))) (wOp rIxA (wVar 5) (wC (.int 1)))) wNil)) (wC (.int 6))) (wCons (wOp rAdd (wC (.int 1)) (wOp rIxA (wVar 5) (wC (.int 1)))) wNil))) wNil))))
def l2_law (K : PySem.W.Frag) (C_Table : Addr) (C_Mux : Addr) (s__law_bag s__law_rows s_Mux_init s_Mux_receive s_Mux_forget s__law_draw s__law_packet s_Mux_rows s__law_newest : WSp) : WS :=
  (wSeq (wDrop (wMeth C_Mux "receive" 2 s_Mux_receive (wVar 7) (wCons (wTup (wCons (wC (.str "table")) (wCons (wTup (wCons (wVar 5) wNil)) wNil))) wNil)))
    (wIfS (wTest (wOp (rEq false) (wCall 2 s__law_draw (wCons (wVar 3) (wCons (wC (.int 2)) wNil))) (wC (.int 0)))) (wSeq (wSet 8 (wMeth C_Mux "receive" 2 s_Mux_receive (wVar 7) (wCons (wCall 2 s__law_packet (wCons (wVar 3) (wCons (wVar 1) wNil))) wNil)))
    (wDrop (wMt rAppendT (wVar 8) (wCons (wTup (wCons (wC (.str "client")) (wCons (wC (.int 0)) wNil))) wNil)))) wNext))
def l3_law (K : PySem.W.Frag) (C_Table : Addr) (C_Mux : Addr) (s__law_bag s__law_rows s_Mux_init s_Mux_receive s_Mux_forget s__law_draw s__law_packet s_Mux_rows s__law_newest : WSp) : WE :=
  (wCall 2 s__law_packet (wCons (wVar 3) (wCons (wVar 1) wNil)))
def l4_law (K : PySem.W.Frag) (C_Table : Addr) (C_Mux : Addr) (s__law_bag s__law_rows s_Mux_init s_Mux_receive s_Mux_forget s__law_draw s__law_packet s_Mux_rows s__law_newest : WSp) : WE :=
  (wMeth C_Mux "receive" 2 s_Mux_receive (wVar 6) (wCons (wVar 12) wNil))
def l5_law (K : PySem.W.Frag) (C_Table : Addr) (C_Mux : Addr) (s__law_bag s__law_rows s_Mux_init s_Mux_receive s_Mux_forget s__law_draw s__law_packet s_Mux_rows s__law_newest : WSp) : WE :=
  (wMeth C_Mux "receive" 2 s_Mux_receive (wVar 7) (wCons (wVar 12) wNil))
def l6_law (K : PySem.W.Frag) (C_Table : Addr) (C_Mux : Addr) (s__law_bag s__law_rows s_Mux_init s_Mux_receive s_Mux_forget s__law_draw s__law_packet s_Mux_rows s__law_newest : WSp) : WE :=
  (wMeth C_Mux "receive" 2 s_Mux_receive (wVar 6) (wCons (wVar 12) wNil))
def l7_law (K : PySem.W.Frag) (C_Table : Addr) (C_Mux : Addr) (s__law_bag s__law_rows s_Mux_init s_Mux_receive s_Mux_forget s__law_draw s__law_packet s_Mux_rows s__law_newest : WSp) : WS :=
  (wSeq (wSet 3 (wCall 2 s__law_bag (wCons (wVar 0) (wCons (wVar 2) wNil))))
    (wSeq (wSet 4 (wLc (iAnyW (wCall 2 s__law_rows (wCons (wVar 3) (wCons (wC (.int 40)) wNil)))) (gNm 5) wYes (l1_law K C_Table C_Mux s__law_bag s__law_rows s_Mux_init s_Mux_receive s_Mux_forget s__law_draw s__law_packet s_Mux_rows s__law_newest) [5]))
    (wSeq (wSet 6 (wMake C_Mux 2 s_Mux_init (wCons (wC (.int 0)) wNil)))
    (wSeq (wSet 7 (wMake C_Mux 2 s_Mux_init (wCons (wC (.int 2)) wNil)))
    (wSeq (wDrop (wMeth C_Mux "receive" 2 s_Mux_receive (wVar 7) (wCons (wTup (wCons (wC (.str "table")) (wCons (wCall 2 s__law_rows (wCons (wVar 3) (wCons (wC (.int 8)) wNil))) wNil))) wNil)))
    (wSeq (wDrop (wMeth C_Mux "forget" 1 s_Mux_forget (wVar 7) wNil))
    (wSeq (wDrop (wMeth C_Mux "receive" 2 s_Mux_receive (wVar 6) (wCons (wTup (wCons (wC (.str "table")) (wCons (wCB rTupOf (wCons (wVar 4) wNil)) wNil))) wNil)))
    (wSeq (wFor (iAnyW (wRev (wVar 4))) (gNm 5) (l2_law K C_Table C_Mux s__law_bag s__law_rows s_Mux_init s_Mux_receive s_Mux_forget s__law_draw s__law_packet s_Mux_rows s__law_newest))
    (wSeq (wSet 9 (wLc (iRg1 (wCons (wCall 2 s__law_draw (wCons (wVar 3) (wCons (wC (.int 21)) wNil))) wNil)) (gNm 10) wYes (l3_law K C_Table C_Mux s__law_bag s__law_rows s_Mux_init s_Mux_receive s_Mux_forget s__law_draw s__law_packet s_Mux_rows s__law_newest) [10]))
    (wSeq (wSet 11 (wMeth C_Mux "rows" 1 s_Mux_rows (wVar 6) wNil))
    (wSeq (wSet 8 (wLc (iAnyW (wVar 9)) (gNm 12) wYes (l4_law K C_Table C_Mux s__law_bag s__law_rows s_Mux_init s_Mux_receive s_Mux_forget s__law_draw s__law_packet s_Mux_rows s__law_newest) [12]))
    (wSeq (wIfS (wTest (wOp (rEq2 true) (wVar 8) (wRev (wLc (iAnyW (wRev (wVar 9))) (gNm 12) wYes (l5_law K C_Table C_Mux s__law_bag s__law_rows s_Mux_init s_Mux_receive s_Mux_forget s__law_draw s__law_packet s_Mux_rows s__law_newest) [12])))) (wRet (wC (.bl false))) wNext)
    (wSeq (wIfS (wOr (wTest (wOp (rEq true) (wMeth C_Mux "rows" 1 s_Mux_rows (wVar 6) wNil) (wVar 11))) (wOr (wTest (wOp (rEq true) (wMeth C_Mux "rows" 1 s_Mux_rows (wVar 7) wNil) (wVar 11))) (wTest (wOp (rEq true) (wVar 11) (wCall 1 s__law_newest (wCons (wVar 4) wNil)))))) (wRet (wC (.bl false))) wNext)
    (wIfS (wTest (wOp (rEq2 true) (wVar 8) (wLc (iAnyW (wVar 9)) (gNm 12) wYes (l6_law K C_Table C_Mux s__law_bag s__law_rows s_Mux_init s_Mux_receive s_Mux_forget s__law_draw s__law_packet s_Mux_rows s__law_newest) [12]))) (wRet (wC (.bl false))) wNext))))))))))))))
def b_law (K : PySem.W.Frag) (C_Table : Addr) (C_Mux : Addr) (s__law_bag s__law_rows s_Mux_init s_Mux_receive s_Mux_forget s__law_draw s__law_packet s_Mux_rows s__law_newest : WSp) : WS :=
  (wSeq (wSet 1 (wLst (wCons (wC (.str "open")) (wCons (wC (.str "up")) (wCons (wC (.str "no")) (wCons (wC (.str "open")) (wCons (wC (.str "up")) (wCons (wC (.str "no")) (wCons (wC (.str "hello")) (wCons (wC (.str "down")) (wCons (wC (.str "gone")) wNil)))))))))))
    (wSeq (wFor (iRg1 (wCons (wCB rMax2 (wCons (wC (.int 1)) (wCons (wCB rMin2 (wCons (wC (.int 8)) (wCons (wCB rLenA (wCons (wVar 0) wNil)) wNil))) wNil))) wNil)) (gNm 2) (l7_law K C_Table C_Mux s__law_bag s__law_rows s_Mux_init s_Mux_receive s_Mux_forget s__law_draw s__law_packet s_Mux_rows s__law_newest))
    (wRet (wC (.bl true)))))
section
variable {C_Table : Addr} {C_Mux : Addr} {P : Program} {w : World} {K : PySem.W.Frag} {mg : Str → Option Value} {base : Heap}
theorem fn_Table_init (T : Facts K mg w.params C_Table C_Mux) {k : Nat} {f : Addr} {fd : FuncData} {tl : List Addr}  {sp : WSp} (F : Fun K "__init__" "Table.__init__" st_Table_init f fd) 
    (hw : ∀ ts S Q E, ts.length = 1 → sp ts S Q E → b_Table_init K C_Table C_Mux  { nx := fun _ S' => Q .non S', rt := Q } (startT N_Table_init ts) S) :
    FnOk P w K mg base CX0 (k + 1) f fd ["self"] (Lsp tl K 1 sp) :=
  fnT F sc_Table_init (fun cdv A outer s H E hr hcd ht => (jss_one (js_fset T.k_Table T.n_Table__rows (j_var 0) j_dnew))) hw
theorem fn_Table_take (T : Facts K mg w.params C_Table C_Mux) {k : Nat} {f : Addr} {fd : FuncData} {tl : List Addr}  {sp : WSp} (F : Fun K "take" "Table.take" st_Table_take f fd) 
    (hw : ∀ ts S Q E, ts.length = 2 → sp ts S Q E → b_Table_take K C_Table C_Mux  { nx := fun _ S' => Q .non S', rt := Q } (startT N_Table_take ts) S) :
    FnOk P w K mg base CX0 (k + 1) f fd ["self", "rows"] (Lsp tl K 2 sp) :=
  fnT F sc_Table_take (fun cdv A outer s H E hr hcd ht => (jss_one (js_for PassesOwn.never rfl (ji_any (j_var 1)) (jg_name (i := 2) (vs := [2]) sc_Table_take.nd rfl (by first | exact .inl rfl | exact .inr rfl) (by decide))
    (jss_cons (js_asg (j_var 2) (JG.two (jg_tup rfl (jgs_cons (jg_name (i := 3) (vs := [3, 4, 5]) sc_Table_take.nd rfl (by first | exact .inl rfl | exact .inr rfl) (by decide)) (jgs_cons (jg_name (i := 4) (vs := [3, 4, 5]) sc_Table_take.nd rfl (by first | exact .inl rfl | exact .inr rfl) (by decide)) (jgs_cons (jg_name (i := 5) (vs := [3, 4, 5]) sc_Table_take.nd rfl (by first | exact .inl rfl | exact .inr rfl) (by decide)) jgs_nil))))))
    (jss_one (js_if (JW.jt (jw_or (jt_cmp (o_notInA (hu_of hr)) (j_var 3) (j_fld T.k_Table T.n_Table__rows (j_var 0)) (by rfl)) (jw_or1 (jt_cmp o_gtA (j_var 4) (j_ixA (hu_of hr) (j_ixA (hu_of hr) (j_fld T.k_Table T.n_Table__rows (j_var 0)) (j_var 3) (fun _ _ => rfl)) j_int (fun _ _ => rfl)) (nomark _))))) (jss_one (js_asg (j_var 2) (jg_ixA (hu_of hr) (j_fld T.k_Table T.n_Table__rows (j_var 0)) (j_var 3)))) jss_nil)))))) hw
theorem fn_Table_birth (T : Facts K mg w.params C_Table C_Mux) {k : Nat} {f : Addr} {fd : FuncData} {tl : List Addr}  {sp : WSp} (F : Fun K "birth" "Table.birth" st_Table_birth f fd) 
    (hw : ∀ ts S Q E, ts.length = 2 → sp ts S Q E → b_Table_birth K C_Table C_Mux  { nx := fun _ S' => Q .non S', rt := Q } (startT N_Table_birth ts) S) :
    FnOk P w K mg base CX0 (k + 1) f fd ["self", "bucket"] (Lsp tl K 2 sp) :=
  fnT F sc_Table_birth (fun cdv A outer s H E hr hcd ht => (jss_cons (js_if (jt_cmp (o_notInA (hu_of hr)) (j_var 1) (j_fld T.k_Table T.n_Table__rows (j_var 0)) (by rfl)) (jss_one (js_ret j_non)) jss_nil)
    (jss_one (js_ret (j_ixA (hu_of hr) (j_ixA (hu_of hr) (j_fld T.k_Table T.n_Table__rows (j_var 0)) (j_var 1) (fun _ _ => rfl)) j_int (fun _ _ => rfl)))))) hw
theorem fn_Table_rows (T : Facts K mg w.params C_Table C_Mux) {k : Nat} {f : Addr} {fd : FuncData} {tl : List Addr}  {sp : WSp} (F : Fun K "rows" "Table.rows" st_Table_rows f fd) 
    (hw : ∀ ts S Q E, ts.length = 1 → sp ts S Q E → b_Table_rows K C_Table C_Mux  { nx := fun _ S' => Q .non S', rt := Q } (startT N_Table_rows ts) S) :
    FnOk P w K mg base CX0 (k + 1) f fd ["self"] (Lsp tl K 1 sp) :=
  fnT F sc_Table_rows (fun cdv A outer s H E hr hcd ht => (jss_one (js_ret (j_callTy c_tup (by rfl) T.z_tuple (by rfl) (ja_cons (j_lc (own := [("bucket", 1)]) rfl sc_Table_rows.nd (ji_any (j_callB (c_sortD rfl) (by rfl) T.z_sorted (by rfl) (ja_cons (j_fld T.k_Table T.n_Table__rows (j_var 0)) ja_nil))) (blkOk_by (N := N_Table_rows) (sc := defScope st_Table_rows) (by decide +kernel)) (fun _ _ _ _ _ => (jg_name (i := 1) (vs := [1]) sc_Table_rows.nd rfl (by first | exact .inl rfl | exact .inr rfl) (by decide))) (fun _ _ _ _ _ => jts_nil) (fun _ _ _ _ _ => (j_ixA (hu_of hr) (j_fld T.k_Table T.n_Table__rows (j_var 0)) (j_var 1) (fun _ _ => rfl)))) ja_nil))))) hw
theorem fn_Table_forget (T : Facts K mg w.params C_Table C_Mux) {k : Nat} {f : Addr} {fd : FuncData} {tl : List Addr}  {sp : WSp} (F : Fun K "forget" "Table.forget" st_Table_forget f fd) 
    (hw : ∀ ts S Q E, ts.length = 1 → sp ts S Q E → b_Table_forget K C_Table C_Mux  { nx := fun _ S' => Q .non S', rt := Q } (startT N_Table_forget ts) S) :
    FnOk P w K mg base CX0 (k + 1) f fd ["self"] (Lsp tl K 1 sp) :=
  fnT F sc_Table_forget (fun cdv A outer s H E hr hcd ht => (jss_one (js_fset T.k_Table T.n_Table__rows (j_var 0) j_dnew))) hw
theorem fn_Mux_init (T : Facts K mg w.params C_Table C_Mux) {k : Nat} {f : Addr} {fd : FuncData} {tl : List Addr} {s_Table_init : WSp} {sp : WSp} (F : Fun K "__init__" "Mux.__init__" st_Mux_init f fd) (I_Table_init : CalI P w K mg base tl k C_Table "Table" ["self"] s_Table_init)
    (hw : ∀ ts S Q E, ts.length = 2 → sp ts S Q E → b_Mux_init K C_Table C_Mux s_Table_init { nx := fun _ S' => Q .non S', rt := Q } (startT N_Mux_init ts) S) :
    FnOk P w K mg base CX0 (k + 2) f fd ["self", "number"] (Lsp tl K 2 sp) :=
  fnT F sc_Mux_init (fun cdv A outer s H E hr1 hcd ht => have hr := Room.mono hr1 (Nat.le_succ k); (jss_cons (js_fset T.k_Mux T.n_Mux__number (j_var 0) (j_var 1))
    (jss_one (js_fset T.k_Mux T.n_Mux__table (j_var 0) (j_make0 I_Table_init ht hr1 (by rfl)))))) hw
theorem fn_Mux_receive (T : Facts K mg w.params C_Table C_Mux) {k : Nat} {f : Addr} {fd : FuncData} {tl : List Addr} {s_is_message s_Table_take s_Mux__pass_on : WSp} {sp : WSp} (F : Fun K "receive" "Mux.receive" st_Mux_receive f fd) (C_is_message : Cal P w K mg base tl k "is_message" ["address", "value"] s_is_message) (M_Table_take : CalM P w K mg base tl k C_Table "take" ["self", "rows"] s_Table_take) (M_Mux__pass_on : CalM P w K mg base tl k C_Mux "_pass_on" ["self", "packet"] s_Mux__pass_on)
    (hw : ∀ ts S Q E, ts.length = 2 → sp ts S Q E → b_Mux_receive K C_Table C_Mux s_is_message s_Table_take s_Mux__pass_on { nx := fun _ S' => Q .non S', rt := Q } (startT N_Mux_receive ts) S) :
    FnOk P w K mg base CX0 (k + 1) f fd ["self", "message"] (Lsp tl K 2 sp) :=
  fnT F sc_Mux_receive (fun cdv A outer s H E hr hcd ht => (jss_cons (js_if (jt_not (jt_val (j_c C_is_message ht hr (by rfl) (ja_cons (j_tup (ja_cons j_str (ja_cons (j_fld T.k_Mux T.n_Mux__number (j_var 0)) ja_nil))) (ja_cons (j_var 1) ja_nil))))) (jss_one (js_ret (j_lst ja_nil))) jss_nil)
    (jss_cons (js_if (jt_cmp (o_eq hr.units) (j_ixA (hu_of hr) (j_var 1) j_int (fun _ _ => rfl)) j_str (nomark _)) (jss_cons (js_expr (j_meth M_Table_take T.k_Table ht hr (j_fld T.k_Mux T.n_Mux__table (j_var 0)) (ja_cons (j_ixA (hu_of hr) (j_var 1) j_int (fun _ _ => rfl)) ja_nil)))
    (jss_one (js_ret (j_lst ja_nil)))) jss_nil)
    (jss_one (js_ret (j_meth M_Mux__pass_on T.k_Mux ht hr (j_var 0) (ja_cons (j_var 1) ja_nil))))))) hw
theorem fn_Mux_forget (T : Facts K mg w.params C_Table C_Mux) {k : Nat} {f : Addr} {fd : FuncData} {tl : List Addr} {s_Table_forget : WSp} {sp : WSp} (F : Fun K "forget" "Mux.forget" st_Mux_forget f fd) (M_Table_forget : CalM P w K mg base tl k C_Table "forget" ["self"] s_Table_forget)
    (hw : ∀ ts S Q E, ts.length = 1 → sp ts S Q E → b_Mux_forget K C_Table C_Mux s_Table_forget { nx := fun _ S' => Q .non S', rt := Q } (startT N_Mux_forget ts) S) :
    FnOk P w K mg base CX0 (k + 1) f fd ["self"] (Lsp tl K 1 sp) :=
  fnT F sc_Mux_forget (fun cdv A outer s H E hr hcd ht => (jss_one (js_expr (j_meth0 M_Table_forget T.k_Table ht hr (j_fld T.k_Mux T.n_Mux__table (j_var 0)))))) hw
theorem fn_Mux_rows (T : Facts K mg w.params C_Table C_Mux) {k : Nat} {f : Addr} {fd : FuncData} {tl : List Addr} {s_Table_rows : WSp} {sp : WSp} (F : Fun K "rows" "Mux.rows" st_Mux_rows f fd) (M_Table_rows : CalM P w K mg base tl k C_Table "rows" ["self"] s_Table_rows)
    (hw : ∀ ts S Q E, ts.length = 1 → sp ts S Q E → b_Mux_rows K C_Table C_Mux s_Table_rows { nx := fun _ S' => Q .non S', rt := Q } (startT N_Mux_rows ts) S) :
    FnOk P w K mg base CX0 (k + 1) f fd ["self"] (Lsp tl K 1 sp) :=
  fnT F sc_Mux_rows (fun cdv A outer s H E hr hcd ht => (jss_one (js_ret (j_meth0 M_Table_rows T.k_Table ht hr (j_fld T.k_Mux T.n_Mux__table (j_var 0)))))) hw
theorem fn_Mux__pass_on (T : Facts K mg w.params C_Table C_Mux) {k : Nat} {f : Addr} {fd : FuncData} {tl : List Addr} {s_bucket_of s_Table_birth : WSp} {sp : WSp} (F : Fun K "_pass_on" "Mux._pass_on" st_Mux__pass_on f fd) (C_bucket_of : Cal P w K mg base tl k "bucket_of" ["flow"] s_bucket_of) (M_Table_birth : CalM P w K mg base tl k C_Table "birth" ["self", "bucket"] s_Table_birth)
    (hw : ∀ ts S Q E, ts.length = 2 → sp ts S Q E → b_Mux__pass_on K C_Table C_Mux s_bucket_of s_Table_birth { nx := fun _ S' => Q .non S', rt := Q } (startT N_Mux__pass_on ts) S) :
    FnOk P w K mg base CX0 (k + 1) f fd ["self", "packet"] (Lsp tl K 2 sp) :=
  fnT F sc_Mux__pass_on (fun cdv A outer s H E hr hcd ht => (jss_cons (js_set (i := 2) sc_Mux__pass_on.nd rfl (by first | exact .inl rfl | exact .inr rfl) (j_c C_bucket_of ht hr (by rfl) (ja_cons (j_ixA (hu_of hr) (j_var 1) j_int (fun _ _ => rfl)) ja_nil)))
    (jss_cons (js_set (i := 3) sc_Mux__pass_on.nd rfl (by first | exact .inl rfl | exact .inr rfl) (j_meth M_Table_birth T.k_Table ht hr (j_fld T.k_Mux T.n_Mux__table (j_var 0)) (ja_cons (j_var 2) ja_nil)))
    (jss_cons (js_if (jt_cmp o_isN (j_var 3) j_non (nomark _)) (jss_one (js_ret (j_lst ja_nil))) jss_nil)
    (jss_one (js_ret (j_lst (ja_cons (j_tup (ja_cons (j_tup (ja_cons j_str (ja_cons (j_ixA (hu_of hr) (j_var 3) j_int (fun _ _ => rfl)) ja_nil))) (ja_cons (j_tup (ja_cons j_str (ja_cons (j_var 2) (ja_cons (j_cI (by rfl) T.c_MOST_HOPS) (ja_cons (j_var 1) ja_nil))))) ja_nil))) ja_nil)))))))) hw
theorem fn_is_integer (T : Facts K mg w.params C_Table C_Mux) {k : Nat} {f : Addr} {fd : FuncData} {tl : List Addr}  {sp : WSp} (F : Fun K "is_integer" "is_integer" st_is_integer f fd) 
    (hw : ∀ ts S Q E, ts.length = 3 → sp ts S Q E → b_is_integer K C_Table C_Mux  { nx := fun _ S' => Q .non S', rt := Q } (startT N_is_integer ts) S) :
    FnOk P w K mg base CX0 (k + 1) f fd ["value", "least", "greatest"] (Lsp tl K 3 sp) :=
  fnT F sc_is_integer (fun cdv A outer s H E hr hcd ht => (jss_one (js_ret (j_and (j_isi (cs := "int") (by rfl) T.z_isinstance (by rfl) (j_var 0) (by rfl) T.z_int (by rfl) (by decide)) (j_and (j_not (j_isi (cs := "bool") (by rfl) T.z_isinstance (by rfl) (j_var 0) (by rfl) T.z_bool (by rfl) (by decide))) (j_one (j_chain o_le o_le (j_var 1) (j_var 0) (j_var 2)))))))) hw
theorem fn_is_bytes (T : Facts K mg w.params C_Table C_Mux) {k : Nat} {f : Addr} {fd : FuncData} {tl : List Addr} {s_is_integer : WSp} {sp : WSp} (F : Fun K "is_bytes" "is_bytes" st_is_bytes f fd) {cT PT : Addr} (t1 : Tab1 base mg tl fd cT PT) (C_is_integer : Cal P w K mg base tl k "is_integer" ["value", "least", "greatest"] s_is_integer)
    (hw : ∀ ts S Q E, ts.length = 1 → sp ts S Q E → b_is_bytes K C_Table C_Mux s_is_integer { nx := fun _ S' => Q .non S', rt := Q } (startT N_is_bytes ts) S) :
    FnOk P w K mg base CX0 (k + 2) f fd ["value"] (Lsp tl K 1 sp) :=
  fnT F sc_is_bytes (fun cdv A outer s H E hr1 hcd ht => have hr := Room.mono hr1 (Nat.le_succ k); (jss_one (js_ret (j_and (j_isi (cs := "tuple") (by rfl) T.z_isinstance (by rfl) (j_var 0) (by rfl) T.z_tuple (by rfl) (by decide)) (j_one (j_all (own := [("item", 1)]) hr1 t1 hcd ht rfl sc_is_bytes.nd (blkOk_by (N := N_is_bytes) (sc := defScope st_is_bytes) (by decide +kernel)) (by decide +kernel) (ji_any (j_var 0)) (fun _ => rfl) (fun _ _ _ _ _ _ _ hr => (jg_name (i := 1) (vs := [1]) sc_is_bytes.nd rfl (by first | exact .inl rfl | exact .inr rfl) (by decide))) (fun _ _ _ _ _ _ _ hr => (j_c C_is_integer ht hr (by rfl) (ja_cons (j_var 1) (ja_cons j_int (ja_cons j_int ja_nil))))) (by rfl) T.z_all)))))) hw
theorem fn_is_flow (T : Facts K mg w.params C_Table C_Mux) {k : Nat} {f : Addr} {fd : FuncData} {tl : List Addr} {s__is_tuple s__is_below s__is_ordinal : WSp} {sp : WSp} (F : Fun K "is_flow" "is_flow" st_is_flow f fd) (C__is_tuple : Cal P w K mg base tl k "_is_tuple" ["value", "many"] s__is_tuple) (C__is_below : Cal P w K mg base tl k "_is_below" ["value", "many"] s__is_below) (C__is_ordinal : Cal P w K mg base tl k "_is_ordinal" ["value"] s__is_ordinal)
    (hw : ∀ ts S Q E, ts.length = 1 → sp ts S Q E → b_is_flow K C_Table C_Mux s__is_tuple s__is_below s__is_ordinal { nx := fun _ S' => Q .non S', rt := Q } (startT N_is_flow ts) S) :
    FnOk P w K mg base CX0 (k + 1) f fd ["value"] (Lsp tl K 1 sp) :=
  fnT F sc_is_flow (fun cdv A outer s H E hr hcd ht => (jss_one (js_ret (j_and (j_c C__is_tuple ht hr (by rfl) (ja_cons (j_var 0) (ja_cons j_int ja_nil))) (j_and (j_c C__is_below ht hr (by rfl) (ja_cons (j_ixA (hu_of hr) (j_var 0) j_int (fun _ _ => rfl)) (ja_cons (j_cI (by rfl) T.c_MOST_CLIENTS) ja_nil))) (j_one (j_c C__is_ordinal ht hr (by rfl) (ja_cons (j_ixA (hu_of hr) (j_var 0) j_int (fun _ _ => rfl)) ja_nil)))))))) hw
theorem fn_is_birth (T : Facts K mg w.params C_Table C_Mux) {k : Nat} {f : Addr} {fd : FuncData} {tl : List Addr} {s__is_tuple s__is_below s__is_ordinal : WSp} {sp : WSp} (F : Fun K "is_birth" "is_birth" st_is_birth f fd) (C__is_tuple : Cal P w K mg base tl k "_is_tuple" ["value", "many"] s__is_tuple) (C__is_below : Cal P w K mg base tl k "_is_below" ["value", "many"] s__is_below) (C__is_ordinal : Cal P w K mg base tl k "_is_ordinal" ["value"] s__is_ordinal)
    (hw : ∀ ts S Q E, ts.length = 1 → sp ts S Q E → b_is_birth K C_Table C_Mux s__is_tuple s__is_below s__is_ordinal { nx := fun _ S' => Q .non S', rt := Q } (startT N_is_birth ts) S) :
    FnOk P w K mg base CX0 (k + 1) f fd ["value"] (Lsp tl K 1 sp) :=
  fnT F sc_is_birth (fun cdv A outer s H E hr hcd ht => (jss_one (js_ret (j_and (j_c C__is_tuple ht hr (by rfl) (ja_cons (j_var 0) (ja_cons j_int ja_nil))) (j_and (j_c C__is_below ht hr (by rfl) (ja_cons (j_ixA (hu_of hr) (j_var 0) j_int (fun _ _ => rfl)) (ja_cons (j_cI (by rfl) T.c_MOST_AGENTS) ja_nil))) (j_one (j_c C__is_ordinal ht hr (by rfl) (ja_cons (j_ixA (hu_of hr) (j_var 0) j_int (fun _ _ => rfl)) ja_nil)))))))) hw
theorem fn_is_life (T : Facts K mg w.params C_Table C_Mux) {k : Nat} {f : Addr} {fd : FuncData} {tl : List Addr} {s__is_tuple s_is_birth s__is_ordinal : WSp} {sp : WSp} (F : Fun K "is_life" "is_life" st_is_life f fd) (C__is_tuple : Cal P w K mg base tl k "_is_tuple" ["value", "many"] s__is_tuple) (C_is_birth : Cal P w K mg base tl k "is_birth" ["value"] s_is_birth) (C__is_ordinal : Cal P w K mg base tl k "_is_ordinal" ["value"] s__is_ordinal)
    (hw : ∀ ts S Q E, ts.length = 1 → sp ts S Q E → b_is_life K C_Table C_Mux s__is_tuple s_is_birth s__is_ordinal { nx := fun _ S' => Q .non S', rt := Q } (startT N_is_life ts) S) :
    FnOk P w K mg base CX0 (k + 1) f fd ["value"] (Lsp tl K 1 sp) :=
  fnT F sc_is_life (fun cdv A outer s H E hr hcd ht => (jss_one (js_ret (j_and (j_c C__is_tuple ht hr (by rfl) (ja_cons (j_var 0) (ja_cons j_int ja_nil))) (j_and (j_c C_is_birth ht hr (by rfl) (ja_cons (j_slice (j_var 0) jo_none (jo_some j_int)) ja_nil)) (j_one (j_c C__is_ordinal ht hr (by rfl) (ja_cons (j_ixA (hu_of hr) (j_var 0) j_int (fun _ _ => rfl)) ja_nil)))))))) hw
theorem fn_is_packet (T : Facts K mg w.params C_Table C_Mux) {k : Nat} {f : Addr} {fd : FuncData} {tl : List Addr} {s_first_word s_is_flow s_is_life s__is_segment : WSp} {sp : WSp} (F : Fun K "is_packet" "is_packet" st_is_packet f fd) (C_first_word : Cal P w K mg base tl k "first_word" ["value"] s_first_word) (C_is_flow : Cal P w K mg base tl k "is_flow" ["value"] s_is_flow) (C_is_life : Cal P w K mg base tl k "is_life" ["value"] s_is_life) (C__is_segment : Cal P w K mg base tl k "_is_segment" ["parts"] s__is_segment)
    (hw : ∀ ts S Q E, ts.length = 1 → sp ts S Q E → b_is_packet K C_Table C_Mux s_first_word s_is_flow s_is_life s__is_segment { nx := fun _ S' => Q .non S', rt := Q } (startT N_is_packet ts) S) :
    FnOk P w K mg base CX0 (k + 1) f fd ["value"] (Lsp tl K 1 sp) :=
  fnT F sc_is_packet (fun cdv A outer s H E hr hcd ht => (jss_cons (js_set (i := 1) sc_is_packet.nd rfl (by first | exact .inl rfl | exact .inr rfl) (j_c C_first_word ht hr (by rfl) (ja_cons (j_var 0) ja_nil)))
    (jss_cons (js_if (jt_cmp (o_eq hr.units) (j_var 1) j_str (nomark _)) (jss_one (js_ret (j_and (j_cmp (o_eq hr.units) (j_callB c_lenA (by rfl) T.z_len PySem.boot_len (ja_cons (j_var 0) ja_nil)) j_int (nomark _)) (j_one (j_c C_is_flow ht hr (by rfl) (ja_cons (j_ixA (hu_of hr) (j_var 0) j_int (fun _ _ => rfl)) ja_nil)))))) jss_nil)
    (jss_cons (js_if (jt_cmp (o_inA (hu_of hr)) (j_var 1) (j_tup (ja_cons j_str (ja_cons j_str (ja_cons j_str ja_nil)))) (by rfl)) (jss_one (js_ret (j_and (j_cmp (o_eq hr.units) (j_callB c_lenA (by rfl) T.z_len PySem.boot_len (ja_cons (j_var 0) ja_nil)) j_int (nomark _)) (j_and (j_c C_is_flow ht hr (by rfl) (ja_cons (j_ixA (hu_of hr) (j_var 0) j_int (fun _ _ => rfl)) ja_nil)) (j_one (j_c C_is_life ht hr (by rfl) (ja_cons (j_ixA (hu_of hr) (j_var 0) j_int (fun _ _ => rfl)) ja_nil))))))) jss_nil)
    (jss_cons (js_if (jt_cmp (o_inA (hu_of hr)) (j_var 1) (j_tup (ja_cons j_str (ja_cons j_str ja_nil))) (by rfl)) (jss_one (js_ret (j_and (j_cmp (o_eq hr.units) (j_callB c_lenA (by rfl) T.z_len PySem.boot_len (ja_cons (j_var 0) ja_nil)) j_int (nomark _)) (j_and (j_c C_is_flow ht hr (by rfl) (ja_cons (j_ixA (hu_of hr) (j_var 0) j_int (fun _ _ => rfl)) ja_nil)) (j_and (j_c C_is_life ht hr (by rfl) (ja_cons (j_ixA (hu_of hr) (j_var 0) j_int (fun _ _ => rfl)) ja_nil)) (j_one (j_c C__is_segment ht hr (by rfl) (ja_cons (j_slice (j_var 0) (jo_some j_int) jo_none) ja_nil)))))))) jss_nil)
    (jss_one (js_ret j_bl))))))) hw
theorem fn_goes_up (T : Facts K mg w.params C_Table C_Mux) {k : Nat} {f : Addr} {fd : FuncData} {tl : List Addr}  {sp : WSp} (F : Fun K "goes_up" "goes_up" st_goes_up f fd) 
    (hw : ∀ ts S Q E, ts.length = 1 → sp ts S Q E → b_goes_up K C_Table C_Mux  { nx := fun _ S' => Q .non S', rt := Q } (startT N_goes_up ts) S) :
    FnOk P w K mg base CX0 (k + 1) f fd ["packet"] (Lsp tl K 1 sp) :=
  fnT F sc_goes_up (fun cdv A outer s H E hr hcd ht => (jss_one (js_ret (j_cmp (o_inA (hu_of hr)) (j_ixA (hu_of hr) (j_var 0) j_int (fun _ _ => rfl)) (j_tup (ja_cons j_str (ja_cons j_str (ja_cons j_str ja_nil)))) (by rfl))))) hw
theorem fn_bucket_of (T : Facts K mg w.params C_Table C_Mux) {k : Nat} {f : Addr} {fd : FuncData} {tl : List Addr}  {sp : WSp} (F : Fun K "bucket_of" "bucket_of" st_bucket_of f fd) 
    (hw : ∀ ts S Q E, ts.length = 1 → sp ts S Q E → b_bucket_of K C_Table C_Mux  { nx := fun _ S' => Q .non S', rt := Q } (startT N_bucket_of ts) S) :
    FnOk P w K mg base CX0 (k + 1) f fd ["flow"] (Lsp tl K 1 sp) :=
  fnT F sc_bucket_of (fun cdv A outer s H E hr hcd ht => (jss_cons (js_asg (j_var 0) (JG.two (jg_tup rfl (jgs_cons (jg_name (i := 1) (vs := [1, 2]) sc_bucket_of.nd rfl (by first | exact .inl rfl | exact .inr rfl) (by decide)) (jgs_cons (jg_name (i := 2) (vs := [1, 2]) sc_bucket_of.nd rfl (by first | exact .inl rfl | exact .inr rfl) (by decide)) jgs_nil)))))
    (jss_one (js_ret (j_op o_mod (j_op o_add (j_op o_mul j_int (j_var 2)) (j_op o_mul j_int (j_var 1))) (j_cI (by rfl) T.c_BUCKETS)))))) hw
theorem fn_first_word (T : Facts K mg w.params C_Table C_Mux) {k : Nat} {f : Addr} {fd : FuncData} {tl : List Addr}  {sp : WSp} (F : Fun K "first_word" "first_word" st_first_word f fd) 
    (hw : ∀ ts S Q E, ts.length = 1 → sp ts S Q E → b_first_word K C_Table C_Mux  { nx := fun _ S' => Q .non S', rt := Q } (startT N_first_word ts) S) :
    FnOk P w K mg base CX0 (k + 1) f fd ["value"] (Lsp tl K 1 sp) :=
  fnT F sc_first_word (fun cdv A outer s H E hr hcd ht => (jss_cons (js_if (JW.jt (jw_and (jt_val (j_isi (cs := "tuple") (by rfl) T.z_isinstance (by rfl) (j_var 0) (by rfl) T.z_tuple (by rfl) (by decide))) (jw_and (jt_cmp o_gtA (j_callB c_lenA (by rfl) T.z_len PySem.boot_len (ja_cons (j_var 0) ja_nil)) j_int (nomark _)) (jw_and1 (jt_val (j_isi (cs := "str") (by rfl) T.z_isinstance (by rfl) (j_ixA (hu_of hr) (j_var 0) j_int (fun _ _ => rfl)) (by rfl) T.z_str (by rfl) (by decide))))))) (jss_one (js_ret (j_ixA (hu_of hr) (j_var 0) j_int (fun _ _ => rfl)))) jss_nil)
    (jss_one (js_ret j_non)))) hw
theorem fn__is_tuple (T : Facts K mg w.params C_Table C_Mux) {k : Nat} {f : Addr} {fd : FuncData} {tl : List Addr}  {sp : WSp} (F : Fun K "_is_tuple" "_is_tuple" st__is_tuple f fd) 
    (hw : ∀ ts S Q E, ts.length = 2 → sp ts S Q E → b__is_tuple K C_Table C_Mux  { nx := fun _ S' => Q .non S', rt := Q } (startT N__is_tuple ts) S) :
    FnOk P w K mg base CX0 (k + 1) f fd ["value", "many"] (Lsp tl K 2 sp) :=
  fnT F sc__is_tuple (fun cdv A outer s H E hr hcd ht => (jss_one (js_ret (j_and (j_isi (cs := "tuple") (by rfl) T.z_isinstance (by rfl) (j_var 0) (by rfl) T.z_tuple (by rfl) (by decide)) (j_one (j_cmp (o_eq hr.units) (j_callB c_lenA (by rfl) T.z_len PySem.boot_len (ja_cons (j_var 0) ja_nil)) (j_var 1) (nomark _))))))) hw
theorem fn__is_below (T : Facts K mg w.params C_Table C_Mux) {k : Nat} {f : Addr} {fd : FuncData} {tl : List Addr} {s_is_integer : WSp} {sp : WSp} (F : Fun K "_is_below" "_is_below" st__is_below f fd) (C_is_integer : Cal P w K mg base tl k "is_integer" ["value", "least", "greatest"] s_is_integer)
    (hw : ∀ ts S Q E, ts.length = 2 → sp ts S Q E → b__is_below K C_Table C_Mux s_is_integer { nx := fun _ S' => Q .non S', rt := Q } (startT N__is_below ts) S) :
    FnOk P w K mg base CX0 (k + 1) f fd ["value", "many"] (Lsp tl K 2 sp) :=
  fnT F sc__is_below (fun cdv A outer s H E hr hcd ht => (jss_one (js_ret (j_c C_is_integer ht hr (by rfl) (ja_cons (j_var 0) (ja_cons j_int (ja_cons (j_op o_sub (j_var 1) j_int) ja_nil))))))) hw
theorem fn__is_ordinal (T : Facts K mg w.params C_Table C_Mux) {k : Nat} {f : Addr} {fd : FuncData} {tl : List Addr} {s_is_integer : WSp} {sp : WSp} (F : Fun K "_is_ordinal" "_is_ordinal" st__is_ordinal f fd) (C_is_integer : Cal P w K mg base tl k "is_integer" ["value", "least", "greatest"] s_is_integer)
    (hw : ∀ ts S Q E, ts.length = 1 → sp ts S Q E → b__is_ordinal K C_Table C_Mux s_is_integer { nx := fun _ S' => Q .non S', rt := Q } (startT N__is_ordinal ts) S) :
    FnOk P w K mg base CX0 (k + 1) f fd ["value"] (Lsp tl K 1 sp) :=
  fnT F sc__is_ordinal (fun cdv A outer s H E hr hcd ht => (jss_one (js_ret (j_c C_is_integer ht hr (by rfl) (ja_cons (j_var 0) (ja_cons j_int (ja_cons (j_cI (by rfl) T.c_MOST_COUNT) ja_nil))))))) hw
theorem fn__is_segment (T : Facts K mg w.params C_Table C_Mux) {k : Nat} {f : Addr} {fd : FuncData} {tl : List Addr} {s_is_integer s_is_bytes : WSp} {sp : WSp} (F : Fun K "_is_segment" "_is_segment" st__is_segment f fd) (C_is_integer : Cal P w K mg base tl k "is_integer" ["value", "least", "greatest"] s_is_integer) (C_is_bytes : Cal P w K mg base tl k "is_bytes" ["value"] s_is_bytes)
    (hw : ∀ ts S Q E, ts.length = 1 → sp ts S Q E → b__is_segment K C_Table C_Mux s_is_integer s_is_bytes { nx := fun _ S' => Q .non S', rt := Q } (startT N__is_segment ts) S) :
    FnOk P w K mg base CX0 (k + 1) f fd ["parts"] (Lsp tl K 1 sp) :=
  fnT F sc__is_segment (fun cdv A outer s H E hr hcd ht => (jss_cons (js_asg (j_var 0) (JG.two (jg_tup rfl (jgs_cons (jg_name (i := 1) (vs := [1, 2, 3, 4]) sc__is_segment.nd rfl (by first | exact .inl rfl | exact .inr rfl) (by decide)) (jgs_cons (jg_name (i := 2) (vs := [1, 2, 3, 4]) sc__is_segment.nd rfl (by first | exact .inl rfl | exact .inr rfl) (by decide)) (jgs_cons (jg_name (i := 3) (vs := [1, 2, 3, 4]) sc__is_segment.nd rfl (by first | exact .inl rfl | exact .inr rfl) (by decide)) (jgs_cons (jg_name (i := 4) (vs := [1, 2, 3, 4]) sc__is_segment.nd rfl (by first | exact .inl rfl | exact .inr rfl) (by decide)) jgs_nil)))))))
    (jss_cons (js_if (JW.jt (jw_or (jt_not (jt_val (j_c C_is_integer ht hr (by rfl) (ja_cons (j_var 1) (ja_cons j_int (ja_cons (j_cI (by rfl) T.c_MOST_STREAM) ja_nil)))))) (jw_or1 (jt_not (jt_val (j_c C_is_integer ht hr (by rfl) (ja_cons (j_var 3) (ja_cons j_int (ja_cons j_int ja_nil))))))))) (jss_one (js_ret j_bl)) jss_nil)
    (jss_one (js_ret (j_and (j_c C_is_bytes ht hr (by rfl) (ja_cons (j_var 2) ja_nil)) (j_and (j_cmp o_le (j_callB c_lenA (by rfl) T.z_len PySem.boot_len (ja_cons (j_var 2) ja_nil)) (j_cI (by rfl) T.c_MOST_DATA) (nomark _)) (j_one (j_c C_is_integer ht hr (by rfl) (ja_cons (j_var 4) (ja_cons j_int (ja_cons (j_op o_add (j_cI (by rfl) T.c_MOST_STREAM) j_int) ja_nil)))))))))))) hw
theorem fn_can_be_written (T : Facts K mg w.params C_Table C_Mux) {k : Nat} {f : Addr} {fd : FuncData} {tl : List Addr} {s__can_stand : WSp} {sp : WSp} (F : Fun K "can_be_written" "can_be_written" st_can_be_written f fd) (C__can_stand : Cal P w K mg base tl k "_can_stand" ["value", "levels"] s__can_stand)
    (hw : ∀ ts S Q E, ts.length = 1 → sp ts S Q E → b_can_be_written K C_Table C_Mux s__can_stand { nx := fun _ S' => Q .non S', rt := Q } (startT N_can_be_written ts) S) :
    FnOk P w K mg base CX0 (k + 1) f fd ["value"] (Lsp tl K 1 sp) :=
  fnT F sc_can_be_written (fun cdv A outer s H E hr hcd ht => (jss_one (js_ret (j_c C__can_stand ht hr (by rfl) (ja_cons (j_var 0) (ja_cons (j_cI (by rfl) T.c_MOST_NESTED) ja_nil)))))) hw
theorem fn__can_stand (T : Facts K mg w.params C_Table C_Mux) {k : Nat} {f : Addr} {fd : FuncData} {tl : List Addr} {s__can_stand s_is_integer s__is_word : WSp} {sp : WSp} (F : Fun K "_can_stand" "_can_stand" st__can_stand f fd) {cT PT : Addr} (t1 : Tab1 base mg tl fd cT PT) (C__can_stand : Cal P w K mg base tl k "_can_stand" ["value", "levels"] s__can_stand) (C_is_integer : Cal P w K mg base tl k "is_integer" ["value", "least", "greatest"] s_is_integer) (C__is_word : Cal P w K mg base tl k "_is_word" ["value"] s__is_word)
    (hw : ∀ ts S Q E, ts.length = 2 → sp ts S Q E → b__can_stand K C_Table C_Mux s__can_stand s_is_integer s__is_word { nx := fun _ S' => Q .non S', rt := Q } (startT N__can_stand ts) S) :
    FnOk P w K mg base CX0 (k + 2) f fd ["value", "levels"] (Lsp tl K 2 sp) :=
  fnT F sc__can_stand (fun cdv A outer s H E hr1 hcd ht => have hr := Room.mono hr1 (Nat.le_succ k); (jss_cons (js_if (jt_val (j_isi (cs := "tuple") (by rfl) T.z_isinstance (by rfl) (j_var 0) (by rfl) T.z_tuple (by rfl) (by decide))) (jss_one (js_ret (j_and (j_cmp o_gtA (j_var 1) j_int (nomark _)) (j_one (j_all (own := [("item", 2)]) hr1 t1 hcd ht rfl sc__can_stand.nd (blkOk_by (N := N__can_stand) (sc := defScope st__can_stand) (by decide +kernel)) (by decide +kernel) (ji_any (j_var 0)) (fun _ => rfl) (fun _ _ _ _ _ _ _ hr => (jg_name (i := 2) (vs := [2]) sc__can_stand.nd rfl (by first | exact .inl rfl | exact .inr rfl) (by decide))) (fun _ _ _ _ _ _ _ hr => (j_c C__can_stand ht hr (by rfl) (ja_cons (j_var 2) (ja_cons (j_op o_sub (j_var 1) j_int) ja_nil)))) (by rfl) T.z_all))))) jss_nil)
    (jss_one (js_ret (j_or (j_cmp o_isN (j_var 0) j_non (nomark _)) (j_or (j_c C_is_integer ht hr (by rfl) (ja_cons (j_var 0) (ja_cons j_int (ja_cons (j_cI (by rfl) T.c_MOST_INTEGER) ja_nil)))) (j_one (j_c C__is_word ht hr (by rfl) (ja_cons (j_var 0) ja_nil))))))))) hw
theorem fn__is_word (T : Facts K mg w.params C_Table C_Mux) {k : Nat} {f : Addr} {fd : FuncData} {tl : List Addr}  {sp : WSp} (F : Fun K "_is_word" "_is_word" st__is_word f fd) {cT PT : Addr} (t1 : Tab1 base mg tl fd cT PT) 
    (hw : ∀ ts S Q E, ts.length = 1 → sp ts S Q E → b__is_word K C_Table C_Mux  { nx := fun _ S' => Q .non S', rt := Q } (startT N__is_word ts) S) :
    FnOk P w K mg base CX0 (k + 2) f fd ["value"] (Lsp tl K 1 sp) :=
  fnT F sc__is_word (fun cdv A outer s H E hr1 hcd ht => have hr := Room.mono hr1 (Nat.le_succ k); (jss_cons (js_if (JW.jt (jw_or (jt_not (jt_val (j_isi (cs := "str") (by rfl) T.z_isinstance (by rfl) (j_var 0) (by rfl) T.z_str (by rfl) (by decide)))) (jw_or1 (jt_not (jt_chain o_le o_le j_int (j_callB c_lenA (by rfl) T.z_len PySem.boot_len (ja_cons (j_var 0) ja_nil)) (j_cI (by rfl) T.c_MOST_WORD)))))) (jss_one (js_ret j_bl)) jss_nil)
    (jss_one (js_ret (j_all (own := [("letter", 1)]) hr1 t1 hcd ht rfl sc__is_word.nd (blkOk_by (N := N__is_word) (sc := defScope st__is_word) (by decide +kernel)) (by decide +kernel) (ji_any (j_var 0)) (fun _ => rfl) (fun _ _ _ _ _ _ _ hr => (jg_name (i := 1) (vs := [1]) sc__is_word.nd rfl (by first | exact .inl rfl | exact .inr rfl) (by decide))) (fun _ _ _ _ _ _ _ hr => (j_chain o_le o_le j_str (j_var 1) j_str)) (by rfl) T.z_all))))) hw
theorem fn_is_message (T : Facts K mg w.params C_Table C_Mux) {k : Nat} {f : Addr} {fd : FuncData} {tl : List Addr} {s_first_word s_is_packet s_goes_up s__is_packet_up s__has_parts s__is_wrap : WSp} {sp : WSp} (F : Fun K "is_message" "is_message" st_is_message f fd) (C_first_word : Cal P w K mg base tl k "first_word" ["value"] s_first_word) (C_is_packet : Cal P w K mg base tl k "is_packet" ["value"] s_is_packet) (C_goes_up : Cal P w K mg base tl k "goes_up" ["packet"] s_goes_up) (C__is_packet_up : Cal P w K mg base tl k "_is_packet_up" ["value"] s__is_packet_up) (C__has_parts : Cal P w K mg base tl k "_has_parts" ["kinds", "value"] s__has_parts) (C__is_wrap : Cal P w K mg base tl k "_is_wrap" ["value"] s__is_wrap)
    (hw : ∀ ts S Q E, ts.length = 2 → sp ts S Q E → b_is_message K C_Table C_Mux s_first_word s_is_packet s_goes_up s__is_packet_up s__has_parts s__is_wrap { nx := fun _ S' => Q .non S', rt := Q } (startT N_is_message ts) S) :
    FnOk P w K mg base CX0 (k + 1) f fd ["address", "value"] (Lsp tl K 2 sp) :=
  fnT F sc_is_message (fun cdv A outer s H E hr hcd ht => (jss_cons (js_set (i := 2) sc_is_message.nd rfl (by first | exact .inl rfl | exact .inr rfl) (j_ixA (hu_of hr) (j_var 0) j_int (fun _ _ => rfl)))
    (jss_cons (js_set (i := 3) sc_is_message.nd rfl (by first | exact .inl rfl | exact .inr rfl) (j_c C_first_word ht hr (by rfl) (ja_cons (j_var 1) ja_nil)))
    (jss_cons (js_if (jt_cmp (o_eq hr.units) (j_var 2) j_str (nomark _)) (jss_one (js_ret (j_and (j_c C_is_packet ht hr (by rfl) (ja_cons (j_var 1) ja_nil)) (j_and (j_not (j_c C_goes_up ht hr (by rfl) (ja_cons (j_var 1) ja_nil))) (j_one (j_cmp (o_eq hr.units) (j_ixA (hu_of hr) (j_ixA (hu_of hr) (j_var 1) j_int (fun _ _ => rfl)) j_int (fun _ _ => rfl)) (j_ixA (hu_of hr) (j_var 0) j_int (fun _ _ => rfl)) (nomark _))))))) jss_nil)
    (jss_cons (js_if (jt_cmp (o_eq hr.units) (j_var 2) j_str (nomark _)) (jss_one (js_ret (j_or (j_c C__is_packet_up ht hr (by rfl) (ja_cons (j_var 1) ja_nil)) (j_one (j_c C__has_parts ht hr (by rfl) (ja_cons (j_kget T.w_TO_MUX (by rfl) (j_var 3)) (ja_cons (j_var 1) ja_nil))))))) jss_nil)
    (jss_cons (js_if (jt_cmp (o_eq hr.units) (j_var 2) j_str (nomark _)) (jss_one (js_ret (j_or (j_c C__is_wrap ht hr (by rfl) (ja_cons (j_var 1) ja_nil)) (j_one (j_c C__has_parts ht hr (by rfl) (ja_cons (j_kget T.w_TO_AGENT (by rfl) (j_var 3)) (ja_cons (j_var 1) ja_nil))))))) jss_nil)
    (jss_one (js_ret (j_c C__has_parts ht hr (by rfl) (ja_cons (j_kget T.w_TO_CONTROLLER (by rfl) (j_var 3)) (ja_cons (j_var 1) ja_nil))))))))))) hw
theorem fn__is_packet_up (T : Facts K mg w.params C_Table C_Mux) {k : Nat} {f : Addr} {fd : FuncData} {tl : List Addr} {s_is_packet s_goes_up : WSp} {sp : WSp} (F : Fun K "_is_packet_up" "_is_packet_up" st__is_packet_up f fd) (C_is_packet : Cal P w K mg base tl k "is_packet" ["value"] s_is_packet) (C_goes_up : Cal P w K mg base tl k "goes_up" ["packet"] s_goes_up)
    (hw : ∀ ts S Q E, ts.length = 1 → sp ts S Q E → b__is_packet_up K C_Table C_Mux s_is_packet s_goes_up { nx := fun _ S' => Q .non S', rt := Q } (startT N__is_packet_up ts) S) :
    FnOk P w K mg base CX0 (k + 1) f fd ["value"] (Lsp tl K 1 sp) :=
  fnT F sc__is_packet_up (fun cdv A outer s H E hr hcd ht => (jss_one (js_ret (j_and (j_c C_is_packet ht hr (by rfl) (ja_cons (j_var 0) ja_nil)) (j_one (j_c C_goes_up ht hr (by rfl) (ja_cons (j_var 0) ja_nil))))))) hw
theorem fn__is_wrap (T : Facts K mg w.params C_Table C_Mux) {k : Nat} {f : Addr} {fd : FuncData} {tl : List Addr} {s_first_word s__is_part s_is_integer s__is_packet_up s_bucket_of : WSp} {sp : WSp} (F : Fun K "_is_wrap" "_is_wrap" st__is_wrap f fd) (C_first_word : Cal P w K mg base tl k "first_word" ["value"] s_first_word) (C__is_part : Cal P w K mg base tl k "_is_part" ["kind", "value"] s__is_part) (C_is_integer : Cal P w K mg base tl k "is_integer" ["value", "least", "greatest"] s_is_integer) (C__is_packet_up : Cal P w K mg base tl k "_is_packet_up" ["value"] s__is_packet_up) (C_bucket_of : Cal P w K mg base tl k "bucket_of" ["flow"] s_bucket_of)
    (hw : ∀ ts S Q E, ts.length = 1 → sp ts S Q E → b__is_wrap K C_Table C_Mux s_first_word s__is_part s_is_integer s__is_packet_up s_bucket_of { nx := fun _ S' => Q .non S', rt := Q } (startT N__is_wrap ts) S) :
    FnOk P w K mg base CX0 (k + 1) f fd ["value"] (Lsp tl K 1 sp) :=
  fnT F sc__is_wrap (fun cdv A outer s H E hr hcd ht => (jss_cons (js_if (JW.jt (jw_or (jt_cmp (o_ne hr.units) (j_c C_first_word ht hr (by rfl) (ja_cons (j_var 0) ja_nil)) j_str (nomark _)) (jw_or1 (jt_cmp (o_ne hr.units) (j_callB c_lenA (by rfl) T.z_len PySem.boot_len (ja_cons (j_var 0) ja_nil)) j_int (nomark _))))) (jss_one (js_ret j_bl)) jss_nil)
    (jss_cons (js_asg (j_var 0) (JG.two (jg_tup rfl (jgs_cons (jg_name (i := 1) (vs := [1, 2, 3, 4]) sc__is_wrap.nd rfl (by first | exact .inl rfl | exact .inr rfl) (by decide)) (jgs_cons (jg_name (i := 2) (vs := [1, 2, 3, 4]) sc__is_wrap.nd rfl (by first | exact .inl rfl | exact .inr rfl) (by decide)) (jgs_cons (jg_name (i := 3) (vs := [1, 2, 3, 4]) sc__is_wrap.nd rfl (by first | exact .inl rfl | exact .inr rfl) (by decide)) (jgs_cons (jg_name (i := 4) (vs := [1, 2, 3, 4]) sc__is_wrap.nd rfl (by first | exact .inl rfl | exact .inr rfl) (by decide)) jgs_nil)))))))
    (jss_cons (js_if (JW.jt (jw_or (jt_not (jt_val (j_c C__is_part ht hr (by rfl) (ja_cons j_str (ja_cons (j_var 2) ja_nil))))) (jw_or1 (jt_not (jt_val (j_c C_is_integer ht hr (by rfl) (ja_cons (j_var 3) (ja_cons j_int (ja_cons (j_cI (by rfl) T.c_MOST_HOPS) ja_nil))))))))) (jss_one (js_ret j_bl)) jss_nil)
    (jss_one (js_ret (j_and (j_c C__is_packet_up ht hr (by rfl) (ja_cons (j_var 4) ja_nil)) (j_one (j_cmp (o_eq hr.units) (j_var 2) (j_c C_bucket_of ht hr (by rfl) (ja_cons (j_ixA (hu_of hr) (j_var 4) j_int (fun _ _ => rfl)) ja_nil)) (nomark _)))))))))) hw
theorem fn__has_parts (T : Facts K mg w.params C_Table C_Mux) {k : Nat} {f : Addr} {fd : FuncData} {tl : List Addr} {s__are_parts : WSp} {sp : WSp} (F : Fun K "_has_parts" "_has_parts" st__has_parts f fd) (C__are_parts : Cal P w K mg base tl k "_are_parts" ["kinds", "parts"] s__are_parts)
    (hw : ∀ ts S Q E, ts.length = 2 → sp ts S Q E → b__has_parts K C_Table C_Mux s__are_parts { nx := fun _ S' => Q .non S', rt := Q } (startT N__has_parts ts) S) :
    FnOk P w K mg base CX0 (k + 1) f fd ["kinds", "value"] (Lsp tl K 2 sp) :=
  fnT F sc__has_parts (fun cdv A outer s H E hr hcd ht => (jss_one (js_ret (j_and (j_cmp o_notN (j_var 0) j_non (nomark _)) (j_one (j_c C__are_parts ht hr (by rfl) (ja_cons (j_var 0) (ja_cons (j_slice (j_var 1) (jo_some j_int) jo_none) ja_nil)))))))) hw
theorem fn__are_parts (T : Facts K mg w.params C_Table C_Mux) {k : Nat} {f : Addr} {fd : FuncData} {tl : List Addr} {s__is_part : WSp} {sp : WSp} (F : Fun K "_are_parts" "_are_parts" st__are_parts f fd) (C__is_part : Cal P w K mg base tl k "_is_part" ["kind", "value"] s__is_part)
    (hw : ∀ ts S Q E, ts.length = 2 → sp ts S Q E → b__are_parts K C_Table C_Mux s__is_part { nx := fun _ S' => Q .non S', rt := Q } (startT N__are_parts ts) S) :
    FnOk P w K mg base CX0 (k + 1) f fd ["kinds", "parts"] (Lsp tl K 2 sp) :=
  fnT F sc__are_parts (fun cdv A outer s H E hr hcd ht => (jss_cons (js_if (jt_cmp (o_ne hr.units) (j_callB c_lenA (by rfl) T.z_len PySem.boot_len (ja_cons (j_var 1) ja_nil)) (j_callB c_lenK (by rfl) T.z_len PySem.boot_len (ja_cons (j_var 0) ja_nil)) (nomark _)) (jss_one (js_ret j_bl)) jss_nil)
    (jss_cons (js_for PassesOwn.never rfl (ji_zipK (by rfl) T.z_zip (ja_cons (j_var 0) (ja_cons (j_var 1) ja_nil))) (jg_tup rfl (jgs_cons (jg_name (i := 2) (vs := [2, 3]) sc__are_parts.nd rfl (by first | exact .inl rfl | exact .inr rfl) (by decide)) (jgs_cons (jg_name (i := 3) (vs := [2, 3]) sc__are_parts.nd rfl (by first | exact .inl rfl | exact .inr rfl) (by decide)) jgs_nil)))
    (jss_one (js_if (jt_not (jt_val (j_c C__is_part ht hr (by rfl) (ja_cons (j_var 2) (ja_cons (j_var 3) ja_nil))))) (jss_one (js_ret j_bl)) jss_nil)))
    (jss_one (js_ret j_bl))))) hw
theorem fn__is_part (T : Facts K mg w.params C_Table C_Mux) {k : Nat} {f : Addr} {fd : FuncData} {tl : List Addr} {s_is_birth s_is_flow s_is_life s_is_integer s_can_be_written s__is_row : WSp} {sp : WSp} (F : Fun K "_is_part" "_is_part" st__is_part f fd) {cT PT : Addr} (t1 : Tab1 base mg tl fd cT PT) (C_is_birth : Cal P w K mg base tl k "is_birth" ["value"] s_is_birth) (C_is_flow : Cal P w K mg base tl k "is_flow" ["value"] s_is_flow) (C_is_life : Cal P w K mg base tl k "is_life" ["value"] s_is_life) (C_is_integer : Cal P w K mg base tl k "is_integer" ["value", "least", "greatest"] s_is_integer) (C_can_be_written : Cal P w K mg base tl k "can_be_written" ["value"] s_can_be_written) (C__is_row : Cal P w K mg base tl k "_is_row" ["kind", "row"] s__is_row)
    (hw : ∀ ts S Q E, ts.length = 2 → sp ts S Q E → b__is_part K C_Table C_Mux s_is_birth s_is_flow s_is_life s_is_integer s_can_be_written s__is_row { nx := fun _ S' => Q .non S', rt := Q } (startT N__is_part ts) S) :
    FnOk P w K mg base CX0 (k + 2) f fd ["kind", "value"] (Lsp tl K 2 sp) :=
  fnT F sc__is_part (fun cdv A outer s H E hr1 hcd ht => have hr := Room.mono hr1 (Nat.le_succ k); (jss_cons (js_if (jt_cmp (o_eq hr.units) (j_var 0) j_str (nomark _)) (jss_one (js_ret (j_c C_is_birth ht hr (by rfl) (ja_cons (j_var 1) ja_nil)))) jss_nil)
    (jss_cons (js_if (jt_cmp (o_eq hr.units) (j_var 0) j_str (nomark _)) (jss_one (js_ret (j_or (j_cmp o_isN (j_var 1) j_non (nomark _)) (j_one (j_c C_is_birth ht hr (by rfl) (ja_cons (j_var 1) ja_nil)))))) jss_nil)
    (jss_cons (js_if (jt_cmp (o_eq hr.units) (j_var 0) j_str (nomark _)) (jss_one (js_ret (j_c C_is_flow ht hr (by rfl) (ja_cons (j_var 1) ja_nil)))) jss_nil)
    (jss_cons (js_if (jt_cmp (o_eq hr.units) (j_var 0) j_str (nomark _)) (jss_one (js_ret (j_c C_is_life ht hr (by rfl) (ja_cons (j_var 1) ja_nil)))) jss_nil)
    (jss_cons (js_if (jt_cmp (o_eq hr.units) (j_var 0) j_str (nomark _)) (jss_one (js_ret (j_c C_is_integer ht hr (by rfl) (ja_cons (j_var 1) (ja_cons j_int (ja_cons (j_op o_sub (j_cI (by rfl) T.c_BUCKETS) j_int) ja_nil)))))) jss_nil)
    (jss_cons (js_if (jt_cmp (o_eq hr.units) (j_var 0) j_str (nomark _)) (jss_one (js_ret (j_c C_is_integer ht hr (by rfl) (ja_cons (j_var 1) (ja_cons j_int (ja_cons (j_cI (by rfl) T.c_MOST_COUNT) ja_nil)))))) jss_nil)
    (jss_cons (js_if (jt_cmp (o_eq hr.units) (j_var 0) j_str (nomark _)) (jss_one (js_ret (j_c C_can_be_written ht hr (by rfl) (ja_cons (j_var 1) ja_nil)))) jss_nil)
    (jss_one (js_ret (j_and (j_isi (cs := "tuple") (by rfl) T.z_isinstance (by rfl) (j_var 1) (by rfl) T.z_tuple (by rfl) (by decide)) (j_one (j_all (own := [("row", 2)]) hr1 t1 hcd ht rfl sc__is_part.nd (blkOk_by (N := N__is_part) (sc := defScope st__is_part) (by decide +kernel)) (by decide +kernel) (ji_any (j_var 1)) (fun _ => rfl) (fun _ _ _ _ _ _ _ hr => (jg_name (i := 2) (vs := [2]) sc__is_part.nd rfl (by first | exact .inl rfl | exact .inr rfl) (by decide))) (fun _ _ _ _ _ _ _ hr => (j_c C__is_row ht hr (by rfl) (ja_cons (j_var 0) (ja_cons (j_var 2) ja_nil)))) (by rfl) T.z_all))))))))))))) hw
theorem fn__is_row (T : Facts K mg w.params C_Table C_Mux) {k : Nat} {f : Addr} {fd : FuncData} {tl : List Addr} {s_is_birth s__are_parts : WSp} {sp : WSp} (F : Fun K "_is_row" "_is_row" st__is_row f fd) (C_is_birth : Cal P w K mg base tl k "is_birth" ["value"] s_is_birth) (C__are_parts : Cal P w K mg base tl k "_are_parts" ["kinds", "parts"] s__are_parts)
    (hw : ∀ ts S Q E, ts.length = 2 → sp ts S Q E → b__is_row K C_Table C_Mux s_is_birth s__are_parts { nx := fun _ S' => Q .non S', rt := Q } (startT N__is_row ts) S) :
    FnOk P w K mg base CX0 (k + 1) f fd ["kind", "row"] (Lsp tl K 2 sp) :=
  fnT F sc__is_row (fun cdv A outer s H E hr hcd ht => (jss_cons (js_if (jt_cmp (o_eq hr.units) (j_var 0) j_str (nomark _)) (jss_one (js_ret (j_c C_is_birth ht hr (by rfl) (ja_cons (j_var 1) ja_nil)))) jss_nil)
    (jss_one (js_ret (j_and (j_isi (cs := "tuple") (by rfl) T.z_isinstance (by rfl) (j_var 1) (by rfl) T.z_tuple (by rfl) (by decide)) (j_one (j_c C__are_parts ht hr (by rfl) (ja_cons (j_kix T.w_ROWS (by rfl) (j_var 0) (fun _ _ => rfl)) (ja_cons (j_var 1) ja_nil))))))))) hw
theorem fn__law_bag (T : Facts K mg w.params C_Table C_Mux) {k : Nat} {f : Addr} {fd : FuncData} {tl : List Addr}  {sp : WSp} (F : Fun K "_law_bag" "_law_bag" st__law_bag f fd) 
    (hw : ∀ ts S Q E, ts.length = 2 → sp ts S Q E → b__law_bag K C_Table C_Mux  { nx := fun _ S' => Q .non S', rt := Q } (startT N__law_bag ts) S) :
    FnOk P w K mg base CX0 (k + 1) f fd ["script", "k"] (Lsp tl K 2 sp) :=
  fnT F sc__law_bag (fun cdv A outer s H E hr hcd ht => (jss_cons (js_set (i := 2) sc__law_bag.nd rfl (by first | exact .inl rfl | exact .inr rfl) j_int)
    (jss_cons (js_if (jt_cmp o_lt (j_var 1) (j_callB c_lenA (by rfl) T.z_len PySem.boot_len (ja_cons (j_var 0) ja_nil)) (nomark _)) (jss_one (js_set (i := 2) sc__law_bag.nd rfl (by first | exact .inl rfl | exact .inr rfl) (j_callTy c_int (by rfl) T.z_int (by rfl) (ja_cons (j_ixA (hu_of hr) (j_var 0) (j_var 1) (fun _ _ => rfl)) ja_nil)))) jss_nil)
    (jss_cons (js_if (jt_cmp o_ge (j_var 2) (j_op o_pow j_int j_int) (nomark _)) (jss_one (js_ret (j_lst (ja_cons (j_var 2) (ja_cons (j_var 2) (ja_cons (j_var 1) ja_nil)))))) jss_nil)
    (jss_one (js_ret (j_lst (ja_cons j_int (ja_cons (j_var 2) (ja_cons (j_var 1) ja_nil)))))))))) hw
theorem fn__law_draw (T : Facts K mg w.params C_Table C_Mux) {k : Nat} {f : Addr} {fd : FuncData} {tl : List Addr}  {sp : WSp} (F : Fun K "_law_draw" "_law_draw" st__law_draw f fd) 
    (hw : ∀ ts S Q E, ts.length = 2 → sp ts S Q E → b__law_draw K C_Table C_Mux  { nx := fun _ S' => Q .non S', rt := Q } (startT N__law_draw ts) S) :
    FnOk P w K mg base CX0 (k + 1) f fd ["bag", "many"] (Lsp tl K 2 sp) :=
  fnT F sc__law_draw (fun cdv A outer s H E hr hcd ht => (jss_cons (js_if (jt_cmp (o_eq hr.units) (j_ixA (hu_of hr) (j_var 0) j_int (fun _ _ => rfl)) j_int (nomark _)) (jss_cons (js_set (i := 2) sc__law_draw.nd rfl (by first | exact .inl rfl | exact .inr rfl) (j_op o_mod (j_callTy c_int (by rfl) T.z_int (by rfl) (ja_cons (j_op o_add (j_op o_add (j_op o_mul (j_ixA (hu_of hr) (j_var 0) j_int (fun _ _ => rfl)) j_int) (j_op o_mul (j_ixA (hu_of hr) (j_var 0) j_int (fun _ _ => rfl)) j_int)) j_int) ja_nil)) j_int))
    (jss_cons (js_asg (j_op o_add (j_op o_mul (j_var 2) j_int) (j_op o_mod (j_callTy c_int (by rfl) T.z_int (by rfl) (ja_cons (j_op o_add (j_op o_mul (j_var 2) (j_var 2)) (j_op o_mul (j_ixA (hu_of hr) (j_var 0) j_int (fun _ _ => rfl)) j_int)) ja_nil)) j_int)) (jg_ixA (hu_of hr) (j_var 0) j_int))
    (jss_one (js_asg (j_var 2) (jg_ixA (hu_of hr) (j_var 0) j_int))))) jss_nil)
    (jss_cons (js_set (i := 3) sc__law_draw.nd rfl (by first | exact .inl rfl | exact .inr rfl) (j_ixA (hu_of hr) (j_var 0) j_int (fun _ _ => rfl)))
    (jss_cons (js_asg (j_op o_fdiv (j_var 3) (j_var 1)) (jg_ixA (hu_of hr) (j_var 0) j_int))
    (jss_one (js_ret (j_op o_mod (j_callTy c_int (by rfl) T.z_int (by rfl) (ja_cons (j_var 3) ja_nil)) (j_var 1)))))))) hw
theorem fn__law_count (T : Facts K mg w.params C_Table C_Mux) {k : Nat} {f : Addr} {fd : FuncData} {tl : List Addr} {s__law_draw : WSp} {sp : WSp} (F : Fun K "_law_count" "_law_count" st__law_count f fd) (C__law_draw : Cal P w K mg base tl k "_law_draw" ["bag", "many"] s__law_draw)
    (hw : ∀ ts S Q E, ts.length = 2 → sp ts S Q E → b__law_count K C_Table C_Mux s__law_draw { nx := fun _ S' => Q .non S', rt := Q } (startT N__law_count ts) S) :
    FnOk P w K mg base CX0 (k + 1) f fd ["bag", "least"] (Lsp tl K 2 sp) :=
  fnT F sc__law_count (fun cdv A outer s H E hr hcd ht => (jss_one (js_ret (j_ixA (hu_of hr) (j_lst (ja_cons (j_var 1) (ja_cons j_int (ja_cons j_int (ja_cons j_int (ja_cons j_int (ja_cons (j_op o_add j_int (j_c C__law_draw ht hr (by rfl) (ja_cons (j_var 0) (ja_cons j_int ja_nil)))) ja_nil))))))) (j_c C__law_draw ht hr (by rfl) (ja_cons (j_var 0) (ja_cons j_int ja_nil))) (fun _ _ => rfl))))) hw
theorem fn__law_flow (T : Facts K mg w.params C_Table C_Mux) {k : Nat} {f : Addr} {fd : FuncData} {tl : List Addr} {s__law_count s__law_draw : WSp} {sp : WSp} (F : Fun K "_law_flow" "_law_flow" st__law_flow f fd) (C__law_count : Cal P w K mg base tl k "_law_count" ["bag", "least"] s__law_count) (C__law_draw : Cal P w K mg base tl k "_law_draw" ["bag", "many"] s__law_draw)
    (hw : ∀ ts S Q E, ts.length = 1 → sp ts S Q E → b__law_flow K C_Table C_Mux s__law_count s__law_draw { nx := fun _ S' => Q .non S', rt := Q } (startT N__law_flow ts) S) :
    FnOk P w K mg base CX0 (k + 1) f fd ["bag"] (Lsp tl K 1 sp) :=
  fnT F sc__law_flow (fun cdv A outer s H E hr hcd ht => (jss_one (js_ret (j_tup (ja_cons (j_c C__law_draw ht hr (by rfl) (ja_cons (j_var 0) (ja_cons j_int ja_nil))) (ja_cons (j_c C__law_count ht hr (by rfl) (ja_cons (j_var 0) (ja_cons j_int ja_nil))) ja_nil)))))) hw
theorem fn__law_birth (T : Facts K mg w.params C_Table C_Mux) {k : Nat} {f : Addr} {fd : FuncData} {tl : List Addr} {s__law_count s__law_draw : WSp} {sp : WSp} (F : Fun K "_law_birth" "_law_birth" st__law_birth f fd) (C__law_count : Cal P w K mg base tl k "_law_count" ["bag", "least"] s__law_count) (C__law_draw : Cal P w K mg base tl k "_law_draw" ["bag", "many"] s__law_draw)
    (hw : ∀ ts S Q E, ts.length = 1 → sp ts S Q E → b__law_birth K C_Table C_Mux s__law_count s__law_draw { nx := fun _ S' => Q .non S', rt := Q } (startT N__law_birth ts) S) :
    FnOk P w K mg base CX0 (k + 1) f fd ["bag"] (Lsp tl K 1 sp) :=
  fnT F sc__law_birth (fun cdv A outer s H E hr hcd ht => (jss_one (js_ret (j_tup (ja_cons (j_c C__law_draw ht hr (by rfl) (ja_cons (j_var 0) (ja_cons j_int ja_nil))) (ja_cons (j_c C__law_count ht hr (by rfl) (ja_cons (j_var 0) (ja_cons j_int ja_nil))) ja_nil)))))) hw
theorem fn__law_life (T : Facts K mg w.params C_Table C_Mux) {k : Nat} {f : Addr} {fd : FuncData} {tl : List Addr} {s__law_birth s__law_count : WSp} {sp : WSp} (F : Fun K "_law_life" "_law_life" st__law_life f fd) (C__law_birth : Cal P w K mg base tl k "_law_birth" ["bag"] s__law_birth) (C__law_count : Cal P w K mg base tl k "_law_count" ["bag", "least"] s__law_count)
    (hw : ∀ ts S Q E, ts.length = 1 → sp ts S Q E → b__law_life K C_Table C_Mux s__law_birth s__law_count { nx := fun _ S' => Q .non S', rt := Q } (startT N__law_life ts) S) :
    FnOk P w K mg base CX0 (k + 1) f fd ["bag"] (Lsp tl K 1 sp) :=
  fnT F sc__law_life (fun cdv A outer s H E hr hcd ht => (jss_one (js_ret (j_op o_add (j_c C__law_birth ht hr (by rfl) (ja_cons (j_var 0) ja_nil)) (j_tup (ja_cons (j_c C__law_count ht hr (by rfl) (ja_cons (j_var 0) (ja_cons j_int ja_nil))) ja_nil)))))) hw
theorem fn__law_packet (T : Facts K mg w.params C_Table C_Mux) {k : Nat} {f : Addr} {fd : FuncData} {tl : List Addr} {s__law_draw s__law_flow s__law_life : WSp} {sp : WSp} (F : Fun K "_law_packet" "_law_packet" st__law_packet f fd) (C__law_draw : Cal P w K mg base tl k "_law_draw" ["bag", "many"] s__law_draw) (C__law_flow : Cal P w K mg base tl k "_law_flow" ["bag"] s__law_flow) (C__law_life : Cal P w K mg base tl k "_law_life" ["bag"] s__law_life)
    (hw : ∀ ts S Q E, ts.length = 2 → sp ts S Q E → b__law_packet K C_Table C_Mux s__law_draw s__law_flow s__law_life { nx := fun _ S' => Q .non S', rt := Q } (startT N__law_packet ts) S) :
    FnOk P w K mg base CX0 (k + 1) f fd ["bag", "words"] (Lsp tl K 2 sp) :=
  fnT F sc__law_packet (fun cdv A outer s H E hr hcd ht => (jss_cons (js_set (i := 2) sc__law_packet.nd rfl (by first | exact .inl rfl | exact .inr rfl) (j_ixA (hu_of hr) (j_var 1) (j_c C__law_draw ht hr (by rfl) (ja_cons (j_var 0) (ja_cons (j_callB c_lenA (by rfl) T.z_len PySem.boot_len (ja_cons (j_var 1) ja_nil)) ja_nil))) (fun _ _ => rfl)))
    (jss_cons (js_if (jt_cmp (o_eq hr.units) (j_var 2) j_str (nomark _)) (jss_one (js_ret (j_tup (ja_cons (j_var 2) (ja_cons (j_c C__law_flow ht hr (by rfl) (ja_cons (j_var 0) ja_nil)) ja_nil))))) jss_nil)
    (jss_cons (js_set (i := 3) sc__law_packet.nd rfl (by first | exact .inl rfl | exact .inr rfl) (j_tup (ja_cons (j_var 2) (ja_cons (j_c C__law_flow ht hr (by rfl) (ja_cons (j_var 0) ja_nil)) (ja_cons (j_c C__law_life ht hr (by rfl) (ja_cons (j_var 0) ja_nil)) ja_nil)))))
    (jss_cons (js_if (jt_cmp (o_notInA (hu_of hr)) (j_var 2) (j_lst (ja_cons j_str (ja_cons j_str ja_nil))) (by rfl)) (jss_one (js_ret (j_var 3))) jss_nil)
    (jss_cons (js_set (i := 4) sc__law_packet.nd rfl (by first | exact .inl rfl | exact .inr rfl) (j_callTy c_tup (by rfl) T.z_tuple (by rfl) (ja_cons (j_lc (own := [("k", 5)]) rfl sc__law_packet.nd (ji_rg1 (by rfl) T.z_range (ja_cons (j_c C__law_draw ht hr (by rfl) (ja_cons (j_var 0) (ja_cons j_int ja_nil))) ja_nil)) (blkOk_by (N := N__law_packet) (sc := defScope st__law_packet) (by decide +kernel)) (fun _ _ _ _ _ => (jg_name (i := 5) (vs := [5]) sc__law_packet.nd rfl (by first | exact .inl rfl | exact .inr rfl) (by decide))) (fun _ _ _ _ _ => jts_nil) (fun _ _ _ _ _ => (j_ixA (hu_of hr) (j_lst (ja_cons j_int (ja_cons j_int (ja_cons (j_c C__law_draw ht hr (by rfl) (ja_cons (j_var 0) (ja_cons j_int ja_nil))) ja_nil)))) (j_c C__law_draw ht hr (by rfl) (ja_cons (j_var 0) (ja_cons j_int ja_nil))) (fun _ _ => rfl)))) ja_nil)))
    (jss_cons (js_set (i := 6) sc__law_packet.nd rfl (by first | exact .inl rfl | exact .inr rfl) (j_ixA (hu_of hr) (j_lst (ja_cons j_int (ja_cons j_int (ja_cons j_int (ja_cons (j_c C__law_draw ht hr (by rfl) (ja_cons (j_var 0) (ja_cons j_int ja_nil))) ja_nil))))) (j_c C__law_draw ht hr (by rfl) (ja_cons (j_var 0) (ja_cons j_int ja_nil))) (fun _ _ => rfl)))
    (jss_one (js_ret (j_op o_add (j_var 3) (j_tup (ja_cons (j_var 6) (ja_cons (j_var 4) (ja_cons (j_c C__law_draw ht hr (by rfl) (ja_cons (j_var 0) (ja_cons j_int ja_nil))) (ja_cons (j_ixA (hu_of hr) (j_lst (ja_cons j_int (ja_cons j_int (ja_cons j_int (ja_cons (j_c C__law_draw ht hr (by rfl) (ja_cons (j_var 0) (ja_cons j_int ja_nil))) ja_nil))))) (j_c C__law_draw ht hr (by rfl) (ja_cons (j_var 0) (ja_cons j_int ja_nil))) (fun _ _ => rfl)) ja_nil))))))))))))))) hw
theorem fn__law_rows (T : Facts K mg w.params C_Table C_Mux) {k : Nat} {f : Addr} {fd : FuncData} {tl : List Addr} {s__law_draw : WSp} {sp : WSp} (F : Fun K "_law_rows" "_law_rows" st__law_rows f fd) (C__law_draw : Cal P w K mg base tl k "_law_draw" ["bag", "many"] s__law_draw)
    (hw : ∀ ts S Q E, ts.length = 2 → sp ts S Q E → b__law_rows K C_Table C_Mux s__law_draw { nx := fun _ S' => Q .non S', rt := Q } (startT N__law_rows ts) S) :
    FnOk P w K mg base CX0 (k + 1) f fd ["bag", "most"] (Lsp tl K 2 sp) :=
  fnT F sc__law_rows (fun cdv A outer s H E hr hcd ht => (jss_cons (js_set (i := 2) sc__law_rows.nd rfl (by first | exact .inl rfl | exact .inr rfl) (j_lst ja_nil))
    (jss_cons (js_for PassesOwn.never rfl (ji_rg1 (by rfl) T.z_range (ja_cons (j_c C__law_draw ht hr (by rfl) (ja_cons (j_var 0) (ja_cons (j_op o_add (j_var 1) j_int) ja_nil))) ja_nil)) (jg_name (i := 3) (vs := [3]) sc__law_rows.nd rfl (by first | exact .inl rfl | exact .inr rfl) (by decide))
    (jss_cons (js_set (i := 4) sc__law_rows.nd rfl (by first | exact .inl rfl | exact .inr rfl) (j_tup (ja_cons (j_c C__law_draw ht hr (by rfl) (ja_cons (j_var 0) (ja_cons j_int ja_nil))) (ja_cons (j_op o_add j_int (j_c C__law_draw ht hr (by rfl) (ja_cons (j_var 0) (ja_cons j_int ja_nil)))) ja_nil))))
    (jss_one (js_expr (j_mtL PySem.F.slot_list_append PySem.F.type_list_append m_append (j_var 2) (ja_cons (j_tup (ja_cons (j_op o_fdiv (j_c C__law_draw ht hr (by rfl) (ja_cons (j_var 0) (ja_cons j_int ja_nil))) (j_ixA (hu_of hr) (j_lst (ja_cons j_int (ja_cons j_int (ja_cons j_int ja_nil)))) (j_c C__law_draw ht hr (by rfl) (ja_cons (j_var 0) (ja_cons j_int ja_nil))) (fun _ _ => rfl))) (ja_cons (j_c C__law_draw ht hr (by rfl) (ja_cons (j_var 0) (ja_cons (j_ixA (hu_of hr) (j_lst (ja_cons j_int (ja_cons j_int ja_nil))) (j_c C__law_draw ht hr (by rfl) (ja_cons (j_var 0) (ja_cons j_int ja_nil))) (fun _ _ => rfl)) ja_nil))) (ja_cons (j_var 4) ja_nil)))) ja_nil))))))
    (jss_one (js_ret (j_callTy c_tup (by rfl) T.z_tuple (by rfl) (ja_cons (j_var 2) ja_nil))))))) hw
theorem fn__law_newest (T : Facts K mg w.params C_Table C_Mux) {k : Nat} {f : Addr} {fd : FuncData} {tl : List Addr}  {sp : WSp} (F : Fun K "_law_newest" "_law_newest" st__law_newest f fd) 
    (hw : ∀ ts S Q E, ts.length = 1 → sp ts S Q E → b__law_newest K C_Table C_Mux  { nx := fun _ S' => Q .non S', rt := Q } (startT N__law_newest ts) S) :
    FnOk P w K mg base CX0 (k + 1) f fd ["rows"] (Lsp tl K 1 sp) :=
  fnT F sc__law_newest (fun cdv A outer s H E hr hcd ht => (jss_cons (js_set (i := 1) sc__law_newest.nd rfl (by first | exact .inl rfl | exact .inr rfl) (j_lst ja_nil))
    (jss_cons (js_for PassesOwn.never rfl (ji_rg1 (by rfl) T.z_range (ja_cons j_int ja_nil)) (jg_name (i := 2) (vs := [2]) sc__law_newest.nd rfl (by first | exact .inl rfl | exact .inr rfl) (by decide))
    (jss_cons (js_setLc (i := 3) (own := [("row", 4)]) rfl sc__law_newest.nd rfl rfl (sw_true rfl rfl rfl (by decide +kernel)) (ji_any (j_var 0)) (blkOk_by (N := N__law_newest) (sc := defScope st__law_newest) (by decide +kernel)) (fun _ _ _ _ _ => (jg_name (i := 4) (vs := [4]) sc__law_newest.nd rfl (by first | exact .inl rfl | exact .inr rfl) (by decide))) (fun _ _ _ _ _ => (jts_one (jt_cmp (o_eq hr.units) (j_ixA (hu_of hr) (j_var 4) j_int (fun _ _ => rfl)) (j_var 2) (nomark _)))) (fun _ _ _ _ _ => (j_var 4)))
    (jss_one (js_if (jt_cmp o_gtA (j_callB c_lenA (by rfl) T.z_len PySem.boot_len (ja_cons (j_var 3) ja_nil)) j_int (nomark _)) (jss_cons (js_set (i := 5) sc__law_newest.nd rfl (by first | exact .inl rfl | exact .inr rfl) (j_callB (c_maxL rfl) (by rfl) T.z_max (by rfl) (ja_cons (j_lc (own := [("row", 4)]) rfl sc__law_newest.nd (ji_any (j_var 3)) (blkOk_by (N := N__law_newest) (sc := defScope st__law_newest) (by decide +kernel)) (fun _ _ _ _ _ => (jg_name (i := 4) (vs := [4]) sc__law_newest.nd rfl (by first | exact .inl rfl | exact .inr rfl) (by decide))) (fun _ _ _ _ _ => jts_nil) (fun _ _ _ _ _ => (j_ixA (hu_of hr) (j_var 4) j_int (fun _ _ => rfl)))) ja_nil)))
    (jss_one (js_expr (j_mtL PySem.F.slot_list_append PySem.F.type_list_append m_append (j_var 1) (ja_cons (j_ixA (hu_of hr) (j_lc (own := [("row", 4)]) rfl sc__law_newest.nd (ji_any (j_var 3)) (blkOk_by (N := N__law_newest) (sc := defScope st__law_newest) (by decide +kernel)) (fun _ _ _ _ _ => (jg_name (i := 4) (vs := [4]) sc__law_newest.nd rfl (by first | exact .inl rfl | exact .inr rfl) (by decide))) (fun _ _ _ _ _ => (jts_one (jt_cmp (o_eq hr.units) (j_ixA (hu_of hr) (j_var 4) j_int (fun _ _ => rfl)) (j_var 5) (nomark _)))) (fun _ _ _ _ _ => (j_var 4))) j_int (fun _ _ => rfl)) ja_nil))))) jss_nil))))
    (jss_one (js_ret (j_callTy c_tup (by rfl) T.z_tuple (by rfl) (ja_cons (j_var 1) ja_nil))))))) hw
theorem fn_law (T : Facts K mg w.params C_Table C_Mux) {k : Nat} {f : Addr} {fd : FuncData} {tl : List Addr} {s__law_bag s__law_rows s_Mux_init s_Mux_receive s_Mux_forget s__law_draw s__law_packet s_Mux_rows s__law_newest : WSp} {sp : WSp} (F : Fun K "law" "law" st_law f fd) (C__law_bag : Cal P w K mg base tl k "_law_bag" ["script", "k"] s__law_bag) (C__law_rows : Cal P w K mg base tl k "_law_rows" ["bag", "most"] s__law_rows) (I_Mux_init : CalI P w K mg base tl k C_Mux "Mux" ["self", "number"] s_Mux_init) (M_Mux_receive : CalM P w K mg base tl k C_Mux "receive" ["self", "message"] s_Mux_receive) (M_Mux_forget : CalM P w K mg base tl k C_Mux "forget" ["self"] s_Mux_forget) (C__law_draw : Cal P w K mg base tl k "_law_draw" ["bag", "many"] s__law_draw) (C__law_packet : Cal P w K mg base tl k "_law_packet" ["bag", "words"] s__law_packet) (M_Mux_rows : CalM P w K mg base tl k C_Mux "rows" ["self"] s_Mux_rows) (C__law_newest : Cal P w K mg base tl k "_law_newest" ["rows"] s__law_newest)
    (hw : ∀ ts S Q E, ts.length = 1 → sp ts S Q E → b_law K C_Table C_Mux s__law_bag s__law_rows s_Mux_init s_Mux_receive s_Mux_forget s__law_draw s__law_packet s_Mux_rows s__law_newest { nx := fun _ S' => Q .non S', rt := Q } (startT N_law ts) S) :
    FnOk P w K mg base CX0 (k + 2) f fd ["script"] (Lsp tl K 1 sp) :=
  fnT F sc_law (fun cdv A outer s H E hr1 hcd ht => have hr := Room.mono hr1 (Nat.le_succ k); (jss_cons (js_set (i := 1) sc_law.nd rfl (by first | exact .inl rfl | exact .inr rfl) (j_lst (ja_cons j_str (ja_cons j_str (ja_cons j_str (ja_cons j_str (ja_cons j_str (ja_cons j_str (ja_cons j_str (ja_cons j_str (ja_cons j_str ja_nil)))))))))))
    (jss_cons (js_for PassesOwn.never rfl (ji_rg1 (by rfl) T.z_range (ja_cons (j_callB (c_max2 rfl) (by rfl) T.z_max (by rfl) (ja_cons j_int (ja_cons (j_callB (c_min2 rfl) (by rfl) T.z_min (by rfl) (ja_cons j_int (ja_cons (j_callB c_lenA (by rfl) T.z_len PySem.boot_len (ja_cons (j_var 0) ja_nil)) ja_nil))) ja_nil))) ja_nil)) (jg_name (i := 2) (vs := [2]) sc_law.nd rfl (by first | exact .inl rfl | exact .inr rfl) (by decide))
    (jss_cons (js_set (i := 3) sc_law.nd rfl (by first | exact .inl rfl | exact .inr rfl) (j_c C__law_bag ht hr (by rfl) (ja_cons (j_var 0) (ja_cons (j_var 2) ja_nil))))
    (jss_cons (js_setLc (i := 4) (own := [("row", 5)]) rfl sc_law.nd rfl rfl (sw_true rfl rfl rfl (by decide +kernel)) (ji_any (j_c C__law_rows ht hr (by rfl) (ja_cons (j_var 3) (ja_cons j_int ja_nil)))) (blkOk_by (N := N_law) (sc := defScope st_law) (by decide +kernel)) (fun _ _ _ _ _ => (jg_name (i := 5) (vs := [5]) sc_law.nd rfl (by first | exact .inl rfl | exact .inr rfl) (by decide))) (fun _ _ _ _ _ => jts_nil) (fun _ _ _ _ _ => (j_tup (ja_cons (j_ixA (hu_of hr) (j_var 5) j_int (fun _ _ => rfl)) (ja_cons (j_ixA (hu_of hr) (j_var 5) j_int (fun _ _ => rfl)) (ja_cons (j_tup (ja_cons (j_op o_mod (j_callTy c_int (by rfl) T.z_int (by rfl) (ja_cons (j_op o_add (j_ixA (hu_of hr) (j_var 5) j_int (fun _ _ => rfl)) (j_ixA (hu_of hr) (j_var 5) j_int (fun _ _ => rfl))) ja_nil)) j_int) (ja_cons (j_op o_add j_int (j_ixA (hu_of hr) (j_var 5) j_int (fun _ _ => rfl))) ja_nil))) ja_nil))))))
    (jss_cons (js_set (i := 6) sc_law.nd rfl (by first | exact .inl rfl | exact .inr rfl) (j_make I_Mux_init ht hr1 (by rfl) (ja_cons j_int ja_nil)))
    (jss_cons (js_set (i := 7) sc_law.nd rfl (by first | exact .inl rfl | exact .inr rfl) (j_make I_Mux_init ht hr1 (by rfl) (ja_cons j_int ja_nil)))
    (jss_cons (js_expr (j_meth M_Mux_receive T.k_Mux ht hr (j_var 7) (ja_cons (j_tup (ja_cons j_str (ja_cons (j_c C__law_rows ht hr (by rfl) (ja_cons (j_var 3) (ja_cons j_int ja_nil))) ja_nil))) ja_nil)))
    (jss_cons (js_expr (j_meth0 M_Mux_forget T.k_Mux ht hr (j_var 7)))
    (jss_cons (js_expr (j_meth M_Mux_receive T.k_Mux ht hr (j_var 6) (ja_cons (j_tup (ja_cons j_str (ja_cons (j_callTy c_tup (by rfl) T.z_tuple (by rfl) (ja_cons (j_var 4) ja_nil)) ja_nil))) ja_nil)))
    (jss_cons (js_for PassesOwn.never rfl (ji_any (j_rev (j_var 4))) (jg_name (i := 5) (vs := [5]) sc_law.nd rfl (by first | exact .inl rfl | exact .inr rfl) (by decide))
    (jss_cons (js_expr (j_meth M_Mux_receive T.k_Mux ht hr (j_var 7) (ja_cons (j_tup (ja_cons j_str (ja_cons (j_tup (ja_cons (j_var 5) ja_nil)) ja_nil))) ja_nil)))
    (jss_one (js_if (jt_cmp (o_eq hr.units) (j_c C__law_draw ht hr (by rfl) (ja_cons (j_var 3) (ja_cons j_int ja_nil))) j_int (nomark _)) (jss_cons (js_set (i := 8) sc_law.nd rfl (by first | exact .inl rfl | exact .inr rfl) (j_meth M_Mux_receive T.k_Mux ht hr (j_var 7) (ja_cons (j_c C__law_packet ht hr (by rfl) (ja_cons (j_var 3) (ja_cons (j_var 1) ja_nil))) ja_nil)))
    (jss_one (js_expr (j_mtL PySem.F.slot_list_append PySem.F.type_list_append m_append (j_var 8) (ja_cons (j_tup (ja_cons j_str (ja_cons j_int ja_nil))) ja_nil))))) jss_nil))))
    (jss_cons (js_setLc (i := 9) (own := [("j", 10)]) rfl sc_law.nd rfl rfl (sw_true rfl rfl rfl (by decide +kernel)) (ji_rg1 (by rfl) T.z_range (ja_cons (j_c C__law_draw ht hr (by rfl) (ja_cons (j_var 3) (ja_cons j_int ja_nil))) ja_nil)) (blkOk_by (N := N_law) (sc := defScope st_law) (by decide +kernel)) (fun _ _ _ _ _ => (jg_name (i := 10) (vs := [10]) sc_law.nd rfl (by first | exact .inl rfl | exact .inr rfl) (by decide))) (fun _ _ _ _ _ => jts_nil) (fun _ _ _ _ _ => (j_c C__law_packet ht hr (by rfl) (ja_cons (j_var 3) (ja_cons (j_var 1) ja_nil)))))
    (jss_cons (js_set (i := 11) sc_law.nd rfl (by first | exact .inl rfl | exact .inr rfl) (j_meth0 M_Mux_rows T.k_Mux ht hr (j_var 6)))
    (jss_cons (js_setLc (i := 8) (own := [("packet", 12)]) rfl sc_law.nd rfl rfl (sw_true rfl rfl rfl (by decide +kernel)) (ji_any (j_var 9)) (blkOk_by (N := N_law) (sc := defScope st_law) (by decide +kernel)) (fun _ _ _ _ _ => (jg_name (i := 12) (vs := [12]) sc_law.nd rfl (by first | exact .inl rfl | exact .inr rfl) (by decide))) (fun _ _ _ _ _ => jts_nil) (fun _ _ _ _ _ => (j_meth M_Mux_receive T.k_Mux ht hr (j_var 6) (ja_cons (j_var 12) ja_nil))))
    (jss_cons (js_if (jt_cmp (o_ne2 hr.units) (j_var 8) (j_rev (j_lc (own := [("packet", 12)]) rfl sc_law.nd (ji_any (j_rev (j_var 9))) (blkOk_by (N := N_law) (sc := defScope st_law) (by decide +kernel)) (fun _ _ _ _ _ => (jg_name (i := 12) (vs := [12]) sc_law.nd rfl (by first | exact .inl rfl | exact .inr rfl) (by decide))) (fun _ _ _ _ _ => jts_nil) (fun _ _ _ _ _ => (j_meth M_Mux_receive T.k_Mux ht hr (j_var 7) (ja_cons (j_var 12) ja_nil))))) (nomark _)) (jss_one (js_ret j_bl)) jss_nil)
    (jss_cons (js_if (JW.jt (jw_or (jt_cmp (o_ne hr.units) (j_meth0 M_Mux_rows T.k_Mux ht hr (j_var 6)) (j_var 11) (nomark _)) (jw_or (jt_cmp (o_ne hr.units) (j_meth0 M_Mux_rows T.k_Mux ht hr (j_var 7)) (j_var 11) (nomark _)) (jw_or1 (jt_cmp (o_ne hr.units) (j_var 11) (j_c C__law_newest ht hr (by rfl) (ja_cons (j_var 4) ja_nil)) (nomark _)))))) (jss_one (js_ret j_bl)) jss_nil)
    (jss_one (js_if (jt_cmp (o_ne2 hr.units) (j_var 8) (j_lc (own := [("packet", 12)]) rfl sc_law.nd (ji_any (j_var 9)) (blkOk_by (N := N_law) (sc := defScope st_law) (by decide +kernel)) (fun _ _ _ _ _ => (jg_name (i := 12) (vs := [12]) sc_law.nd rfl (by first | exact .inl rfl | exact .inr rfl) (by decide))) (fun _ _ _ _ _ => jts_nil) (fun _ _ _ _ _ => (j_meth M_Mux_receive T.k_Mux ht hr (j_var 6) (ja_cons (j_var 12) ja_nil)))) (nomark _)) (jss_one (js_ret j_bl)) jss_nil))))))))))))))))
    (jss_one (js_ret j_bl))))) hw
end
set_option maxHeartbeats 0 in
theorem facts_mk {K : PySem.W.Frag} {h : Heap} {mg : Str → Option Value} {PA : Params} (X : K.In h) (G : h.Ns mainGlobals mg)
    {C_Table : Addr} (aC_Table : PySem.W.nsIn K mainGlobals "Table" = some (some (.ref C_Table))) (pg_Table : PySem.W.plainGet K C_Table Str.empty = true) (hd_Table : PySem.W.hasDictIn K C_Table = true) (po_Table : PySem.W.plainOver K C_Table = true) (sa_Table : PySem.W.findIn K (.ref C_Table) "__setattr__" = some (some (.builtin "object.__setattr__"))) (mk_Table : PySem.W.makesIn K C_Table = true) (kc_Table : PySem.W.keepIn K (.ref C_Table) = true)
    {C_Mux : Addr} (aC_Mux : PySem.W.nsIn K mainGlobals "Mux" = some (some (.ref C_Mux))) (pg_Mux : PySem.W.plainGet K C_Mux Str.empty = true) (hd_Mux : PySem.W.hasDictIn K C_Mux = true) (po_Mux : PySem.W.plainOver K C_Mux = true) (sa_Mux : PySem.W.findIn K (.ref C_Mux) "__setattr__" = some (some (.builtin "object.__setattr__"))) (mk_Mux : PySem.W.makesIn K C_Mux = true) (kc_Mux : PySem.W.keepIn K (.ref C_Mux) = true)
    (nA_Mux__number : PySem.W.findIn K (.ref C_Mux) "_number" = some none)
    (nA_Mux__table : PySem.W.findIn K (.ref C_Mux) "_table" = some none)
    (nA_Table__rows : PySem.W.findIn K (.ref C_Table) "_rows" = some none)
    {D_ROWS : Addr} {es_ROWS : Array DictEntry} {n_ROWS : Nat} (wa_ROWS : PySem.W.nsIn K mainGlobals "ROWS" = some (some (.ref D_ROWS))) (wl_ROWS : K.lookup D_ROWS = some ⟨.type "dict", none, .dict es_ROWS n_ROWS, #[]⟩) (wt_ROWS : TblOk K PA es_ROWS.toList tbl_ROWS) (wo_ROWS : (D_ROWS == sysModules) = false)
    {D_TO_AGENT : Addr} {es_TO_AGENT : Array DictEntry} {n_TO_AGENT : Nat} (wa_TO_AGENT : PySem.W.nsIn K mainGlobals "TO_AGENT" = some (some (.ref D_TO_AGENT))) (wl_TO_AGENT : K.lookup D_TO_AGENT = some ⟨.type "dict", none, .dict es_TO_AGENT n_TO_AGENT, #[]⟩) (wt_TO_AGENT : TblOk K PA es_TO_AGENT.toList tbl_TO_AGENT) (wo_TO_AGENT : (D_TO_AGENT == sysModules) = false)
    {D_TO_CONTROLLER : Addr} {es_TO_CONTROLLER : Array DictEntry} {n_TO_CONTROLLER : Nat} (wa_TO_CONTROLLER : PySem.W.nsIn K mainGlobals "TO_CONTROLLER" = some (some (.ref D_TO_CONTROLLER))) (wl_TO_CONTROLLER : K.lookup D_TO_CONTROLLER = some ⟨.type "dict", none, .dict es_TO_CONTROLLER n_TO_CONTROLLER, #[]⟩) (wt_TO_CONTROLLER : TblOk K PA es_TO_CONTROLLER.toList tbl_TO_CONTROLLER) (wo_TO_CONTROLLER : (D_TO_CONTROLLER == sysModules) = false)
    {D_TO_MUX : Addr} {es_TO_MUX : Array DictEntry} {n_TO_MUX : Nat} (wa_TO_MUX : PySem.W.nsIn K mainGlobals "TO_MUX" = some (some (.ref D_TO_MUX))) (wl_TO_MUX : K.lookup D_TO_MUX = some ⟨.type "dict", none, .dict es_TO_MUX n_TO_MUX, #[]⟩) (wt_TO_MUX : TblOk K PA es_TO_MUX.toList tbl_TO_MUX) (wo_TO_MUX : (D_TO_MUX == sysModules) = false)
    {f0 : Addr} {od0 an0 : Option Addr} {sl0 : Array (Option Value)} {oc0 kV0 dc0 pm0 cd0 ct0 : Value}
    (a0 : PySem.W.findIn K (.ref C_Table) "__init__" = some (some (.ref f0))) (i0 : PySem.W.isFn K (.ref f0) = true) (l0 : K.lookup f0 = some ⟨oc0, od0, .func (PySem.W.fnOf "__init__" "Table.__init__" (defArgs st_Table_init) (defBody st_Table_init) (defScope st_Table_init) .none kV0 dc0 pm0 an0 cd0 ct0), sl0⟩) (c0 : PySem.W.codeIn K cd0 "Table.__init__" = true) (k0 : PySem.W.keepIn K (.ref f0) = true)
    {f1 : Addr} {od1 an1 : Option Addr} {sl1 : Array (Option Value)} {oc1 kV1 dc1 pm1 cd1 ct1 : Value}
    (a1 : PySem.W.findIn K (.ref C_Table) "take" = some (some (.ref f1))) (i1 : PySem.W.isFn K (.ref f1) = true) (l1 : K.lookup f1 = some ⟨oc1, od1, .func (PySem.W.fnOf "take" "Table.take" (defArgs st_Table_take) (defBody st_Table_take) (defScope st_Table_take) .none kV1 dc1 pm1 an1 cd1 ct1), sl1⟩) (c1 : PySem.W.codeIn K cd1 "Table.take" = true) (k1 : PySem.W.keepIn K (.ref f1) = true)
    {f2 : Addr} {od2 an2 : Option Addr} {sl2 : Array (Option Value)} {oc2 kV2 dc2 pm2 cd2 ct2 : Value}
    (a2 : PySem.W.findIn K (.ref C_Table) "birth" = some (some (.ref f2))) (i2 : PySem.W.isFn K (.ref f2) = true) (l2 : K.lookup f2 = some ⟨oc2, od2, .func (PySem.W.fnOf "birth" "Table.birth" (defArgs st_Table_birth) (defBody st_Table_birth) (defScope st_Table_birth) .none kV2 dc2 pm2 an2 cd2 ct2), sl2⟩) (c2 : PySem.W.codeIn K cd2 "Table.birth" = true) (k2 : PySem.W.keepIn K (.ref f2) = true)
    {f3 : Addr} {od3 an3 : Option Addr} {sl3 : Array (Option Value)} {oc3 kV3 dc3 pm3 cd3 ct3 : Value}
    (a3 : PySem.W.findIn K (.ref C_Table) "rows" = some (some (.ref f3))) (i3 : PySem.W.isFn K (.ref f3) = true) (l3 : K.lookup f3 = some ⟨oc3, od3, .func (PySem.W.fnOf "rows" "Table.rows" (defArgs st_Table_rows) (defBody st_Table_rows) (defScope st_Table_rows) .none kV3 dc3 pm3 an3 cd3 ct3), sl3⟩) (c3 : PySem.W.codeIn K cd3 "Table.rows" = true) (k3 : PySem.W.keepIn K (.ref f3) = true)
    {f4 : Addr} {od4 an4 : Option Addr} {sl4 : Array (Option Value)} {oc4 kV4 dc4 pm4 cd4 ct4 : Value}
    (a4 : PySem.W.findIn K (.ref C_Table) "forget" = some (some (.ref f4))) (i4 : PySem.W.isFn K (.ref f4) = true) (l4 : K.lookup f4 = some ⟨oc4, od4, .func (PySem.W.fnOf "forget" "Table.forget" (defArgs st_Table_forget) (defBody st_Table_forget) (defScope st_Table_forget) .none kV4 dc4 pm4 an4 cd4 ct4), sl4⟩) (c4 : PySem.W.codeIn K cd4 "Table.forget" = true) (k4 : PySem.W.keepIn K (.ref f4) = true)
    {f5 : Addr} {od5 an5 : Option Addr} {sl5 : Array (Option Value)} {oc5 kV5 dc5 pm5 cd5 ct5 : Value}
    (a5 : PySem.W.findIn K (.ref C_Mux) "__init__" = some (some (.ref f5))) (i5 : PySem.W.isFn K (.ref f5) = true) (l5 : K.lookup f5 = some ⟨oc5, od5, .func (PySem.W.fnOf "__init__" "Mux.__init__" (defArgs st_Mux_init) (defBody st_Mux_init) (defScope st_Mux_init) .none kV5 dc5 pm5 an5 cd5 ct5), sl5⟩) (c5 : PySem.W.codeIn K cd5 "Mux.__init__" = true) (k5 : PySem.W.keepIn K (.ref f5) = true)
    {f6 : Addr} {od6 an6 : Option Addr} {sl6 : Array (Option Value)} {oc6 kV6 dc6 pm6 cd6 ct6 : Value}
    (a6 : PySem.W.findIn K (.ref C_Mux) "receive" = some (some (.ref f6))) (i6 : PySem.W.isFn K (.ref f6) = true) (l6 : K.lookup f6 = some ⟨oc6, od6, .func (PySem.W.fnOf "receive" "Mux.receive" (defArgs st_Mux_receive) (defBody st_Mux_receive) (defScope st_Mux_receive) .none kV6 dc6 pm6 an6 cd6 ct6), sl6⟩) (c6 : PySem.W.codeIn K cd6 "Mux.receive" = true) (k6 : PySem.W.keepIn K (.ref f6) = true)
    {f7 : Addr} {od7 an7 : Option Addr} {sl7 : Array (Option Value)} {oc7 kV7 dc7 pm7 cd7 ct7 : Value}
    (a7 : PySem.W.findIn K (.ref C_Mux) "forget" = some (some (.ref f7))) (i7 : PySem.W.isFn K (.ref f7) = true) (l7 : K.lookup f7 = some ⟨oc7, od7, .func (PySem.W.fnOf "forget" "Mux.forget" (defArgs st_Mux_forget) (defBody st_Mux_forget) (defScope st_Mux_forget) .none kV7 dc7 pm7 an7 cd7 ct7), sl7⟩) (c7 : PySem.W.codeIn K cd7 "Mux.forget" = true) (k7 : PySem.W.keepIn K (.ref f7) = true)
    {f8 : Addr} {od8 an8 : Option Addr} {sl8 : Array (Option Value)} {oc8 kV8 dc8 pm8 cd8 ct8 : Value}
    (a8 : PySem.W.findIn K (.ref C_Mux) "rows" = some (some (.ref f8))) (i8 : PySem.W.isFn K (.ref f8) = true) (l8 : K.lookup f8 = some ⟨oc8, od8, .func (PySem.W.fnOf "rows" "Mux.rows" (defArgs st_Mux_rows) (defBody st_Mux_rows) (defScope st_Mux_rows) .none kV8 dc8 pm8 an8 cd8 ct8), sl8⟩) (c8 : PySem.W.codeIn K cd8 "Mux.rows" = true) (k8 : PySem.W.keepIn K (.ref f8) = true)
    {f9 : Addr} {od9 an9 : Option Addr} {sl9 : Array (Option Value)} {oc9 kV9 dc9 pm9 cd9 ct9 : Value}
    (a9 : PySem.W.findIn K (.ref C_Mux) "_pass_on" = some (some (.ref f9))) (i9 : PySem.W.isFn K (.ref f9) = true) (l9 : K.lookup f9 = some ⟨oc9, od9, .func (PySem.W.fnOf "_pass_on" "Mux._pass_on" (defArgs st_Mux__pass_on) (defBody st_Mux__pass_on) (defScope st_Mux__pass_on) .none kV9 dc9 pm9 an9 cd9 ct9), sl9⟩) (c9 : PySem.W.codeIn K cd9 "Mux._pass_on" = true) (k9 : PySem.W.keepIn K (.ref f9) = true)
    {f10 : Addr} {od10 an10 : Option Addr} {sl10 : Array (Option Value)} {oc10 kV10 dc10 pm10 cd10 ct10 : Value}
    (a10 : PySem.W.nsIn K mainGlobals "is_integer" = some (some (.ref f10))) (l10 : K.lookup f10 = some ⟨oc10, od10, .func (PySem.W.fnOf "is_integer" "is_integer" (defArgs st_is_integer) (defBody st_is_integer) (defScope st_is_integer) .none kV10 dc10 pm10 an10 cd10 ct10), sl10⟩) (c10 : PySem.W.codeIn K cd10 "is_integer" = true) (k10 : PySem.W.keepIn K (.ref f10) = true)
    {f11 : Addr} {od11 an11 : Option Addr} {sl11 : Array (Option Value)} {oc11 kV11 dc11 pm11 cd11 ct11 : Value}
    (a11 : PySem.W.nsIn K mainGlobals "is_bytes" = some (some (.ref f11))) (l11 : K.lookup f11 = some ⟨oc11, od11, .func (PySem.W.fnOf "is_bytes" "is_bytes" (defArgs st_is_bytes) (defBody st_is_bytes) (defScope st_is_bytes) .none kV11 dc11 pm11 an11 cd11 ct11), sl11⟩) (c11 : PySem.W.codeIn K cd11 "is_bytes" = true) (k11 : PySem.W.keepIn K (.ref f11) = true)
    {cc11 PP11 : Addr} {te11 : Value} {td11 : Option Addr} {tv11 : Array Value} {ts11 : Array (Option Value)} (x11 : cd11 = .ref cc11) (y11 : K.lookup cc11 = some ⟨te11, td11, .fields tv11, ts11⟩) (u11 : tv11[11]? = some (.ref PP11)) (v11 : (K.lookup PP11).isNone = true)
    {f12 : Addr} {od12 an12 : Option Addr} {sl12 : Array (Option Value)} {oc12 kV12 dc12 pm12 cd12 ct12 : Value}
    (a12 : PySem.W.nsIn K mainGlobals "is_flow" = some (some (.ref f12))) (l12 : K.lookup f12 = some ⟨oc12, od12, .func (PySem.W.fnOf "is_flow" "is_flow" (defArgs st_is_flow) (defBody st_is_flow) (defScope st_is_flow) .none kV12 dc12 pm12 an12 cd12 ct12), sl12⟩) (c12 : PySem.W.codeIn K cd12 "is_flow" = true) (k12 : PySem.W.keepIn K (.ref f12) = true)
    {f13 : Addr} {od13 an13 : Option Addr} {sl13 : Array (Option Value)} {oc13 kV13 dc13 pm13 cd13 ct13 : Value}
    (a13 : PySem.W.nsIn K mainGlobals "is_birth" = some (some (.ref f13))) (l13 : K.lookup f13 = some ⟨oc13, od13, .func (PySem.W.fnOf "is_birth" "is_birth" (defArgs st_is_birth) (defBody st_is_birth) (defScope st_is_birth) .none kV13 dc13 pm13 an13 cd13 ct13), sl13⟩) (c13 : PySem.W.codeIn K cd13 "is_birth" = true) (k13 : PySem.W.keepIn K (.ref f13) = true)
    {f14 : Addr} {od14 an14 : Option Addr} {sl14 : Array (Option Value)} {oc14 kV14 dc14 pm14 cd14 ct14 : Value}
    (a14 : PySem.W.nsIn K mainGlobals "is_life" = some (some (.ref f14))) (l14 : K.lookup f14 = some ⟨oc14, od14, .func (PySem.W.fnOf "is_life" "is_life" (defArgs st_is_life) (defBody st_is_life) (defScope st_is_life) .none kV14 dc14 pm14 an14 cd14 ct14), sl14⟩) (c14 : PySem.W.codeIn K cd14 "is_life" = true) (k14 : PySem.W.keepIn K (.ref f14) = true)
    {f15 : Addr} {od15 an15 : Option Addr} {sl15 : Array (Option Value)} {oc15 kV15 dc15 pm15 cd15 ct15 : Value}
    (a15 : PySem.W.nsIn K mainGlobals "is_packet" = some (some (.ref f15))) (l15 : K.lookup f15 = some ⟨oc15, od15, .func (PySem.W.fnOf "is_packet" "is_packet" (defArgs st_is_packet) (defBody st_is_packet) (defScope st_is_packet) .none kV15 dc15 pm15 an15 cd15 ct15), sl15⟩) (c15 : PySem.W.codeIn K cd15 "is_packet" = true) (k15 : PySem.W.keepIn K (.ref f15) = true)
    {f16 : Addr} {od16 an16 : Option Addr} {sl16 : Array (Option Value)} {oc16 kV16 dc16 pm16 cd16 ct16 : Value}
    (a16 : PySem.W.nsIn K mainGlobals "goes_up" = some (some (.ref f16))) (l16 : K.lookup f16 = some ⟨oc16, od16, .func (PySem.W.fnOf "goes_up" "goes_up" (defArgs st_goes_up) (defBody st_goes_up) (defScope st_goes_up) .none kV16 dc16 pm16 an16 cd16 ct16), sl16⟩) (c16 : PySem.W.codeIn K cd16 "goes_up" = true) (k16 : PySem.W.keepIn K (.ref f16) = true)
    {f17 : Addr} {od17 an17 : Option Addr} {sl17 : Array (Option Value)} {oc17 kV17 dc17 pm17 cd17 ct17 : Value}
    (a17 : PySem.W.nsIn K mainGlobals "bucket_of" = some (some (.ref f17))) (l17 : K.lookup f17 = some ⟨oc17, od17, .func (PySem.W.fnOf "bucket_of" "bucket_of" (defArgs st_bucket_of) (defBody st_bucket_of) (defScope st_bucket_of) .none kV17 dc17 pm17 an17 cd17 ct17), sl17⟩) (c17 : PySem.W.codeIn K cd17 "bucket_of" = true) (k17 : PySem.W.keepIn K (.ref f17) = true)
    {f18 : Addr} {od18 an18 : Option Addr} {sl18 : Array (Option Value)} {oc18 kV18 dc18 pm18 cd18 ct18 : Value}
    (a18 : PySem.W.nsIn K mainGlobals "first_word" = some (some (.ref f18))) (l18 : K.lookup f18 = some ⟨oc18, od18, .func (PySem.W.fnOf "first_word" "first_word" (defArgs st_first_word) (defBody st_first_word) (defScope st_first_word) .none kV18 dc18 pm18 an18 cd18 ct18), sl18⟩) (c18 : PySem.W.codeIn K cd18 "first_word" = true) (k18 : PySem.W.keepIn K (.ref f18) = true)
    {f19 : Addr} {od19 an19 : Option Addr} {sl19 : Array (Option Value)} {oc19 kV19 dc19 pm19 cd19 ct19 : Value}
    (a19 : PySem.W.nsIn K mainGlobals "_is_tuple" = some (some (.ref f19))) (l19 : K.lookup f19 = some ⟨oc19, od19, .func (PySem.W.fnOf "_is_tuple" "_is_tuple" (defArgs st__is_tuple) (defBody st__is_tuple) (defScope st__is_tuple) .none kV19 dc19 pm19 an19 cd19 ct19), sl19⟩) (c19 : PySem.W.codeIn K cd19 "_is_tuple" = true) (k19 : PySem.W.keepIn K (.ref f19) = true)
    {f20 : Addr} {od20 an20 : Option Addr} {sl20 : Array (Option Value)} {oc20 kV20 dc20 pm20 cd20 ct20 : Value}
    (a20 : PySem.W.nsIn K mainGlobals "_is_below" = some (some (.ref f20))) (l20 : K.lookup f20 = some ⟨oc20, od20, .func (PySem.W.fnOf "_is_below" "_is_below" (defArgs st__is_below) (defBody st__is_below) (defScope st__is_below) .none kV20 dc20 pm20 an20 cd20 ct20), sl20⟩) (c20 : PySem.W.codeIn K cd20 "_is_below" = true) (k20 : PySem.W.keepIn K (.ref f20) = true)
    {f21 : Addr} {od21 an21 : Option Addr} {sl21 : Array (Option Value)} {oc21 kV21 dc21 pm21 cd21 ct21 : Value}
    (a21 : PySem.W.nsIn K mainGlobals "_is_ordinal" = some (some (.ref f21))) (l21 : K.lookup f21 = some ⟨oc21, od21, .func (PySem.W.fnOf "_is_ordinal" "_is_ordinal" (defArgs st__is_ordinal) (defBody st__is_ordinal) (defScope st__is_ordinal) .none kV21 dc21 pm21 an21 cd21 ct21), sl21⟩) (c21 : PySem.W.codeIn K cd21 "_is_ordinal" = true) (k21 : PySem.W.keepIn K (.ref f21) = true)
    {f22 : Addr} {od22 an22 : Option Addr} {sl22 : Array (Option Value)} {oc22 kV22 dc22 pm22 cd22 ct22 : Value}
    (a22 : PySem.W.nsIn K mainGlobals "_is_segment" = some (some (.ref f22))) (l22 : K.lookup f22 = some ⟨oc22, od22, .func (PySem.W.fnOf "_is_segment" "_is_segment" (defArgs st__is_segment) (defBody st__is_segment) (defScope st__is_segment) .none kV22 dc22 pm22 an22 cd22 ct22), sl22⟩) (c22 : PySem.W.codeIn K cd22 "_is_segment" = true) (k22 : PySem.W.keepIn K (.ref f22) = true)
    {f23 : Addr} {od23 an23 : Option Addr} {sl23 : Array (Option Value)} {oc23 kV23 dc23 pm23 cd23 ct23 : Value}
    (a23 : PySem.W.nsIn K mainGlobals "can_be_written" = some (some (.ref f23))) (l23 : K.lookup f23 = some ⟨oc23, od23, .func (PySem.W.fnOf "can_be_written" "can_be_written" (defArgs st_can_be_written) (defBody st_can_be_written) (defScope st_can_be_written) .none kV23 dc23 pm23 an23 cd23 ct23), sl23⟩) (c23 : PySem.W.codeIn K cd23 "can_be_written" = true) (k23 : PySem.W.keepIn K (.ref f23) = true)
    {f24 : Addr} {od24 an24 : Option Addr} {sl24 : Array (Option Value)} {oc24 kV24 dc24 pm24 cd24 ct24 : Value}
    (a24 : PySem.W.nsIn K mainGlobals "_can_stand" = some (some (.ref f24))) (l24 : K.lookup f24 = some ⟨oc24, od24, .func (PySem.W.fnOf "_can_stand" "_can_stand" (defArgs st__can_stand) (defBody st__can_stand) (defScope st__can_stand) .none kV24 dc24 pm24 an24 cd24 ct24), sl24⟩) (c24 : PySem.W.codeIn K cd24 "_can_stand" = true) (k24 : PySem.W.keepIn K (.ref f24) = true)
    {cc24 PP24 : Addr} {te24 : Value} {td24 : Option Addr} {tv24 : Array Value} {ts24 : Array (Option Value)} (x24 : cd24 = .ref cc24) (y24 : K.lookup cc24 = some ⟨te24, td24, .fields tv24, ts24⟩) (u24 : tv24[11]? = some (.ref PP24)) (v24 : (K.lookup PP24).isNone = true)
    {f25 : Addr} {od25 an25 : Option Addr} {sl25 : Array (Option Value)} {oc25 kV25 dc25 pm25 cd25 ct25 : Value}
    (a25 : PySem.W.nsIn K mainGlobals "_is_word" = some (some (.ref f25))) (l25 : K.lookup f25 = some ⟨oc25, od25, .func (PySem.W.fnOf "_is_word" "_is_word" (defArgs st__is_word) (defBody st__is_word) (defScope st__is_word) .none kV25 dc25 pm25 an25 cd25 ct25), sl25⟩) (c25 : PySem.W.codeIn K cd25 "_is_word" = true) (k25 : PySem.W.keepIn K (.ref f25) = true)
    {cc25 PP25 : Addr} {te25 : Value} {td25 : Option Addr} {tv25 : Array Value} {ts25 : Array (Option Value)} (x25 : cd25 = .ref cc25) (y25 : K.lookup cc25 = some ⟨te25, td25, .fields tv25, ts25⟩) (u25 : tv25[11]? = some (.ref PP25)) (v25 : (K.lookup PP25).isNone = true)
    {f26 : Addr} {od26 an26 : Option Addr} {sl26 : Array (Option Value)} {oc26 kV26 dc26 pm26 cd26 ct26 : Value}
    (a26 : PySem.W.nsIn K mainGlobals "is_message" = some (some (.ref f26))) (l26 : K.lookup f26 = some ⟨oc26, od26, .func (PySem.W.fnOf "is_message" "is_message" (defArgs st_is_message) (defBody st_is_message) (defScope st_is_message) .none kV26 dc26 pm26 an26 cd26 ct26), sl26⟩) (c26 : PySem.W.codeIn K cd26 "is_message" = true) (k26 : PySem.W.keepIn K (.ref f26) = true)
    {f27 : Addr} {od27 an27 : Option Addr} {sl27 : Array (Option Value)} {oc27 kV27 dc27 pm27 cd27 ct27 : Value}
    (a27 : PySem.W.nsIn K mainGlobals "_is_packet_up" = some (some (.ref f27))) (l27 : K.lookup f27 = some ⟨oc27, od27, .func (PySem.W.fnOf "_is_packet_up" "_is_packet_up" (defArgs st__is_packet_up) (defBody st__is_packet_up) (defScope st__is_packet_up) .none kV27 dc27 pm27 an27 cd27 ct27), sl27⟩) (c27 : PySem.W.codeIn K cd27 "_is_packet_up" = true) (k27 : PySem.W.keepIn K (.ref f27) = true)
    {f28 : Addr} {od28 an28 : Option Addr} {sl28 : Array (Option Value)} {oc28 kV28 dc28 pm28 cd28 ct28 : Value}
    (a28 : PySem.W.nsIn K mainGlobals "_is_wrap" = some (some (.ref f28))) (l28 : K.lookup f28 = some ⟨oc28, od28, .func (PySem.W.fnOf "_is_wrap" "_is_wrap" (defArgs st__is_wrap) (defBody st__is_wrap) (defScope st__is_wrap) .none kV28 dc28 pm28 an28 cd28 ct28), sl28⟩) (c28 : PySem.W.codeIn K cd28 "_is_wrap" = true) (k28 : PySem.W.keepIn K (.ref f28) = true)
    {f29 : Addr} {od29 an29 : Option Addr} {sl29 : Array (Option Value)} {oc29 kV29 dc29 pm29 cd29 ct29 : Value}
    (a29 : PySem.W.nsIn K mainGlobals "_has_parts" = some (some (.ref f29))) (l29 : K.lookup f29 = some ⟨oc29, od29, .func (PySem.W.fnOf "_has_parts" "_has_parts" (defArgs st__has_parts) (defBody st__has_parts) (defScope st__has_parts) .none kV29 dc29 pm29 an29 cd29 ct29), sl29⟩) (c29 : PySem.W.codeIn K cd29 "_has_parts" = true) (k29 : PySem.W.keepIn K (.ref f29) = true)
    {f30 : Addr} {od30 an30 : Option Addr} {sl30 : Array (Option Value)} {oc30 kV30 dc30 pm30 cd30 ct30 : Value}
    (a30 : PySem.W.nsIn K mainGlobals "_are_parts" = some (some (.ref f30))) (l30 : K.lookup f30 = some ⟨oc30, od30, .func (PySem.W.fnOf "_are_parts" "_are_parts" (defArgs st__are_parts) (defBody st__are_parts) (defScope st__are_parts) .none kV30 dc30 pm30 an30 cd30 ct30), sl30⟩) (c30 : PySem.W.codeIn K cd30 "_are_parts" = true) (k30 : PySem.W.keepIn K (.ref f30) = true)
    {f31 : Addr} {od31 an31 : Option Addr} {sl31 : Array (Option Value)} {oc31 kV31 dc31 pm31 cd31 ct31 : Value}
    (a31 : PySem.W.nsIn K mainGlobals "_is_part" = some (some (.ref f31))) (l31 : K.lookup f31 = some ⟨oc31, od31, .func (PySem.W.fnOf "_is_part" "_is_part" (defArgs st__is_part) (defBody st__is_part) (defScope st__is_part) .none kV31 dc31 pm31 an31 cd31 ct31), sl31⟩) (c31 : PySem.W.codeIn K cd31 "_is_part" = true) (k31 : PySem.W.keepIn K (.ref f31) = true)
    {cc31 PP31 : Addr} {te31 : Value} {td31 : Option Addr} {tv31 : Array Value} {ts31 : Array (Option Value)} (x31 : cd31 = .ref cc31) (y31 : K.lookup cc31 = some ⟨te31, td31, .fields tv31, ts31⟩) (u31 : tv31[11]? = some (.ref PP31)) (v31 : (K.lookup PP31).isNone = true)
    {f32 : Addr} {od32 an32 : Option Addr} {sl32 : Array (Option Value)} {oc32 kV32 dc32 pm32 cd32 ct32 : Value}
    (a32 : PySem.W.nsIn K mainGlobals "_is_row" = some (some (.ref f32))) (l32 : K.lookup f32 = some ⟨oc32, od32, .func (PySem.W.fnOf "_is_row" "_is_row" (defArgs st__is_row) (defBody st__is_row) (defScope st__is_row) .none kV32 dc32 pm32 an32 cd32 ct32), sl32⟩) (c32 : PySem.W.codeIn K cd32 "_is_row" = true) (k32 : PySem.W.keepIn K (.ref f32) = true)
    {f33 : Addr} {od33 an33 : Option Addr} {sl33 : Array (Option Value)} {oc33 kV33 dc33 pm33 cd33 ct33 : Value}
    (a33 : PySem.W.nsIn K mainGlobals "_law_bag" = some (some (.ref f33))) (l33 : K.lookup f33 = some ⟨oc33, od33, .func (PySem.W.fnOf "_law_bag" "_law_bag" (defArgs st__law_bag) (defBody st__law_bag) (defScope st__law_bag) .none kV33 dc33 pm33 an33 cd33 ct33), sl33⟩) (c33 : PySem.W.codeIn K cd33 "_law_bag" = true) (k33 : PySem.W.keepIn K (.ref f33) = true)
    {f34 : Addr} {od34 an34 : Option Addr} {sl34 : Array (Option Value)} {oc34 kV34 dc34 pm34 cd34 ct34 : Value}
    (a34 : PySem.W.nsIn K mainGlobals "_law_draw" = some (some (.ref f34))) (l34 : K.lookup f34 = some ⟨oc34, od34, .func (PySem.W.fnOf "_law_draw" "_law_draw" (defArgs st__law_draw) (defBody st__law_draw) (defScope st__law_draw) .none kV34 dc34 pm34 an34 cd34 ct34), sl34⟩) (c34 : PySem.W.codeIn K cd34 "_law_draw" = true) (k34 : PySem.W.keepIn K (.ref f34) = true)
    {f35 : Addr} {od35 an35 : Option Addr} {sl35 : Array (Option Value)} {oc35 kV35 dc35 pm35 cd35 ct35 : Value}
    (a35 : PySem.W.nsIn K mainGlobals "_law_count" = some (some (.ref f35))) (l35 : K.lookup f35 = some ⟨oc35, od35, .func (PySem.W.fnOf "_law_count" "_law_count" (defArgs st__law_count) (defBody st__law_count) (defScope st__law_count) .none kV35 dc35 pm35 an35 cd35 ct35), sl35⟩) (c35 : PySem.W.codeIn K cd35 "_law_count" = true) (k35 : PySem.W.keepIn K (.ref f35) = true)
    {f36 : Addr} {od36 an36 : Option Addr} {sl36 : Array (Option Value)} {oc36 kV36 dc36 pm36 cd36 ct36 : Value}
    (a36 : PySem.W.nsIn K mainGlobals "_law_flow" = some (some (.ref f36))) (l36 : K.lookup f36 = some ⟨oc36, od36, .func (PySem.W.fnOf "_law_flow" "_law_flow" (defArgs st__law_flow) (defBody st__law_flow) (defScope st__law_flow) .none kV36 dc36 pm36 an36 cd36 ct36), sl36⟩) (c36 : PySem.W.codeIn K cd36 "_law_flow" = true) (k36 : PySem.W.keepIn K (.ref f36) = true)
    {f37 : Addr} {od37 an37 : Option Addr} {sl37 : Array (Option Value)} {oc37 kV37 dc37 pm37 cd37 ct37 : Value}
    (a37 : PySem.W.nsIn K mainGlobals "_law_birth" = some (some (.ref f37))) (l37 : K.lookup f37 = some ⟨oc37, od37, .func (PySem.W.fnOf "_law_birth" "_law_birth" (defArgs st__law_birth) (defBody st__law_birth) (defScope st__law_birth) .none kV37 dc37 pm37 an37 cd37 ct37), sl37⟩) (c37 : PySem.W.codeIn K cd37 "_law_birth" = true) (k37 : PySem.W.keepIn K (.ref f37) = true)
    {f38 : Addr} {od38 an38 : Option Addr} {sl38 : Array (Option Value)} {oc38 kV38 dc38 pm38 cd38 ct38 : Value}
    (a38 : PySem.W.nsIn K mainGlobals "_law_life" = some (some (.ref f38))) (l38 : K.lookup f38 = some ⟨oc38, od38, .func (PySem.W.fnOf "_law_life" "_law_life" (defArgs st__law_life) (defBody st__law_life) (defScope st__law_life) .none kV38 dc38 pm38 an38 cd38 ct38), sl38⟩) (c38 : PySem.W.codeIn K cd38 "_law_life" = true) (k38 : PySem.W.keepIn K (.ref f38) = true)
    {f39 : Addr} {od39 an39 : Option Addr} {sl39 : Array (Option Value)} {oc39 kV39 dc39 pm39 cd39 ct39 : Value}
    (a39 : PySem.W.nsIn K mainGlobals "_law_packet" = some (some (.ref f39))) (l39 : K.lookup f39 = some ⟨oc39, od39, .func (PySem.W.fnOf "_law_packet" "_law_packet" (defArgs st__law_packet) (defBody st__law_packet) (defScope st__law_packet) .none kV39 dc39 pm39 an39 cd39 ct39), sl39⟩) (c39 : PySem.W.codeIn K cd39 "_law_packet" = true) (k39 : PySem.W.keepIn K (.ref f39) = true)
    {f40 : Addr} {od40 an40 : Option Addr} {sl40 : Array (Option Value)} {oc40 kV40 dc40 pm40 cd40 ct40 : Value}
    (a40 : PySem.W.nsIn K mainGlobals "_law_rows" = some (some (.ref f40))) (l40 : K.lookup f40 = some ⟨oc40, od40, .func (PySem.W.fnOf "_law_rows" "_law_rows" (defArgs st__law_rows) (defBody st__law_rows) (defScope st__law_rows) .none kV40 dc40 pm40 an40 cd40 ct40), sl40⟩) (c40 : PySem.W.codeIn K cd40 "_law_rows" = true) (k40 : PySem.W.keepIn K (.ref f40) = true)
    {f41 : Addr} {od41 an41 : Option Addr} {sl41 : Array (Option Value)} {oc41 kV41 dc41 pm41 cd41 ct41 : Value}
    (a41 : PySem.W.nsIn K mainGlobals "_law_newest" = some (some (.ref f41))) (l41 : K.lookup f41 = some ⟨oc41, od41, .func (PySem.W.fnOf "_law_newest" "_law_newest" (defArgs st__law_newest) (defBody st__law_newest) (defScope st__law_newest) .none kV41 dc41 pm41 an41 cd41 ct41), sl41⟩) (c41 : PySem.W.codeIn K cd41 "_law_newest" = true) (k41 : PySem.W.keepIn K (.ref f41) = true)
    {f42 : Addr} {od42 an42 : Option Addr} {sl42 : Array (Option Value)} {oc42 kV42 dc42 pm42 cd42 ct42 : Value}
    (a42 : PySem.W.nsIn K mainGlobals "law" = some (some (.ref f42))) (l42 : K.lookup f42 = some ⟨oc42, od42, .func (PySem.W.fnOf "law" "law" (defArgs st_law) (defBody st_law) (defScope st_law) .none kV42 dc42 pm42 an42 cd42 ct42), sl42⟩) (c42 : PySem.W.codeIn K cd42 "law" = true) (k42 : PySem.W.keepIn K (.ref f42) = true)
    {t_BUCKETS : Tok} (n_BUCKETS : PySem.W.nsIn K mainGlobals "BUCKETS" = some (some (.int 16 t_BUCKETS)))
    {t_MOST_AGENTS : Tok} (n_MOST_AGENTS : PySem.W.nsIn K mainGlobals "MOST_AGENTS" = some (some (.int 6 t_MOST_AGENTS)))
    {t_MOST_CLIENTS : Tok} (n_MOST_CLIENTS : PySem.W.nsIn K mainGlobals "MOST_CLIENTS" = some (some (.int 6 t_MOST_CLIENTS)))
    {t_MOST_COUNT : Tok} (n_MOST_COUNT : PySem.W.nsIn K mainGlobals "MOST_COUNT" = some (some (.int 1000000 t_MOST_COUNT)))
    {t_MOST_DATA : Tok} (n_MOST_DATA : PySem.W.nsIn K mainGlobals "MOST_DATA" = some (some (.int 8 t_MOST_DATA)))
    {t_MOST_HOPS : Tok} (n_MOST_HOPS : PySem.W.nsIn K mainGlobals "MOST_HOPS" = some (some (.int 8 t_MOST_HOPS)))
    {t_MOST_INTEGER : Tok} (n_MOST_INTEGER : PySem.W.nsIn K mainGlobals "MOST_INTEGER" = some (some (.int 4294967295 t_MOST_INTEGER)))
    {t_MOST_NESTED : Tok} (n_MOST_NESTED : PySem.W.nsIn K mainGlobals "MOST_NESTED" = some (some (.int 16 t_MOST_NESTED)))
    {t_MOST_STREAM : Tok} (n_MOST_STREAM : PySem.W.nsIn K mainGlobals "MOST_STREAM" = some (some (.int 4000 t_MOST_STREAM)))
    {t_MOST_WORD : Tok} (n_MOST_WORD : PySem.W.nsIn K mainGlobals "MOST_WORD" = some (some (.int 12 t_MOST_WORD)))
    (z_all : PySem.W.nsIn K mainGlobals "all" = some none)
    (z_bool : PySem.W.nsIn K mainGlobals "bool" = some none)
    (z_int : PySem.W.nsIn K mainGlobals "int" = some none)
    (z_isinstance : PySem.W.nsIn K mainGlobals "isinstance" = some none)
    (z_len : PySem.W.nsIn K mainGlobals "len" = some none)
    (z_max : PySem.W.nsIn K mainGlobals "max" = some none)
    (z_min : PySem.W.nsIn K mainGlobals "min" = some none)
    (z_range : PySem.W.nsIn K mainGlobals "range" = some none)
    (z_sorted : PySem.W.nsIn K mainGlobals "sorted" = some none)
    (z_str : PySem.W.nsIn K mainGlobals "str" = some none)
    (z_tuple : PySem.W.nsIn K mainGlobals "tuple" = some none)
    (z_zip : PySem.W.nsIn K mainGlobals "zip" = some none) : Facts K mg PA C_Table C_Mux where
  w_ROWS := ⟨D_ROWS, PySem.W.mg_of X G wa_ROWS, ⟨⟨es_ROWS, n_ROWS, wl_ROWS, wt_ROWS⟩, wo_ROWS⟩⟩
  w_TO_AGENT := ⟨D_TO_AGENT, PySem.W.mg_of X G wa_TO_AGENT, ⟨⟨es_TO_AGENT, n_TO_AGENT, wl_TO_AGENT, wt_TO_AGENT⟩, wo_TO_AGENT⟩⟩
  w_TO_CONTROLLER := ⟨D_TO_CONTROLLER, PySem.W.mg_of X G wa_TO_CONTROLLER, ⟨⟨es_TO_CONTROLLER, n_TO_CONTROLLER, wl_TO_CONTROLLER, wt_TO_CONTROLLER⟩, wo_TO_CONTROLLER⟩⟩
  w_TO_MUX := ⟨D_TO_MUX, PySem.W.mg_of X G wa_TO_MUX, ⟨⟨es_TO_MUX, n_TO_MUX, wl_TO_MUX, wt_TO_MUX⟩, wo_TO_MUX⟩⟩
  d_Table_init := defI_mk a0 i0 mk_Table kc_Table (PySem.W.mg_of X G aC_Table) l0 c0 k0 fun _ _ _ _ _ _ us hl => match us, hl with | [_], _ => rfl
  d_Table_take := defM_mk a1 i1 l1 c1 k1 fun _ _ _ _ _ _ us hl => match us, hl with | [_, _], _ => rfl
  d_Table_birth := defM_mk a2 i2 l2 c2 k2 fun _ _ _ _ _ _ us hl => match us, hl with | [_, _], _ => rfl
  d_Table_rows := defM_mk a3 i3 l3 c3 k3 fun _ _ _ _ _ _ us hl => match us, hl with | [_], _ => rfl
  d_Table_forget := defM_mk a4 i4 l4 c4 k4 fun _ _ _ _ _ _ us hl => match us, hl with | [_], _ => rfl
  d_Mux_init := defI_mk a5 i5 mk_Mux kc_Mux (PySem.W.mg_of X G aC_Mux) l5 c5 k5 fun _ _ _ _ _ _ us hl => match us, hl with | [_, _], _ => rfl
  d_Mux_receive := defM_mk a6 i6 l6 c6 k6 fun _ _ _ _ _ _ us hl => match us, hl with | [_, _], _ => rfl
  d_Mux_forget := defM_mk a7 i7 l7 c7 k7 fun _ _ _ _ _ _ us hl => match us, hl with | [_], _ => rfl
  d_Mux_rows := defM_mk a8 i8 l8 c8 k8 fun _ _ _ _ _ _ us hl => match us, hl with | [_], _ => rfl
  d_Mux__pass_on := defM_mk a9 i9 l9 c9 k9 fun _ _ _ _ _ _ us hl => match us, hl with | [_, _], _ => rfl
  d_is_integer := defT_mk (PySem.W.mg_of X G a10) l10 c10 k10 fun _ _ _ _ _ _ us hl => match us, hl with | [_, _, _], _ => rfl
  d_is_bytes := defG_mk (PySem.W.mg_of X G a11) l11 c11 k11 x11 y11 u11 v11 fun _ _ _ _ _ _ us hl => match us, hl with | [_], _ => rfl
  d_is_flow := defT_mk (PySem.W.mg_of X G a12) l12 c12 k12 fun _ _ _ _ _ _ us hl => match us, hl with | [_], _ => rfl
  d_is_birth := defT_mk (PySem.W.mg_of X G a13) l13 c13 k13 fun _ _ _ _ _ _ us hl => match us, hl with | [_], _ => rfl
  d_is_life := defT_mk (PySem.W.mg_of X G a14) l14 c14 k14 fun _ _ _ _ _ _ us hl => match us, hl with | [_], _ => rfl
  d_is_packet := defT_mk (PySem.W.mg_of X G a15) l15 c15 k15 fun _ _ _ _ _ _ us hl => match us, hl with | [_], _ => rfl
  d_goes_up := defT_mk (PySem.W.mg_of X G a16) l16 c16 k16 fun _ _ _ _ _ _ us hl => match us, hl with | [_], _ => rfl
  d_bucket_of := defT_mk (PySem.W.mg_of X G a17) l17 c17 k17 fun _ _ _ _ _ _ us hl => match us, hl with | [_], _ => rfl
  d_first_word := defT_mk (PySem.W.mg_of X G a18) l18 c18 k18 fun _ _ _ _ _ _ us hl => match us, hl with | [_], _ => rfl
  d__is_tuple := defT_mk (PySem.W.mg_of X G a19) l19 c19 k19 fun _ _ _ _ _ _ us hl => match us, hl with | [_, _], _ => rfl
  d__is_below := defT_mk (PySem.W.mg_of X G a20) l20 c20 k20 fun _ _ _ _ _ _ us hl => match us, hl with | [_, _], _ => rfl
  d__is_ordinal := defT_mk (PySem.W.mg_of X G a21) l21 c21 k21 fun _ _ _ _ _ _ us hl => match us, hl with | [_], _ => rfl
  d__is_segment := defT_mk (PySem.W.mg_of X G a22) l22 c22 k22 fun _ _ _ _ _ _ us hl => match us, hl with | [_], _ => rfl
  d_can_be_written := defT_mk (PySem.W.mg_of X G a23) l23 c23 k23 fun _ _ _ _ _ _ us hl => match us, hl with | [_], _ => rfl
  d__can_stand := defG_mk (PySem.W.mg_of X G a24) l24 c24 k24 x24 y24 u24 v24 fun _ _ _ _ _ _ us hl => match us, hl with | [_, _], _ => rfl
  d__is_word := defG_mk (PySem.W.mg_of X G a25) l25 c25 k25 x25 y25 u25 v25 fun _ _ _ _ _ _ us hl => match us, hl with | [_], _ => rfl
  d_is_message := defT_mk (PySem.W.mg_of X G a26) l26 c26 k26 fun _ _ _ _ _ _ us hl => match us, hl with | [_, _], _ => rfl
  d__is_packet_up := defT_mk (PySem.W.mg_of X G a27) l27 c27 k27 fun _ _ _ _ _ _ us hl => match us, hl with | [_], _ => rfl
  d__is_wrap := defT_mk (PySem.W.mg_of X G a28) l28 c28 k28 fun _ _ _ _ _ _ us hl => match us, hl with | [_], _ => rfl
  d__has_parts := defT_mk (PySem.W.mg_of X G a29) l29 c29 k29 fun _ _ _ _ _ _ us hl => match us, hl with | [_, _], _ => rfl
  d__are_parts := defT_mk (PySem.W.mg_of X G a30) l30 c30 k30 fun _ _ _ _ _ _ us hl => match us, hl with | [_, _], _ => rfl
  d__is_part := defG_mk (PySem.W.mg_of X G a31) l31 c31 k31 x31 y31 u31 v31 fun _ _ _ _ _ _ us hl => match us, hl with | [_, _], _ => rfl
  d__is_row := defT_mk (PySem.W.mg_of X G a32) l32 c32 k32 fun _ _ _ _ _ _ us hl => match us, hl with | [_, _], _ => rfl
  d__law_bag := defT_mk (PySem.W.mg_of X G a33) l33 c33 k33 fun _ _ _ _ _ _ us hl => match us, hl with | [_, _], _ => rfl
  d__law_draw := defT_mk (PySem.W.mg_of X G a34) l34 c34 k34 fun _ _ _ _ _ _ us hl => match us, hl with | [_, _], _ => rfl
  d__law_count := defT_mk (PySem.W.mg_of X G a35) l35 c35 k35 fun _ _ _ _ _ _ us hl => match us, hl with | [_, _], _ => rfl
  d__law_flow := defT_mk (PySem.W.mg_of X G a36) l36 c36 k36 fun _ _ _ _ _ _ us hl => match us, hl with | [_], _ => rfl
  d__law_birth := defT_mk (PySem.W.mg_of X G a37) l37 c37 k37 fun _ _ _ _ _ _ us hl => match us, hl with | [_], _ => rfl
  d__law_life := defT_mk (PySem.W.mg_of X G a38) l38 c38 k38 fun _ _ _ _ _ _ us hl => match us, hl with | [_], _ => rfl
  d__law_packet := defT_mk (PySem.W.mg_of X G a39) l39 c39 k39 fun _ _ _ _ _ _ us hl => match us, hl with | [_, _], _ => rfl
  d__law_rows := defT_mk (PySem.W.mg_of X G a40) l40 c40 k40 fun _ _ _ _ _ _ us hl => match us, hl with | [_, _], _ => rfl
  d__law_newest := defT_mk (PySem.W.mg_of X G a41) l41 c41 k41 fun _ _ _ _ _ _ us hl => match us, hl with | [_], _ => rfl
  d_law := defT_mk (PySem.W.mg_of X G a42) l42 c42 k42 fun _ _ _ _ _ _ us hl => match us, hl with | [_], _ => rfl
  k_Table := ⟨pg_Table, hd_Table, po_Table, sa_Table⟩
  k_Mux := ⟨pg_Mux, hd_Mux, po_Mux, sa_Mux⟩
  n_Mux__number := nA_Mux__number
  n_Mux__table := nA_Mux__table
  n_Table__rows := nA_Table__rows
  c_BUCKETS := ⟨t_BUCKETS, PySem.W.mg_of X G n_BUCKETS⟩
  c_MOST_AGENTS := ⟨t_MOST_AGENTS, PySem.W.mg_of X G n_MOST_AGENTS⟩
  c_MOST_CLIENTS := ⟨t_MOST_CLIENTS, PySem.W.mg_of X G n_MOST_CLIENTS⟩
  c_MOST_COUNT := ⟨t_MOST_COUNT, PySem.W.mg_of X G n_MOST_COUNT⟩
  c_MOST_DATA := ⟨t_MOST_DATA, PySem.W.mg_of X G n_MOST_DATA⟩
  c_MOST_HOPS := ⟨t_MOST_HOPS, PySem.W.mg_of X G n_MOST_HOPS⟩
  c_MOST_INTEGER := ⟨t_MOST_INTEGER, PySem.W.mg_of X G n_MOST_INTEGER⟩
  c_MOST_NESTED := ⟨t_MOST_NESTED, PySem.W.mg_of X G n_MOST_NESTED⟩
  c_MOST_STREAM := ⟨t_MOST_STREAM, PySem.W.mg_of X G n_MOST_STREAM⟩
  c_MOST_WORD := ⟨t_MOST_WORD, PySem.W.mg_of X G n_MOST_WORD⟩
  z_all := PySem.W.mg_none_of X G z_all
  z_bool := PySem.W.mg_none_of X G z_bool
  z_int := PySem.W.mg_none_of X G z_int
  z_isinstance := PySem.W.mg_none_of X G z_isinstance
  z_len := PySem.W.mg_none_of X G z_len
  z_max := PySem.W.mg_none_of X G z_max
  z_min := PySem.W.mg_none_of X G z_min
  z_range := PySem.W.mg_none_of X G z_range
  z_sorted := PySem.W.mg_none_of X G z_sorted
  z_str := PySem.W.mg_none_of X G z_str
  z_tuple := PySem.W.mg_none_of X G z_tuple
  z_zip := PySem.W.mg_none_of X G z_zip
end Gn

set_option Elab.async false
set_option linter.all false
set_option maxRecDepth 100000
set_option maxHeartbeats 8000000
namespace My
open PySem PySem.Spec PyProof.Rows L2 Wp Gn
local macro_rules | `(tactic| walk_at "go") => `(tactic| (with_reducible refine goS_i ?_))
local macro_rules | `(tactic| walk_at "wp") => `(tactic| simp (disch := omega) only [Wp.wSeq, Wp.wNext, Wp.wSet, Wp.wVar, Wp.wC, Wp.wOp, Wp.wRet, Wp.wIfS, Wp.wTest, Wp.wCall, Wp.wCons, Wp.wNil, Wp.wTup, Wp.wLst, Wp.wAsg, Wp.gTp, Wp.gC, Wp.gNm, Wp.gN0, Wp.gIx, Wp.rSet, Wp.rAdd, Wp.rMul, Wp.rMod, Wp.rSub, Wp.rFdiv, Wp.rPow, Wp.rInt, Wp.rIx, Wp.rLt, Wp.rLe, Wp.rCmp, Wp.rGeI, Wp.rGtI, Wp.wCB, Wp.rLen, Wp.rLen1, Wp.rInt1, Wp.rMax2, Wp.rMin2, Wp.rTupOf, Wp.rListOf,
  Wp.wIsi, Wp.rBIs, Wp.rIsN, Wp.isNon, Wp.wMt, Wp.rAppendT, Wp.rExtendT, Wp.rReverseT, Wp.wNot, Wp.wOr, Wp.wAnd, Wp.wAndV, Wp.wOrV, Wp.wNotV, Wp.wFor, Wp.iRg1, Wp.iRg2, Wp.iAnyW, Wp.wAll, Wp.wChain, Wp.wSl, Wp.wNoPart, Wp.wPart, Wp.rSl, Wp.wNeg, Wp.rNeg, Wp.wLc, Wp.wYes, Wp.wDrop, Wp.wipeT, Wp.wAug, List.map, List.set_cons_zero, List.set_cons_succ, List.getElem?_cons_zero, List.getElem?_cons_succ, List.length_cons, List.length_nil, List.cons_append, List.nil_append, List.replicate, Wp.startT,
  true_and, and_true, Wp.wif_true, Wp.wif_false, Wp.ex_some, Wp.ex_some1, Wp.ex_eq, Wp.ex_lst, Wp.ex_lst0, Wp.rEq_int, Bool.false_bne, Bool.true_bne, Int.reduceLT, Int.reduceLE, Int.reduceAdd, Nat.reduceAdd, Nat.reduceSub, eq_self, ite_true, ite_false, beq_self_eq_true, Bool.not_true, Bool.not_false, Wp.isB_0, Wp.isB_1, Wp.isB_2, Wp.isB_3, Wp.isB_4, Wp.isB_5, Wp.isB_6, Wp.isB_7, Wp.isB_8, Wp.isB_9, Wp.isB_10, Wp.isB_11, Wp.isB_12, Wp.isB_13, Wp.isB_14, Wp.isB_15, Wp.isB_16, Wp.isB_17, Wp.isB_18, Wp.isB_19, Wp.isB_20, Wp.isB_21, Wp.isB_22, Wp.isB_23, Wp.isB_24, Wp.isB_25, Wp.isB_26, Wp.isB_27, Wp.isB_28, Wp.isB_29, Wp.isB_30, Wp.isB_31, Wp.isB_32, Wp.isB_33, Wp.isB_34, Wp.isB_35, Wp.cmul_l, Wp.cmul_r, Wp.cpow_lit, Wp.size_le, Wp.size_lt, Wp.atI_0, Wp.atI_1, Wp.atI_2, Wp.atI_3, Wp.atI_4, Wp.atI_5, Wp.atI_6, Wp.ixN_0, Wp.ixN_1, Wp.ixN_2, Wp.itemsT, Wp.tyT, reduceIte, Wp.wFld, Wp.wFSet, Wp.wFAug, Wp.wMeth, Wp.wMake, Wp.rIxA, Wp.rInA, Wp.rSetA, Wp.ixA, Wp.inA, Wp.setA, Wp.lenA, Wp.getD, Option.map_some, Option.bind_some, Option.getD_some,  Wp.gIxA, Wp.wDNew, Wp.wDNewT, Wp.rLenA, Wp.rSortD, Wp.rMaxL, Wp.rPopL, Wp.rGet1, Wp.rGet2, Wp.wGet1, Wp.wGet2, Wp.wPop1, Wp.wPop2, Wp.wDel, Wp.isDT, Wp.keyT, Wp.keysT, Wp.keysL, Wp.ex_ins, Wp.ex_dct, Wp.wKGet, Wp.wKIx, Wp.rLenK, Wp.iZipK, Wp.wDisp, Wp.wPCons, Wp.wPNil, Wp.rGt, Int.cast_ofNat_Int, Int.reduceBEq, Wp.wRev, Wp.rRev, Wp.rMulA, lk_Table__rows, pt_Table__rows, no_Table_take, no_Table_rows, no_Table_birth, no_Table_forget, ln_Table, mk_Table, lk_Mux__number, pt_Mux__number, lk_Mux__table, pt_Mux__table, no_Mux_receive, no_Mux_forget, no_Mux_rows, no_Mux__pass_on, ln_Mux, mk_Mux, Wp.wRev, Wp.rRev, Wp.upS, Wp.upS_upS, *])
local macro_rules | `(tactic| walk_at "run") => `(tactic| repeat (first | walk_at "wp" | walk_at "go"))
local macro_rules | `(tactic| walk_at "wq") => `(tactic| simp (disch := omega) only [Wp.wSeq, Wp.wNext, Wp.wSet, Wp.wVar, Wp.wC, Wp.wOp, Wp.wRet, Wp.wIfS, Wp.wTest, Wp.wCall, Wp.wCons, Wp.wNil, Wp.wTup, Wp.wLst, Wp.wAsg, Wp.gTp, Wp.gC, Wp.gNm, Wp.gN0, Wp.gIx, Wp.rSet, Wp.rAdd, Wp.rMul, Wp.rMod, Wp.rSub, Wp.rFdiv, Wp.rPow, Wp.rInt, Wp.rIx, Wp.rLt, Wp.rLe, Wp.rCmp, Wp.rGeI, Wp.rGtI, Wp.wCB, Wp.rLen, Wp.rLen1, Wp.rInt1, Wp.rMax2, Wp.rMin2, Wp.rTupOf, Wp.rListOf,
  Wp.wIsi, Wp.rBIs, Wp.rIsN, Wp.isNon, Wp.wMt, Wp.rAppendT, Wp.rExtendT, Wp.rReverseT, Wp.wNot, Wp.wOr, Wp.wAnd, Wp.wAndV, Wp.wOrV, Wp.wNotV, Wp.wFor, Wp.iRg1, Wp.iRg2, Wp.iAnyW, Wp.wAll, Wp.wChain, Wp.wSl, Wp.wNoPart, Wp.wPart, Wp.rSl, Wp.wNeg, Wp.rNeg, Wp.wLc, Wp.wYes, Wp.wDrop, Wp.wipeT, Wp.wAug, List.map, List.set_cons_zero, List.set_cons_succ, List.getElem?_cons_zero, List.getElem?_cons_succ, List.length_cons, List.length_nil, List.cons_append, List.nil_append, List.replicate, Wp.startT,
  true_and, and_true, Wp.wif_true, Wp.wif_false, Wp.ex_some, Wp.ex_some1, Wp.ex_eq, Wp.ex_lst, Wp.ex_lst0, Wp.rEq_int, Bool.false_bne, Bool.true_bne, Int.reduceLT, Int.reduceLE, Int.reduceAdd, Nat.reduceAdd, Nat.reduceSub, eq_self, ite_true, ite_false, beq_self_eq_true, Bool.not_true, Bool.not_false, Wp.isB_0, Wp.isB_1, Wp.isB_2, Wp.isB_3, Wp.isB_4, Wp.isB_5, Wp.isB_6, Wp.isB_7, Wp.isB_8, Wp.isB_9, Wp.isB_10, Wp.isB_11, Wp.isB_12, Wp.isB_13, Wp.isB_14, Wp.isB_15, Wp.isB_16, Wp.isB_17, Wp.isB_18, Wp.isB_19, Wp.isB_20, Wp.isB_21, Wp.isB_22, Wp.isB_23, Wp.isB_24, Wp.isB_25, Wp.isB_26, Wp.isB_27, Wp.isB_28, Wp.isB_29, Wp.isB_30, Wp.isB_31, Wp.isB_32, Wp.isB_33, Wp.isB_34, Wp.isB_35, Wp.cmul_l, Wp.cmul_r, Wp.cpow_lit, Wp.size_le, Wp.size_lt, Wp.atI_0, Wp.atI_1, Wp.atI_2, Wp.atI_3, Wp.atI_4, Wp.atI_5, Wp.atI_6, Wp.ixN_0, Wp.ixN_1, Wp.ixN_2, Wp.itemsT, Wp.tyT, reduceIte, Wp.wFld, Wp.wFSet, Wp.wFAug, Wp.wMeth, Wp.wMake, Wp.rIxA, Wp.rInA, Wp.rSetA, Wp.ixA, Wp.inA, Wp.setA, Wp.lenA, Wp.getD, Option.map_some, Option.bind_some, Option.getD_some,  Wp.gIxA, Wp.wDNew, Wp.wDNewT, Wp.rLenA, Wp.rSortD, Wp.rMaxL, Wp.rPopL, Wp.rGet1, Wp.rGet2, Wp.wGet1, Wp.wGet2, Wp.wPop1, Wp.wPop2, Wp.wDel, Wp.isDT, Wp.keyT, Wp.keysT, Wp.keysL, Wp.ex_ins, Wp.ex_dct, Wp.wKGet, Wp.wKIx, Wp.rLenK, Wp.iZipK, Wp.wDisp, Wp.wPCons, Wp.wPNil, Wp.rGt, Int.cast_ofNat_Int, Int.reduceBEq, Wp.wRev, Wp.rRev, Wp.rMulA, lk_Table__rows, pt_Table__rows, no_Table_take, no_Table_rows, no_Table_birth, no_Table_forget, ln_Table, mk_Table, lk_Mux__number, pt_Mux__number, lk_Mux__table, pt_Mux__table, no_Mux_receive, no_Mux_forget, no_Mux_rows, no_Mux__pass_on, ln_Mux, mk_Mux, Wp.wRev, Wp.rRev, *])
local macro_rules | `(tactic| walk_at "r2") => `(tactic| repeat (first | walk_at "wq" | walk_at "go"))
local macro_rules | `(tactic| walk_at "w0") => `(tactic| simp (disch := omega) only [Wp.wSeq, Wp.wNext, Wp.wSet, Wp.wVar, Wp.wC, Wp.wOp, Wp.wRet, Wp.wIfS, Wp.wTest, Wp.wCall, Wp.wCons, Wp.wNil, Wp.wTup, Wp.wLst, Wp.wAsg, Wp.gTp, Wp.gC, Wp.gNm, Wp.gN0, Wp.gIx, Wp.rSet, Wp.rAdd, Wp.rMul, Wp.rMod, Wp.rSub, Wp.rFdiv, Wp.rPow, Wp.rInt, Wp.rIx, Wp.rLt, Wp.rLe, Wp.rCmp, Wp.rGeI, Wp.rGtI, Wp.wCB, Wp.rLen, Wp.rLen1, Wp.rInt1, Wp.rMax2, Wp.rMin2, Wp.rTupOf, Wp.rListOf,
  Wp.wIsi, Wp.rBIs, Wp.rIsN, Wp.isNon, Wp.wMt, Wp.rAppendT, Wp.rExtendT, Wp.rReverseT, Wp.wNot, Wp.wOr, Wp.wAnd, Wp.wAndV, Wp.wOrV, Wp.wNotV, Wp.wFor, Wp.iRg1, Wp.iRg2, Wp.iAnyW, Wp.wAll, Wp.wChain, Wp.wSl, Wp.wNoPart, Wp.wPart, Wp.rSl, Wp.wNeg, Wp.rNeg, Wp.wLc, Wp.wYes, Wp.wDrop, Wp.wipeT, Wp.wAug, List.map, List.set_cons_zero, List.set_cons_succ, List.getElem?_cons_zero, List.getElem?_cons_succ, List.length_cons, List.length_nil, List.cons_append, List.nil_append, List.replicate, Wp.startT,
  true_and, and_true, Wp.wif_true, Wp.wif_false, Wp.ex_some, Wp.ex_some1, Wp.ex_eq, Wp.ex_lst, Wp.ex_lst0, Wp.rEq_int, Bool.false_bne, Bool.true_bne, Int.reduceLT, Int.reduceLE, Int.reduceAdd, Nat.reduceAdd, Nat.reduceSub, eq_self, ite_true, ite_false, beq_self_eq_true, Bool.not_true, Bool.not_false, Wp.isB_0, Wp.isB_1, Wp.isB_2, Wp.isB_3, Wp.isB_4, Wp.isB_5, Wp.isB_6, Wp.isB_7, Wp.isB_8, Wp.isB_9, Wp.isB_10, Wp.isB_11, Wp.isB_12, Wp.isB_13, Wp.isB_14, Wp.isB_15, Wp.isB_16, Wp.isB_17, Wp.isB_18, Wp.isB_19, Wp.isB_20, Wp.isB_21, Wp.isB_22, Wp.isB_23, Wp.isB_24, Wp.isB_25, Wp.isB_26, Wp.isB_27, Wp.isB_28, Wp.isB_29, Wp.isB_30, Wp.isB_31, Wp.isB_32, Wp.isB_33, Wp.isB_34, Wp.isB_35, Wp.cmul_l, Wp.cmul_r, Wp.cpow_lit, Wp.size_le, Wp.size_lt, Wp.atI_0, Wp.atI_1, Wp.atI_2, Wp.atI_3, Wp.atI_4, Wp.atI_5, Wp.atI_6, Wp.ixN_0, Wp.ixN_1, Wp.ixN_2, Wp.itemsT, Wp.tyT, reduceIte, Wp.wFld, Wp.wFSet, Wp.wFAug, Wp.wMeth, Wp.wMake, Wp.rIxA, Wp.rInA, Wp.rSetA, Wp.ixA, Wp.inA, Wp.setA, Wp.lenA, Wp.getD, Option.map_some, Option.bind_some, Option.getD_some,  Wp.gIxA, Wp.wDNew, Wp.wDNewT, Wp.rLenA, Wp.rSortD, Wp.rMaxL, Wp.rPopL, Wp.rGet1, Wp.rGet2, Wp.wGet1, Wp.wGet2, Wp.wPop1, Wp.wPop2, Wp.wDel, Wp.isDT, Wp.keyT, Wp.keysT, Wp.keysL, Wp.ex_ins, Wp.ex_dct, Wp.wKGet, Wp.wKIx, Wp.rLenK, Wp.iZipK, Wp.wDisp, Wp.wPCons, Wp.wPNil, Wp.rGt, Int.cast_ofNat_Int, Int.reduceBEq, Wp.wRev, Wp.rRev, Wp.rMulA, lk_Table__rows, pt_Table__rows, no_Table_take, no_Table_rows, no_Table_birth, no_Table_forget, ln_Table, mk_Table, lk_Mux__number, pt_Mux__number, lk_Mux__table, pt_Mux__table, no_Mux_receive, no_Mux_forget, no_Mux_rows, no_Mux__pass_on, ln_Mux, mk_Mux, Wp.wRev, Wp.rRev])
local macro_rules | `(tactic| walk_at "r0") => `(tactic| repeat (first | walk_at "w0" | walk_at "go"))
variable {K : PySem.W.Frag} {C_Table C_Mux : Addr}
/-! ### values -/
inductive Kn (S : Sta) : T → Prop
  | non : Kn S .non
  | bl (b : Bool) : Kn S (.bl b)
  | int (i : Int) : Kn S (.int i)
  | str (x : Str) (h : PyData.strOk x = true) (hl : x.length ≤ 100) : Kn S (.str x)
  | ref (p : Addr) (xs : List T) (h : S p = some (.lst xs)) : Kn S (.ref p)
  | tup (ts : List T) (hl : ts.length ≤ 1000) (h : ∀ t ∈ ts, Kn S t) : Kn S (.tup ts)
theorem Kn.mono {S S' : Sta} (k : ∀ p xs, S p = some (.lst xs) → ∃ ys, S' p = some (.lst ys)) {t : T} (h : Kn S t) : Kn S' t := by
  induction h with
  | non => exact .non
  | bl b => exact .bl b
  | int i => exact .int i
  | str x h hl => exact .str x h hl
  | ref p xs h =>
    obtain ⟨ys, e⟩ := k p xs h
    exact .ref p ys e
  | tup ts hl h ih => exact .tup ts hl ih
/-! ### what the program's tests tell -/
def isI : T → Int → Int → Bool
  | .int i, a, b => decide (a ≤ i) && decide (i ≤ b)
  | _, _, _ => false
def spIsI : WSp := fun ts S Q _ => match ts with
  | [v, .int a, .int b] => Kn S v ∧ Q (.bl (isI v a b)) S
  | _ => False
theorem hw_is_integer : ∀ ts S Q E, ts.length = 3 → spIsI ts S Q E → b_is_integer K C_Table C_Mux { nx := fun _ S' => Q .non S', rt := Q } (Wp.startT N_is_integer ts) S := by
  intro ts S Q E _ h
  match ts, h with
  | [v, .int a, .int b], ⟨kn, h⟩ =>
    unfold b_is_integer N_is_integer
    cases kn with
    | int i =>
      simp only [isI] at h
      walk_at "run"
      refine if_dec (fun h1 => ?_) (fun h1 => ?_)
      · simp only [h1, decide_true, Bool.true_and] at h
        exact h
      · simp only [h1, decide_false, Bool.false_and] at h
        exact h
    | _ => 
      simp only [isI] at h
      walk_at "run"
def isTu (v : T) (m : Int) : Bool := match v with
  | .tup ts => (ts.length : Int) == m
  | _ => false
def spTu : WSp := fun ts S Q _ => match ts with
  | [v, .int m] => Kn S v ∧ Q (.bl (isTu v m)) S
  | _ => False
theorem hw_is_tuple : ∀ ts S Q E, ts.length = 2 → spTu ts S Q E → b__is_tuple K C_Table C_Mux { nx := fun _ S' => Q .non S', rt := Q } (Wp.startT N__is_tuple ts) S := by
  intro ts S Q E _ h
  match ts, h with
  | [v, .int m], ⟨kn, h⟩ =>
    unfold b__is_tuple N__is_tuple
    cases kn with
    | _ =>
      simp only [isTu] at h
      walk_at "run"
def spBe : WSp := fun ts S Q _ => match ts with
  | [v, .int m] => Kn S v ∧ Q (.bl (isI v 0 (m - 1))) S
  | _ => False
theorem hw_is_below : ∀ ts S Q E, ts.length = 2 → spBe ts S Q E → b__is_below K C_Table C_Mux spIsI { nx := fun _ S' => Q .non S', rt := Q } (Wp.startT N__is_below ts) S := by
  intro ts S Q E _ h
  match ts, h with
  | [v, .int m], ⟨kn, h⟩ =>
    unfold b__is_below N__is_below
    walk_at "run"
    exact ⟨kn, h⟩
def spOr : WSp := fun ts S Q _ => match ts with
  | [v] => Kn S v ∧ Q (.bl (isI v 1 1000000)) S
  | _ => False
theorem hw_is_ordinal : ∀ ts S Q E, ts.length = 1 → spOr ts S Q E → b__is_ordinal K C_Table C_Mux spIsI { nx := fun _ S' => Q .non S', rt := Q } (Wp.startT N__is_ordinal ts) S := by
  intro ts S Q E _ h
  match ts, h with
  | [v], ⟨kn, h⟩ =>
    unfold b__is_ordinal N__is_ordinal
    walk_at "run"
    exact ⟨kn, h⟩
/-! ### flows, births, lives, bytes, addresses -/
def isPr : T → Bool
  | .tup [a, b] => isI a 0 5 && isI b 1 1000000
  | _ => false
def isLf : T → Bool
  | .tup [a, b, c] => (isI a 0 5 && isI b 1 1000000) && isI c 1 1000000
  | _ => false
def isBy : T → Bool
  | .tup ts => ts.all fun t => isI t 0 255
  | _ => false
def spPr : WSp := fun ts S Q _ => match ts with
  | [v] => Kn S v ∧ Q (.bl (isPr v)) S
  | _ => False
theorem isTu2 {v : T} (e : isTu v 2 = true) : ∃ a b, v = .tup [a, b] := by
  cases v with
  | tup ts =>
    match ts, e with
    | [], e => cases e
    | [_], e => cases e
    | [a, b], _ => exact ⟨a, b, rfl⟩
    | a :: b :: c :: r, e => simp only [isTu, List.length_cons, beq_iff_eq] at e; omega
  | _ => cases e
theorem isTu3 {v : T} (e : isTu v 3 = true) : ∃ a b c, v = .tup [a, b, c] := by
  cases v with
  | tup ts =>
    match ts, e with
    | [], e => cases e
    | [_], e => cases e
    | [_, _], e => cases e
    | [a, b, c], _ => exact ⟨a, b, c, rfl⟩
    | a :: b :: c :: d :: r, e => simp only [isTu, List.length_cons, beq_iff_eq] at e; omega
  | _ => cases e
theorem pr_no {v : T} (e : isTu v 2 = false) : isPr v = false := by
  cases h : isPr v with
  | false => rfl
  | true =>
    match v, h with
    | .tup [a, b], _ => cases e
theorem lf_no {v : T} (e : isTu v 3 = false) : isLf v = false := by
  cases h : isLf v with
  | false => rfl
  | true =>
    match v, h with
    | .tup [a, b, c], _ => cases e
theorem Kn.items {S : Sta} {ts : List T} (h : Kn S (.tup ts)) : ∀ t ∈ ts, Kn S t := by
  cases h with
  | tup _ _ hk => exact hk
theorem hw_is_flow : ∀ ts S Q E, ts.length = 1 → spPr ts S Q E → b_is_flow K C_Table C_Mux spTu spBe spOr { nx := fun _ S' => Q .non S', rt := Q } (Wp.startT N_is_flow ts) S := by
  intro ts S Q E _ h
  match ts, h with
  | [v], ⟨kn, h⟩ =>
    unfold b_is_flow N_is_flow
    walk_at "r2"
    refine ⟨kn, ?_⟩
    show wif (isTu v 2) _ _
    refine if_bool (fun e => ?_) (fun e => ?_)
    · obtain ⟨a, b, rfl⟩ := isTu2 e
      have hk := kn.items
      walk_at "r2"
      refine ⟨hk a (by simp), ?_⟩
      show wif (isI a 0 5) _ _
      simp only [isPr] at h
      refine if_bool (fun e => ?_) (fun e => ?_)
      · walk_at "r2"
        refine ⟨hk b (by simp), ?_⟩
        rw [e, Bool.true_and] at h
        exact h
      · rw [e, Bool.false_and] at h
        exact h
    · rw [pr_no e] at h
      exact h
theorem hw_is_birth : ∀ ts S Q E, ts.length = 1 → spPr ts S Q E → b_is_birth K C_Table C_Mux spTu spBe spOr { nx := fun _ S' => Q .non S', rt := Q } (Wp.startT N_is_birth ts) S := by
  intro ts S Q E _ h
  match ts, h with
  | [v], ⟨kn, h⟩ =>
    unfold b_is_birth N_is_birth
    walk_at "r2"
    refine ⟨kn, ?_⟩
    show wif (isTu v 2) _ _
    refine if_bool (fun e => ?_) (fun e => ?_)
    · obtain ⟨a, b, rfl⟩ := isTu2 e
      have hk := kn.items
      walk_at "r2"
      refine ⟨hk a (by simp), ?_⟩
      show wif (isI a 0 5) _ _
      simp only [isPr] at h
      refine if_bool (fun e => ?_) (fun e => ?_)
      · walk_at "r2"
        refine ⟨hk b (by simp), ?_⟩
        rw [e, Bool.true_and] at h
        exact h
      · rw [e, Bool.false_and] at h
        exact h
    · rw [pr_no e] at h
      exact h
def spLf : WSp := fun ts S Q _ => match ts with
  | [v] => Kn S v ∧ Q (.bl (isLf v)) S
  | _ => False
theorem cut2 {a b c : T} : cutT [a, b, c] none (some 2) = [a, b] := rfl
theorem hw_is_life : ∀ ts S Q E, ts.length = 1 → spLf ts S Q E → b_is_life K C_Table C_Mux spTu spPr spOr { nx := fun _ S' => Q .non S', rt := Q } (Wp.startT N_is_life ts) S := by
  intro ts S Q E _ h
  match ts, h with
  | [v], ⟨kn, h⟩ =>
    unfold b_is_life N_is_life
    walk_at "r2"
    refine ⟨kn, ?_⟩
    show wif (isTu v 3) _ _
    refine if_bool (fun e => ?_) (fun e => ?_)
    · obtain ⟨a, b, c, rfl⟩ := isTu3 e
      have hk := kn.items
      walk_at "r2"
      rw [cut2]
      refine ⟨.tup _ (by simp) (fun t ht => hk t (by simp only [List.mem_cons, List.not_mem_nil, or_false] at ht ⊢; rcases ht with e | e <;> simp [e])), ?_⟩
      show wif (isPr (.tup [a, b])) _ _
      simp only [isLf] at h
      refine if_bool (fun e => ?_) (fun e => ?_)
      · walk_at "r2"
        refine ⟨hk c (by simp), ?_⟩
        simp only [isPr] at e
        rw [e, Bool.true_and] at h
        exact h
      · simp only [isPr] at e
        rw [e, Bool.false_and] at h
        exact h
    · rw [lf_no e] at h
      exact h
def spBy : WSp := fun ts S Q _ => match ts with
  | [v] => Kn S v ∧ Q (.bl (isBy v)) S
  | _ => False
theorem all_bytes (S : Sta) (Q : T → Sta → Prop) (a0 : Option T) : ∀ (xs : List T) (y : Option T), (∀ t ∈ xs, Kn S t) → Q (.bl (xs.all fun t => isI t 0 255)) S → allW (gNm 1) (l1_is_bytes K C_Table C_Mux spIsI) (fun _ => True) [a0, y] Q xs S
  | [], y, _, q => ⟨trivial, q⟩
  | x :: xs, y, hk, q => by
    refine ⟨trivial, ?_⟩
    have ih := all_bytes S Q a0 xs y (fun t ht => hk t (List.mem_cons_of_mem _ ht))
    generalize allW (gNm 1) (l1_is_bytes K C_Table C_Mux spIsI) (fun _ => True) [a0, y] Q xs = LP at ih ⊢
    unfold l1_is_bytes
    walk_at "run"
    refine ⟨hk x List.mem_cons_self, ?_⟩
    show wif (isI x 0 255) _ _
    rw [List.all_cons] at q
    refine if_bool (fun e => ?_) (fun e => ?_)
    · rw [e, Bool.true_and] at q
      exact ih q
    · rw [e, Bool.false_and] at q
      exact q
theorem hw_is_bytes : ∀ ts S Q E, ts.length = 1 → spBy ts S Q E → b_is_bytes K C_Table C_Mux spIsI { nx := fun _ S' => Q .non S', rt := Q } (Wp.startT N_is_bytes ts) S := by
  intro ts S Q E _ h
  match ts, h with
  | [v], ⟨kn, h⟩ =>
    unfold b_is_bytes N_is_bytes
    cases kn with
    | tup xs hl hk =>
      walk_at "run"
      exact all_bytes S Q _ xs _ hk h
    | _ =>
      simp only [isBy] at h
      walk_at "run"
def fw : T → T
  | .tup (.str w :: _) => .str w
  | _ => .non
def spFw : WSp := fun ts S Q _ => match ts with
  | [v] => Kn S v ∧ Q (fw v) S
  | _ => False
theorem hw_first_word : ∀ ts S Q E, ts.length = 1 → spFw ts S Q E → b_first_word K C_Table C_Mux { nx := fun _ S' => Q .non S', rt := Q } (Wp.startT N_first_word ts) S := by
  intro ts S Q E _ h
  match ts, h with
  | [v], ⟨kn, h⟩ =>
    unfold b_first_word N_first_word
    cases kn with
    | tup xs hl hk =>
      match xs, hl, hk, h with
      | [], _, _, h =>
        simp only [fw] at h
        walk_at "run"
        exact if_dec (fun z => absurd z (by simp)) (fun _ => by walk_at "run")
      | a :: r, _, hk, h =>
        walk_at "run"
        refine if_dec (fun _ => ?_) (fun z => absurd (by omega) z)
        have ka := hk a (by simp)
        walk_at "run"
        cases ka with
        | _ =>
          simp only [fw] at h
          walk_at "run"
    | _ =>
      simp only [fw] at h
      walk_at "run"
theorem rEq_str {x y : Str} {S : Sta} {Q : T → Sta → Prop} (hx : PyData.strOk x = true) (hy : PyData.strOk y = true) (q : Q (.bl (x == y)) S) : Wp.rEq false (.str x) (.str y) S Q := rEq_scal hx hy (by rw [Bool.false_bne]; exact q)
theorem rEq_ns {y : Str} {S : Sta} {Q : T → Sta → Prop} (hy : PyData.strOk y = true) (q : Q (.bl false) S) : Wp.rEq false .non (.str y) S Q := rEq_scal rfl hy q
end My

set_option Elab.async false
set_option linter.all false
set_option maxRecDepth 100000
set_option maxHeartbeats 8000000
namespace My
open PySem PySem.Spec PyProof.Rows L2 Wp Gn
local macro_rules | `(tactic| walk_at "go") => `(tactic| (with_reducible refine goS_i ?_))
local macro_rules | `(tactic| walk_at "wp") => `(tactic| simp (disch := omega) only [Wp.wSeq, Wp.wNext, Wp.wSet, Wp.wVar, Wp.wC, Wp.wOp, Wp.wRet, Wp.wIfS, Wp.wTest, Wp.wCall, Wp.wCons, Wp.wNil, Wp.wTup, Wp.wLst, Wp.wAsg, Wp.gTp, Wp.gC, Wp.gNm, Wp.gN0, Wp.gIx, Wp.rSet, Wp.rAdd, Wp.rMul, Wp.rMod, Wp.rSub, Wp.rFdiv, Wp.rPow, Wp.rInt, Wp.rIx, Wp.rLt, Wp.rLe, Wp.rCmp, Wp.rGeI, Wp.rGtI, Wp.wCB, Wp.rLen, Wp.rLen1, Wp.rInt1, Wp.rMax2, Wp.rMin2, Wp.rTupOf, Wp.rListOf,
  Wp.wIsi, Wp.rBIs, Wp.rIsN, Wp.isNon, Wp.wMt, Wp.rAppendT, Wp.rExtendT, Wp.rReverseT, Wp.wNot, Wp.wOr, Wp.wAnd, Wp.wAndV, Wp.wOrV, Wp.wNotV, Wp.wFor, Wp.iRg1, Wp.iRg2, Wp.iAnyW, Wp.wAll, Wp.wChain, Wp.wSl, Wp.wNoPart, Wp.wPart, Wp.rSl, Wp.wNeg, Wp.rNeg, Wp.wLc, Wp.wYes, Wp.wDrop, Wp.wipeT, Wp.wAug, List.map, List.set_cons_zero, List.set_cons_succ, List.getElem?_cons_zero, List.getElem?_cons_succ, List.length_cons, List.length_nil, List.cons_append, List.nil_append, List.replicate, Wp.startT,
  true_and, and_true, Wp.wif_true, Wp.wif_false, Wp.ex_some, Wp.ex_some1, Wp.ex_eq, Wp.ex_lst, Wp.ex_lst0, Wp.rEq_int, Bool.false_bne, Bool.true_bne, Int.reduceLT, Int.reduceLE, Int.reduceAdd, Nat.reduceAdd, Nat.reduceSub, eq_self, ite_true, ite_false, beq_self_eq_true, Bool.not_true, Bool.not_false, Wp.isB_0, Wp.isB_1, Wp.isB_2, Wp.isB_3, Wp.isB_4, Wp.isB_5, Wp.isB_6, Wp.isB_7, Wp.isB_8, Wp.isB_9, Wp.isB_10, Wp.isB_11, Wp.isB_12, Wp.isB_13, Wp.isB_14, Wp.isB_15, Wp.isB_16, Wp.isB_17, Wp.isB_18, Wp.isB_19, Wp.isB_20, Wp.isB_21, Wp.isB_22, Wp.isB_23, Wp.isB_24, Wp.isB_25, Wp.isB_26, Wp.isB_27, Wp.isB_28, Wp.isB_29, Wp.isB_30, Wp.isB_31, Wp.isB_32, Wp.isB_33, Wp.isB_34, Wp.isB_35, Wp.cmul_l, Wp.cmul_r, Wp.cpow_lit, Wp.size_le, Wp.size_lt, Wp.atI_0, Wp.atI_1, Wp.atI_2, Wp.atI_3, Wp.atI_4, Wp.atI_5, Wp.atI_6, Wp.ixN_0, Wp.ixN_1, Wp.ixN_2, Wp.itemsT, Wp.tyT, reduceIte, Wp.wFld, Wp.wFSet, Wp.wFAug, Wp.wMeth, Wp.wMake, Wp.rIxA, Wp.rInA, Wp.rSetA, Wp.ixA, Wp.inA, Wp.setA, Wp.lenA, Wp.getD, Option.map_some, Option.bind_some, Option.getD_some,  Wp.gIxA, Wp.wDNew, Wp.wDNewT, Wp.rLenA, Wp.rSortD, Wp.rMaxL, Wp.rPopL, Wp.rGet1, Wp.rGet2, Wp.wGet1, Wp.wGet2, Wp.wPop1, Wp.wPop2, Wp.wDel, Wp.isDT, Wp.keyT, Wp.keysT, Wp.keysL, Wp.ex_ins, Wp.ex_dct, Wp.wKGet, Wp.wKIx, Wp.rLenK, Wp.iZipK, Wp.wDisp, Wp.wPCons, Wp.wPNil, Wp.rGt, Int.cast_ofNat_Int, Int.reduceBEq, Wp.wRev, Wp.rRev, Wp.rMulA, lk_Table__rows, pt_Table__rows, no_Table_take, no_Table_rows, no_Table_birth, no_Table_forget, ln_Table, mk_Table, lk_Mux__number, pt_Mux__number, lk_Mux__table, pt_Mux__table, no_Mux_receive, no_Mux_forget, no_Mux_rows, no_Mux__pass_on, ln_Mux, mk_Mux, Wp.wRev, Wp.rRev, Wp.upS, Wp.upS_upS, *])
local macro_rules | `(tactic| walk_at "run") => `(tactic| repeat (first | walk_at "wp" | walk_at "go"))
local macro_rules | `(tactic| walk_at "wq") => `(tactic| simp (disch := omega) only [Wp.wSeq, Wp.wNext, Wp.wSet, Wp.wVar, Wp.wC, Wp.wOp, Wp.wRet, Wp.wIfS, Wp.wTest, Wp.wCall, Wp.wCons, Wp.wNil, Wp.wTup, Wp.wLst, Wp.wAsg, Wp.gTp, Wp.gC, Wp.gNm, Wp.gN0, Wp.gIx, Wp.rSet, Wp.rAdd, Wp.rMul, Wp.rMod, Wp.rSub, Wp.rFdiv, Wp.rPow, Wp.rInt, Wp.rIx, Wp.rLt, Wp.rLe, Wp.rCmp, Wp.rGeI, Wp.rGtI, Wp.wCB, Wp.rLen, Wp.rLen1, Wp.rInt1, Wp.rMax2, Wp.rMin2, Wp.rTupOf, Wp.rListOf,
  Wp.wIsi, Wp.rBIs, Wp.rIsN, Wp.isNon, Wp.wMt, Wp.rAppendT, Wp.rExtendT, Wp.rReverseT, Wp.wNot, Wp.wOr, Wp.wAnd, Wp.wAndV, Wp.wOrV, Wp.wNotV, Wp.wFor, Wp.iRg1, Wp.iRg2, Wp.iAnyW, Wp.wAll, Wp.wChain, Wp.wSl, Wp.wNoPart, Wp.wPart, Wp.rSl, Wp.wNeg, Wp.rNeg, Wp.wLc, Wp.wYes, Wp.wDrop, Wp.wipeT, Wp.wAug, List.map, List.set_cons_zero, List.set_cons_succ, List.getElem?_cons_zero, List.getElem?_cons_succ, List.length_cons, List.length_nil, List.cons_append, List.nil_append, List.replicate, Wp.startT,
  true_and, and_true, Wp.wif_true, Wp.wif_false, Wp.ex_some, Wp.ex_some1, Wp.ex_eq, Wp.ex_lst, Wp.ex_lst0, Wp.rEq_int, Bool.false_bne, Bool.true_bne, Int.reduceLT, Int.reduceLE, Int.reduceAdd, Nat.reduceAdd, Nat.reduceSub, eq_self, ite_true, ite_false, beq_self_eq_true, Bool.not_true, Bool.not_false, Wp.isB_0, Wp.isB_1, Wp.isB_2, Wp.isB_3, Wp.isB_4, Wp.isB_5, Wp.isB_6, Wp.isB_7, Wp.isB_8, Wp.isB_9, Wp.isB_10, Wp.isB_11, Wp.isB_12, Wp.isB_13, Wp.isB_14, Wp.isB_15, Wp.isB_16, Wp.isB_17, Wp.isB_18, Wp.isB_19, Wp.isB_20, Wp.isB_21, Wp.isB_22, Wp.isB_23, Wp.isB_24, Wp.isB_25, Wp.isB_26, Wp.isB_27, Wp.isB_28, Wp.isB_29, Wp.isB_30, Wp.isB_31, Wp.isB_32, Wp.isB_33, Wp.isB_34, Wp.isB_35, Wp.cmul_l, Wp.cmul_r, Wp.cpow_lit, Wp.size_le, Wp.size_lt, Wp.atI_0, Wp.atI_1, Wp.atI_2, Wp.atI_3, Wp.atI_4, Wp.atI_5, Wp.atI_6, Wp.ixN_0, Wp.ixN_1, Wp.ixN_2, Wp.itemsT, Wp.tyT, reduceIte, Wp.wFld, Wp.wFSet, Wp.wFAug, Wp.wMeth, Wp.wMake, Wp.rIxA, Wp.rInA, Wp.rSetA, Wp.ixA, Wp.inA, Wp.setA, Wp.lenA, Wp.getD, Option.map_some, Option.bind_some, Option.getD_some,  Wp.gIxA, Wp.wDNew, Wp.wDNewT, Wp.rLenA, Wp.rSortD, Wp.rMaxL, Wp.rPopL, Wp.rGet1, Wp.rGet2, Wp.wGet1, Wp.wGet2, Wp.wPop1, Wp.wPop2, Wp.wDel, Wp.isDT, Wp.keyT, Wp.keysT, Wp.keysL, Wp.ex_ins, Wp.ex_dct, Wp.wKGet, Wp.wKIx, Wp.rLenK, Wp.iZipK, Wp.wDisp, Wp.wPCons, Wp.wPNil, Wp.rGt, Int.cast_ofNat_Int, Int.reduceBEq, Wp.wRev, Wp.rRev, Wp.rMulA, lk_Table__rows, pt_Table__rows, no_Table_take, no_Table_rows, no_Table_birth, no_Table_forget, ln_Table, mk_Table, lk_Mux__number, pt_Mux__number, lk_Mux__table, pt_Mux__table, no_Mux_receive, no_Mux_forget, no_Mux_rows, no_Mux__pass_on, ln_Mux, mk_Mux, Wp.wRev, Wp.rRev, *])
local macro_rules | `(tactic| walk_at "r2") => `(tactic| repeat (first | walk_at "wq" | walk_at "go"))
local macro_rules | `(tactic| walk_at "w0") => `(tactic| simp (disch := omega) only [Wp.wSeq, Wp.wNext, Wp.wSet, Wp.wVar, Wp.wC, Wp.wOp, Wp.wRet, Wp.wIfS, Wp.wTest, Wp.wCall, Wp.wCons, Wp.wNil, Wp.wTup, Wp.wLst, Wp.wAsg, Wp.gTp, Wp.gC, Wp.gNm, Wp.gN0, Wp.gIx, Wp.rSet, Wp.rAdd, Wp.rMul, Wp.rMod, Wp.rSub, Wp.rFdiv, Wp.rPow, Wp.rInt, Wp.rIx, Wp.rLt, Wp.rLe, Wp.rCmp, Wp.rGeI, Wp.rGtI, Wp.wCB, Wp.rLen, Wp.rLen1, Wp.rInt1, Wp.rMax2, Wp.rMin2, Wp.rTupOf, Wp.rListOf,
  Wp.wIsi, Wp.rBIs, Wp.rIsN, Wp.isNon, Wp.wMt, Wp.rAppendT, Wp.rExtendT, Wp.rReverseT, Wp.wNot, Wp.wOr, Wp.wAnd, Wp.wAndV, Wp.wOrV, Wp.wNotV, Wp.wFor, Wp.iRg1, Wp.iRg2, Wp.iAnyW, Wp.wAll, Wp.wChain, Wp.wSl, Wp.wNoPart, Wp.wPart, Wp.rSl, Wp.wNeg, Wp.rNeg, Wp.wLc, Wp.wYes, Wp.wDrop, Wp.wipeT, Wp.wAug, List.map, List.set_cons_zero, List.set_cons_succ, List.getElem?_cons_zero, List.getElem?_cons_succ, List.length_cons, List.length_nil, List.cons_append, List.nil_append, List.replicate, Wp.startT,
  true_and, and_true, Wp.wif_true, Wp.wif_false, Wp.ex_some, Wp.ex_some1, Wp.ex_eq, Wp.ex_lst, Wp.ex_lst0, Wp.rEq_int, Bool.false_bne, Bool.true_bne, Int.reduceLT, Int.reduceLE, Int.reduceAdd, Nat.reduceAdd, Nat.reduceSub, eq_self, ite_true, ite_false, beq_self_eq_true, Bool.not_true, Bool.not_false, Wp.isB_0, Wp.isB_1, Wp.isB_2, Wp.isB_3, Wp.isB_4, Wp.isB_5, Wp.isB_6, Wp.isB_7, Wp.isB_8, Wp.isB_9, Wp.isB_10, Wp.isB_11, Wp.isB_12, Wp.isB_13, Wp.isB_14, Wp.isB_15, Wp.isB_16, Wp.isB_17, Wp.isB_18, Wp.isB_19, Wp.isB_20, Wp.isB_21, Wp.isB_22, Wp.isB_23, Wp.isB_24, Wp.isB_25, Wp.isB_26, Wp.isB_27, Wp.isB_28, Wp.isB_29, Wp.isB_30, Wp.isB_31, Wp.isB_32, Wp.isB_33, Wp.isB_34, Wp.isB_35, Wp.cmul_l, Wp.cmul_r, Wp.cpow_lit, Wp.size_le, Wp.size_lt, Wp.atI_0, Wp.atI_1, Wp.atI_2, Wp.atI_3, Wp.atI_4, Wp.atI_5, Wp.atI_6, Wp.ixN_0, Wp.ixN_1, Wp.ixN_2, Wp.itemsT, Wp.tyT, reduceIte, Wp.wFld, Wp.wFSet, Wp.wFAug, Wp.wMeth, Wp.wMake, Wp.rIxA, Wp.rInA, Wp.rSetA, Wp.ixA, Wp.inA, Wp.setA, Wp.lenA, Wp.getD, Option.map_some, Option.bind_some, Option.getD_some,  Wp.gIxA, Wp.wDNew, Wp.wDNewT, Wp.rLenA, Wp.rSortD, Wp.rMaxL, Wp.rPopL, Wp.rGet1, Wp.rGet2, Wp.wGet1, Wp.wGet2, Wp.wPop1, Wp.wPop2, Wp.wDel, Wp.isDT, Wp.keyT, Wp.keysT, Wp.keysL, Wp.ex_ins, Wp.ex_dct, Wp.wKGet, Wp.wKIx, Wp.rLenK, Wp.iZipK, Wp.wDisp, Wp.wPCons, Wp.wPNil, Wp.rGt, Int.cast_ofNat_Int, Int.reduceBEq, Wp.wRev, Wp.rRev, Wp.rMulA, lk_Table__rows, pt_Table__rows, no_Table_take, no_Table_rows, no_Table_birth, no_Table_forget, ln_Table, mk_Table, lk_Mux__number, pt_Mux__number, lk_Mux__table, pt_Mux__table, no_Mux_receive, no_Mux_forget, no_Mux_rows, no_Mux__pass_on, ln_Mux, mk_Mux, Wp.wRev, Wp.rRev])
local macro_rules | `(tactic| walk_at "r0") => `(tactic| repeat (first | walk_at "w0" | walk_at "go"))
variable {K : PySem.W.Frag} {C_Table C_Mux : Addr}
/-! ### states -/
abbrev IsBag (S : Sta) (p : Addr) : Prop := Wp.IsBag none S p
abbrev Grb (p : Addr) (S S' : Sta) : Prop := Wp.Grb none p S S'
theorem _root_.Wp.Gr.lists {S S' : Sta} (g : Wp.Gr S S') : ∀ p xs, S p = some (.lst xs) → ∃ ys, S' p = some (.lst ys) := fun p xs e => ⟨xs, g p _ e⟩
theorem _root_.Wp.Grb.lists {p : Addr} {S S' : Sta} (g : Wp.Grb none p S S') : ∀ q xs, S q = some (.lst xs) → ∃ ys, S' q = some (.lst ys) := fun q xs e => by
  by_cases h : q = p
  · obtain ⟨a, b, c, z⟩ := g.bag
    exact ⟨_, by rw [h]; exact z⟩
  · exact ⟨xs, g.keep q _ e h⟩
theorem itemsR {S : Sta} {p : Addr} {ts : List T} (h : S p = some (.lst ts)) {i : Int} {v : T} (e : atI ts i = some v) : ixA S (.ref p) (.int i) = some v := by simp only [ixA, h, e]
theorem inR {S : Sta} {p : Addr} {x : T} {ts : List T} (h : S p = some (.lst ts)) (h1 : flatT x = true) (h2 : ts.all flatT = true) : inA S x (.ref p) = some (inF x ts) := by simp only [inA, h, h1, h2, Bool.and_self, if_true]
def spDraw : WSp := fun ts S Q _ => match ts with
  | [.ref p, .int m] => IsBag S p ∧ 0 < m ∧ m < 2 ^ 62 ∧ ∀ (r : Int) (S' : Sta), 0 ≤ r → r < m → Grb p S S' → Q (.int r) S'
  | _ => False
theorem hw_draw1 : ∀ ts S Q E, ts.length = 2 → spDraw ts S Q E → b__law_draw K C_Table C_Mux { nx := fun _ S' => Q .non S', rt := Q } (Wp.startT N__law_draw ts) S := fun ts S Q E hl h => Wp.hw_draw3A ts S Q E hl (by
  match ts, h with
  | [.ref p, .int m], ⟨h1, h2, h3, h4⟩ => exact ⟨none, rfl, h1, h2, h3, h4⟩)
def spCount : WSp := fun ts S Q _ => match ts with
  | [.ref p, .int l] => (l = 0 ∨ l = 1) ∧ IsBag S p ∧ ∀ (n : Int) (S' : Sta), l ≤ n ∧ n ≤ 1000000 → Grb p S S' → Q (.int n) S'
  | _ => False
theorem hw_count : ∀ ts S Q E, ts.length = 2 → spCount ts S Q E → b__law_count K C_Table C_Mux spDraw { nx := fun _ S' => Q .non S', rt := Q } (Wp.startT N__law_count ts) S := by
  intro ts S Q E _ h
  match ts, h with
  | [.ref p, .int l], ⟨hl1, hb, h⟩ =>
    unfold b__law_count N__law_count
    walk_at "r2"
    refine ⟨hb, by omega, by omega, fun d S1 hd0 hd1 g1 => ?_⟩
    walk_at "r2"
    intro q hq
    have hqp : q ≠ p := new_ne g1.bag hq
    obtain ⟨S2, e, g2, e2⟩ := al_ hq
    rw [e]
    refine ⟨g1.bag.gr g2, by omega, by omega, fun r S3 h0 h1 g3 => ?_⟩
    have e3 := g3.keep _ _ e2 hqp
    have key : ∀ xs : List T, S3 q = some (.lst xs) → r < xs.length → (∀ t ∈ xs, ∃ n, t = T.int n ∧ l ≤ n ∧ n ≤ 1000000) → ∃ t, ixA S3 (.ref q) (.int r) = some t ∧ Q t S3 := fun xs e3 hx hm => by
      obtain ⟨t, en, mt⟩ := atI_in (xs := xs) h0 hx
      obtain ⟨n, rfl, hn⟩ := hm t mt
      exact ⟨_, itemsR e3 en, h n S3 hn ((g1.gr g2).trans g3)⟩
    have key := key _ e3 (by simp; omega) fun t ht => by
      simp only [List.mem_cons, List.not_mem_nil, or_false] at ht
      rcases hl1 with hl1 | hl1 <;> rcases ht with e | e | e | e | e | e <;> exact ⟨_, e, by omega, by omega⟩
    exact key
def spFlow : WSp := fun ts S Q _ => match ts with
  | [.ref p] => IsBag S p ∧ ∀ (a b : Int) (S' : Sta), (0 ≤ a ∧ a ≤ 5) ∧ 1 ≤ b ∧ b ≤ 1000000 → Grb p S S' → Q (.tup [.int a, .int b]) S'
  | _ => False
theorem hw_flow : ∀ ts S Q E, ts.length = 1 → spFlow ts S Q E → b__law_flow K C_Table C_Mux spCount spDraw { nx := fun _ S' => Q .non S', rt := Q } (Wp.startT N__law_flow ts) S := by
  intro ts S Q E _ h
  match ts, h with
  | [.ref p], ⟨hb, h⟩ =>
    unfold b__law_flow N__law_flow
    walk_at "r2"
    refine ⟨hb, by omega, by omega, fun d S1 h0 h1 g1 => ?_⟩
    walk_at "r2"
    refine ⟨.inr rfl, g1.bag, fun n S2 hn g2 => ?_⟩
    walk_at "r2"
    exact h d n S2 ⟨⟨h0, by omega⟩, hn⟩ (g1.trans g2)
theorem hw_birth : ∀ ts S Q E, ts.length = 1 → spFlow ts S Q E → b__law_birth K C_Table C_Mux spCount spDraw { nx := fun _ S' => Q .non S', rt := Q } (Wp.startT N__law_birth ts) S := by
  intro ts S Q E _ h
  match ts, h with
  | [.ref p], ⟨hb, h⟩ =>
    unfold b__law_birth N__law_birth
    walk_at "r2"
    refine ⟨hb, by omega, by omega, fun d S1 h0 h1 g1 => ?_⟩
    walk_at "r2"
    refine ⟨.inr rfl, g1.bag, fun n S2 hn g2 => ?_⟩
    walk_at "r2"
    exact h d n S2 ⟨⟨h0, by omega⟩, hn⟩ (g1.trans g2)
def spLife : WSp := fun ts S Q _ => match ts with
  | [.ref p] => IsBag S p ∧ ∀ (a b c : Int) (S' : Sta), ((0 ≤ a ∧ a ≤ 5) ∧ 1 ≤ b ∧ b ≤ 1000000) ∧ 1 ≤ c ∧ c ≤ 1000000 → Grb p S S' → Q (.tup [.int a, .int b, .int c]) S'
  | _ => False
theorem hw_life : ∀ ts S Q E, ts.length = 1 → spLife ts S Q E → b__law_life K C_Table C_Mux spFlow spCount { nx := fun _ S' => Q .non S', rt := Q } (Wp.startT N__law_life ts) S := by
  intro ts S Q E _ h
  match ts, h with
  | [.ref p], ⟨hb, h⟩ =>
    unfold b__law_life N__law_life
    walk_at "r2"
    refine ⟨hb, fun a b S1 hab g1 => ?_⟩
    walk_at "r2"
    refine ⟨.inr rfl, g1.bag, fun n S2 hn g2 => ?_⟩
    walk_at "r2"
    exact h a b n S2 ⟨hab, hn⟩ (g1.trans g2)
end My

set_option Elab.async false
set_option linter.all false
set_option maxRecDepth 100000
set_option maxHeartbeats 8000000
namespace My
open PySem PySem.Spec PyProof.Rows L2 Wp Gn
local macro_rules | `(tactic| walk_at "go") => `(tactic| (with_reducible refine goS_i ?_))
local macro_rules | `(tactic| walk_at "wp") => `(tactic| simp (disch := omega) only [Wp.wSeq, Wp.wNext, Wp.wSet, Wp.wVar, Wp.wC, Wp.wOp, Wp.wRet, Wp.wIfS, Wp.wTest, Wp.wCall, Wp.wCons, Wp.wNil, Wp.wTup, Wp.wLst, Wp.wAsg, Wp.gTp, Wp.gC, Wp.gNm, Wp.gN0, Wp.gIx, Wp.rSet, Wp.rAdd, Wp.rMul, Wp.rMod, Wp.rSub, Wp.rFdiv, Wp.rPow, Wp.rInt, Wp.rIx, Wp.rLt, Wp.rLe, Wp.rCmp, Wp.rGeI, Wp.rGtI, Wp.wCB, Wp.rLen, Wp.rLen1, Wp.rInt1, Wp.rMax2, Wp.rMin2, Wp.rTupOf, Wp.rListOf,
  Wp.wIsi, Wp.rBIs, Wp.rIsN, Wp.isNon, Wp.wMt, Wp.rAppendT, Wp.rExtendT, Wp.rReverseT, Wp.wNot, Wp.wOr, Wp.wAnd, Wp.wAndV, Wp.wOrV, Wp.wNotV, Wp.wFor, Wp.iRg1, Wp.iRg2, Wp.iAnyW, Wp.wAll, Wp.wChain, Wp.wSl, Wp.wNoPart, Wp.wPart, Wp.rSl, Wp.wNeg, Wp.rNeg, Wp.wLc, Wp.wYes, Wp.wDrop, Wp.wipeT, Wp.wAug, List.map, List.set_cons_zero, List.set_cons_succ, List.getElem?_cons_zero, List.getElem?_cons_succ, List.length_cons, List.length_nil, List.cons_append, List.nil_append, List.replicate, Wp.startT,
  true_and, and_true, Wp.wif_true, Wp.wif_false, Wp.ex_some, Wp.ex_some1, Wp.ex_eq, Wp.ex_lst, Wp.ex_lst0, Wp.rEq_int, Bool.false_bne, Bool.true_bne, Int.reduceLT, Int.reduceLE, Int.reduceAdd, Nat.reduceAdd, Nat.reduceSub, eq_self, ite_true, ite_false, beq_self_eq_true, Bool.not_true, Bool.not_false, Wp.isB_0, Wp.isB_1, Wp.isB_2, Wp.isB_3, Wp.isB_4, Wp.isB_5, Wp.isB_6, Wp.isB_7, Wp.isB_8, Wp.isB_9, Wp.isB_10, Wp.isB_11, Wp.isB_12, Wp.isB_13, Wp.isB_14, Wp.isB_15, Wp.isB_16, Wp.isB_17, Wp.isB_18, Wp.isB_19, Wp.isB_20, Wp.isB_21, Wp.isB_22, Wp.isB_23, Wp.isB_24, Wp.isB_25, Wp.isB_26, Wp.isB_27, Wp.isB_28, Wp.isB_29, Wp.isB_30, Wp.isB_31, Wp.isB_32, Wp.isB_33, Wp.isB_34, Wp.isB_35, Wp.cmul_l, Wp.cmul_r, Wp.cpow_lit, Wp.size_le, Wp.size_lt, Wp.atI_0, Wp.atI_1, Wp.atI_2, Wp.atI_3, Wp.atI_4, Wp.atI_5, Wp.atI_6, Wp.ixN_0, Wp.ixN_1, Wp.ixN_2, Wp.itemsT, Wp.tyT, reduceIte, Wp.wFld, Wp.wFSet, Wp.wFAug, Wp.wMeth, Wp.wMake, Wp.rIxA, Wp.rInA, Wp.rSetA, Wp.ixA, Wp.inA, Wp.setA, Wp.lenA, Wp.getD, Option.map_some, Option.bind_some, Option.getD_some,  Wp.gIxA, Wp.wDNew, Wp.wDNewT, Wp.rLenA, Wp.rSortD, Wp.rMaxL, Wp.rPopL, Wp.rGet1, Wp.rGet2, Wp.wGet1, Wp.wGet2, Wp.wPop1, Wp.wPop2, Wp.wDel, Wp.isDT, Wp.keyT, Wp.keysT, Wp.keysL, Wp.ex_ins, Wp.ex_dct, Wp.wKGet, Wp.wKIx, Wp.rLenK, Wp.iZipK, Wp.wDisp, Wp.wPCons, Wp.wPNil, Wp.rGt, Int.cast_ofNat_Int, Int.reduceBEq, Wp.wRev, Wp.rRev, Wp.rMulA, lk_Table__rows, pt_Table__rows, no_Table_take, no_Table_rows, no_Table_birth, no_Table_forget, ln_Table, mk_Table, lk_Mux__number, pt_Mux__number, lk_Mux__table, pt_Mux__table, no_Mux_receive, no_Mux_forget, no_Mux_rows, no_Mux__pass_on, ln_Mux, mk_Mux, Wp.wRev, Wp.rRev, Wp.upS, Wp.upS_upS, *])
local macro_rules | `(tactic| walk_at "run") => `(tactic| repeat (first | walk_at "wp" | walk_at "go"))
local macro_rules | `(tactic| walk_at "wq") => `(tactic| simp (disch := omega) only [Wp.wSeq, Wp.wNext, Wp.wSet, Wp.wVar, Wp.wC, Wp.wOp, Wp.wRet, Wp.wIfS, Wp.wTest, Wp.wCall, Wp.wCons, Wp.wNil, Wp.wTup, Wp.wLst, Wp.wAsg, Wp.gTp, Wp.gC, Wp.gNm, Wp.gN0, Wp.gIx, Wp.rSet, Wp.rAdd, Wp.rMul, Wp.rMod, Wp.rSub, Wp.rFdiv, Wp.rPow, Wp.rInt, Wp.rIx, Wp.rLt, Wp.rLe, Wp.rCmp, Wp.rGeI, Wp.rGtI, Wp.wCB, Wp.rLen, Wp.rLen1, Wp.rInt1, Wp.rMax2, Wp.rMin2, Wp.rTupOf, Wp.rListOf,
  Wp.wIsi, Wp.rBIs, Wp.rIsN, Wp.isNon, Wp.wMt, Wp.rAppendT, Wp.rExtendT, Wp.rReverseT, Wp.wNot, Wp.wOr, Wp.wAnd, Wp.wAndV, Wp.wOrV, Wp.wNotV, Wp.wFor, Wp.iRg1, Wp.iRg2, Wp.iAnyW, Wp.wAll, Wp.wChain, Wp.wSl, Wp.wNoPart, Wp.wPart, Wp.rSl, Wp.wNeg, Wp.rNeg, Wp.wLc, Wp.wYes, Wp.wDrop, Wp.wipeT, Wp.wAug, List.map, List.set_cons_zero, List.set_cons_succ, List.getElem?_cons_zero, List.getElem?_cons_succ, List.length_cons, List.length_nil, List.cons_append, List.nil_append, List.replicate, Wp.startT,
  true_and, and_true, Wp.wif_true, Wp.wif_false, Wp.ex_some, Wp.ex_some1, Wp.ex_eq, Wp.ex_lst, Wp.ex_lst0, Wp.rEq_int, Bool.false_bne, Bool.true_bne, Int.reduceLT, Int.reduceLE, Int.reduceAdd, Nat.reduceAdd, Nat.reduceSub, eq_self, ite_true, ite_false, beq_self_eq_true, Bool.not_true, Bool.not_false, Wp.isB_0, Wp.isB_1, Wp.isB_2, Wp.isB_3, Wp.isB_4, Wp.isB_5, Wp.isB_6, Wp.isB_7, Wp.isB_8, Wp.isB_9, Wp.isB_10, Wp.isB_11, Wp.isB_12, Wp.isB_13, Wp.isB_14, Wp.isB_15, Wp.isB_16, Wp.isB_17, Wp.isB_18, Wp.isB_19, Wp.isB_20, Wp.isB_21, Wp.isB_22, Wp.isB_23, Wp.isB_24, Wp.isB_25, Wp.isB_26, Wp.isB_27, Wp.isB_28, Wp.isB_29, Wp.isB_30, Wp.isB_31, Wp.isB_32, Wp.isB_33, Wp.isB_34, Wp.isB_35, Wp.cmul_l, Wp.cmul_r, Wp.cpow_lit, Wp.size_le, Wp.size_lt, Wp.atI_0, Wp.atI_1, Wp.atI_2, Wp.atI_3, Wp.atI_4, Wp.atI_5, Wp.atI_6, Wp.ixN_0, Wp.ixN_1, Wp.ixN_2, Wp.itemsT, Wp.tyT, reduceIte, Wp.wFld, Wp.wFSet, Wp.wFAug, Wp.wMeth, Wp.wMake, Wp.rIxA, Wp.rInA, Wp.rSetA, Wp.ixA, Wp.inA, Wp.setA, Wp.lenA, Wp.getD, Option.map_some, Option.bind_some, Option.getD_some,  Wp.gIxA, Wp.wDNew, Wp.wDNewT, Wp.rLenA, Wp.rSortD, Wp.rMaxL, Wp.rPopL, Wp.rGet1, Wp.rGet2, Wp.wGet1, Wp.wGet2, Wp.wPop1, Wp.wPop2, Wp.wDel, Wp.isDT, Wp.keyT, Wp.keysT, Wp.keysL, Wp.ex_ins, Wp.ex_dct, Wp.wKGet, Wp.wKIx, Wp.rLenK, Wp.iZipK, Wp.wDisp, Wp.wPCons, Wp.wPNil, Wp.rGt, Int.cast_ofNat_Int, Int.reduceBEq, Wp.wRev, Wp.rRev, Wp.rMulA, lk_Table__rows, pt_Table__rows, no_Table_take, no_Table_rows, no_Table_birth, no_Table_forget, ln_Table, mk_Table, lk_Mux__number, pt_Mux__number, lk_Mux__table, pt_Mux__table, no_Mux_receive, no_Mux_forget, no_Mux_rows, no_Mux__pass_on, ln_Mux, mk_Mux, Wp.wRev, Wp.rRev, *])
local macro_rules | `(tactic| walk_at "r2") => `(tactic| repeat (first | walk_at "wq" | walk_at "go"))
local macro_rules | `(tactic| walk_at "w0") => `(tactic| simp (disch := omega) only [Wp.wSeq, Wp.wNext, Wp.wSet, Wp.wVar, Wp.wC, Wp.wOp, Wp.wRet, Wp.wIfS, Wp.wTest, Wp.wCall, Wp.wCons, Wp.wNil, Wp.wTup, Wp.wLst, Wp.wAsg, Wp.gTp, Wp.gC, Wp.gNm, Wp.gN0, Wp.gIx, Wp.rSet, Wp.rAdd, Wp.rMul, Wp.rMod, Wp.rSub, Wp.rFdiv, Wp.rPow, Wp.rInt, Wp.rIx, Wp.rLt, Wp.rLe, Wp.rCmp, Wp.rGeI, Wp.rGtI, Wp.wCB, Wp.rLen, Wp.rLen1, Wp.rInt1, Wp.rMax2, Wp.rMin2, Wp.rTupOf, Wp.rListOf,
  Wp.wIsi, Wp.rBIs, Wp.rIsN, Wp.isNon, Wp.wMt, Wp.rAppendT, Wp.rExtendT, Wp.rReverseT, Wp.wNot, Wp.wOr, Wp.wAnd, Wp.wAndV, Wp.wOrV, Wp.wNotV, Wp.wFor, Wp.iRg1, Wp.iRg2, Wp.iAnyW, Wp.wAll, Wp.wChain, Wp.wSl, Wp.wNoPart, Wp.wPart, Wp.rSl, Wp.wNeg, Wp.rNeg, Wp.wLc, Wp.wYes, Wp.wDrop, Wp.wipeT, Wp.wAug, List.map, List.set_cons_zero, List.set_cons_succ, List.getElem?_cons_zero, List.getElem?_cons_succ, List.length_cons, List.length_nil, List.cons_append, List.nil_append, List.replicate, Wp.startT,
  true_and, and_true, Wp.wif_true, Wp.wif_false, Wp.ex_some, Wp.ex_some1, Wp.ex_eq, Wp.ex_lst, Wp.ex_lst0, Wp.rEq_int, Bool.false_bne, Bool.true_bne, Int.reduceLT, Int.reduceLE, Int.reduceAdd, Nat.reduceAdd, Nat.reduceSub, eq_self, ite_true, ite_false, beq_self_eq_true, Bool.not_true, Bool.not_false, Wp.isB_0, Wp.isB_1, Wp.isB_2, Wp.isB_3, Wp.isB_4, Wp.isB_5, Wp.isB_6, Wp.isB_7, Wp.isB_8, Wp.isB_9, Wp.isB_10, Wp.isB_11, Wp.isB_12, Wp.isB_13, Wp.isB_14, Wp.isB_15, Wp.isB_16, Wp.isB_17, Wp.isB_18, Wp.isB_19, Wp.isB_20, Wp.isB_21, Wp.isB_22, Wp.isB_23, Wp.isB_24, Wp.isB_25, Wp.isB_26, Wp.isB_27, Wp.isB_28, Wp.isB_29, Wp.isB_30, Wp.isB_31, Wp.isB_32, Wp.isB_33, Wp.isB_34, Wp.isB_35, Wp.cmul_l, Wp.cmul_r, Wp.cpow_lit, Wp.size_le, Wp.size_lt, Wp.atI_0, Wp.atI_1, Wp.atI_2, Wp.atI_3, Wp.atI_4, Wp.atI_5, Wp.atI_6, Wp.ixN_0, Wp.ixN_1, Wp.ixN_2, Wp.itemsT, Wp.tyT, reduceIte, Wp.wFld, Wp.wFSet, Wp.wFAug, Wp.wMeth, Wp.wMake, Wp.rIxA, Wp.rInA, Wp.rSetA, Wp.ixA, Wp.inA, Wp.setA, Wp.lenA, Wp.getD, Option.map_some, Option.bind_some, Option.getD_some,  Wp.gIxA, Wp.wDNew, Wp.wDNewT, Wp.rLenA, Wp.rSortD, Wp.rMaxL, Wp.rPopL, Wp.rGet1, Wp.rGet2, Wp.wGet1, Wp.wGet2, Wp.wPop1, Wp.wPop2, Wp.wDel, Wp.isDT, Wp.keyT, Wp.keysT, Wp.keysL, Wp.ex_ins, Wp.ex_dct, Wp.wKGet, Wp.wKIx, Wp.rLenK, Wp.iZipK, Wp.wDisp, Wp.wPCons, Wp.wPNil, Wp.rGt, Int.cast_ofNat_Int, Int.reduceBEq, Wp.wRev, Wp.rRev, Wp.rMulA, lk_Table__rows, pt_Table__rows, no_Table_take, no_Table_rows, no_Table_birth, no_Table_forget, ln_Table, mk_Table, lk_Mux__number, pt_Mux__number, lk_Mux__table, pt_Mux__table, no_Mux_receive, no_Mux_forget, no_Mux_rows, no_Mux__pass_on, ln_Mux, mk_Mux, Wp.wRev, Wp.rRev])
local macro_rules | `(tactic| walk_at "r0") => `(tactic| repeat (first | walk_at "w0" | walk_at "go"))
variable {K : PySem.W.Frag} {C_Table C_Mux : Addr}
/-! ### the law's own tests -/
def isPm : T → Int → Bool
  | .tup (a :: r), m => (((r.length + 1 : Nat) : Int) == 2 + m) && (isI a 0 5 && r.all fun t => isI t 1 1000000)
  | _, _ => false
theorem pm0 (v : T) : isPm v 0 = isPr v := by
  match v with
  | .tup [] => rfl
  | .tup [a] => rfl
  | .tup [a, b] => simp [isPm, isPr]
  | .tup (a :: b :: c :: r) =>
    have z : ((((b :: c :: r).length + 1 : Nat) : Int) == 2 + 0) = false := by simp only [List.length_cons, beq_eq_false_iff_ne]; omega
    simp only [isPm, z, Bool.false_and]
    rfl
  | .non => rfl
  | .bl _ => rfl
  | .int _ => rfl
  | .str _ => rfl
  | .fl _ => rfl
  | .ref _ => rfl
theorem pm1 (v : T) : isPm v 1 = isLf v := by
  match v with
  | .tup [] => rfl
  | .tup [a] => rfl
  | .tup [a, b] => rfl
  | .tup [a, b, c] => simp [isPm, isLf, Bool.and_assoc]
  | .tup (a :: b :: c :: d :: r) =>
    have z : ((((b :: c :: d :: r).length + 1 : Nat) : Int) == 2 + 1) = false := by simp only [List.length_cons, beq_eq_false_iff_ne]; omega
    simp only [isPm, z, Bool.false_and]
    rfl
  | .non => rfl
  | .bl _ => rfl
  | .int _ => rfl
  | .str _ => rfl
  | .fl _ => rfl
  | .ref _ => rfl
theorem inF_bls (f : T → Bool) : ∀ xs : List T, (true != inF (.bl false) (xs.map fun x => .bl (f x))) = xs.all f
  | [] => rfl
  | x :: xs => by
    have ih := inF_bls f xs
    simp only [inF, List.map_cons, List.any_cons, List.all_cons] at ih ⊢
    rw [← ih]
    cases f x <;> simp [eqF]
theorem flat_bls (f : T → Bool) (xs : List T) : (xs.map fun x => T.bl (f x)).all flatT = true := by
  simp [flatT]
theorem cut1 {a : T} {r : List T} : cutT (a :: r) (some 1) none = r := by
  have h1 : HT.sIx (r.length + 1) 0 (some 1) = 1 := by
    simp only [HT.sIx]
    first | rfl | omega | (split <;> omega)
  have h2 : HT.sIx (r.length + 1) (r.length + 1) none = r.length + 1 := rfl
  unfold cutT
  rw [List.length_cons, h1, h2]
  simp
end My

set_option Elab.async false
set_option linter.all false
set_option maxRecDepth 100000
set_option maxHeartbeats 8000000
namespace My
open PySem PySem.Spec PyProof.Rows L2 Wp Gn
local macro_rules | `(tactic| walk_at "go") => `(tactic| (with_reducible refine goS_i ?_))
local macro_rules | `(tactic| walk_at "wp") => `(tactic| simp (disch := omega) only [Wp.wSeq, Wp.wNext, Wp.wSet, Wp.wVar, Wp.wC, Wp.wOp, Wp.wRet, Wp.wIfS, Wp.wTest, Wp.wCall, Wp.wCons, Wp.wNil, Wp.wTup, Wp.wLst, Wp.wAsg, Wp.gTp, Wp.gC, Wp.gNm, Wp.gN0, Wp.gIx, Wp.rSet, Wp.rAdd, Wp.rMul, Wp.rMod, Wp.rSub, Wp.rFdiv, Wp.rPow, Wp.rInt, Wp.rIx, Wp.rLt, Wp.rLe, Wp.rCmp, Wp.rGeI, Wp.rGtI, Wp.wCB, Wp.rLen, Wp.rLen1, Wp.rInt1, Wp.rMax2, Wp.rMin2, Wp.rTupOf, Wp.rListOf,
  Wp.wIsi, Wp.rBIs, Wp.rIsN, Wp.isNon, Wp.wMt, Wp.rAppendT, Wp.rExtendT, Wp.rReverseT, Wp.wNot, Wp.wOr, Wp.wAnd, Wp.wAndV, Wp.wOrV, Wp.wNotV, Wp.wFor, Wp.iRg1, Wp.iRg2, Wp.iAnyW, Wp.wAll, Wp.wChain, Wp.wSl, Wp.wNoPart, Wp.wPart, Wp.rSl, Wp.wNeg, Wp.rNeg, Wp.wLc, Wp.wYes, Wp.wDrop, Wp.wipeT, Wp.wAug, List.map, List.set_cons_zero, List.set_cons_succ, List.getElem?_cons_zero, List.getElem?_cons_succ, List.length_cons, List.length_nil, List.cons_append, List.nil_append, List.replicate, Wp.startT,
  true_and, and_true, Wp.wif_true, Wp.wif_false, Wp.ex_some, Wp.ex_some1, Wp.ex_eq, Wp.ex_lst, Wp.ex_lst0, Wp.rEq_int, Bool.false_bne, Bool.true_bne, Int.reduceLT, Int.reduceLE, Int.reduceAdd, Nat.reduceAdd, Nat.reduceSub, eq_self, ite_true, ite_false, beq_self_eq_true, Bool.not_true, Bool.not_false, Wp.isB_0, Wp.isB_1, Wp.isB_2, Wp.isB_3, Wp.isB_4, Wp.isB_5, Wp.isB_6, Wp.isB_7, Wp.isB_8, Wp.isB_9, Wp.isB_10, Wp.isB_11, Wp.isB_12, Wp.isB_13, Wp.isB_14, Wp.isB_15, Wp.isB_16, Wp.isB_17, Wp.isB_18, Wp.isB_19, Wp.isB_20, Wp.isB_21, Wp.isB_22, Wp.isB_23, Wp.isB_24, Wp.isB_25, Wp.isB_26, Wp.isB_27, Wp.isB_28, Wp.isB_29, Wp.isB_30, Wp.isB_31, Wp.isB_32, Wp.isB_33, Wp.isB_34, Wp.isB_35, Wp.cmul_l, Wp.cmul_r, Wp.cpow_lit, Wp.size_le, Wp.size_lt, Wp.atI_0, Wp.atI_1, Wp.atI_2, Wp.atI_3, Wp.atI_4, Wp.atI_5, Wp.atI_6, Wp.ixN_0, Wp.ixN_1, Wp.ixN_2, Wp.itemsT, Wp.tyT, reduceIte, Wp.wFld, Wp.wFSet, Wp.wFAug, Wp.wMeth, Wp.wMake, Wp.rIxA, Wp.rInA, Wp.rSetA, Wp.ixA, Wp.inA, Wp.setA, Wp.lenA, Wp.getD, Option.map_some, Option.bind_some, Option.getD_some,  Wp.gIxA, Wp.wDNew, Wp.wDNewT, Wp.rLenA, Wp.rSortD, Wp.rMaxL, Wp.rPopL, Wp.rGet1, Wp.rGet2, Wp.wGet1, Wp.wGet2, Wp.wPop1, Wp.wPop2, Wp.wDel, Wp.isDT, Wp.keyT, Wp.keysT, Wp.keysL, Wp.ex_ins, Wp.ex_dct, Wp.wKGet, Wp.wKIx, Wp.rLenK, Wp.iZipK, Wp.wDisp, Wp.wPCons, Wp.wPNil, Wp.rGt, Wp.wRev, Wp.rRev, Wp.rMulA, lk_Table__rows, pt_Table__rows, no_Table_take, no_Table_rows, no_Table_birth, no_Table_forget, ln_Table, mk_Table, lk_Mux__number, pt_Mux__number, lk_Mux__table, pt_Mux__table, no_Mux_receive, no_Mux_forget, no_Mux_rows, no_Mux__pass_on, ln_Mux, mk_Mux, Wp.wRev, Wp.rRev, Wp.upS, Wp.upS_upS, *])
local macro_rules | `(tactic| walk_at "run") => `(tactic| repeat (first | walk_at "wp" | walk_at "go"))
local macro_rules | `(tactic| walk_at "wq") => `(tactic| simp (disch := omega) only [Wp.wSeq, Wp.wNext, Wp.wSet, Wp.wVar, Wp.wC, Wp.wOp, Wp.wRet, Wp.wIfS, Wp.wTest, Wp.wCall, Wp.wCons, Wp.wNil, Wp.wTup, Wp.wLst, Wp.wAsg, Wp.gTp, Wp.gC, Wp.gNm, Wp.gN0, Wp.gIx, Wp.rSet, Wp.rAdd, Wp.rMul, Wp.rMod, Wp.rSub, Wp.rFdiv, Wp.rPow, Wp.rInt, Wp.rIx, Wp.rLt, Wp.rLe, Wp.rCmp, Wp.rGeI, Wp.rGtI, Wp.wCB, Wp.rLen, Wp.rLen1, Wp.rInt1, Wp.rMax2, Wp.rMin2, Wp.rTupOf, Wp.rListOf,
  Wp.wIsi, Wp.rBIs, Wp.rIsN, Wp.isNon, Wp.wMt, Wp.rAppendT, Wp.rExtendT, Wp.rReverseT, Wp.wNot, Wp.wOr, Wp.wAnd, Wp.wAndV, Wp.wOrV, Wp.wNotV, Wp.wFor, Wp.iRg1, Wp.iRg2, Wp.iAnyW, Wp.wAll, Wp.wChain, Wp.wSl, Wp.wNoPart, Wp.wPart, Wp.rSl, Wp.wNeg, Wp.rNeg, Wp.wLc, Wp.wYes, Wp.wDrop, Wp.wipeT, Wp.wAug, List.map, List.set_cons_zero, List.set_cons_succ, List.getElem?_cons_zero, List.getElem?_cons_succ, List.length_cons, List.length_nil, List.cons_append, List.nil_append, List.replicate, Wp.startT,
  true_and, and_true, Wp.wif_true, Wp.wif_false, Wp.ex_some, Wp.ex_some1, Wp.ex_eq, Wp.ex_lst, Wp.ex_lst0, Wp.rEq_int, Bool.false_bne, Bool.true_bne, Int.reduceLT, Int.reduceLE, Int.reduceAdd, Nat.reduceAdd, Nat.reduceSub, eq_self, ite_true, ite_false, beq_self_eq_true, Bool.not_true, Bool.not_false, Wp.isB_0, Wp.isB_1, Wp.isB_2, Wp.isB_3, Wp.isB_4, Wp.isB_5, Wp.isB_6, Wp.isB_7, Wp.isB_8, Wp.isB_9, Wp.isB_10, Wp.isB_11, Wp.isB_12, Wp.isB_13, Wp.isB_14, Wp.isB_15, Wp.isB_16, Wp.isB_17, Wp.isB_18, Wp.isB_19, Wp.isB_20, Wp.isB_21, Wp.isB_22, Wp.isB_23, Wp.isB_24, Wp.isB_25, Wp.isB_26, Wp.isB_27, Wp.isB_28, Wp.isB_29, Wp.isB_30, Wp.isB_31, Wp.isB_32, Wp.isB_33, Wp.isB_34, Wp.isB_35, Wp.cmul_l, Wp.cmul_r, Wp.cpow_lit, Wp.size_le, Wp.size_lt, Wp.atI_0, Wp.atI_1, Wp.atI_2, Wp.atI_3, Wp.atI_4, Wp.atI_5, Wp.atI_6, Wp.ixN_0, Wp.ixN_1, Wp.ixN_2, Wp.itemsT, Wp.tyT, reduceIte, Wp.wFld, Wp.wFSet, Wp.wFAug, Wp.wMeth, Wp.wMake, Wp.rIxA, Wp.rInA, Wp.rSetA, Wp.ixA, Wp.inA, Wp.setA, Wp.lenA, Wp.getD, Option.map_some, Option.bind_some, Option.getD_some,  Wp.gIxA, Wp.wDNew, Wp.wDNewT, Wp.rLenA, Wp.rSortD, Wp.rMaxL, Wp.rPopL, Wp.rGet1, Wp.rGet2, Wp.wGet1, Wp.wGet2, Wp.wPop1, Wp.wPop2, Wp.wDel, Wp.isDT, Wp.keyT, Wp.keysT, Wp.keysL, Wp.ex_ins, Wp.ex_dct, Wp.wKGet, Wp.wKIx, Wp.rLenK, Wp.iZipK, Wp.wDisp, Wp.wPCons, Wp.wPNil, Wp.rGt, Wp.wRev, Wp.rRev, Wp.rMulA, lk_Table__rows, pt_Table__rows, no_Table_take, no_Table_rows, no_Table_birth, no_Table_forget, ln_Table, mk_Table, lk_Mux__number, pt_Mux__number, lk_Mux__table, pt_Mux__table, no_Mux_receive, no_Mux_forget, no_Mux_rows, no_Mux__pass_on, ln_Mux, mk_Mux, Wp.wRev, Wp.rRev, *])
local macro_rules | `(tactic| walk_at "r2") => `(tactic| repeat (first | walk_at "wq" | walk_at "go"))
local macro_rules | `(tactic| walk_at "w0") => `(tactic| simp (disch := omega) only [Wp.wSeq, Wp.wNext, Wp.wSet, Wp.wVar, Wp.wC, Wp.wOp, Wp.wRet, Wp.wIfS, Wp.wTest, Wp.wCall, Wp.wCons, Wp.wNil, Wp.wTup, Wp.wLst, Wp.wAsg, Wp.gTp, Wp.gC, Wp.gNm, Wp.gN0, Wp.gIx, Wp.rSet, Wp.rAdd, Wp.rMul, Wp.rMod, Wp.rSub, Wp.rFdiv, Wp.rPow, Wp.rInt, Wp.rIx, Wp.rLt, Wp.rLe, Wp.rCmp, Wp.rGeI, Wp.rGtI, Wp.wCB, Wp.rLen, Wp.rLen1, Wp.rInt1, Wp.rMax2, Wp.rMin2, Wp.rTupOf, Wp.rListOf,
  Wp.wIsi, Wp.rBIs, Wp.rIsN, Wp.isNon, Wp.wMt, Wp.rAppendT, Wp.rExtendT, Wp.rReverseT, Wp.wNot, Wp.wOr, Wp.wAnd, Wp.wAndV, Wp.wOrV, Wp.wNotV, Wp.wFor, Wp.iRg1, Wp.iRg2, Wp.iAnyW, Wp.wAll, Wp.wChain, Wp.wSl, Wp.wNoPart, Wp.wPart, Wp.rSl, Wp.wNeg, Wp.rNeg, Wp.wLc, Wp.wYes, Wp.wDrop, Wp.wipeT, Wp.wAug, List.map, List.set_cons_zero, List.set_cons_succ, List.getElem?_cons_zero, List.getElem?_cons_succ, List.length_cons, List.length_nil, List.cons_append, List.nil_append, List.replicate, Wp.startT,
  true_and, and_true, Wp.wif_true, Wp.wif_false, Wp.ex_some, Wp.ex_some1, Wp.ex_eq, Wp.ex_lst, Wp.ex_lst0, Wp.rEq_int, Bool.false_bne, Bool.true_bne, Int.reduceLT, Int.reduceLE, Int.reduceAdd, Nat.reduceAdd, Nat.reduceSub, eq_self, ite_true, ite_false, beq_self_eq_true, Bool.not_true, Bool.not_false, Wp.isB_0, Wp.isB_1, Wp.isB_2, Wp.isB_3, Wp.isB_4, Wp.isB_5, Wp.isB_6, Wp.isB_7, Wp.isB_8, Wp.isB_9, Wp.isB_10, Wp.isB_11, Wp.isB_12, Wp.isB_13, Wp.isB_14, Wp.isB_15, Wp.isB_16, Wp.isB_17, Wp.isB_18, Wp.isB_19, Wp.isB_20, Wp.isB_21, Wp.isB_22, Wp.isB_23, Wp.isB_24, Wp.isB_25, Wp.isB_26, Wp.isB_27, Wp.isB_28, Wp.isB_29, Wp.isB_30, Wp.isB_31, Wp.isB_32, Wp.isB_33, Wp.isB_34, Wp.isB_35, Wp.cmul_l, Wp.cmul_r, Wp.cpow_lit, Wp.size_le, Wp.size_lt, Wp.atI_0, Wp.atI_1, Wp.atI_2, Wp.atI_3, Wp.atI_4, Wp.atI_5, Wp.atI_6, Wp.ixN_0, Wp.ixN_1, Wp.ixN_2, Wp.itemsT, Wp.tyT, reduceIte, Wp.wFld, Wp.wFSet, Wp.wFAug, Wp.wMeth, Wp.wMake, Wp.rIxA, Wp.rInA, Wp.rSetA, Wp.ixA, Wp.inA, Wp.setA, Wp.lenA, Wp.getD, Option.map_some, Option.bind_some, Option.getD_some,  Wp.gIxA, Wp.wDNew, Wp.wDNewT, Wp.rLenA, Wp.rSortD, Wp.rMaxL, Wp.rPopL, Wp.rGet1, Wp.rGet2, Wp.wGet1, Wp.wGet2, Wp.wPop1, Wp.wPop2, Wp.wDel, Wp.isDT, Wp.keyT, Wp.keysT, Wp.keysL, Wp.ex_ins, Wp.ex_dct, Wp.wKGet, Wp.wKIx, Wp.rLenK, Wp.iZipK, Wp.wDisp, Wp.wPCons, Wp.wPNil, Wp.rGt, Wp.wRev, Wp.rRev, Wp.rMulA, lk_Table__rows, pt_Table__rows, no_Table_take, no_Table_rows, no_Table_birth, no_Table_forget, ln_Table, mk_Table, lk_Mux__number, pt_Mux__number, lk_Mux__table, pt_Mux__table, no_Mux_receive, no_Mux_forget, no_Mux_rows, no_Mux__pass_on, ln_Mux, mk_Mux, Wp.wRev, Wp.rRev])
local macro_rules | `(tactic| walk_at "r0") => `(tactic| repeat (first | walk_at "w0" | walk_at "go"))
variable {K : PySem.W.Frag} {C_Table C_Mux : Addr}
/-! ### packets -/
theorem str_beq (x w : Str) : (x == w) = decide (w = x) := by
  by_cases z : w = x
  · rw [z]; simp
  · rw [decide_eq_false z]; exact beq_eq_false_iff_ne.mpr fun y => z y.symm
def le8 : T → Bool
  | .tup ts => decide ((ts.length : Int) ≤ 8)
  | _ => false
def isSg : List T → Bool
  | [o, d, l, t] => isI o 0 4000 && (isI l 0 1 && (isBy d && (le8 d && isI t 0 4001)))
  | _ => false
def w3 (w : Str) : Bool := decide (w = "hello") || (decide (w = "gone") || decide (w = "no"))
def w2 (w : Str) : Bool := decide (w = "up") || decide (w = "down")
def isPk : T → Bool
  | .tup [.str w, a] => decide (w = "open") && isPr a
  | .tup [.str w, a, b] => w3 w && (isPr a && isLf b)
  | .tup [.str w, a, b, c, d, e, f] => w2 w && (isPr a && (isLf b && isSg [c, d, e, f]))
  | _ => false
theorem in_3 (w : Str) : inF (.str w) [.str "hello", .str "gone", .str "no"] = w3 w := by
  simp only [inF, List.any_cons, List.any_nil, eqF, Bool.or_false, str_beq, w3]
theorem in_2 (w : Str) : inF (.str w) [.str "up", .str "down"] = w2 w := by
  simp only [inF, List.any_cons, List.any_nil, eqF, Bool.or_false, str_beq, w2]
def spSg : WSp := fun ts S Q _ => match ts with
  | [.tup ps] => ps.length = 4 ∧ (∀ t ∈ ps, Kn S t) ∧ Q (.bl (isSg ps)) S
  | _ => False
theorem by_tup {d : T} (h : isBy d = true) : ∃ ts, d = .tup ts := by
  cases d with
  | tup ts => exact ⟨ts, rfl⟩
  | _ => cases h
theorem hw_is_segment : ∀ ts S Q E, ts.length = 1 → spSg ts S Q E → b__is_segment K C_Table C_Mux spIsI spBy { nx := fun _ S' => Q .non S', rt := Q } (Wp.startT N__is_segment ts) S := by
  intro ts S Q E _ h
  obtain ⟨ps, rfl, hl, hk, h⟩ : ∃ ps, ts = [.tup ps] ∧ ps.length = 4 ∧ (∀ t ∈ ps, Kn S t) ∧ Q (.bl (isSg ps)) S := by
    match ts, h with
    | [.tup ps], h => exact ⟨ps, rfl, h⟩
  match ps, hl, hk, h with
  | [o, d, l, t], _, hk, h =>
    have ko := hk o (by simp)
    have kd := hk d (by simp)
    have kl := hk l (by simp)
    have kt := hk t (by simp)
    unfold b__is_segment N__is_segment
    walk_at "r2"
    refine ⟨ko, ?_⟩
    show wif (!isI o 0 4000) _ _
    simp only [isSg] at h
    refine if_bool (fun e => ?_) (fun e => ?_)
    · have e' : isI o 0 4000 = false := by simpa using e
      rw [e', Bool.false_and] at h
      walk_at "r2"
    have e' : isI o 0 4000 = true := by simpa using e
    rw [e', Bool.true_and] at h
    walk_at "r2"
    refine ⟨kl, ?_⟩
    show wif (!isI l 0 1) _ _
    refine if_bool (fun e => ?_) (fun e => ?_)
    · have e' : isI l 0 1 = false := by simpa using e
      rw [e', Bool.false_and] at h
      walk_at "r2"
    have e' : isI l 0 1 = true := by simpa using e
    rw [e', Bool.true_and] at h
    walk_at "r2"
    refine ⟨kd, ?_⟩
    show wif (isBy d) _ _
    refine if_bool (fun e => ?_) (fun e => ?_)
    · obtain ⟨ds, rfl⟩ := by_tup e
      rw [e, Bool.true_and] at h
      simp only [le8] at h
      walk_at "r2"
      refine if_dec (fun e2 => ?_) (fun e2 => ?_)
      · rw [decide_eq_true e2, Bool.true_and] at h
        walk_at "r2"
        exact ⟨kt, h⟩
      · rw [decide_eq_false e2, Bool.false_and] at h
        exact h
    · rw [e, Bool.false_and] at h
      exact h
def spPk : WSp := fun ts S Q _ => match ts with
  | [v] => Kn S v ∧ Q (.bl (isPk v)) S
  | _ => False
theorem cut3 {a b c d e f g : T} : cutT [a, b, c, d, e, f, g] (some 3) none = [d, e, f, g] := rfl
theorem int_ne {n m : Nat} (h : n ≠ m) : (((n : Nat) : Int) == (m : Nat)) = false := by
  rw [beq_eq_false_iff_ne]
  omega
theorem hw_is_packet : ∀ ts S Q E, ts.length = 1 → spPk ts S Q E → b_is_packet K C_Table C_Mux spFw spPr spLf spSg { nx := fun _ S' => Q .non S', rt := Q } (Wp.startT N_is_packet ts) S := by
  intro ts S Q E _ h
  match ts, h with
  | [v], ⟨kn, h⟩ =>
    unfold b_is_packet N_is_packet
    walk_at "r2"
    refine ⟨kn, ?_⟩
    cases hw : fw v with
    | str w =>
      obtain ⟨r, rfl⟩ : ∃ r, v = .tup (.str w :: r) := by
        cases v with
        | tup xs =>
          cases xs with
          | nil => cases hw
          | cons a r =>
            cases a with
            | str x => cases hw; exact ⟨r, rfl⟩
            | _ => cases hw
        | _ => cases hw
      cases kn with
      | tup _ hl hk =>
        have hs : PyData.strOk w = true := by
          cases hk (.str w) List.mem_cons_self with
          | str _ z => exact z
        have kr : ∀ t ∈ r, Kn S t := fun t ht => hk t (List.mem_cons_of_mem _ ht)
        walk_at "r2"
        refine rEq_str hs (by decide +kernel) ?_
        rw [show (w == "open") = decide (w = "open") by rw [Bool.eq_iff_iff]; simp]
        refine if_dec (fun e => ?_) (fun e => ?_)
        · subst e
          match r, kr, h with
          | [], _, h => walk_at "r2"; exact wif_f h
          | [a], kr, h => walk_at "r2"; exact wif_t ⟨kr a (by simp), h⟩
          | a :: b :: r, _, h =>
            walk_at "r2"
            refine if_bool (fun z => absurd (eq_of_beq z) (by omega)) (fun _ => ?_)
            have z : isPk (.tup (.str "open" :: a :: b :: r)) = false := by
              match r with
              | [] => rfl
              | [c] => rfl
              | [c, d] => rfl
              | [c, d, e] => rfl
              | [c, d, e, f] => rfl
              | c :: d :: e :: f :: g :: r => rfl
            rw [z] at h
            exact h
        · walk_at "r2"
          refine ⟨_, rfl, ?_⟩
          rw [in_3]
          show wif (w3 w) _ _
          refine if_bool (fun e3 => ?_) (fun e3 => ?_)
          · match r, kr, h with
            | [], _, h => walk_at "r2"; exact wif_f h
            | [a], _, h =>
              simp only [isPk, e, decide_false, Bool.false_and] at h
              walk_at "r2"
              exact wif_f trivial
            | [a, b], kr, h =>
              simp only [isPk, e3, Bool.true_and] at h
              walk_at "r2"
              refine wif_t ⟨kr a (by simp), ?_⟩
              show wif (isPr a) _ _
              refine if_bool (fun e4 => ?_) (fun e4 => ?_)
              · rw [e4, Bool.true_and] at h
                walk_at "r2"
                exact ⟨kr b (by simp), h⟩
              · rw [e4, Bool.false_and] at h
                exact h
            | a :: b :: c :: r, _, h =>
              walk_at "r2"
              refine if_bool (fun z => absurd (eq_of_beq z) (by omega)) (fun _ => ?_)
              have z : isPk (.tup (.str w :: a :: b :: c :: r)) = false := by
                have n2 : w2 w = false := by
                  have : w = "hello" ∨ w = "gone" ∨ w = "no" := by simpa [w3] using e3
                  rcases this with z | z | z <;> subst z <;> decide +kernel
                match r with
                | [] => rfl
                | [d] => rfl
                | [d, e] => rfl
                | [d, e, f] => simp only [isPk, n2, Bool.false_and]
                | d :: e :: f :: g :: r => rfl
              rw [z] at h
              exact h
          · walk_at "r2"
            refine ⟨_, rfl, ?_⟩
            rw [in_2]
            show wif (w2 w) _ _
            refine if_bool (fun e2 => ?_) (fun e2 => ?_)
            · match r, kr, h with
              | [], _, h => walk_at "r2"; exact wif_f h
              | [a], _, h =>
                simp only [isPk, e, decide_false, Bool.false_and] at h
                walk_at "r2"
                exact wif_f trivial
              | [a, b], _, h =>
                simp only [isPk, e3, Bool.false_and] at h
                walk_at "r2"
                exact wif_f trivial
              | [a, b, c], _, h => walk_at "r2"; exact wif_f h
              | [a, b, c, d], _, h => walk_at "r2"; exact wif_f h
              | [a, b, c, d, f], _, h => walk_at "r2"; exact wif_f h
              | [a, b, c, d, f, g], kr, h =>
                simp only [isPk, e2, Bool.true_and] at h
                walk_at "r2"
                refine wif_t ⟨kr a (by simp), ?_⟩
                show wif (isPr a) _ _
                refine if_bool (fun e4 => ?_) (fun e4 => ?_)
                · rw [e4, Bool.true_and] at h
                  walk_at "r2"
                  refine ⟨kr b (by simp), ?_⟩
                  show wif (isLf b) _ _
                  refine if_bool (fun e5 => ?_) (fun e5 => ?_)
                  · rw [e5, Bool.true_and] at h
                    walk_at "r2"
                    rw [cut3]
                    refine ⟨rfl, fun t ht => kr t ?_, h⟩
                    simp only [List.mem_cons, List.not_mem_nil, or_false] at ht ⊢
                    rcases ht with z | z | z | z <;> simp [z]
                  · rw [e5, Bool.false_and] at h
                    exact h
                · rw [e4, Bool.false_and] at h
                  exact h
              | a :: b :: c :: d :: f :: g :: i :: r, _, h =>
                walk_at "r2"
                refine if_bool (fun z => absurd (eq_of_beq z) (by omega)) (fun _ => ?_)
                exact h
            · walk_at "r2"
              have z : isPk (.tup (.str w :: r)) = false := by
                match r with
                | [] => rfl
                | [a] => simp only [isPk, e, decide_false, Bool.false_and]
                | [a, b] => simp only [isPk, e3, Bool.false_and]
                | [a, b, c] => rfl
                | [a, b, c, d] => rfl
                | [a, b, c, d, f] => rfl
                | [a, b, c, d, f, g] => simp only [isPk, e2, Bool.false_and]
                | a :: b :: c :: d :: f :: g :: i :: r => rfl
              rw [z] at h
              exact h
    | non =>
      have z : isPk v = false := by
        cases v with
        | tup xs =>
          cases xs with
          | nil => rfl
          | cons a r =>
            cases a with
            | str x => cases hw
            | _ => rfl
        | _ => rfl
      rw [z] at h
      walk_at "r2"
      refine rEq_ns (by decide +kernel) ?_
      walk_at "r2"
      refine ⟨_, rfl, ?_⟩
      rw [show inF .non [.str "hello", .str "gone", .str "no"] = false from rfl]
      walk_at "r2"
      refine ⟨_, rfl, ?_⟩
      rw [show inF .non [.str "up", .str "down"] = false from rfl]
      walk_at "r2"
    | _ =>
      cases v with
      | tup xs =>
        cases xs with
        | nil => cases hw
        | cons a r => cases a <;> cases hw
      | _ => cases hw
end My

set_option Elab.async false
set_option linter.all false
set_option maxRecDepth 100000
set_option maxHeartbeats 8000000
namespace My
open PySem PySem.Spec PyProof.Rows L2 Wp Gn
local macro_rules | `(tactic| walk_at "go") => `(tactic| (with_reducible refine goS_i ?_))
local macro_rules | `(tactic| walk_at "wp") => `(tactic| simp (disch := omega) only [Wp.wSeq, Wp.wNext, Wp.wSet, Wp.wVar, Wp.wC, Wp.wOp, Wp.wRet, Wp.wIfS, Wp.wTest, Wp.wCall, Wp.wCons, Wp.wNil, Wp.wTup, Wp.wLst, Wp.wAsg, Wp.gTp, Wp.gC, Wp.gNm, Wp.gN0, Wp.gIx, Wp.rSet, Wp.rAdd, Wp.rMul, Wp.rMod, Wp.rSub, Wp.rFdiv, Wp.rPow, Wp.rInt, Wp.rIx, Wp.rLt, Wp.rLe, Wp.rCmp, Wp.rGeI, Wp.rGtI, Wp.wCB, Wp.rLen, Wp.rLen1, Wp.rInt1, Wp.rMax2, Wp.rMin2, Wp.rTupOf, Wp.rListOf,
  Wp.wIsi, Wp.rBIs, Wp.rIsN, Wp.isNon, Wp.wMt, Wp.rAppendT, Wp.rExtendT, Wp.rReverseT, Wp.wNot, Wp.wOr, Wp.wAnd, Wp.wAndV, Wp.wOrV, Wp.wNotV, Wp.wFor, Wp.iRg1, Wp.iRg2, Wp.iAnyW, Wp.wAll, Wp.wChain, Wp.wSl, Wp.wNoPart, Wp.wPart, Wp.rSl, Wp.wNeg, Wp.rNeg, Wp.wLc, Wp.wYes, Wp.wDrop, Wp.wipeT, Wp.wAug, List.map, List.set_cons_zero, List.set_cons_succ, List.getElem?_cons_zero, List.getElem?_cons_succ, List.length_cons, List.length_nil, List.cons_append, List.nil_append, List.replicate, Wp.startT,
  true_and, and_true, Wp.wif_true, Wp.wif_false, Wp.ex_some, Wp.ex_some1, Wp.ex_eq, Wp.ex_lst, Wp.ex_lst0, Wp.rEq_int, Bool.false_bne, Bool.true_bne, Int.reduceLT, Int.reduceLE, Int.reduceAdd, Nat.reduceAdd, Nat.reduceSub, eq_self, ite_true, ite_false, beq_self_eq_true, Bool.not_true, Bool.not_false, Wp.isB_0, Wp.isB_1, Wp.isB_2, Wp.isB_3, Wp.isB_4, Wp.isB_5, Wp.isB_6, Wp.isB_7, Wp.isB_8, Wp.isB_9, Wp.isB_10, Wp.isB_11, Wp.isB_12, Wp.isB_13, Wp.isB_14, Wp.isB_15, Wp.isB_16, Wp.isB_17, Wp.isB_18, Wp.isB_19, Wp.isB_20, Wp.isB_21, Wp.isB_22, Wp.isB_23, Wp.isB_24, Wp.isB_25, Wp.isB_26, Wp.isB_27, Wp.isB_28, Wp.isB_29, Wp.isB_30, Wp.isB_31, Wp.isB_32, Wp.isB_33, Wp.isB_34, Wp.isB_35, Wp.cmul_l, Wp.cmul_r, Wp.cpow_lit, Wp.size_le, Wp.size_lt, Wp.atI_0, Wp.atI_1, Wp.atI_2, Wp.atI_3, Wp.atI_4, Wp.atI_5, Wp.atI_6, Wp.ixN_0, Wp.ixN_1, Wp.ixN_2, Wp.itemsT, Wp.tyT, reduceIte, Wp.wFld, Wp.wFSet, Wp.wFAug, Wp.wMeth, Wp.wMake, Wp.rIxA, Wp.rInA, Wp.rSetA, Wp.ixA, Wp.inA, Wp.setA, Wp.lenA, Wp.getD, Option.map_some, Option.bind_some, Option.getD_some,  Wp.gIxA, Wp.wDNew, Wp.wDNewT, Wp.rLenA, Wp.rSortD, Wp.rMaxL, Wp.rPopL, Wp.rGet1, Wp.rGet2, Wp.wGet1, Wp.wGet2, Wp.wPop1, Wp.wPop2, Wp.wDel, Wp.isDT, Wp.keyT, Wp.keysT, Wp.keysL, Wp.ex_ins, Wp.ex_dct, Wp.wKGet, Wp.wKIx, Wp.rLenK, Wp.iZipK, Wp.wDisp, Wp.wPCons, Wp.wPNil, Wp.rGt, Int.cast_ofNat_Int, Int.reduceBEq, Wp.wRev, Wp.rRev, Wp.rMulA, lk_Table__rows, pt_Table__rows, no_Table_take, no_Table_rows, no_Table_birth, no_Table_forget, ln_Table, mk_Table, lk_Mux__number, pt_Mux__number, lk_Mux__table, pt_Mux__table, no_Mux_receive, no_Mux_forget, no_Mux_rows, no_Mux__pass_on, ln_Mux, mk_Mux, Wp.wRev, Wp.rRev, Wp.upS, Wp.upS_upS, *])
local macro_rules | `(tactic| walk_at "run") => `(tactic| repeat (first | walk_at "wp" | walk_at "go"))
local macro_rules | `(tactic| walk_at "wq") => `(tactic| simp (disch := omega) only [Wp.wSeq, Wp.wNext, Wp.wSet, Wp.wVar, Wp.wC, Wp.wOp, Wp.wRet, Wp.wIfS, Wp.wTest, Wp.wCall, Wp.wCons, Wp.wNil, Wp.wTup, Wp.wLst, Wp.wAsg, Wp.gTp, Wp.gC, Wp.gNm, Wp.gN0, Wp.gIx, Wp.rSet, Wp.rAdd, Wp.rMul, Wp.rMod, Wp.rSub, Wp.rFdiv, Wp.rPow, Wp.rInt, Wp.rIx, Wp.rLt, Wp.rLe, Wp.rCmp, Wp.rGeI, Wp.rGtI, Wp.wCB, Wp.rLen, Wp.rLen1, Wp.rInt1, Wp.rMax2, Wp.rMin2, Wp.rTupOf, Wp.rListOf,
  Wp.wIsi, Wp.rBIs, Wp.rIsN, Wp.isNon, Wp.wMt, Wp.rAppendT, Wp.rExtendT, Wp.rReverseT, Wp.wNot, Wp.wOr, Wp.wAnd, Wp.wAndV, Wp.wOrV, Wp.wNotV, Wp.wFor, Wp.iRg1, Wp.iRg2, Wp.iAnyW, Wp.wAll, Wp.wChain, Wp.wSl, Wp.wNoPart, Wp.wPart, Wp.rSl, Wp.wNeg, Wp.rNeg, Wp.wLc, Wp.wYes, Wp.wDrop, Wp.wipeT, Wp.wAug, List.map, List.set_cons_zero, List.set_cons_succ, List.getElem?_cons_zero, List.getElem?_cons_succ, List.length_cons, List.length_nil, List.cons_append, List.nil_append, List.replicate, Wp.startT,
  true_and, and_true, Wp.wif_true, Wp.wif_false, Wp.ex_some, Wp.ex_some1, Wp.ex_eq, Wp.ex_lst, Wp.ex_lst0, Wp.rEq_int, Bool.false_bne, Bool.true_bne, Int.reduceLT, Int.reduceLE, Int.reduceAdd, Nat.reduceAdd, Nat.reduceSub, eq_self, ite_true, ite_false, beq_self_eq_true, Bool.not_true, Bool.not_false, Wp.isB_0, Wp.isB_1, Wp.isB_2, Wp.isB_3, Wp.isB_4, Wp.isB_5, Wp.isB_6, Wp.isB_7, Wp.isB_8, Wp.isB_9, Wp.isB_10, Wp.isB_11, Wp.isB_12, Wp.isB_13, Wp.isB_14, Wp.isB_15, Wp.isB_16, Wp.isB_17, Wp.isB_18, Wp.isB_19, Wp.isB_20, Wp.isB_21, Wp.isB_22, Wp.isB_23, Wp.isB_24, Wp.isB_25, Wp.isB_26, Wp.isB_27, Wp.isB_28, Wp.isB_29, Wp.isB_30, Wp.isB_31, Wp.isB_32, Wp.isB_33, Wp.isB_34, Wp.isB_35, Wp.cmul_l, Wp.cmul_r, Wp.cpow_lit, Wp.size_le, Wp.size_lt, Wp.atI_0, Wp.atI_1, Wp.atI_2, Wp.atI_3, Wp.atI_4, Wp.atI_5, Wp.atI_6, Wp.ixN_0, Wp.ixN_1, Wp.ixN_2, Wp.itemsT, Wp.tyT, reduceIte, Wp.wFld, Wp.wFSet, Wp.wFAug, Wp.wMeth, Wp.wMake, Wp.rIxA, Wp.rInA, Wp.rSetA, Wp.ixA, Wp.inA, Wp.setA, Wp.lenA, Wp.getD, Option.map_some, Option.bind_some, Option.getD_some,  Wp.gIxA, Wp.wDNew, Wp.wDNewT, Wp.rLenA, Wp.rSortD, Wp.rMaxL, Wp.rPopL, Wp.rGet1, Wp.rGet2, Wp.wGet1, Wp.wGet2, Wp.wPop1, Wp.wPop2, Wp.wDel, Wp.isDT, Wp.keyT, Wp.keysT, Wp.keysL, Wp.ex_ins, Wp.ex_dct, Wp.wKGet, Wp.wKIx, Wp.rLenK, Wp.iZipK, Wp.wDisp, Wp.wPCons, Wp.wPNil, Wp.rGt, Int.cast_ofNat_Int, Int.reduceBEq, Wp.wRev, Wp.rRev, Wp.rMulA, lk_Table__rows, pt_Table__rows, no_Table_take, no_Table_rows, no_Table_birth, no_Table_forget, ln_Table, mk_Table, lk_Mux__number, pt_Mux__number, lk_Mux__table, pt_Mux__table, no_Mux_receive, no_Mux_forget, no_Mux_rows, no_Mux__pass_on, ln_Mux, mk_Mux, Wp.wRev, Wp.rRev, *])
local macro_rules | `(tactic| walk_at "r2") => `(tactic| repeat (first | walk_at "wq" | walk_at "go"))
local macro_rules | `(tactic| walk_at "w0") => `(tactic| simp (disch := omega) only [Wp.wSeq, Wp.wNext, Wp.wSet, Wp.wVar, Wp.wC, Wp.wOp, Wp.wRet, Wp.wIfS, Wp.wTest, Wp.wCall, Wp.wCons, Wp.wNil, Wp.wTup, Wp.wLst, Wp.wAsg, Wp.gTp, Wp.gC, Wp.gNm, Wp.gN0, Wp.gIx, Wp.rSet, Wp.rAdd, Wp.rMul, Wp.rMod, Wp.rSub, Wp.rFdiv, Wp.rPow, Wp.rInt, Wp.rIx, Wp.rLt, Wp.rLe, Wp.rCmp, Wp.rGeI, Wp.rGtI, Wp.wCB, Wp.rLen, Wp.rLen1, Wp.rInt1, Wp.rMax2, Wp.rMin2, Wp.rTupOf, Wp.rListOf,
  Wp.wIsi, Wp.rBIs, Wp.rIsN, Wp.isNon, Wp.wMt, Wp.rAppendT, Wp.rExtendT, Wp.rReverseT, Wp.wNot, Wp.wOr, Wp.wAnd, Wp.wAndV, Wp.wOrV, Wp.wNotV, Wp.wFor, Wp.iRg1, Wp.iRg2, Wp.iAnyW, Wp.wAll, Wp.wChain, Wp.wSl, Wp.wNoPart, Wp.wPart, Wp.rSl, Wp.wNeg, Wp.rNeg, Wp.wLc, Wp.wYes, Wp.wDrop, Wp.wipeT, Wp.wAug, List.map, List.set_cons_zero, List.set_cons_succ, List.getElem?_cons_zero, List.getElem?_cons_succ, List.length_cons, List.length_nil, List.cons_append, List.nil_append, List.replicate, Wp.startT,
  true_and, and_true, Wp.wif_true, Wp.wif_false, Wp.ex_some, Wp.ex_some1, Wp.ex_eq, Wp.ex_lst, Wp.ex_lst0, Wp.rEq_int, Bool.false_bne, Bool.true_bne, Int.reduceLT, Int.reduceLE, Int.reduceAdd, Nat.reduceAdd, Nat.reduceSub, eq_self, ite_true, ite_false, beq_self_eq_true, Bool.not_true, Bool.not_false, Wp.isB_0, Wp.isB_1, Wp.isB_2, Wp.isB_3, Wp.isB_4, Wp.isB_5, Wp.isB_6, Wp.isB_7, Wp.isB_8, Wp.isB_9, Wp.isB_10, Wp.isB_11, Wp.isB_12, Wp.isB_13, Wp.isB_14, Wp.isB_15, Wp.isB_16, Wp.isB_17, Wp.isB_18, Wp.isB_19, Wp.isB_20, Wp.isB_21, Wp.isB_22, Wp.isB_23, Wp.isB_24, Wp.isB_25, Wp.isB_26, Wp.isB_27, Wp.isB_28, Wp.isB_29, Wp.isB_30, Wp.isB_31, Wp.isB_32, Wp.isB_33, Wp.isB_34, Wp.isB_35, Wp.cmul_l, Wp.cmul_r, Wp.cpow_lit, Wp.size_le, Wp.size_lt, Wp.atI_0, Wp.atI_1, Wp.atI_2, Wp.atI_3, Wp.atI_4, Wp.atI_5, Wp.atI_6, Wp.ixN_0, Wp.ixN_1, Wp.ixN_2, Wp.itemsT, Wp.tyT, reduceIte, Wp.wFld, Wp.wFSet, Wp.wFAug, Wp.wMeth, Wp.wMake, Wp.rIxA, Wp.rInA, Wp.rSetA, Wp.ixA, Wp.inA, Wp.setA, Wp.lenA, Wp.getD, Option.map_some, Option.bind_some, Option.getD_some,  Wp.gIxA, Wp.wDNew, Wp.wDNewT, Wp.rLenA, Wp.rSortD, Wp.rMaxL, Wp.rPopL, Wp.rGet1, Wp.rGet2, Wp.wGet1, Wp.wGet2, Wp.wPop1, Wp.wPop2, Wp.wDel, Wp.isDT, Wp.keyT, Wp.keysT, Wp.keysL, Wp.ex_ins, Wp.ex_dct, Wp.wKGet, Wp.wKIx, Wp.rLenK, Wp.iZipK, Wp.wDisp, Wp.wPCons, Wp.wPNil, Wp.rGt, Int.cast_ofNat_Int, Int.reduceBEq, Wp.wRev, Wp.rRev, Wp.rMulA, lk_Table__rows, pt_Table__rows, no_Table_take, no_Table_rows, no_Table_birth, no_Table_forget, ln_Table, mk_Table, lk_Mux__number, pt_Mux__number, lk_Mux__table, pt_Mux__table, no_Mux_receive, no_Mux_forget, no_Mux_rows, no_Mux__pass_on, ln_Mux, mk_Mux, Wp.wRev, Wp.rRev])
local macro_rules | `(tactic| walk_at "r0") => `(tactic| repeat (first | walk_at "w0" | walk_at "go"))
variable {K : PySem.W.Frag} {C_Table C_Mux : Addr}
/-! ### the law's own test of packets -/
theorem pk2 (w : Str) (b : T) : isPk (.tup [.str w, b]) = (isPr b && decide (w = "open")) := by
  simp only [isPk, Bool.and_comm]
theorem pk3 (w : Str) (b c : T) : isPk (.tup [.str w, b, c]) = (isPr b && (isLf c && w3 w)) := by
  simp only [isPk]
  cases isPr b <;> cases isLf c <;> cases w3 w <;> rfl
theorem pk7 (w : Str) (b c d e f g : T) : isPk (.tup [.str w, b, c, d, e, f, g]) = (isPr b && (isLf c && (w2 w && (isI d 0 4000 && (isBy e && (le8 e && (isI f 0 1 && isI g 0 4001))))))) := by
  simp only [isPk, isSg]
  cases isPr b <;> cases isLf c <;> cases w2 w <;> cases isI d 0 4000 <;> cases isBy e <;> cases le8 e <;> cases isI f 0 1 <;> cases isI g 0 4001 <;> rfl
theorem pk_no {a : T} (r : List T) (h : (∀ w, a ≠ .str w) ∨ (r.length ≠ 1 ∧ r.length ≠ 2 ∧ r.length ≠ 6)) : isPk (.tup (a :: r)) = false := by
  rcases h with h | h
  · cases a with
    | str w => exact absurd rfl (h w)
    | _ => rfl
  · cases a with
    | str w =>
      match r, h with
      | [], _ => rfl
      | [_], h => exact absurd rfl h.1
      | [_, _], h => exact absurd rfl h.2.1
      | [_, _, _], _ => rfl
      | [_, _, _, _], _ => rfl
      | [_, _, _, _, _], _ => rfl
      | [_, _, _, _, _, _], h => exact absurd rfl h.2.2
      | _ :: _ :: _ :: _ :: _ :: _ :: _ :: _, _ => rfl
    | _ => rfl
end My

set_option Elab.async false
set_option linter.all false
set_option maxRecDepth 100000
set_option maxHeartbeats 8000000
namespace My
open PySem PySem.Spec PyProof.Rows L2 Wp Gn
local macro_rules | `(tactic| walk_at "go") => `(tactic| (with_reducible refine goS_i ?_))
local macro_rules | `(tactic| walk_at "wp") => `(tactic| simp (disch := omega) only [Wp.wSeq, Wp.wNext, Wp.wSet, Wp.wVar, Wp.wC, Wp.wOp, Wp.wRet, Wp.wIfS, Wp.wTest, Wp.wCall, Wp.wCons, Wp.wNil, Wp.wTup, Wp.wLst, Wp.wAsg, Wp.gTp, Wp.gC, Wp.gNm, Wp.gN0, Wp.gIx, Wp.rSet, Wp.rAdd, Wp.rMul, Wp.rMod, Wp.rSub, Wp.rFdiv, Wp.rPow, Wp.rInt, Wp.rIx, Wp.rLt, Wp.rLe, Wp.rCmp, Wp.rGeI, Wp.rGtI, Wp.wCB, Wp.rLen, Wp.rLen1, Wp.rInt1, Wp.rMax2, Wp.rMin2, Wp.rTupOf, Wp.rListOf,
  Wp.wIsi, Wp.rBIs, Wp.rIsN, Wp.isNon, Wp.wMt, Wp.rAppendT, Wp.rExtendT, Wp.rReverseT, Wp.wNot, Wp.wOr, Wp.wAnd, Wp.wAndV, Wp.wOrV, Wp.wNotV, Wp.wFor, Wp.iRg1, Wp.iRg2, Wp.iAnyW, Wp.wAll, Wp.wChain, Wp.wSl, Wp.wNoPart, Wp.wPart, Wp.rSl, Wp.wNeg, Wp.rNeg, Wp.wLc, Wp.wYes, Wp.wDrop, Wp.wipeT, Wp.wAug, List.map, List.set_cons_zero, List.set_cons_succ, List.getElem?_cons_zero, List.getElem?_cons_succ, List.length_cons, List.length_nil, List.cons_append, List.nil_append, List.replicate, Wp.startT,
  true_and, and_true, Wp.wif_true, Wp.wif_false, Wp.ex_some, Wp.ex_some1, Wp.ex_eq, Wp.ex_lst, Wp.ex_lst0, Wp.rEq_int, Bool.false_bne, Bool.true_bne, Int.reduceLT, Int.reduceLE, Int.reduceAdd, Nat.reduceAdd, Nat.reduceSub, eq_self, ite_true, ite_false, beq_self_eq_true, Bool.not_true, Bool.not_false, Wp.isB_0, Wp.isB_1, Wp.isB_2, Wp.isB_3, Wp.isB_4, Wp.isB_5, Wp.isB_6, Wp.isB_7, Wp.isB_8, Wp.isB_9, Wp.isB_10, Wp.isB_11, Wp.isB_12, Wp.isB_13, Wp.isB_14, Wp.isB_15, Wp.isB_16, Wp.isB_17, Wp.isB_18, Wp.isB_19, Wp.isB_20, Wp.isB_21, Wp.isB_22, Wp.isB_23, Wp.isB_24, Wp.isB_25, Wp.isB_26, Wp.isB_27, Wp.isB_28, Wp.isB_29, Wp.isB_30, Wp.isB_31, Wp.isB_32, Wp.isB_33, Wp.isB_34, Wp.isB_35, Wp.cmul_l, Wp.cmul_r, Wp.cpow_lit, Wp.size_le, Wp.size_lt, Wp.atI_0, Wp.atI_1, Wp.atI_2, Wp.atI_3, Wp.atI_4, Wp.atI_5, Wp.atI_6, Wp.ixN_0, Wp.ixN_1, Wp.ixN_2, Wp.itemsT, Wp.tyT, reduceIte, Wp.wFld, Wp.wFSet, Wp.wFAug, Wp.wMeth, Wp.wMake, Wp.rIxA, Wp.rInA, Wp.rSetA, Wp.ixA, Wp.inA, Wp.setA, Wp.lenA, Wp.getD, Option.map_some, Option.bind_some, Option.getD_some,  Wp.gIxA, Wp.wDNew, Wp.wDNewT, Wp.rLenA, Wp.rSortD, Wp.rMaxL, Wp.rPopL, Wp.rGet1, Wp.rGet2, Wp.wGet1, Wp.wGet2, Wp.wPop1, Wp.wPop2, Wp.wDel, Wp.isDT, Wp.keyT, Wp.keysT, Wp.keysL, Wp.ex_ins, Wp.ex_dct, Wp.wKGet, Wp.wKIx, Wp.rLenK, Wp.iZipK, Wp.wDisp, Wp.wPCons, Wp.wPNil, Wp.rGt, Int.cast_ofNat_Int, Int.reduceBEq, Wp.wRev, Wp.rRev, Wp.rMulA, lk_Table__rows, pt_Table__rows, no_Table_take, no_Table_rows, no_Table_birth, no_Table_forget, ln_Table, mk_Table, lk_Mux__number, pt_Mux__number, lk_Mux__table, pt_Mux__table, no_Mux_receive, no_Mux_forget, no_Mux_rows, no_Mux__pass_on, ln_Mux, mk_Mux, Wp.wRev, Wp.rRev, Wp.upS, Wp.upS_upS, *])
local macro_rules | `(tactic| walk_at "run") => `(tactic| repeat (first | walk_at "wp" | walk_at "go"))
local macro_rules | `(tactic| walk_at "wq") => `(tactic| simp (disch := omega) only [Wp.wSeq, Wp.wNext, Wp.wSet, Wp.wVar, Wp.wC, Wp.wOp, Wp.wRet, Wp.wIfS, Wp.wTest, Wp.wCall, Wp.wCons, Wp.wNil, Wp.wTup, Wp.wLst, Wp.wAsg, Wp.gTp, Wp.gC, Wp.gNm, Wp.gN0, Wp.gIx, Wp.rSet, Wp.rAdd, Wp.rMul, Wp.rMod, Wp.rSub, Wp.rFdiv, Wp.rPow, Wp.rInt, Wp.rIx, Wp.rLt, Wp.rLe, Wp.rCmp, Wp.rGeI, Wp.rGtI, Wp.wCB, Wp.rLen, Wp.rLen1, Wp.rInt1, Wp.rMax2, Wp.rMin2, Wp.rTupOf, Wp.rListOf,
  Wp.wIsi, Wp.rBIs, Wp.rIsN, Wp.isNon, Wp.wMt, Wp.rAppendT, Wp.rExtendT, Wp.rReverseT, Wp.wNot, Wp.wOr, Wp.wAnd, Wp.wAndV, Wp.wOrV, Wp.wNotV, Wp.wFor, Wp.iRg1, Wp.iRg2, Wp.iAnyW, Wp.wAll, Wp.wChain, Wp.wSl, Wp.wNoPart, Wp.wPart, Wp.rSl, Wp.wNeg, Wp.rNeg, Wp.wLc, Wp.wYes, Wp.wDrop, Wp.wipeT, Wp.wAug, List.map, List.set_cons_zero, List.set_cons_succ, List.getElem?_cons_zero, List.getElem?_cons_succ, List.length_cons, List.length_nil, List.cons_append, List.nil_append, List.replicate, Wp.startT,
  true_and, and_true, Wp.wif_true, Wp.wif_false, Wp.ex_some, Wp.ex_some1, Wp.ex_eq, Wp.ex_lst, Wp.ex_lst0, Wp.rEq_int, Bool.false_bne, Bool.true_bne, Int.reduceLT, Int.reduceLE, Int.reduceAdd, Nat.reduceAdd, Nat.reduceSub, eq_self, ite_true, ite_false, beq_self_eq_true, Bool.not_true, Bool.not_false, Wp.isB_0, Wp.isB_1, Wp.isB_2, Wp.isB_3, Wp.isB_4, Wp.isB_5, Wp.isB_6, Wp.isB_7, Wp.isB_8, Wp.isB_9, Wp.isB_10, Wp.isB_11, Wp.isB_12, Wp.isB_13, Wp.isB_14, Wp.isB_15, Wp.isB_16, Wp.isB_17, Wp.isB_18, Wp.isB_19, Wp.isB_20, Wp.isB_21, Wp.isB_22, Wp.isB_23, Wp.isB_24, Wp.isB_25, Wp.isB_26, Wp.isB_27, Wp.isB_28, Wp.isB_29, Wp.isB_30, Wp.isB_31, Wp.isB_32, Wp.isB_33, Wp.isB_34, Wp.isB_35, Wp.cmul_l, Wp.cmul_r, Wp.cpow_lit, Wp.size_le, Wp.size_lt, Wp.atI_0, Wp.atI_1, Wp.atI_2, Wp.atI_3, Wp.atI_4, Wp.atI_5, Wp.atI_6, Wp.ixN_0, Wp.ixN_1, Wp.ixN_2, Wp.itemsT, Wp.tyT, reduceIte, Wp.wFld, Wp.wFSet, Wp.wFAug, Wp.wMeth, Wp.wMake, Wp.rIxA, Wp.rInA, Wp.rSetA, Wp.ixA, Wp.inA, Wp.setA, Wp.lenA, Wp.getD, Option.map_some, Option.bind_some, Option.getD_some,  Wp.gIxA, Wp.wDNew, Wp.wDNewT, Wp.rLenA, Wp.rSortD, Wp.rMaxL, Wp.rPopL, Wp.rGet1, Wp.rGet2, Wp.wGet1, Wp.wGet2, Wp.wPop1, Wp.wPop2, Wp.wDel, Wp.isDT, Wp.keyT, Wp.keysT, Wp.keysL, Wp.ex_ins, Wp.ex_dct, Wp.wKGet, Wp.wKIx, Wp.rLenK, Wp.iZipK, Wp.wDisp, Wp.wPCons, Wp.wPNil, Wp.rGt, Int.cast_ofNat_Int, Int.reduceBEq, Wp.wRev, Wp.rRev, Wp.rMulA, lk_Table__rows, pt_Table__rows, no_Table_take, no_Table_rows, no_Table_birth, no_Table_forget, ln_Table, mk_Table, lk_Mux__number, pt_Mux__number, lk_Mux__table, pt_Mux__table, no_Mux_receive, no_Mux_forget, no_Mux_rows, no_Mux__pass_on, ln_Mux, mk_Mux, Wp.wRev, Wp.rRev, *])
local macro_rules | `(tactic| walk_at "r2") => `(tactic| repeat (first | walk_at "wq" | walk_at "go"))
local macro_rules | `(tactic| walk_at "w0") => `(tactic| simp (disch := omega) only [Wp.wSeq, Wp.wNext, Wp.wSet, Wp.wVar, Wp.wC, Wp.wOp, Wp.wRet, Wp.wIfS, Wp.wTest, Wp.wCall, Wp.wCons, Wp.wNil, Wp.wTup, Wp.wLst, Wp.wAsg, Wp.gTp, Wp.gC, Wp.gNm, Wp.gN0, Wp.gIx, Wp.rSet, Wp.rAdd, Wp.rMul, Wp.rMod, Wp.rSub, Wp.rFdiv, Wp.rPow, Wp.rInt, Wp.rIx, Wp.rLt, Wp.rLe, Wp.rCmp, Wp.rGeI, Wp.rGtI, Wp.wCB, Wp.rLen, Wp.rLen1, Wp.rInt1, Wp.rMax2, Wp.rMin2, Wp.rTupOf, Wp.rListOf,
  Wp.wIsi, Wp.rBIs, Wp.rIsN, Wp.isNon, Wp.wMt, Wp.rAppendT, Wp.rExtendT, Wp.rReverseT, Wp.wNot, Wp.wOr, Wp.wAnd, Wp.wAndV, Wp.wOrV, Wp.wNotV, Wp.wFor, Wp.iRg1, Wp.iRg2, Wp.iAnyW, Wp.wAll, Wp.wChain, Wp.wSl, Wp.wNoPart, Wp.wPart, Wp.rSl, Wp.wNeg, Wp.rNeg, Wp.wLc, Wp.wYes, Wp.wDrop, Wp.wipeT, Wp.wAug, List.map, List.set_cons_zero, List.set_cons_succ, List.getElem?_cons_zero, List.getElem?_cons_succ, List.length_cons, List.length_nil, List.cons_append, List.nil_append, List.replicate, Wp.startT,
  true_and, and_true, Wp.wif_true, Wp.wif_false, Wp.ex_some, Wp.ex_some1, Wp.ex_eq, Wp.ex_lst, Wp.ex_lst0, Wp.rEq_int, Bool.false_bne, Bool.true_bne, Int.reduceLT, Int.reduceLE, Int.reduceAdd, Nat.reduceAdd, Nat.reduceSub, eq_self, ite_true, ite_false, beq_self_eq_true, Bool.not_true, Bool.not_false, Wp.isB_0, Wp.isB_1, Wp.isB_2, Wp.isB_3, Wp.isB_4, Wp.isB_5, Wp.isB_6, Wp.isB_7, Wp.isB_8, Wp.isB_9, Wp.isB_10, Wp.isB_11, Wp.isB_12, Wp.isB_13, Wp.isB_14, Wp.isB_15, Wp.isB_16, Wp.isB_17, Wp.isB_18, Wp.isB_19, Wp.isB_20, Wp.isB_21, Wp.isB_22, Wp.isB_23, Wp.isB_24, Wp.isB_25, Wp.isB_26, Wp.isB_27, Wp.isB_28, Wp.isB_29, Wp.isB_30, Wp.isB_31, Wp.isB_32, Wp.isB_33, Wp.isB_34, Wp.isB_35, Wp.cmul_l, Wp.cmul_r, Wp.cpow_lit, Wp.size_le, Wp.size_lt, Wp.atI_0, Wp.atI_1, Wp.atI_2, Wp.atI_3, Wp.atI_4, Wp.atI_5, Wp.atI_6, Wp.ixN_0, Wp.ixN_1, Wp.ixN_2, Wp.itemsT, Wp.tyT, reduceIte, Wp.wFld, Wp.wFSet, Wp.wFAug, Wp.wMeth, Wp.wMake, Wp.rIxA, Wp.rInA, Wp.rSetA, Wp.ixA, Wp.inA, Wp.setA, Wp.lenA, Wp.getD, Option.map_some, Option.bind_some, Option.getD_some,  Wp.gIxA, Wp.wDNew, Wp.wDNewT, Wp.rLenA, Wp.rSortD, Wp.rMaxL, Wp.rPopL, Wp.rGet1, Wp.rGet2, Wp.wGet1, Wp.wGet2, Wp.wPop1, Wp.wPop2, Wp.wDel, Wp.isDT, Wp.keyT, Wp.keysT, Wp.keysL, Wp.ex_ins, Wp.ex_dct, Wp.wKGet, Wp.wKIx, Wp.rLenK, Wp.iZipK, Wp.wDisp, Wp.wPCons, Wp.wPNil, Wp.rGt, Int.cast_ofNat_Int, Int.reduceBEq, Wp.wRev, Wp.rRev, Wp.rMulA, lk_Table__rows, pt_Table__rows, no_Table_take, no_Table_rows, no_Table_birth, no_Table_forget, ln_Table, mk_Table, lk_Mux__number, pt_Mux__number, lk_Mux__table, pt_Mux__table, no_Mux_receive, no_Mux_forget, no_Mux_rows, no_Mux__pass_on, ln_Mux, mk_Mux, Wp.wRev, Wp.rRev])
local macro_rules | `(tactic| walk_at "r0") => `(tactic| repeat (first | walk_at "w0" | walk_at "go"))
variable {K : PySem.W.Frag} {C_Table C_Mux : Addr}
/-! ### values of a known depth and width -/
inductive Kd (S : Sta) : Nat → Nat → T → Prop
  | non (d n : Nat) : Kd S d n .non
  | bl (d n : Nat) (b : Bool) : Kd S d n (.bl b)
  | int (d n : Nat) (i : Int) : Kd S d n (.int i)
  | str (d n : Nat) (x : Str) (h : PyData.strOk x = true) (hl : x.length ≤ 100) : Kd S d n (.str x)
  | ref (d n : Nat) (p : Addr) (xs : List T) (h : S p = some (.lst xs)) : Kd S d n (.ref p)
  | tup (d n : Nat) (ts : List T) (hl : ts.length ≤ n) (h : ∀ t ∈ ts, Kd S d n t) : Kd S (d + 1) n (.tup ts)
theorem Kd.kn {S : Sta} {d n : Nat} {t : T} (h : Kd S d n t) (hn : n ≤ 1000) : Kn S t := by
  induction h with
  | non d n => exact .non
  | bl d n b => exact .bl b
  | int d n i => exact .int i
  | str d n x h hl => exact .str x h hl
  | ref d n p xs h => exact .ref p xs h
  | tup d n ts hl h ih => exact .tup ts (Nat.le_trans hl hn) fun t ht => ih t ht hn
theorem Kd.st {S S' : Sta} (k : ∀ p xs, S p = some (.lst xs) → ∃ ys, S' p = some (.lst ys)) {d n : Nat} {t : T} (h : Kd S d n t) : Kd S' d n t := by
  induction h with
  | non d n => exact .non d n
  | bl d n b => exact .bl d n b
  | int d n i => exact .int d n i
  | str d n x h hl => exact .str d n x h hl
  | ref d n p xs h =>
    obtain ⟨ys, e⟩ := k p xs h
    exact .ref d n p ys e
  | tup d n ts hl h ih => exact .tup d n ts hl ih
theorem Kd.up {S : Sta} {d n : Nat} {t : T} (h : Kd S d n t) : ∀ {d' n' : Nat}, d ≤ d' → n ≤ n' → Kd S d' n' t := by
  induction h with
  | non d n => intro d' n' _ _; exact .non d' n'
  | bl d n b => intro d' n' _ _; exact .bl d' n' b
  | int d n i => intro d' n' _ _; exact .int d' n' i
  | str d n x h hl => intro d' n' _ _; exact .str d' n' x h hl
  | ref d n p xs h => intro d' n' _ _; exact .ref d' n' p xs h
  | tup d n ts hl h ih =>
    intro d' n' h1 h2
    obtain ⟨e, rfl⟩ : ∃ e, d' = e + 1 := ⟨d' - 1, by omega⟩
    exact .tup e n' ts (Nat.le_trans hl h2) fun t ht => ih t ht (by omega) h2
theorem cutT_len (ts : List T) (lo hi : Option Int) : (cutT ts lo hi).length ≤ ts.length := by
  unfold cutT
  rw [List.length_take, List.length_drop]
  omega
theorem cutT_mem {ts : List T} {lo hi : Option Int} {t : T} (h : t ∈ cutT ts lo hi) : t ∈ ts := List.mem_of_mem_drop (List.mem_of_mem_take h)
theorem le_sz {n : Nat} (h : n ≤ 4000) : n ≤ sizeLine := Nat.le_trans h (by rw [sizeLine_eq]; decide)
def spNo : WSp := fun _ _ _ _ => False
end My

set_option Elab.async false
set_option linter.all false
set_option maxRecDepth 100000
set_option maxHeartbeats 8000000
namespace My
open PySem PySem.Spec PyProof.Rows L2 Wp Gn
local macro_rules | `(tactic| walk_at "go") => `(tactic| (with_reducible refine goS_i ?_))
local macro_rules | `(tactic| walk_at "wp") => `(tactic| simp (disch := omega) only [Wp.wSeq, Wp.wNext, Wp.wSet, Wp.wVar, Wp.wC, Wp.wOp, Wp.wRet, Wp.wIfS, Wp.wTest, Wp.wCall, Wp.wCons, Wp.wNil, Wp.wTup, Wp.wLst, Wp.wAsg, Wp.gTp, Wp.gC, Wp.gNm, Wp.gN0, Wp.gIx, Wp.rSet, Wp.rAdd, Wp.rMul, Wp.rMod, Wp.rSub, Wp.rFdiv, Wp.rPow, Wp.rInt, Wp.rIx, Wp.rLt, Wp.rLe, Wp.rCmp, Wp.rGeI, Wp.rGtI, Wp.wCB, Wp.rLen, Wp.rLen1, Wp.rInt1, Wp.rMax2, Wp.rMin2, Wp.rTupOf, Wp.rListOf,
  Wp.wIsi, Wp.rBIs, Wp.rIsN, Wp.isNon, Wp.wMt, Wp.rAppendT, Wp.rExtendT, Wp.rReverseT, Wp.wNot, Wp.wOr, Wp.wAnd, Wp.wAndV, Wp.wOrV, Wp.wNotV, Wp.wFor, Wp.iRg1, Wp.iRg2, Wp.iAnyW, Wp.wAll, Wp.wChain, Wp.wSl, Wp.wNoPart, Wp.wPart, Wp.rSl, Wp.wNeg, Wp.rNeg, Wp.wLc, Wp.wYes, Wp.wDrop, Wp.wipeT, Wp.wAug, List.map, List.set_cons_zero, List.set_cons_succ, List.getElem?_cons_zero, List.getElem?_cons_succ, List.length_cons, List.length_nil, List.cons_append, List.nil_append, List.replicate, Wp.startT,
  true_and, and_true, Wp.wif_true, Wp.wif_false, Wp.ex_some, Wp.ex_some1, Wp.ex_eq, Wp.ex_lst, Wp.ex_lst0, Wp.rEq_int, Bool.false_bne, Bool.true_bne, Int.reduceLT, Int.reduceLE, Int.reduceAdd, Nat.reduceAdd, Nat.reduceSub, eq_self, ite_true, ite_false, beq_self_eq_true, Bool.not_true, Bool.not_false, Wp.isB_0, Wp.isB_1, Wp.isB_2, Wp.isB_3, Wp.isB_4, Wp.isB_5, Wp.isB_6, Wp.isB_7, Wp.isB_8, Wp.isB_9, Wp.isB_10, Wp.isB_11, Wp.isB_12, Wp.isB_13, Wp.isB_14, Wp.isB_15, Wp.isB_16, Wp.isB_17, Wp.isB_18, Wp.isB_19, Wp.isB_20, Wp.isB_21, Wp.isB_22, Wp.isB_23, Wp.isB_24, Wp.isB_25, Wp.isB_26, Wp.isB_27, Wp.isB_28, Wp.isB_29, Wp.isB_30, Wp.isB_31, Wp.isB_32, Wp.isB_33, Wp.isB_34, Wp.isB_35, Wp.cmul_l, Wp.cmul_r, Wp.cpow_lit, Wp.size_le, Wp.size_lt, Wp.atI_0, Wp.atI_1, Wp.atI_2, Wp.atI_3, Wp.atI_4, Wp.atI_5, Wp.atI_6, Wp.ixN_0, Wp.ixN_1, Wp.ixN_2, Wp.itemsT, Wp.tyT, reduceIte, Wp.wFld, Wp.wFSet, Wp.wFAug, Wp.wMeth, Wp.wMake, Wp.rIxA, Wp.rInA, Wp.rSetA, Wp.ixA, Wp.inA, Wp.setA, Wp.lenA, Wp.getD, Option.map_some, Option.bind_some, Option.getD_some,  Wp.gIxA, Wp.wDNew, Wp.wDNewT, Wp.rLenA, Wp.rSortD, Wp.rMaxL, Wp.rPopL, Wp.rGet1, Wp.rGet2, Wp.wGet1, Wp.wGet2, Wp.wPop1, Wp.wPop2, Wp.wDel, Wp.isDT, Wp.keyT, Wp.keysT, Wp.keysL, Wp.ex_ins, Wp.ex_dct, Wp.wKGet, Wp.wKIx, Wp.rLenK, Wp.iZipK, Wp.wDisp, Wp.wPCons, Wp.wPNil, Wp.rGt, Int.cast_ofNat_Int, Int.reduceBEq, Wp.wRev, Wp.rRev, Wp.rMulA, lk_Table__rows, pt_Table__rows, no_Table_take, no_Table_rows, no_Table_birth, no_Table_forget, ln_Table, mk_Table, lk_Mux__number, pt_Mux__number, lk_Mux__table, pt_Mux__table, no_Mux_receive, no_Mux_forget, no_Mux_rows, no_Mux__pass_on, ln_Mux, mk_Mux, Wp.wRev, Wp.rRev, Wp.upS, Wp.upS_upS, *])
local macro_rules | `(tactic| walk_at "run") => `(tactic| repeat (first | walk_at "wp" | walk_at "go"))
local macro_rules | `(tactic| walk_at "wq") => `(tactic| simp (disch := omega) only [Wp.wSeq, Wp.wNext, Wp.wSet, Wp.wVar, Wp.wC, Wp.wOp, Wp.wRet, Wp.wIfS, Wp.wTest, Wp.wCall, Wp.wCons, Wp.wNil, Wp.wTup, Wp.wLst, Wp.wAsg, Wp.gTp, Wp.gC, Wp.gNm, Wp.gN0, Wp.gIx, Wp.rSet, Wp.rAdd, Wp.rMul, Wp.rMod, Wp.rSub, Wp.rFdiv, Wp.rPow, Wp.rInt, Wp.rIx, Wp.rLt, Wp.rLe, Wp.rCmp, Wp.rGeI, Wp.rGtI, Wp.wCB, Wp.rLen, Wp.rLen1, Wp.rInt1, Wp.rMax2, Wp.rMin2, Wp.rTupOf, Wp.rListOf,
  Wp.wIsi, Wp.rBIs, Wp.rIsN, Wp.isNon, Wp.wMt, Wp.rAppendT, Wp.rExtendT, Wp.rReverseT, Wp.wNot, Wp.wOr, Wp.wAnd, Wp.wAndV, Wp.wOrV, Wp.wNotV, Wp.wFor, Wp.iRg1, Wp.iRg2, Wp.iAnyW, Wp.wAll, Wp.wChain, Wp.wSl, Wp.wNoPart, Wp.wPart, Wp.rSl, Wp.wNeg, Wp.rNeg, Wp.wLc, Wp.wYes, Wp.wDrop, Wp.wipeT, Wp.wAug, List.map, List.set_cons_zero, List.set_cons_succ, List.getElem?_cons_zero, List.getElem?_cons_succ, List.length_cons, List.length_nil, List.cons_append, List.nil_append, List.replicate, Wp.startT,
  true_and, and_true, Wp.wif_true, Wp.wif_false, Wp.ex_some, Wp.ex_some1, Wp.ex_eq, Wp.ex_lst, Wp.ex_lst0, Wp.rEq_int, Bool.false_bne, Bool.true_bne, Int.reduceLT, Int.reduceLE, Int.reduceAdd, Nat.reduceAdd, Nat.reduceSub, eq_self, ite_true, ite_false, beq_self_eq_true, Bool.not_true, Bool.not_false, Wp.isB_0, Wp.isB_1, Wp.isB_2, Wp.isB_3, Wp.isB_4, Wp.isB_5, Wp.isB_6, Wp.isB_7, Wp.isB_8, Wp.isB_9, Wp.isB_10, Wp.isB_11, Wp.isB_12, Wp.isB_13, Wp.isB_14, Wp.isB_15, Wp.isB_16, Wp.isB_17, Wp.isB_18, Wp.isB_19, Wp.isB_20, Wp.isB_21, Wp.isB_22, Wp.isB_23, Wp.isB_24, Wp.isB_25, Wp.isB_26, Wp.isB_27, Wp.isB_28, Wp.isB_29, Wp.isB_30, Wp.isB_31, Wp.isB_32, Wp.isB_33, Wp.isB_34, Wp.isB_35, Wp.cmul_l, Wp.cmul_r, Wp.cpow_lit, Wp.size_le, Wp.size_lt, Wp.atI_0, Wp.atI_1, Wp.atI_2, Wp.atI_3, Wp.atI_4, Wp.atI_5, Wp.atI_6, Wp.ixN_0, Wp.ixN_1, Wp.ixN_2, Wp.itemsT, Wp.tyT, reduceIte, Wp.wFld, Wp.wFSet, Wp.wFAug, Wp.wMeth, Wp.wMake, Wp.rIxA, Wp.rInA, Wp.rSetA, Wp.ixA, Wp.inA, Wp.setA, Wp.lenA, Wp.getD, Option.map_some, Option.bind_some, Option.getD_some,  Wp.gIxA, Wp.wDNew, Wp.wDNewT, Wp.rLenA, Wp.rSortD, Wp.rMaxL, Wp.rPopL, Wp.rGet1, Wp.rGet2, Wp.wGet1, Wp.wGet2, Wp.wPop1, Wp.wPop2, Wp.wDel, Wp.isDT, Wp.keyT, Wp.keysT, Wp.keysL, Wp.ex_ins, Wp.ex_dct, Wp.wKGet, Wp.wKIx, Wp.rLenK, Wp.iZipK, Wp.wDisp, Wp.wPCons, Wp.wPNil, Wp.rGt, Int.cast_ofNat_Int, Int.reduceBEq, Wp.wRev, Wp.rRev, Wp.rMulA, lk_Table__rows, pt_Table__rows, no_Table_take, no_Table_rows, no_Table_birth, no_Table_forget, ln_Table, mk_Table, lk_Mux__number, pt_Mux__number, lk_Mux__table, pt_Mux__table, no_Mux_receive, no_Mux_forget, no_Mux_rows, no_Mux__pass_on, ln_Mux, mk_Mux, Wp.wRev, Wp.rRev, *])
local macro_rules | `(tactic| walk_at "r2") => `(tactic| repeat (first | walk_at "wq" | walk_at "go"))
local macro_rules | `(tactic| walk_at "w0") => `(tactic| simp (disch := omega) only [Wp.wSeq, Wp.wNext, Wp.wSet, Wp.wVar, Wp.wC, Wp.wOp, Wp.wRet, Wp.wIfS, Wp.wTest, Wp.wCall, Wp.wCons, Wp.wNil, Wp.wTup, Wp.wLst, Wp.wAsg, Wp.gTp, Wp.gC, Wp.gNm, Wp.gN0, Wp.gIx, Wp.rSet, Wp.rAdd, Wp.rMul, Wp.rMod, Wp.rSub, Wp.rFdiv, Wp.rPow, Wp.rInt, Wp.rIx, Wp.rLt, Wp.rLe, Wp.rCmp, Wp.rGeI, Wp.rGtI, Wp.wCB, Wp.rLen, Wp.rLen1, Wp.rInt1, Wp.rMax2, Wp.rMin2, Wp.rTupOf, Wp.rListOf,
  Wp.wIsi, Wp.rBIs, Wp.rIsN, Wp.isNon, Wp.wMt, Wp.rAppendT, Wp.rExtendT, Wp.rReverseT, Wp.wNot, Wp.wOr, Wp.wAnd, Wp.wAndV, Wp.wOrV, Wp.wNotV, Wp.wFor, Wp.iRg1, Wp.iRg2, Wp.iAnyW, Wp.wAll, Wp.wChain, Wp.wSl, Wp.wNoPart, Wp.wPart, Wp.rSl, Wp.wNeg, Wp.rNeg, Wp.wLc, Wp.wYes, Wp.wDrop, Wp.wipeT, Wp.wAug, List.map, List.set_cons_zero, List.set_cons_succ, List.getElem?_cons_zero, List.getElem?_cons_succ, List.length_cons, List.length_nil, List.cons_append, List.nil_append, List.replicate, Wp.startT,
  true_and, and_true, Wp.wif_true, Wp.wif_false, Wp.ex_some, Wp.ex_some1, Wp.ex_eq, Wp.ex_lst, Wp.ex_lst0, Wp.rEq_int, Bool.false_bne, Bool.true_bne, Int.reduceLT, Int.reduceLE, Int.reduceAdd, Nat.reduceAdd, Nat.reduceSub, eq_self, ite_true, ite_false, beq_self_eq_true, Bool.not_true, Bool.not_false, Wp.isB_0, Wp.isB_1, Wp.isB_2, Wp.isB_3, Wp.isB_4, Wp.isB_5, Wp.isB_6, Wp.isB_7, Wp.isB_8, Wp.isB_9, Wp.isB_10, Wp.isB_11, Wp.isB_12, Wp.isB_13, Wp.isB_14, Wp.isB_15, Wp.isB_16, Wp.isB_17, Wp.isB_18, Wp.isB_19, Wp.isB_20, Wp.isB_21, Wp.isB_22, Wp.isB_23, Wp.isB_24, Wp.isB_25, Wp.isB_26, Wp.isB_27, Wp.isB_28, Wp.isB_29, Wp.isB_30, Wp.isB_31, Wp.isB_32, Wp.isB_33, Wp.isB_34, Wp.isB_35, Wp.cmul_l, Wp.cmul_r, Wp.cpow_lit, Wp.size_le, Wp.size_lt, Wp.atI_0, Wp.atI_1, Wp.atI_2, Wp.atI_3, Wp.atI_4, Wp.atI_5, Wp.atI_6, Wp.ixN_0, Wp.ixN_1, Wp.ixN_2, Wp.itemsT, Wp.tyT, reduceIte, Wp.wFld, Wp.wFSet, Wp.wFAug, Wp.wMeth, Wp.wMake, Wp.rIxA, Wp.rInA, Wp.rSetA, Wp.ixA, Wp.inA, Wp.setA, Wp.lenA, Wp.getD, Option.map_some, Option.bind_some, Option.getD_some,  Wp.gIxA, Wp.wDNew, Wp.wDNewT, Wp.rLenA, Wp.rSortD, Wp.rMaxL, Wp.rPopL, Wp.rGet1, Wp.rGet2, Wp.wGet1, Wp.wGet2, Wp.wPop1, Wp.wPop2, Wp.wDel, Wp.isDT, Wp.keyT, Wp.keysT, Wp.keysL, Wp.ex_ins, Wp.ex_dct, Wp.wKGet, Wp.wKIx, Wp.rLenK, Wp.iZipK, Wp.wDisp, Wp.wPCons, Wp.wPNil, Wp.rGt, Int.cast_ofNat_Int, Int.reduceBEq, Wp.wRev, Wp.rRev, Wp.rMulA, lk_Table__rows, pt_Table__rows, no_Table_take, no_Table_rows, no_Table_birth, no_Table_forget, ln_Table, mk_Table, lk_Mux__number, pt_Mux__number, lk_Mux__table, pt_Mux__table, no_Mux_receive, no_Mux_forget, no_Mux_rows, no_Mux__pass_on, ln_Mux, mk_Mux, Wp.wRev, Wp.rRev])
local macro_rules | `(tactic| walk_at "r0") => `(tactic| repeat (first | walk_at "w0" | walk_at "go"))
variable {K : PySem.W.Frag} {C_Table C_Mux : Addr}
theorem kd_ints {S : Sta} {d n : Nat} (ns : List Int) (h : ns.length ≤ n) : Kd S (d + 1) n (.tup (ns.map T.int)) := .tup d n _ (by rw [List.length_map]; exact h) fun t ht => by
  obtain ⟨i, _, rfl⟩ := List.mem_map.mp ht
  exact .int d n i
theorem kd_one {S : Sta} {d n : Nat} {t : T} (h : Kd S d n t) (hn : 1 ≤ n) : Kd S (d + 1) n (.tup [t]) := .tup d n _ hn fun u hu => by rw [List.mem_singleton.mp hu]; exact h
theorem kd_two {S : Sta} {d n : Nat} {t u : T} (h : Kd S d n t) (h2 : Kd S d n u) (hn : 2 ≤ n) : Kd S (d + 1) n (.tup [t, u]) := .tup d n _ hn fun x hx => by
  rcases List.mem_cons.mp hx with e | e
  · rw [e]; exact h
  · rw [List.mem_singleton.mp e]; exact h2
/-! ### the law's packets -/
def up3 (w : Str) : Bool := inF (.str w) [.str "open", .str "up", .str "no"]
def spGo : WSp := fun ts S Q _ => match ts with
  | [.tup (.str w :: _)] => Q (.bl (up3 w)) S
  | _ => False
theorem hw_goes_up : ∀ ts S Q E, ts.length = 1 → spGo ts S Q E → b_goes_up K C_Table C_Mux { nx := fun _ S' => Q .non S', rt := Q } (Wp.startT N_goes_up ts) S := by
  intro ts S Q E _ h
  match ts, h with
  | [.tup (.str w :: r)], h =>
    unfold b_goes_up N_goes_up
    walk_at "r2"
    refine ⟨_, rfl, ?_⟩
    exact h
def W6 : List Str := ["open", "hello", "up", "down", "gone", "no"]
def spPacket : WSp := fun ts S Q _ => match ts with
  | [.ref p, .ref q] => ∃ ws : List Str, IsBag S p ∧ S q = some (.lst (ws.map T.str)) ∧ (∀ w ∈ ws, w ∈ W6) ∧ 0 < ws.length ∧ ws.length ≤ 10 ∧ q ≠ p ∧ ∀ (w : Str) (r : List T) (S' : Sta), Grb p S S' → w ∈ ws → isPk (.tup (.str w :: r)) = true → (∀ S0, Kd S0 2 9 (.tup (.str w :: r))) → Q (.tup (.str w :: r)) S'
  | _ => False
def byteT (t : T) : Prop := ∃ n, t = T.int n ∧ 0 ≤ n ∧ n ≤ 255
theorem comp_data (p q D : Addr) (S0 : Sta) (a1 a2 a3 a4 a6 : Option T) (Q : T → Sta → Prop) (hDp : D ≠ p) (hD0 : S0 D = none) (hQ : ∀ acc' S', Grb p S0 S' → S' D = some (.lst acc') → (∀ t ∈ acc', byteT t) → acc'.length ≤ 8 → Q (.ref D) S') :
    ∀ (xs acc : List T) (S : Sta), Grb p S0 S → S D = some (.lst acc) → (∀ t ∈ acc, byteT t) → acc.length + xs.length ≤ 8 →
      compW (gNm 5) wYes (l1__law_packet K C_Table C_Mux spDraw spFlow spLife) (fun _ => True) [some (.ref p), a1, a2, a3, a4, none, a6] D Q xs S
  | [], acc, S, hb, hD, hi, hl => ⟨trivial, hQ acc S hb hD hi (by simp only [List.length_nil] at hl; omega)⟩
  | x :: xs, acc, S, hb, hD, hi, hl => by
    refine ⟨trivial, ?_⟩
    have ih := comp_data p q D S0 a1 a2 a3 a4 a6 Q hDp hD0 hQ xs
    generalize compW (gNm 5) wYes (l1__law_packet K C_Table C_Mux spDraw spFlow spLife) (fun _ => True) [some (.ref p), a1, a2, a3, a4, none, a6] D Q xs = LP at ih ⊢
    rw [List.length_cons] at hl
    have upd : ∀ (n : Int) (S3 : Sta), 0 ≤ n → n ≤ 255 → Grb p S S3 → ∃ acc_1, S3 D = some (O.lst acc_1) ∧ acc_1.length < sizeLine ∧ LP (upS S3 D (O.lst (acc_1 ++ [.int n]))) := fun n S3 h0 h1 g => by
      refine ⟨acc, g.keep _ _ hD hDp, Nat.lt_of_le_of_lt (show acc.length ≤ 8 by omega) (by rw [sizeLine_eq]; decide), ?_⟩
      have g0 := hb.trans g
      refine ih (acc ++ [.int n]) _ ⟨fun a o e ne => ?_, ?_⟩ upS_same (fun t ht => ?_) (by simp only [List.length_append, List.length_cons, List.length_nil]; omega)
      · rw [upS_ne (fun z => by rw [z, hD0] at e; cases e)]
        exact g0.keep _ _ e ne
      · obtain ⟨a, b, c, e⟩ := g0.bag
        exact ⟨a, b, c, by rw [upS_ne hDp.symm]; exact e⟩
      · rcases List.mem_append.mp ht with ht | ht
        · exact hi t ht
        · exact ⟨n, by simpa using ht, h0, h1⟩
    show wif true ((l1__law_packet K C_Table C_Mux spDraw spFlow spLife) [some (.ref p), a1, a2, a3, a4, some x, a6] S fun y S4 => ∃ acc_1, S4 D = some (O.lst acc_1) ∧ acc_1.length < sizeLine ∧ LP (upS S4 D (O.lst (acc_1 ++ [y])))) (LP S)
    refine wif_t ?_
    generalize hF : (fun (y : T) (S4 : Sta) => ∃ acc_1, S4 D = some (O.lst acc_1) ∧ acc_1.length < sizeLine ∧ LP (upS S4 D (O.lst (acc_1 ++ [y])))) = FF
    have upd2 : ∀ (n : Int) (S3 : Sta), 0 ≤ n → n ≤ 255 → Grb p S S3 → FF (.int n) S3 := fun n S3 h0 h1 g => by rw [← hF]; exact upd n S3 h0 h1 g
    clear upd hF ih
    have hbag := hb.bag
    clear hb hD
    unfold l1__law_packet
    walk_at "r2"
    refine ⟨hbag, by omega, by omega, fun d S1 hd0 hd1 g1 => ?_⟩
    walk_at "r2"
    intro l hl'
    have hlp : l ≠ p := new_ne g1.bag hl'
    obtain ⟨S2, w2, g2, e2⟩ := al_ hl'
    rw [w2]
    refine ⟨g1.bag.gr g2, by omega, by omega, fun r S3 h0 h1 g3 => ?_⟩
    have e3 := g3.keep _ _ e2 hlp
    have key : ∀ xs : List T, S3 l = some (.lst xs) → r < xs.length → (∀ t ∈ xs, byteT t) → ∃ t, ixA S3 (.ref l) (.int r) = some t ∧ FF t S3 := fun xs e3 hx hm => by
      obtain ⟨t, en, mt⟩ := atI_in (xs := xs) h0 hx
      obtain ⟨n, rfl, hn1, hn2⟩ := hm t mt
      exact ⟨_, itemsR e3 en, upd2 n S3 hn1 hn2 ((g1.gr g2).trans g3)⟩
    refine key _ e3 (by simp; omega) fun t ht => ?_
    simp only [List.mem_cons, List.not_mem_nil, or_false] at ht
    rcases ht with e | e | e <;> exact ⟨_, e, by omega, by omega⟩
theorem IsBag.up {S : Sta} {p D : Addr} {o : O} (h : IsBag S p) (n : D ≠ p) : IsBag (upS S D o) p := by
  obtain ⟨a, b, c, e⟩ := h
  exact ⟨a, b, c, by rw [upS_ne n.symm]; exact e⟩
theorem isI_in {n a b : Int} (h : a ≤ n ∧ n ≤ b) : isI (.int n) a b = true := by
  simp only [isI, h.1, h.2, decide_true, Bool.and_self]
theorem pk_flow {a b : Int} (h : (0 ≤ a ∧ a ≤ 5) ∧ 1 ≤ b ∧ b ≤ 1000000) : isPr (.tup [.int a, .int b]) = true := by
  simp only [isPr, isI_in h.1, isI_in h.2, Bool.and_self]
theorem pk_life {a b c : Int} (h : ((0 ≤ a ∧ a ≤ 5) ∧ 1 ≤ b ∧ b ≤ 1000000) ∧ 1 ≤ c ∧ c ≤ 1000000) : isLf (.tup [.int a, .int b, .int c]) = true := by
  simp only [isLf, isI_in h.1.1, isI_in h.1.2, isI_in h.2, Bool.and_self]
theorem in_2w (w : Str) : inF (.str w) [.str "up", .str "down"] = w2 w := in_2 w
theorem kd_tup {S : Sta} (ts : List T) (hl : ts.length ≤ 9) (h : ∀ t ∈ ts, Kd S 1 9 t) : Kd S 2 9 (.tup ts) := .tup 1 9 ts hl h
theorem w6_case {w : Str} (h : w ∈ W6) : PyData.strOk w = true ∧ w.length ≤ 100 ∧ (w = "open" ∨ (w ≠ "open" ∧ w2 w = false ∧ w3 w = true) ∨ (w ≠ "open" ∧ w2 w = true)) := by
  simp only [W6, List.mem_cons, List.not_mem_nil, or_false] at h
  rcases h with e | e | e | e | e | e <;> subst e
  · exact ⟨by decide +kernel, by decide +kernel, .inl rfl⟩
  · exact ⟨by decide +kernel, by decide +kernel, .inr (.inl (by decide +kernel))⟩
  · exact ⟨by decide +kernel, by decide +kernel, .inr (.inr (by decide +kernel))⟩
  · exact ⟨by decide +kernel, by decide +kernel, .inr (.inr (by decide +kernel))⟩
  · exact ⟨by decide +kernel, by decide +kernel, .inr (.inl (by decide +kernel))⟩
  · exact ⟨by decide +kernel, by decide +kernel, .inr (.inl (by decide +kernel))⟩
theorem hw_packet : ∀ ts S Q E, ts.length = 2 → spPacket ts S Q E → b__law_packet K C_Table C_Mux spDraw spFlow spLife { nx := fun _ S' => Q .non S', rt := Q } (Wp.startT N__law_packet ts) S := by
  intro ts S Q E _ h
  match ts, h with
  | [.ref p, .ref q], ⟨ws, hb, hq, hws, hl0, hl1, hqp, h⟩ =>
    unfold b__law_packet N__law_packet
    walk_at "r2"
    refine ⟨hb, by simpa using hl0, by simp; omega, fun r S1 h0 h1 g1 => ?_⟩
    have e1 := g1.keep _ _ hq hqp
    obtain ⟨t, et, mt⟩ := atI_in (xs := ws.map T.str) h0 h1
    obtain ⟨w, hmem, rfl⟩ := List.mem_map.mp mt
    obtain ⟨hw, hwl, hcase⟩ := w6_case (hws w hmem)
    have h := fun r S' g a b => h w r S' g hmem a b
    refine ⟨_, itemsR e1 et, ?_⟩
    clear et mt
    have ks : ∀ S0, Kd S0 1 9 (.str w) := fun S0 => .str _ _ _ hw hwl
    walk_at "r2"
    refine rEq_str hw (by decide +kernel) ?_
    rw [show (w == "open") = decide (w = "open") by rw [Bool.eq_iff_iff]; simp]
    refine if_dec (fun e => ?_) (fun e => ?_)
    · have hz : ∀ x : T, isPr x = true → isPk (.tup [.str w, x]) = true := fun x hx => by rw [pk2, hx, decide_eq_true e, Bool.and_self]
      clear e hcase
      walk_at "r2"
      refine ⟨g1.bag, fun a b S2 hab g2 => ?_⟩
      walk_at "r2"
      refine h _ S2 (g1.trans g2) (hz _ (pk_flow hab)) fun S0 => kd_tup _ (by simp) ?_
      simp only [List.forall_mem_cons, List.not_mem_nil, false_implies, implies_true, and_true]
      exact ⟨ks S0, kd_ints [a, b] (by simp)⟩
    walk_at "r2"
    refine ⟨g1.bag, fun a b S2 hab g2 => ?_⟩
    walk_at "r2"
    refine ⟨g2.bag, fun c d f S3 hcd g3 => ?_⟩
    walk_at "r2"
    intro l hl
    obtain ⟨S4, w4, g4, e4⟩ := al_ hl
    rw [w4]
    refine ⟨_, inR e4 rfl rfl, ?_⟩
    rw [in_2]
    try rw [Bool.true_bne]
    have gA : Grb p S S4 := (g1.trans (g2.trans g3)).gr g4
    have kf : ∀ S0, Kd S0 1 9 (.tup [.int a, .int b]) := fun S0 => kd_ints [a, b] (by simp)
    have kl : ∀ S0, Kd S0 1 9 (.tup [.int c, .int d, .int f]) := fun S0 => kd_ints [c, d, f] (by simp)
    show wif (!w2 w) _ _
    rcases hcase with z | ⟨_, z2, z3⟩ | ⟨_, z2⟩
    · exact absurd z e
    · rw [z2]
      walk_at "r2"
      refine h _ S4 gA (by rw [pk3, pk_flow hab, pk_life hcd, z3]; rfl) fun S0 => kd_tup _ (by simp) ?_
      simp only [List.forall_mem_cons, List.not_mem_nil, false_implies, implies_true, and_true]
      exact ⟨ks S0, kf S0, kl S0⟩
    rw [z2]
    walk_at "r2"
    refine ⟨gA.bag, by omega, by omega, fun m S5 h2 h3 g5 => ?_⟩
    walk_at "r2"
    refine ⟨by omega, by omega, fun D hD => ?_⟩
    have hDp : D ≠ p := new_ne g5.bag hD
    refine comp_data p q D S5 _ _ _ _ _ _ hDp hD (fun row S7 g7 hD7 hi7 hl7 => ?_) (rangeT 0 m.toNat) [] _ ⟨fun a o e ne => by rw [upS_ne (fun z => by rw [z, hD] at e; cases e)]; exact e, My.IsBag.up g5.bag hDp⟩ upS_same (by simp) (by rw [rangeT_len]; simp only [List.length_nil]; omega)
    refine ⟨row, itemsT_ref hD7, ?_⟩
    have gB : Grb p S S7 := gA.trans (g5.trans g7)
    clear hD7
    walk_at "r2"
    refine ⟨gB.bag, by omega, by omega, fun o4 S8 h4 h5 g8 => ?_⟩
    walk_at "r2"
    intro l2 hl2
    have hl2p : l2 ≠ p := new_ne g8.bag hl2
    obtain ⟨S9, w9, g9, e9⟩ := al_ hl2
    rw [w9]
    refine ⟨g8.bag.gr g9, by omega, by omega, fun r2 S10 h6 h7 g10 => ?_⟩
    have e10 := g10.keep _ _ e9 hl2p
    have gC : Grb p S S10 := ((gB.trans g8).gr g9).trans g10
    obtain ⟨off, eoff, hoff⟩ : ∃ off, atI [T.int 0, .int 3999, .int 4000, .int o4] r2 = some (.int off) ∧ 0 ≤ off ∧ off ≤ 4000 := by
      obtain ⟨t, en, mt⟩ := atI_in (xs := [T.int 0, .int 3999, .int 4000, .int o4]) h6 (by simp; omega)
      simp only [List.mem_cons, List.not_mem_nil, or_false] at mt
      rcases mt with e | e | e | e <;> subst e <;> exact ⟨_, en, by omega, by omega⟩
    refine ⟨_, itemsR e10 eoff, ?_⟩
    clear e10 e9
    walk_at "r2"
    refine ⟨gC.bag, by omega, by omega, fun last S11 h8 h9 g11 => ?_⟩
    walk_at "r2"
    refine ⟨(gC.trans g11).bag, by omega, by omega, fun t4 S12 h10 h11 g12 => ?_⟩
    walk_at "r2"
    intro l3 hl3
    have hl3p : l3 ≠ p := new_ne g12.bag hl3
    obtain ⟨S13, w13, g13, e13⟩ := al_ hl3
    rw [w13]
    refine ⟨g12.bag.gr g13, by omega, by omega, fun r3 S14 h12 h13 g14 => ?_⟩
    have e14 := g14.keep _ _ e13 hl3p
    have gD : Grb p S S14 := ((((gC.trans g11).trans g12).gr g13).trans g14)
    obtain ⟨tk, etk, htk⟩ : ∃ tk, atI [T.int 0, .int 4000, .int 4001, .int t4] r3 = some (.int tk) ∧ 0 ≤ tk ∧ tk ≤ 4001 := by
      obtain ⟨t, en, mt⟩ := atI_in (xs := [T.int 0, .int 4000, .int 4001, .int t4]) h12 (by simp; omega)
      simp only [List.mem_cons, List.not_mem_nil, or_false] at mt
      rcases mt with e | e | e | e <;> subst e <;> exact ⟨_, en, by omega, by omega⟩
    refine ⟨_, itemsR e14 etk, ?_⟩
    clear e14 e13
    walk_at "r2"
    have hby : isBy (.tup row) = true := by
      simp only [isBy, List.all_eq_true]
      intro t ht
      obtain ⟨n, rfl, hn⟩ := hi7 t ht
      exact isI_in hn
    have hl8 : le8 (.tup row) = true := by
      simp only [le8, decide_eq_true_eq]
      omega
    refine h _ S14 gD (by rw [pk7, pk_flow hab, pk_life hcd, z2, isI_in hoff, hby, hl8, isI_in ⟨h8, by omega⟩, isI_in htk]; rfl) fun S0 => kd_tup _ (by simp) ?_
    simp only [List.forall_mem_cons, List.not_mem_nil, false_implies, implies_true, and_true]
    refine ⟨ks S0, kf S0, kl S0, .int _ _ _, .tup 0 9 row (by omega) fun t ht => ?_, .int _ _ _, .int _ _ _⟩
    obtain ⟨n, rfl, _⟩ := hi7 t ht
    exact .int _ _ _
end My

set_option Elab.async false
set_option linter.all false
set_option maxRecDepth 100000
set_option maxHeartbeats 8000000
namespace My
open PySem PySem.Spec PyProof.Rows L2 Wp Gn
local macro_rules | `(tactic| walk_at "go") => `(tactic| (with_reducible refine goS_i ?_))
local macro_rules | `(tactic| walk_at "wp") => `(tactic| simp (disch := omega) only [Wp.wSeq, Wp.wNext, Wp.wSet, Wp.wVar, Wp.wC, Wp.wOp, Wp.wRet, Wp.wIfS, Wp.wTest, Wp.wCall, Wp.wCons, Wp.wNil, Wp.wTup, Wp.wLst, Wp.wAsg, Wp.gTp, Wp.gC, Wp.gNm, Wp.gN0, Wp.gIx, Wp.rSet, Wp.rAdd, Wp.rMul, Wp.rMod, Wp.rSub, Wp.rFdiv, Wp.rPow, Wp.rInt, Wp.rIx, Wp.rLt, Wp.rLe, Wp.rCmp, Wp.rGeI, Wp.rGtI, Wp.wCB, Wp.rLen, Wp.rLen1, Wp.rInt1, Wp.rMax2, Wp.rMin2, Wp.rTupOf, Wp.rListOf,
  Wp.wIsi, Wp.rBIs, Wp.rIsN, Wp.isNon, Wp.wMt, Wp.rAppendT, Wp.rExtendT, Wp.rReverseT, Wp.wNot, Wp.wOr, Wp.wAnd, Wp.wAndV, Wp.wOrV, Wp.wNotV, Wp.wFor, Wp.iRg1, Wp.iRg2, Wp.iAnyW, Wp.wAll, Wp.wChain, Wp.wSl, Wp.wNoPart, Wp.wPart, Wp.rSl, Wp.wNeg, Wp.rNeg, Wp.wLc, Wp.wYes, Wp.wDrop, Wp.wipeT, Wp.wAug, List.map, List.set_cons_zero, List.set_cons_succ, List.getElem?_cons_zero, List.getElem?_cons_succ, List.length_cons, List.length_nil, List.cons_append, List.nil_append, List.replicate, Wp.startT,
  true_and, and_true, Wp.wif_true, Wp.wif_false, Wp.ex_some, Wp.ex_some1, Wp.ex_eq, Wp.ex_lst, Wp.ex_lst0, Wp.rEq_int, Bool.false_bne, Bool.true_bne, Int.reduceLT, Int.reduceLE, Int.reduceAdd, Nat.reduceAdd, Nat.reduceSub, eq_self, ite_true, ite_false, beq_self_eq_true, Bool.not_true, Bool.not_false, Wp.isB_0, Wp.isB_1, Wp.isB_2, Wp.isB_3, Wp.isB_4, Wp.isB_5, Wp.isB_6, Wp.isB_7, Wp.isB_8, Wp.isB_9, Wp.isB_10, Wp.isB_11, Wp.isB_12, Wp.isB_13, Wp.isB_14, Wp.isB_15, Wp.isB_16, Wp.isB_17, Wp.isB_18, Wp.isB_19, Wp.isB_20, Wp.isB_21, Wp.isB_22, Wp.isB_23, Wp.isB_24, Wp.isB_25, Wp.isB_26, Wp.isB_27, Wp.isB_28, Wp.isB_29, Wp.isB_30, Wp.isB_31, Wp.isB_32, Wp.isB_33, Wp.isB_34, Wp.isB_35, Wp.cmul_l, Wp.cmul_r, Wp.cpow_lit, Wp.size_le, Wp.size_lt, Wp.atI_0, Wp.atI_1, Wp.atI_2, Wp.atI_3, Wp.atI_4, Wp.atI_5, Wp.atI_6, Wp.ixN_0, Wp.ixN_1, Wp.ixN_2, Wp.itemsT, Wp.tyT, reduceIte, Wp.wFld, Wp.wFSet, Wp.wFAug, Wp.wMeth, Wp.wMake, Wp.rIxA, Wp.rInA, Wp.rSetA, Wp.ixA, Wp.inA, Wp.setA, Wp.lenA, Wp.getD, Option.map_some, Option.bind_some, Option.getD_some,  Wp.gIxA, Wp.wDNew, Wp.wDNewT, Wp.rLenA, Wp.rSortD, Wp.rMaxL, Wp.rPopL, Wp.rGet1, Wp.rGet2, Wp.wGet1, Wp.wGet2, Wp.wPop1, Wp.wPop2, Wp.wDel, Wp.isDT, Wp.keyT, Wp.keysT, Wp.keysL, Wp.ex_ins, Wp.ex_dct, Wp.wKGet, Wp.wKIx, Wp.rLenK, Wp.iZipK, Wp.wDisp, Wp.wPCons, Wp.wPNil, Wp.rGt, Int.cast_ofNat_Int, Int.reduceBEq, Wp.wRev, Wp.rRev, Wp.rMulA, lk_Table__rows, pt_Table__rows, no_Table_take, no_Table_rows, no_Table_birth, no_Table_forget, ln_Table, mk_Table, lk_Mux__number, pt_Mux__number, lk_Mux__table, pt_Mux__table, no_Mux_receive, no_Mux_forget, no_Mux_rows, no_Mux__pass_on, ln_Mux, mk_Mux, Wp.wRev, Wp.rRev, Wp.upS, Wp.upS_upS, *])
local macro_rules | `(tactic| walk_at "run") => `(tactic| repeat (first | walk_at "wp" | walk_at "go"))
local macro_rules | `(tactic| walk_at "wq") => `(tactic| simp (disch := omega) only [Wp.wSeq, Wp.wNext, Wp.wSet, Wp.wVar, Wp.wC, Wp.wOp, Wp.wRet, Wp.wIfS, Wp.wTest, Wp.wCall, Wp.wCons, Wp.wNil, Wp.wTup, Wp.wLst, Wp.wAsg, Wp.gTp, Wp.gC, Wp.gNm, Wp.gN0, Wp.gIx, Wp.rSet, Wp.rAdd, Wp.rMul, Wp.rMod, Wp.rSub, Wp.rFdiv, Wp.rPow, Wp.rInt, Wp.rIx, Wp.rLt, Wp.rLe, Wp.rCmp, Wp.rGeI, Wp.rGtI, Wp.wCB, Wp.rLen, Wp.rLen1, Wp.rInt1, Wp.rMax2, Wp.rMin2, Wp.rTupOf, Wp.rListOf,
  Wp.wIsi, Wp.rBIs, Wp.rIsN, Wp.isNon, Wp.wMt, Wp.rAppendT, Wp.rExtendT, Wp.rReverseT, Wp.wNot, Wp.wOr, Wp.wAnd, Wp.wAndV, Wp.wOrV, Wp.wNotV, Wp.wFor, Wp.iRg1, Wp.iRg2, Wp.iAnyW, Wp.wAll, Wp.wChain, Wp.wSl, Wp.wNoPart, Wp.wPart, Wp.rSl, Wp.wNeg, Wp.rNeg, Wp.wLc, Wp.wYes, Wp.wDrop, Wp.wipeT, Wp.wAug, List.map, List.set_cons_zero, List.set_cons_succ, List.getElem?_cons_zero, List.getElem?_cons_succ, List.length_cons, List.length_nil, List.cons_append, List.nil_append, List.replicate, Wp.startT,
  true_and, and_true, Wp.wif_true, Wp.wif_false, Wp.ex_some, Wp.ex_some1, Wp.ex_eq, Wp.ex_lst, Wp.ex_lst0, Wp.rEq_int, Bool.false_bne, Bool.true_bne, Int.reduceLT, Int.reduceLE, Int.reduceAdd, Nat.reduceAdd, Nat.reduceSub, eq_self, ite_true, ite_false, beq_self_eq_true, Bool.not_true, Bool.not_false, Wp.isB_0, Wp.isB_1, Wp.isB_2, Wp.isB_3, Wp.isB_4, Wp.isB_5, Wp.isB_6, Wp.isB_7, Wp.isB_8, Wp.isB_9, Wp.isB_10, Wp.isB_11, Wp.isB_12, Wp.isB_13, Wp.isB_14, Wp.isB_15, Wp.isB_16, Wp.isB_17, Wp.isB_18, Wp.isB_19, Wp.isB_20, Wp.isB_21, Wp.isB_22, Wp.isB_23, Wp.isB_24, Wp.isB_25, Wp.isB_26, Wp.isB_27, Wp.isB_28, Wp.isB_29, Wp.isB_30, Wp.isB_31, Wp.isB_32, Wp.isB_33, Wp.isB_34, Wp.isB_35, Wp.cmul_l, Wp.cmul_r, Wp.cpow_lit, Wp.size_le, Wp.size_lt, Wp.atI_0, Wp.atI_1, Wp.atI_2, Wp.atI_3, Wp.atI_4, Wp.atI_5, Wp.atI_6, Wp.ixN_0, Wp.ixN_1, Wp.ixN_2, Wp.itemsT, Wp.tyT, reduceIte, Wp.wFld, Wp.wFSet, Wp.wFAug, Wp.wMeth, Wp.wMake, Wp.rIxA, Wp.rInA, Wp.rSetA, Wp.ixA, Wp.inA, Wp.setA, Wp.lenA, Wp.getD, Option.map_some, Option.bind_some, Option.getD_some,  Wp.gIxA, Wp.wDNew, Wp.wDNewT, Wp.rLenA, Wp.rSortD, Wp.rMaxL, Wp.rPopL, Wp.rGet1, Wp.rGet2, Wp.wGet1, Wp.wGet2, Wp.wPop1, Wp.wPop2, Wp.wDel, Wp.isDT, Wp.keyT, Wp.keysT, Wp.keysL, Wp.ex_ins, Wp.ex_dct, Wp.wKGet, Wp.wKIx, Wp.rLenK, Wp.iZipK, Wp.wDisp, Wp.wPCons, Wp.wPNil, Wp.rGt, Int.cast_ofNat_Int, Int.reduceBEq, Wp.wRev, Wp.rRev, Wp.rMulA, lk_Table__rows, pt_Table__rows, no_Table_take, no_Table_rows, no_Table_birth, no_Table_forget, ln_Table, mk_Table, lk_Mux__number, pt_Mux__number, lk_Mux__table, pt_Mux__table, no_Mux_receive, no_Mux_forget, no_Mux_rows, no_Mux__pass_on, ln_Mux, mk_Mux, Wp.wRev, Wp.rRev, *])
local macro_rules | `(tactic| walk_at "r2") => `(tactic| repeat (first | walk_at "wq" | walk_at "go"))
local macro_rules | `(tactic| walk_at "w0") => `(tactic| simp (disch := omega) only [Wp.wSeq, Wp.wNext, Wp.wSet, Wp.wVar, Wp.wC, Wp.wOp, Wp.wRet, Wp.wIfS, Wp.wTest, Wp.wCall, Wp.wCons, Wp.wNil, Wp.wTup, Wp.wLst, Wp.wAsg, Wp.gTp, Wp.gC, Wp.gNm, Wp.gN0, Wp.gIx, Wp.rSet, Wp.rAdd, Wp.rMul, Wp.rMod, Wp.rSub, Wp.rFdiv, Wp.rPow, Wp.rInt, Wp.rIx, Wp.rLt, Wp.rLe, Wp.rCmp, Wp.rGeI, Wp.rGtI, Wp.wCB, Wp.rLen, Wp.rLen1, Wp.rInt1, Wp.rMax2, Wp.rMin2, Wp.rTupOf, Wp.rListOf,
  Wp.wIsi, Wp.rBIs, Wp.rIsN, Wp.isNon, Wp.wMt, Wp.rAppendT, Wp.rExtendT, Wp.rReverseT, Wp.wNot, Wp.wOr, Wp.wAnd, Wp.wAndV, Wp.wOrV, Wp.wNotV, Wp.wFor, Wp.iRg1, Wp.iRg2, Wp.iAnyW, Wp.wAll, Wp.wChain, Wp.wSl, Wp.wNoPart, Wp.wPart, Wp.rSl, Wp.wNeg, Wp.rNeg, Wp.wLc, Wp.wYes, Wp.wDrop, Wp.wipeT, Wp.wAug, List.map, List.set_cons_zero, List.set_cons_succ, List.getElem?_cons_zero, List.getElem?_cons_succ, List.length_cons, List.length_nil, List.cons_append, List.nil_append, List.replicate, Wp.startT,
  true_and, and_true, Wp.wif_true, Wp.wif_false, Wp.ex_some, Wp.ex_some1, Wp.ex_eq, Wp.ex_lst, Wp.ex_lst0, Wp.rEq_int, Bool.false_bne, Bool.true_bne, Int.reduceLT, Int.reduceLE, Int.reduceAdd, Nat.reduceAdd, Nat.reduceSub, eq_self, ite_true, ite_false, beq_self_eq_true, Bool.not_true, Bool.not_false, Wp.isB_0, Wp.isB_1, Wp.isB_2, Wp.isB_3, Wp.isB_4, Wp.isB_5, Wp.isB_6, Wp.isB_7, Wp.isB_8, Wp.isB_9, Wp.isB_10, Wp.isB_11, Wp.isB_12, Wp.isB_13, Wp.isB_14, Wp.isB_15, Wp.isB_16, Wp.isB_17, Wp.isB_18, Wp.isB_19, Wp.isB_20, Wp.isB_21, Wp.isB_22, Wp.isB_23, Wp.isB_24, Wp.isB_25, Wp.isB_26, Wp.isB_27, Wp.isB_28, Wp.isB_29, Wp.isB_30, Wp.isB_31, Wp.isB_32, Wp.isB_33, Wp.isB_34, Wp.isB_35, Wp.cmul_l, Wp.cmul_r, Wp.cpow_lit, Wp.size_le, Wp.size_lt, Wp.atI_0, Wp.atI_1, Wp.atI_2, Wp.atI_3, Wp.atI_4, Wp.atI_5, Wp.atI_6, Wp.ixN_0, Wp.ixN_1, Wp.ixN_2, Wp.itemsT, Wp.tyT, reduceIte, Wp.wFld, Wp.wFSet, Wp.wFAug, Wp.wMeth, Wp.wMake, Wp.rIxA, Wp.rInA, Wp.rSetA, Wp.ixA, Wp.inA, Wp.setA, Wp.lenA, Wp.getD, Option.map_some, Option.bind_some, Option.getD_some,  Wp.gIxA, Wp.wDNew, Wp.wDNewT, Wp.rLenA, Wp.rSortD, Wp.rMaxL, Wp.rPopL, Wp.rGet1, Wp.rGet2, Wp.wGet1, Wp.wGet2, Wp.wPop1, Wp.wPop2, Wp.wDel, Wp.isDT, Wp.keyT, Wp.keysT, Wp.keysL, Wp.ex_ins, Wp.ex_dct, Wp.wKGet, Wp.wKIx, Wp.rLenK, Wp.iZipK, Wp.wDisp, Wp.wPCons, Wp.wPNil, Wp.rGt, Int.cast_ofNat_Int, Int.reduceBEq, Wp.wRev, Wp.rRev, Wp.rMulA, lk_Table__rows, pt_Table__rows, no_Table_take, no_Table_rows, no_Table_birth, no_Table_forget, ln_Table, mk_Table, lk_Mux__number, pt_Mux__number, lk_Mux__table, pt_Mux__table, no_Mux_receive, no_Mux_forget, no_Mux_rows, no_Mux__pass_on, ln_Mux, mk_Mux, Wp.wRev, Wp.rRev])
local macro_rules | `(tactic| walk_at "r0") => `(tactic| repeat (first | walk_at "w0" | walk_at "go"))
variable {K : PySem.W.Frag} {C_Table C_Mux : Addr}
def isLet (c : Nat) : Bool := decide (97 ≤ c) && decide (c ≤ 122)
def isWd : T → Bool
  | .str x => (decide (1 ≤ (x.length : Int)) && decide ((x.length : Int) ≤ 12)) && x.cps.toList.all isLet
  | _ => false
theorem le_let (c : Nat) : ((!decide (([c] : List Nat) < [97])) && !decide (([122] : List Nat) < [c])) = isLet c := by
  have h1 : (([c] : List Nat) < [97]) ↔ c < 97 := by
    constructor
    · intro h; cases h with
      | rel h => exact h
      | cons h => cases h
    · intro h; exact .rel h
  have h2 : (([122] : List Nat) < [c]) ↔ 122 < c := by
    constructor
    · intro h; cases h with
      | rel h => exact h
      | cons h => cases h
    · intro h; exact .rel h
  unfold isLet
  simp only [h1, h2]
  by_cases a : c < 97 <;> by_cases b : 122 < c <;> simp [a, b] <;> omega
theorem all_let (S : Sta) (Q : T → Sta → Prop) (a0 : Option T) : ∀ (cs : List Nat) (y : Option T), Q (.bl (cs.all isLet)) S → allW (gNm 1) (l1__is_word K C_Table C_Mux) (fun _ => True) [a0, y] Q (cs.map fun c => T.str ⟨#[c]⟩) S
  | [], y, q => ⟨trivial, q⟩
  | c :: cs, y, q => by
    refine ⟨trivial, ?_⟩
    have ih := all_let S Q a0 cs y
    generalize allW (gNm 1) (l1__is_word K C_Table C_Mux) (fun _ => True) [a0, y] Q (List.map (fun c => T.str ⟨#[c]⟩) cs) = LP at ih ⊢
    have q2 : Q (.bl false) S ∨ (isLet c = true ∧ Q (.bl (cs.all isLet)) S) := by
      rw [List.all_cons] at q
      cases h : isLet c with
      | false => rw [h, Bool.false_and] at q; exact .inl q
      | true => rw [h, Bool.true_and] at q; exact .inr ⟨rfl, q⟩
    have hl := le_let c
    rw [List.all_cons] at q
    have e0 : (("a" : Str)).cps.toList = [97] := by decide +kernel
    unfold l1__is_word
    walk_at "r2"
    have e1 : (("z" : Str)).cps.toList = [122] := by decide +kernel
    refine if_bool (fun h1 => ?_) (fun h1 => ?_)
    · show wif (!decide ((("z" : Str)).cps.toList < [c])) _ _
      rw [e1]
      rw [h1, Bool.true_and] at hl
      rw [hl]
      refine if_bool (fun h2 => ?_) (fun h2 => ?_)
      · rw [h2, Bool.true_and] at q
        exact ih q
      · rw [h2, Bool.false_and] at q
        exact q
    · rw [h1, Bool.false_and] at hl
      rw [← hl, Bool.false_and] at q
      exact q
theorem rLenR {S : Sta} {p : Addr} {ts : List T} (h : S p = some (.lst ts)) : lenA S (.ref p) = some (ts.length : Int) := by simp only [lenA, h]
def spWd : WSp := fun ts S Q _ => match ts with
  | [v] => Kn S v ∧ Q (.bl (isWd v)) S
  | _ => False
theorem hw_is_word : ∀ ts S Q E, ts.length = 1 → spWd ts S Q E → b__is_word K C_Table C_Mux { nx := fun _ S' => Q .non S', rt := Q } (Wp.startT N__is_word ts) S := by
  intro ts S Q E _ h
  match ts, h with
  | [v], ⟨kn, h⟩ =>
    unfold b__is_word N__is_word
    cases kn with
    | str x hs hlen =>
      simp only [isWd] at h
      have hsz : x.length ≤ sizeLine := Nat.le_trans hlen (by rw [sizeLine_eq]; decide)
      walk_at "r2"
      refine if_dec (fun h1 => ?_) (fun h1 => ?_)
      · rw [decide_eq_true h1, Bool.true_and] at h
        refine if_bool (fun h2 => ?_) (fun h2 => ?_)
        · have h3 : decide ((x.length : Int) ≤ 12) = false := by simpa using h2
          rw [h3, Bool.false_and] at h
          exact h
        · have h3 : decide ((x.length : Int) ≤ 12) = true := by simpa using h2
          rw [h3, Bool.true_and] at h
          walk_at "r2"
          exact all_let S Q _ _ _ h
      · rw [decide_eq_false h1, Bool.false_and, Bool.false_and] at h
        exact h
    | _ =>
      simp only [isWd] at h
      walk_at "r2"
/-- what can be written, n deep at most -/
def scalW : T → Bool
  | .non => true
  | .int i => decide (0 ≤ i) && decide (i ≤ 4294967295)
  | .str x => isWd (.str x)
  | _ => false
def canW : Nat → T → Bool
  | 0, v => scalW v
  | n + 1, .tup ts => ts.all (canW n)
  | _ + 1, v => scalW v
theorem canW_sc {n : Nat} {v : T} (h : ∀ ts, v ≠ .tup ts) : canW n v = scalW v := by
  cases n with
  | zero => rfl
  | succ n => cases v with
    | tup ts => exact absurd rfl (h ts)
    | _ => rfl
def spCs (n : Nat) : WSp := fun ts S Q _ => match ts with
  | [v, .int lv] => lv = n ∧ Kn S v ∧ Q (.bl (canW n v)) S
  | _ => False
theorem hw_can_stand (n : Nat) (sub : WSp) (hsub : ∀ e, n = e + 1 → sub = spCs e) : ∀ ts S Q E, ts.length = 2 → spCs n ts S Q E → b__can_stand K C_Table C_Mux sub spIsI spWd { nx := fun _ S' => Q .non S', rt := Q } (Wp.startT N__can_stand ts) S := by
  intro ts S Q E _ h
  match ts, h with
  | [v, .int lv], ⟨e, kn, h⟩ =>
    subst e
    unfold b__can_stand N__can_stand
    by_cases ht : ∃ us, v = .tup us
    · obtain ⟨us, rfl⟩ := ht
      walk_at "r2"
      cases n with
      | zero =>
        refine if_dec (fun z => absurd z (by decide)) (fun _ => ?_)
        exact h
      | succ e =>
        have hs := hsub e rfl
        subst hs
        refine if_dec (fun _ => ?_) (fun z => absurd (show (0 : Int) < ((e + 1 : Nat) : Int) by omega) z)
        refine all_inv_at us (canW e) S trivial h fun x R hx hR => ?_
        unfold l1__can_stand
        have kx := kn.items x hx
        walk_at "r0"
        exact ⟨by omega, kx, hR⟩
    · have hc : canW n v = scalW v := canW_sc fun ts e => ht ⟨ts, e⟩
      rw [hc] at h
      have kn2 := kn
      cases kn with
      | tup ts _ _ => exact absurd ⟨ts, rfl⟩ ht
      | non =>
        simp only [scalW] at h
        walk_at "r2"
      | bl b =>
        simp only [scalW] at h
        walk_at "r2"
        refine ⟨kn2, ?_⟩
        show wif (isI (.bl b) 0 4294967295) _ _
        rw [show isI (.bl b) 0 4294967295 = false from rfl]
        walk_at "r2"
        refine ⟨kn2, ?_⟩
        exact h
      | int i =>
        simp only [scalW] at h
        walk_at "r2"
        refine ⟨kn2, ?_⟩
        show wif (isI (.int i) 0 4294967295) _ _
        refine if_bool (fun e => ?_) (fun e => ?_)
        · simp only [isI] at e
          rw [e] at h
          exact h
        · simp only [isI] at e
          rw [e] at h
          walk_at "r2"
          exact ⟨kn2, h⟩
      | str x hs hl =>
        simp only [scalW] at h
        walk_at "r2"
        refine ⟨kn2, ?_⟩
        show wif (isI (.str x) 0 4294967295) _ _
        rw [show isI (.str x) 0 4294967295 = false from rfl]
        walk_at "r2"
        refine ⟨kn2, ?_⟩
        exact h
      | ref p xs hp =>
        simp only [scalW] at h
        walk_at "r2"
        refine ⟨kn2, ?_⟩
        show wif (isI (.ref p) 0 4294967295) _ _
        rw [show isI (.ref p) 0 4294967295 = false from rfl]
        walk_at "r2"
        refine ⟨kn2, ?_⟩
        exact h
def spCw : WSp := fun ts S Q _ => match ts with
  | [v] => Kn S v ∧ Q (.bl (canW 16 v)) S
  | _ => False
theorem hw_can_be_written : ∀ ts S Q E, ts.length = 1 → spCw ts S Q E → b_can_be_written K C_Table C_Mux (spCs 16) { nx := fun _ S' => Q .non S', rt := Q } (Wp.startT N_can_be_written ts) S := by
  intro ts S Q E _ h
  match ts, h with
  | [v], ⟨kn, h⟩ =>
    unfold b_can_be_written N_can_be_written
    walk_at "r2"
    exact ⟨rfl, kn, h⟩
/-- a comprehension whose element is f of the item; what stands stays -/
theorem comp_gr {te : WE} {i : Nat} {σ : Sl} {D : Addr} {Q : T → Sta → Prop} {xs : List T} {S : Sta} (f : T → T) (hD : S D = none) (hl : xs.length ≤ 1000000)
    (step : ∀ x ∈ xs, ∀ (S1 : Sta) (R : T → Sta → Prop), Gr S S1 → (∀ S2, Gr S1 S2 → R (f x) S2) → te (σ.set i (some x)) S1 R)
    (done : ∀ S2, Gr S S2 → S2 D = some (.lst (xs.map f)) → Q (.ref D) S2) : compW (gNm i) wYes te (fun _ => True) σ D Q xs (upS S D (.lst [])) := by
  refine comp_inv (fun k S' => Gr S S' ∧ S' D = some (.lst ((xs.take k).map f))) ⟨gr_new hD, by rw [List.take_zero]; exact upS_same⟩ (fun _ _ _ => trivial) (fun k x S1 LP hx hI nx => ?_) (fun S' hI => ?_)
  · obtain ⟨g, e⟩ := hI
    refine wif_t (step x (List.mem_of_getElem? hx) S1 _ g fun S2 g2 => ?_)
    refine ⟨_, g2 _ _ e, ?_, nx _ ⟨fun a o h => ?_, ?_⟩⟩
    · rw [List.length_map, List.length_take]; exact lt_sz (by omega)
    · rw [upS_ne (fun z => by rw [z, hD] at h; cases h)]
      exact g2 _ _ (g _ _ h)
    · rw [upS_same, List.take_succ, hx, List.map_append]
      rfl
  · obtain ⟨g, e⟩ := hI
    rw [List.take_length] at e
    exact done S' g e
theorem signs_eq (x : Str) : signsT x = x.cps.toList.map fun c => T.str ⟨#[c]⟩ := rfl
theorem sz_signs {x : Str} (h : x.length ≤ 100) : x.cps.toList.length ≤ 1000000 := by
  have : x.cps.toList.length = x.length := by simp [Str.length]
  omega
theorem cps_a : (("a" : Str)).cps.toList = [97] := by decide +kernel
theorem cps_z : (("z" : Str)).cps.toList = [122] := by decide +kernel
theorem all_filt (p : Nat → Bool) : ∀ cs : List Nat, ((((cs.filter fun c => !p c).length : Nat) : Int) == 0) = cs.all p
  | [] => rfl
  | c :: cs => by
    have ih := all_filt p cs
    rw [List.filter_cons, List.all_cons]
    cases h : p c with
    | true => simp only [Bool.not_true, Bool.false_eq_true, if_false, Bool.true_and]; exact ih
    | false =>
      simp only [Bool.not_false, if_true, Bool.false_and, List.length_cons]
      rw [beq_eq_false_iff_ne]
      omega
end My

set_option Elab.async false
set_option linter.all false
set_option maxRecDepth 100000
set_option maxHeartbeats 8000000
namespace My
open PySem PySem.Spec PyProof.Rows L2 Wp Gn
local macro_rules | `(tactic| walk_at "go") => `(tactic| (with_reducible refine goS_i ?_))
local macro_rules | `(tactic| walk_at "wp") => `(tactic| simp (disch := omega) only [Wp.wSeq, Wp.wNext, Wp.wSet, Wp.wVar, Wp.wC, Wp.wOp, Wp.wRet, Wp.wIfS, Wp.wTest, Wp.wCall, Wp.wCons, Wp.wNil, Wp.wTup, Wp.wLst, Wp.wAsg, Wp.gTp, Wp.gC, Wp.gNm, Wp.gN0, Wp.gIx, Wp.rSet, Wp.rAdd, Wp.rMul, Wp.rMod, Wp.rSub, Wp.rFdiv, Wp.rPow, Wp.rInt, Wp.rIx, Wp.rLt, Wp.rLe, Wp.rCmp, Wp.rGeI, Wp.rGtI, Wp.wCB, Wp.rLen, Wp.rLen1, Wp.rInt1, Wp.rMax2, Wp.rMin2, Wp.rTupOf, Wp.rListOf,
  Wp.wIsi, Wp.rBIs, Wp.rIsN, Wp.isNon, Wp.wMt, Wp.rAppendT, Wp.rExtendT, Wp.rReverseT, Wp.wNot, Wp.wOr, Wp.wAnd, Wp.wAndV, Wp.wOrV, Wp.wNotV, Wp.wFor, Wp.iRg1, Wp.iRg2, Wp.iAnyW, Wp.wAll, Wp.wChain, Wp.wSl, Wp.wNoPart, Wp.wPart, Wp.rSl, Wp.wNeg, Wp.rNeg, Wp.wLc, Wp.wYes, Wp.wDrop, Wp.wipeT, Wp.wAug, List.map, List.set_cons_zero, List.set_cons_succ, List.getElem?_cons_zero, List.getElem?_cons_succ, List.length_cons, List.length_nil, List.cons_append, List.nil_append, List.replicate, Wp.startT,
  true_and, and_true, Wp.wif_true, Wp.wif_false, Wp.ex_some, Wp.ex_some1, Wp.ex_eq, Wp.ex_lst, Wp.ex_lst0, Wp.rEq_int, Bool.false_bne, Bool.true_bne, Int.reduceLT, Int.reduceLE, Int.reduceAdd, Nat.reduceAdd, Nat.reduceSub, eq_self, ite_true, ite_false, beq_self_eq_true, Bool.not_true, Bool.not_false, Wp.isB_0, Wp.isB_1, Wp.isB_2, Wp.isB_3, Wp.isB_4, Wp.isB_5, Wp.isB_6, Wp.isB_7, Wp.isB_8, Wp.isB_9, Wp.isB_10, Wp.isB_11, Wp.isB_12, Wp.isB_13, Wp.isB_14, Wp.isB_15, Wp.isB_16, Wp.isB_17, Wp.isB_18, Wp.isB_19, Wp.isB_20, Wp.isB_21, Wp.isB_22, Wp.isB_23, Wp.isB_24, Wp.isB_25, Wp.isB_26, Wp.isB_27, Wp.isB_28, Wp.isB_29, Wp.isB_30, Wp.isB_31, Wp.isB_32, Wp.isB_33, Wp.isB_34, Wp.isB_35, Wp.cmul_l, Wp.cmul_r, Wp.cpow_lit, Wp.size_le, Wp.size_lt, Wp.atI_0, Wp.atI_1, Wp.atI_2, Wp.atI_3, Wp.atI_4, Wp.atI_5, Wp.atI_6, Wp.ixN_0, Wp.ixN_1, Wp.ixN_2, Wp.itemsT, Wp.tyT, reduceIte, Wp.wFld, Wp.wFSet, Wp.wFAug, Wp.wMeth, Wp.wMake, Wp.rIxA, Wp.rInA, Wp.rSetA, Wp.ixA, Wp.inA, Wp.setA, Wp.lenA, Wp.getD, Option.map_some, Option.bind_some, Option.getD_some,  Wp.gIxA, Wp.wDNew, Wp.wDNewT, Wp.rLenA, Wp.rSortD, Wp.rMaxL, Wp.rPopL, Wp.rGet1, Wp.rGet2, Wp.wGet1, Wp.wGet2, Wp.wPop1, Wp.wPop2, Wp.wDel, Wp.isDT, Wp.keyT, Wp.keysT, Wp.keysL, Wp.ex_ins, Wp.ex_dct, Wp.wKGet, Wp.wKIx, Wp.rLenK, Wp.iZipK, Wp.wDisp, Wp.wPCons, Wp.wPNil, Wp.rGt, Int.cast_ofNat_Int, Int.reduceBEq, Wp.wRev, Wp.rRev, Wp.rMulA, lk_Table__rows, pt_Table__rows, no_Table_take, no_Table_rows, no_Table_birth, no_Table_forget, ln_Table, mk_Table, lk_Mux__number, pt_Mux__number, lk_Mux__table, pt_Mux__table, no_Mux_receive, no_Mux_forget, no_Mux_rows, no_Mux__pass_on, ln_Mux, mk_Mux, Wp.wRev, Wp.rRev, Wp.upS, Wp.upS_upS, *])
local macro_rules | `(tactic| walk_at "run") => `(tactic| repeat (first | walk_at "wp" | walk_at "go"))
local macro_rules | `(tactic| walk_at "wq") => `(tactic| simp (disch := omega) only [Wp.wSeq, Wp.wNext, Wp.wSet, Wp.wVar, Wp.wC, Wp.wOp, Wp.wRet, Wp.wIfS, Wp.wTest, Wp.wCall, Wp.wCons, Wp.wNil, Wp.wTup, Wp.wLst, Wp.wAsg, Wp.gTp, Wp.gC, Wp.gNm, Wp.gN0, Wp.gIx, Wp.rSet, Wp.rAdd, Wp.rMul, Wp.rMod, Wp.rSub, Wp.rFdiv, Wp.rPow, Wp.rInt, Wp.rIx, Wp.rLt, Wp.rLe, Wp.rCmp, Wp.rGeI, Wp.rGtI, Wp.wCB, Wp.rLen, Wp.rLen1, Wp.rInt1, Wp.rMax2, Wp.rMin2, Wp.rTupOf, Wp.rListOf,
  Wp.wIsi, Wp.rBIs, Wp.rIsN, Wp.isNon, Wp.wMt, Wp.rAppendT, Wp.rExtendT, Wp.rReverseT, Wp.wNot, Wp.wOr, Wp.wAnd, Wp.wAndV, Wp.wOrV, Wp.wNotV, Wp.wFor, Wp.iRg1, Wp.iRg2, Wp.iAnyW, Wp.wAll, Wp.wChain, Wp.wSl, Wp.wNoPart, Wp.wPart, Wp.rSl, Wp.wNeg, Wp.rNeg, Wp.wLc, Wp.wYes, Wp.wDrop, Wp.wipeT, Wp.wAug, List.map, List.set_cons_zero, List.set_cons_succ, List.getElem?_cons_zero, List.getElem?_cons_succ, List.length_cons, List.length_nil, List.cons_append, List.nil_append, List.replicate, Wp.startT,
  true_and, and_true, Wp.wif_true, Wp.wif_false, Wp.ex_some, Wp.ex_some1, Wp.ex_eq, Wp.ex_lst, Wp.ex_lst0, Wp.rEq_int, Bool.false_bne, Bool.true_bne, Int.reduceLT, Int.reduceLE, Int.reduceAdd, Nat.reduceAdd, Nat.reduceSub, eq_self, ite_true, ite_false, beq_self_eq_true, Bool.not_true, Bool.not_false, Wp.isB_0, Wp.isB_1, Wp.isB_2, Wp.isB_3, Wp.isB_4, Wp.isB_5, Wp.isB_6, Wp.isB_7, Wp.isB_8, Wp.isB_9, Wp.isB_10, Wp.isB_11, Wp.isB_12, Wp.isB_13, Wp.isB_14, Wp.isB_15, Wp.isB_16, Wp.isB_17, Wp.isB_18, Wp.isB_19, Wp.isB_20, Wp.isB_21, Wp.isB_22, Wp.isB_23, Wp.isB_24, Wp.isB_25, Wp.isB_26, Wp.isB_27, Wp.isB_28, Wp.isB_29, Wp.isB_30, Wp.isB_31, Wp.isB_32, Wp.isB_33, Wp.isB_34, Wp.isB_35, Wp.cmul_l, Wp.cmul_r, Wp.cpow_lit, Wp.size_le, Wp.size_lt, Wp.atI_0, Wp.atI_1, Wp.atI_2, Wp.atI_3, Wp.atI_4, Wp.atI_5, Wp.atI_6, Wp.ixN_0, Wp.ixN_1, Wp.ixN_2, Wp.itemsT, Wp.tyT, reduceIte, Wp.wFld, Wp.wFSet, Wp.wFAug, Wp.wMeth, Wp.wMake, Wp.rIxA, Wp.rInA, Wp.rSetA, Wp.ixA, Wp.inA, Wp.setA, Wp.lenA, Wp.getD, Option.map_some, Option.bind_some, Option.getD_some,  Wp.gIxA, Wp.wDNew, Wp.wDNewT, Wp.rLenA, Wp.rSortD, Wp.rMaxL, Wp.rPopL, Wp.rGet1, Wp.rGet2, Wp.wGet1, Wp.wGet2, Wp.wPop1, Wp.wPop2, Wp.wDel, Wp.isDT, Wp.keyT, Wp.keysT, Wp.keysL, Wp.ex_ins, Wp.ex_dct, Wp.wKGet, Wp.wKIx, Wp.rLenK, Wp.iZipK, Wp.wDisp, Wp.wPCons, Wp.wPNil, Wp.rGt, Int.cast_ofNat_Int, Int.reduceBEq, Wp.wRev, Wp.rRev, Wp.rMulA, lk_Table__rows, pt_Table__rows, no_Table_take, no_Table_rows, no_Table_birth, no_Table_forget, ln_Table, mk_Table, lk_Mux__number, pt_Mux__number, lk_Mux__table, pt_Mux__table, no_Mux_receive, no_Mux_forget, no_Mux_rows, no_Mux__pass_on, ln_Mux, mk_Mux, Wp.wRev, Wp.rRev, *])
local macro_rules | `(tactic| walk_at "r2") => `(tactic| repeat (first | walk_at "wq" | walk_at "go"))
local macro_rules | `(tactic| walk_at "w0") => `(tactic| simp (disch := omega) only [Wp.wSeq, Wp.wNext, Wp.wSet, Wp.wVar, Wp.wC, Wp.wOp, Wp.wRet, Wp.wIfS, Wp.wTest, Wp.wCall, Wp.wCons, Wp.wNil, Wp.wTup, Wp.wLst, Wp.wAsg, Wp.gTp, Wp.gC, Wp.gNm, Wp.gN0, Wp.gIx, Wp.rSet, Wp.rAdd, Wp.rMul, Wp.rMod, Wp.rSub, Wp.rFdiv, Wp.rPow, Wp.rInt, Wp.rIx, Wp.rLt, Wp.rLe, Wp.rCmp, Wp.rGeI, Wp.rGtI, Wp.wCB, Wp.rLen, Wp.rLen1, Wp.rInt1, Wp.rMax2, Wp.rMin2, Wp.rTupOf, Wp.rListOf,
  Wp.wIsi, Wp.rBIs, Wp.rIsN, Wp.isNon, Wp.wMt, Wp.rAppendT, Wp.rExtendT, Wp.rReverseT, Wp.wNot, Wp.wOr, Wp.wAnd, Wp.wAndV, Wp.wOrV, Wp.wNotV, Wp.wFor, Wp.iRg1, Wp.iRg2, Wp.iAnyW, Wp.wAll, Wp.wChain, Wp.wSl, Wp.wNoPart, Wp.wPart, Wp.rSl, Wp.wNeg, Wp.rNeg, Wp.wLc, Wp.wYes, Wp.wDrop, Wp.wipeT, Wp.wAug, List.map, List.set_cons_zero, List.set_cons_succ, List.getElem?_cons_zero, List.getElem?_cons_succ, List.length_cons, List.length_nil, List.cons_append, List.nil_append, List.replicate, Wp.startT,
  true_and, and_true, Wp.wif_true, Wp.wif_false, Wp.ex_some, Wp.ex_some1, Wp.ex_eq, Wp.ex_lst, Wp.ex_lst0, Wp.rEq_int, Bool.false_bne, Bool.true_bne, Int.reduceLT, Int.reduceLE, Int.reduceAdd, Nat.reduceAdd, Nat.reduceSub, eq_self, ite_true, ite_false, beq_self_eq_true, Bool.not_true, Bool.not_false, Wp.isB_0, Wp.isB_1, Wp.isB_2, Wp.isB_3, Wp.isB_4, Wp.isB_5, Wp.isB_6, Wp.isB_7, Wp.isB_8, Wp.isB_9, Wp.isB_10, Wp.isB_11, Wp.isB_12, Wp.isB_13, Wp.isB_14, Wp.isB_15, Wp.isB_16, Wp.isB_17, Wp.isB_18, Wp.isB_19, Wp.isB_20, Wp.isB_21, Wp.isB_22, Wp.isB_23, Wp.isB_24, Wp.isB_25, Wp.isB_26, Wp.isB_27, Wp.isB_28, Wp.isB_29, Wp.isB_30, Wp.isB_31, Wp.isB_32, Wp.isB_33, Wp.isB_34, Wp.isB_35, Wp.cmul_l, Wp.cmul_r, Wp.cpow_lit, Wp.size_le, Wp.size_lt, Wp.atI_0, Wp.atI_1, Wp.atI_2, Wp.atI_3, Wp.atI_4, Wp.atI_5, Wp.atI_6, Wp.ixN_0, Wp.ixN_1, Wp.ixN_2, Wp.itemsT, Wp.tyT, reduceIte, Wp.wFld, Wp.wFSet, Wp.wFAug, Wp.wMeth, Wp.wMake, Wp.rIxA, Wp.rInA, Wp.rSetA, Wp.ixA, Wp.inA, Wp.setA, Wp.lenA, Wp.getD, Option.map_some, Option.bind_some, Option.getD_some,  Wp.gIxA, Wp.wDNew, Wp.wDNewT, Wp.rLenA, Wp.rSortD, Wp.rMaxL, Wp.rPopL, Wp.rGet1, Wp.rGet2, Wp.wGet1, Wp.wGet2, Wp.wPop1, Wp.wPop2, Wp.wDel, Wp.isDT, Wp.keyT, Wp.keysT, Wp.keysL, Wp.ex_ins, Wp.ex_dct, Wp.wKGet, Wp.wKIx, Wp.rLenK, Wp.iZipK, Wp.wDisp, Wp.wPCons, Wp.wPNil, Wp.rGt, Int.cast_ofNat_Int, Int.reduceBEq, Wp.wRev, Wp.rRev, Wp.rMulA, lk_Table__rows, pt_Table__rows, no_Table_take, no_Table_rows, no_Table_birth, no_Table_forget, ln_Table, mk_Table, lk_Mux__number, pt_Mux__number, lk_Mux__table, pt_Mux__table, no_Mux_receive, no_Mux_forget, no_Mux_rows, no_Mux__pass_on, ln_Mux, mk_Mux, Wp.wRev, Wp.rRev])
local macro_rules | `(tactic| walk_at "r0") => `(tactic| repeat (first | walk_at "w0" | walk_at "go"))
variable {K : PySem.W.Frag} {C_Table C_Mux : Addr}
theorem rEqL {neg : Bool} {x y : Str} {S : Sta} {Q : T → Sta → Prop} (hx : PyData.strOk x = true) (hy : PyData.strOk y = true) {b : Bool} (e : (neg != (x == y)) = b) (q : Q (.bl b) S) : Wp.rEq neg (.str x) (.str y) S Q := rEq_scal hx hy (by rw [← e] at q; exact q)
local macro_rules | `(tactic| walk_at "ne") => `(tactic| (refine rEqL (by decide +kernel) (by decide +kernel) (b := false) (by decide +kernel) ?_; walk_at "r2"))
local macro_rules | `(tactic| walk_at "eq") => `(tactic| (refine rEqL (by decide +kernel) (by decide +kernel) (b := true) (by decide +kernel) ?_; walk_at "r2"))
/-! ### the kinds of parts -/
inductive Ki where
  | k | o | c | b | n | f | l | v | s | t | d | r | p
deriving DecidableEq
def kn : Ki → Str
  | .k => "bucket"
  | .o => "hops"
  | .c => "count"
  | .b => "birth"
  | .n => "birth or none"
  | .f => "flow"
  | .l => "life"
  | .v => "picture"
  | .s => "births"
  | .t => "table"
  | .d => "directory"
  | .r => "report"
  | .p => "packet"
def isNT : T → Bool := isNon
def isUp : T → Bool
  | .tup (.str w :: r) => isPk (.tup (.str w :: r)) && up3 w
  | _ => false
def ok0 : Ki → T → Bool
  | .k, v => isI v 0 15
  | .o, v => isI v 0 8
  | .c, v => isI v 0 1000000
  | .b, v => isPr v
  | .n, v => isNon v || isPr v
  | .f, v => isPr v
  | .l, v => isLf v
  | .v, v => canW 16 v
  | .p, v => isUp v
  | _, _ => false
def sc0 : Ki → Bool
  | .s => false
  | .t => false
  | .d => false
  | .r => false
  | .o => false
  | .p => false
  | _ => true
def allP (g : Ki → T → Bool) : List Ki → List T → Bool
  | [], [] => true
  | k :: ks, t :: ts => g k t && allP g ks ts
  | _, _ => false
def rowK : Ki → List Ki
  | .t => [.k, .c, .b]
  | .d => [.f, .l, .c, .b]
  | .r => [.f, .l, .c, .n]
  | _ => []
def tupP (ks : List Ki) : T → Bool
  | .tup ts => allP ok0 ks ts
  | _ => false
def okRw (k : Ki) (v : T) : Bool := match k with
  | .s => isPr v
  | k => tupP (rowK k) v
def allRw (k : Ki) : T → Bool
  | .tup ts => ts.all (okRw k)
  | _ => false
def isRk : Ki → Bool
  | .s => true
  | .t => true
  | .d => true
  | .r => true
  | _ => false
def okK (k : Ki) (v : T) : Bool := if isRk k then allRw k v else ok0 k v
def spRow (K : PySem.W.Frag) : WSp := fun ts S Q _ => match ts with
  | [.str z, v] => ∃ k, isRk k = true ∧ z = kn k ∧ Kn S v ∧ Q (.bl (okRw k v)) S
  | _ => False
/-- the part of a kind, by g: the scalars alone, or all -/
def spPart (g : Ki → T → Bool) (C : Ki → Bool) : WSp := fun ts S Q _ => match ts with
  | [.str z, v] => ∃ k, C k = true ∧ z = kn k ∧ Kn S v ∧ Q (.bl (g k v)) S
  | _ => False
def spParts (K : PySem.W.Frag) (g : Ki → T → Bool) (C : Ki → Bool) : WSp := fun ts S Q _ => match ts with
  | [.ref a, .tup ps] => ∃ ks : List Ki, KTup K a (ks.map kn) ∧ (∀ k ∈ ks, C k = true) ∧ (∀ p ∈ ps, Kn S p) ∧ ps.length ≤ 1000 ∧ Q (.bl (allP g ks ps)) S
  | _ => False
theorem part_sc (s : WSp) (g : Ki → T → Bool) (C : Ki → Bool) (hg : ∀ k v, sc0 k = true → g k v = ok0 k v) (k : Ki) (hk : sc0 k = true) (v : T) (S : Sta) (Q : T → Sta → Prop) (kv : Kn S v) (h : Q (.bl (g k v)) S) : b__is_part K C_Table C_Mux spPr spPr spLf spIsI spCw s { nx := fun _ S' => Q .non S', rt := Q } (Wp.startT N__is_part [.str (kn k), v]) S := by
  rw [hg k v hk] at h
  unfold b__is_part N__is_part
  cases k with
  | b =>
    simp only [kn, ok0] at h ⊢
    walk_at "r2"
    walk_at "eq"
    exact ⟨kv, h⟩
  | n =>
    simp only [kn, ok0] at h ⊢
    walk_at "r2"
    walk_at "ne"
    walk_at "eq"
    show wif (isNon v) _ _
    refine if_bool (fun e => ?_) (fun e => ?_)
    · rw [e, Bool.true_or] at h; exact h
    · rw [e, Bool.false_or] at h; exact ⟨kv, h⟩
  | f =>
    simp only [kn, ok0] at h ⊢
    walk_at "r2"
    iterate 2 walk_at "ne"
    walk_at "eq"
    exact ⟨kv, h⟩
  | l =>
    simp only [kn, ok0] at h ⊢
    walk_at "r2"
    iterate 3 walk_at "ne"
    walk_at "eq"
    exact ⟨kv, h⟩
  | k =>
    simp only [kn, ok0] at h ⊢
    walk_at "r2"
    iterate 4 walk_at "ne"
    walk_at "eq"
    exact ⟨kv, h⟩
  | c =>
    simp only [kn, ok0] at h ⊢
    walk_at "r2"
    iterate 5 walk_at "ne"
    walk_at "eq"
    exact ⟨kv, h⟩
  | v =>
    simp only [kn, ok0] at h ⊢
    walk_at "r2"
    iterate 6 walk_at "ne"
    walk_at "eq"
    exact ⟨kv, h⟩
  | _ => cases hk
theorem hw_is_part0 (s : WSp) : ∀ ts S Q E, ts.length = 2 → spPart ok0 sc0 ts S Q E → b__is_part K C_Table C_Mux spPr spPr spLf spIsI spCw s { nx := fun _ S' => Q .non S', rt := Q } (Wp.startT N__is_part ts) S := by
  intro ts S Q E _ h
  match ts, h with
  | [.str z, v], ⟨k, hk, e, kv, h⟩ =>
    subst e
    exact part_sc s ok0 sc0 (fun _ _ _ => rfl) k hk v S Q kv h
def C1 (k : Ki) : Bool := sc0 k || isRk k
theorem okK_sc {k : Ki} {v : T} (h : sc0 k = true) : okK k v = ok0 k v := by
  have : isRk k = false := by cases k <;> first | rfl | cases h
  simp only [okK, this, Bool.false_eq_true, if_false]
theorem hw_is_part1 : ∀ ts S Q E, ts.length = 2 → spPart okK C1 ts S Q E → b__is_part K C_Table C_Mux spPr spPr spLf spIsI spCw (spRow K) { nx := fun _ S' => Q .non S', rt := Q } (Wp.startT N__is_part ts) S := by
  intro ts S Q E _ h
  match ts, h with
  | [.str z, v], ⟨k, hk, e, kv, h⟩ =>
    subst e
    cases hs : sc0 k with
    | true => exact part_sc _ okK C1 (fun k v e => okK_sc e) k hs v S Q kv h
    | false =>
      have hr : isRk k = true := by simpa only [C1, hs, Bool.false_or] using hk
      have hq : Q (.bl (allRw k v)) S := by simpa only [okK, hr, if_true] using h
      have fin : ∀ (S2 : Sta) (LP : T → Sta → Prop) (a0 a1 : Option T) (us : List T), (∀ u ∈ us, Kn S2 u) → a0 = some (T.str (kn k)) → LP (.bl (us.all (okRw k))) S2 → allW (gNm 2) (l1__is_part K C_Table C_Mux spPr spPr spLf spIsI spCw (spRow K)) (fun _ => True) [a0, a1, none] LP us S2 := fun S2 LP a0 a1 us hu e0 q => by
        subst e0
        refine all_inv_at us (okRw k) S2 trivial q fun x R hx hR => ?_
        unfold l1__is_part
        have kx := hu x hx
        walk_at "r0"
        exact ⟨k, hr, rfl, kx, hR⟩
      clear h hk hs
      unfold b__is_part N__is_part
      cases k with
      | s =>
        simp only [kn] at fin ⊢
        walk_at "r2"
        iterate 7 walk_at "ne"
        cases kv with
        | tup us hl hu => walk_at "r2"; exact fin S _ _ _ us hu rfl hq
        | _ => simp only [allRw] at hq; walk_at "r2"
      | t =>
        simp only [kn] at fin ⊢
        walk_at "r2"
        iterate 7 walk_at "ne"
        cases kv with
        | tup us hl hu => walk_at "r2"; exact fin S _ _ _ us hu rfl hq
        | _ => simp only [allRw] at hq; walk_at "r2"
      | d =>
        simp only [kn] at fin ⊢
        walk_at "r2"
        iterate 7 walk_at "ne"
        cases kv with
        | tup us hl hu => walk_at "r2"; exact fin S _ _ _ us hu rfl hq
        | _ => simp only [allRw] at hq; walk_at "r2"
      | r =>
        simp only [kn] at fin ⊢
        walk_at "r2"
        iterate 7 walk_at "ne"
        cases kv with
        | tup us hl hu => walk_at "r2"; exact fin S _ _ _ us hu rfl hq
        | _ => simp only [allRw] at hq; walk_at "r2"
      | _ => cases hr
theorem allP_len {g : Ki → T → Bool} : ∀ {ks : List Ki} {ps : List T}, ps.length ≠ ks.length → allP g ks ps = false
  | [], [], h => absurd rfl h
  | [], _ :: _, _ => rfl
  | _ :: _, [], _ => rfl
  | k :: ks, p :: ps, h => by
    rw [allP, allP_len (fun e => h (by rw [List.length_cons, List.length_cons, e])), Bool.and_false]
theorem parts_loop (g : Ki → T → Bool) (C : Ki → Bool) (Q : T → Sta → Prop) (S : Sta) (a0 a1 : Option T) (D : WEnds) (hr : D.rt = Q) : ∀ (ks : List Ki) (ps : List T) (x2 x3 : Option T), ps.length = ks.length → (∀ k ∈ ks, C k = true) → (∀ p ∈ ps, Kn S p) → Q (.bl (allP g ks ps)) S → (∀ x2 x3, Q (.bl true) S → D.nx [a0, a1, x2, x3] S) →
    loopW (gTp 2 (gC (gNm 2) (gC (gNm 3) gN0))) (l1__are_parts K C_Table C_Mux (spPart g C)) (fun _ => True) D (zipT (ks.map kn) ps) [a0, a1, x2, x3] S
  | [], [], x2, x3, _, _, _, q, nx => ⟨trivial, nx x2 x3 q⟩
  | k :: ks, p :: ps, x2, x3, hl, hc, hp, q, nx => by
    refine ⟨trivial, ?_⟩
    have ih := parts_loop g C Q S a0 a1 D hr ks ps (some (.str (kn k))) (some p) (by simpa using hl) (fun k hk => hc k (List.mem_cons_of_mem _ hk)) (fun p hp' => hp p (List.mem_cons_of_mem _ hp'))
    have ih := fun q => ih q nx
    rw [show List.zipWith (fun z p => T.tup [.str z, p]) (List.map kn ks) ps = zipT (ks.map kn) ps from rfl]
    generalize loopW (gTp 2 (gC (gNm 2) (gC (gNm 3) gN0))) (l1__are_parts K C_Table C_Mux (spPart g C)) (fun _ => True) D (zipT (ks.map kn) ps) = LP at ih ⊢
    have hck := hc k List.mem_cons_self
    have hpp := hp p List.mem_cons_self
    clear hc hp nx
    unfold l1__are_parts
    walk_at "r0"
    refine ⟨k, hck, rfl, hpp, ?_⟩
    simp only [allP] at q
    show wif (!g k p) _ _
    refine if_bool (fun e => ?_) (fun e => ?_)
    · have e2 : g k p = false := by simpa using e
      rw [e2, Bool.false_and] at q
      walk_at "r0"
      rw [hr]
      exact q
    · have e2 : g k p = true := by simpa using e
      rw [e2, Bool.true_and] at q
      walk_at "r0"
      exact ih q
theorem hw_are_parts (g : Ki → T → Bool) (C : Ki → Bool) : ∀ ts S Q E, ts.length = 2 → spParts K g C ts S Q E → b__are_parts K C_Table C_Mux (spPart g C) { nx := fun _ S' => Q .non S', rt := Q } (Wp.startT N__are_parts ts) S := by
  intro ts S Q E _ h
  match ts, h with
  | [.ref a, .tup ps], ⟨ks, kt, hc, hp, hl, h⟩ =>
    unfold b__are_parts N__are_parts
    walk_at "r0"
    refine ⟨_, kt, ?_⟩
    walk_at "r0"
    rw [List.length_map]
    by_cases e : ps.length = ks.length
    · rw [e]
      walk_at "r0"
      refine ⟨_, kt, ?_⟩
      exact parts_loop g C Q S _ _ _ rfl ks ps _ _ e hc hp h fun x2 x3 q => by
        walk_at "r0"
        exact q
    · rw [show (((ps.length : Nat) : Int) == ((ks.length : Nat) : Int)) = false by rw [beq_eq_false_iff_ne]; omega]
      walk_at "r0"
      rw [allP_len e] at h
      exact h
theorem hw_is_row : ∀ ts S Q E, ts.length = 2 → spRow K ts S Q E → b__is_row K C_Table C_Mux spPr (spParts K ok0 sc0) { nx := fun _ S' => Q .non S', rt := Q } (Wp.startT N__is_row ts) S := by
  intro ts S Q E _ h
  match ts, h with
  | [.str z, v], ⟨k, hk, e, kv, h⟩ =>
    subst e
    unfold b__is_row N__is_row
    cases k with
    | s =>
      simp only [kn, okRw] at h ⊢
      walk_at "r2"
      walk_at "eq"
      exact ⟨kv, h⟩
    | t =>
      simp only [kn, okRw] at h ⊢
      walk_at "r0"
      refine rEqL (by decide +kernel) (by decide +kernel) (b := false) (by decide +kernel) ?_
      walk_at "r0"
      cases kv with
      | tup us hl hu =>
        walk_at "r0"
        refine ⟨["bucket", "count", "birth"], by decide +kernel, fun a ka => ?_⟩
        exact ⟨[.k, .c, .b], ka, by decide, hu, hl, h⟩
      | _ => simp only [tupP] at h; walk_at "r2"
    | d =>
      simp only [kn, okRw] at h ⊢
      walk_at "r0"
      refine rEqL (by decide +kernel) (by decide +kernel) (b := false) (by decide +kernel) ?_
      walk_at "r0"
      cases kv with
      | tup us hl hu =>
        walk_at "r0"
        refine ⟨["flow", "life", "count", "birth"], by decide +kernel, fun a ka => ?_⟩
        exact ⟨[.f, .l, .c, .b], ka, by decide, hu, hl, h⟩
      | _ => simp only [tupP] at h; walk_at "r2"
    | r =>
      simp only [kn, okRw] at h ⊢
      walk_at "r0"
      refine rEqL (by decide +kernel) (by decide +kernel) (b := false) (by decide +kernel) ?_
      walk_at "r0"
      cases kv with
      | tup us hl hu =>
        walk_at "r0"
        refine ⟨["flow", "life", "count", "birth or none"], by decide +kernel, fun a ka => ?_⟩
        exact ⟨[.f, .l, .c, .n], ka, by decide, hu, hl, h⟩
      | _ => simp only [tupP] at h; walk_at "r2"
    | _ => cases hk
end My

set_option Elab.async false
set_option linter.all false
set_option maxRecDepth 100000
set_option maxHeartbeats 8000000
namespace My
open PySem PySem.Spec PyProof.Rows L2 Wp Gn
local macro_rules | `(tactic| walk_at "go") => `(tactic| (with_reducible refine goS_i ?_))
local macro_rules | `(tactic| walk_at "wp") => `(tactic| simp (disch := omega) only [Wp.wSeq, Wp.wNext, Wp.wSet, Wp.wVar, Wp.wC, Wp.wOp, Wp.wRet, Wp.wIfS, Wp.wTest, Wp.wCall, Wp.wCons, Wp.wNil, Wp.wTup, Wp.wLst, Wp.wAsg, Wp.gTp, Wp.gC, Wp.gNm, Wp.gN0, Wp.gIx, Wp.rSet, Wp.rAdd, Wp.rMul, Wp.rMod, Wp.rSub, Wp.rFdiv, Wp.rPow, Wp.rInt, Wp.rIx, Wp.rLt, Wp.rLe, Wp.rCmp, Wp.rGeI, Wp.rGtI, Wp.wCB, Wp.rLen, Wp.rLen1, Wp.rInt1, Wp.rMax2, Wp.rMin2, Wp.rTupOf, Wp.rListOf,
  Wp.wIsi, Wp.rBIs, Wp.rIsN, Wp.isNon, Wp.wMt, Wp.rAppendT, Wp.rExtendT, Wp.rReverseT, Wp.wNot, Wp.wOr, Wp.wAnd, Wp.wAndV, Wp.wOrV, Wp.wNotV, Wp.wFor, Wp.iRg1, Wp.iRg2, Wp.iAnyW, Wp.wAll, Wp.wChain, Wp.wSl, Wp.wNoPart, Wp.wPart, Wp.rSl, Wp.wNeg, Wp.rNeg, Wp.wLc, Wp.wYes, Wp.wDrop, Wp.wipeT, Wp.wAug, List.map, List.set_cons_zero, List.set_cons_succ, List.getElem?_cons_zero, List.getElem?_cons_succ, List.length_cons, List.length_nil, List.cons_append, List.nil_append, List.replicate, Wp.startT,
  true_and, and_true, Wp.wif_true, Wp.wif_false, Wp.ex_some, Wp.ex_some1, Wp.ex_eq, Wp.ex_lst, Wp.ex_lst0, Wp.rEq_int, Bool.false_bne, Bool.true_bne, Int.reduceLT, Int.reduceLE, Int.reduceAdd, Nat.reduceAdd, Nat.reduceSub, eq_self, ite_true, ite_false, beq_self_eq_true, Bool.not_true, Bool.not_false, Wp.isB_0, Wp.isB_1, Wp.isB_2, Wp.isB_3, Wp.isB_4, Wp.isB_5, Wp.isB_6, Wp.isB_7, Wp.isB_8, Wp.isB_9, Wp.isB_10, Wp.isB_11, Wp.isB_12, Wp.isB_13, Wp.isB_14, Wp.isB_15, Wp.isB_16, Wp.isB_17, Wp.isB_18, Wp.isB_19, Wp.isB_20, Wp.isB_21, Wp.isB_22, Wp.isB_23, Wp.isB_24, Wp.isB_25, Wp.isB_26, Wp.isB_27, Wp.isB_28, Wp.isB_29, Wp.isB_30, Wp.isB_31, Wp.isB_32, Wp.isB_33, Wp.isB_34, Wp.isB_35, Wp.cmul_l, Wp.cmul_r, Wp.cpow_lit, Wp.size_le, Wp.size_lt, Wp.atI_0, Wp.atI_1, Wp.atI_2, Wp.atI_3, Wp.atI_4, Wp.atI_5, Wp.atI_6, Wp.ixN_0, Wp.ixN_1, Wp.ixN_2, Wp.itemsT, Wp.tyT, reduceIte, Wp.wFld, Wp.wFSet, Wp.wFAug, Wp.wMeth, Wp.wMake, Wp.rIxA, Wp.rInA, Wp.rSetA, Wp.ixA, Wp.inA, Wp.setA, Wp.lenA, Wp.getD, Option.map_some, Option.bind_some, Option.getD_some,  Wp.gIxA, Wp.wDNew, Wp.wDNewT, Wp.rLenA, Wp.rSortD, Wp.rMaxL, Wp.rPopL, Wp.rGet1, Wp.rGet2, Wp.wGet1, Wp.wGet2, Wp.wPop1, Wp.wPop2, Wp.wDel, Wp.isDT, Wp.keyT, Wp.keysT, Wp.keysL, Wp.ex_ins, Wp.ex_dct, Wp.wKGet, Wp.wKIx, Wp.rLenK, Wp.iZipK, Wp.wDisp, Wp.wPCons, Wp.wPNil, Wp.rGt, Int.cast_ofNat_Int, Int.reduceBEq, Wp.wRev, Wp.rRev, Wp.rMulA, lk_Table__rows, pt_Table__rows, no_Table_take, no_Table_rows, no_Table_birth, no_Table_forget, ln_Table, mk_Table, lk_Mux__number, pt_Mux__number, lk_Mux__table, pt_Mux__table, no_Mux_receive, no_Mux_forget, no_Mux_rows, no_Mux__pass_on, ln_Mux, mk_Mux, Wp.wRev, Wp.rRev, Wp.upS, Wp.upS_upS, *])
local macro_rules | `(tactic| walk_at "run") => `(tactic| repeat (first | walk_at "wp" | walk_at "go"))
local macro_rules | `(tactic| walk_at "wq") => `(tactic| simp (disch := omega) only [Wp.wSeq, Wp.wNext, Wp.wSet, Wp.wVar, Wp.wC, Wp.wOp, Wp.wRet, Wp.wIfS, Wp.wTest, Wp.wCall, Wp.wCons, Wp.wNil, Wp.wTup, Wp.wLst, Wp.wAsg, Wp.gTp, Wp.gC, Wp.gNm, Wp.gN0, Wp.gIx, Wp.rSet, Wp.rAdd, Wp.rMul, Wp.rMod, Wp.rSub, Wp.rFdiv, Wp.rPow, Wp.rInt, Wp.rIx, Wp.rLt, Wp.rLe, Wp.rCmp, Wp.rGeI, Wp.rGtI, Wp.wCB, Wp.rLen, Wp.rLen1, Wp.rInt1, Wp.rMax2, Wp.rMin2, Wp.rTupOf, Wp.rListOf,
  Wp.wIsi, Wp.rBIs, Wp.rIsN, Wp.isNon, Wp.wMt, Wp.rAppendT, Wp.rExtendT, Wp.rReverseT, Wp.wNot, Wp.wOr, Wp.wAnd, Wp.wAndV, Wp.wOrV, Wp.wNotV, Wp.wFor, Wp.iRg1, Wp.iRg2, Wp.iAnyW, Wp.wAll, Wp.wChain, Wp.wSl, Wp.wNoPart, Wp.wPart, Wp.rSl, Wp.wNeg, Wp.rNeg, Wp.wLc, Wp.wYes, Wp.wDrop, Wp.wipeT, Wp.wAug, List.map, List.set_cons_zero, List.set_cons_succ, List.getElem?_cons_zero, List.getElem?_cons_succ, List.length_cons, List.length_nil, List.cons_append, List.nil_append, List.replicate, Wp.startT,
  true_and, and_true, Wp.wif_true, Wp.wif_false, Wp.ex_some, Wp.ex_some1, Wp.ex_eq, Wp.ex_lst, Wp.ex_lst0, Wp.rEq_int, Bool.false_bne, Bool.true_bne, Int.reduceLT, Int.reduceLE, Int.reduceAdd, Nat.reduceAdd, Nat.reduceSub, eq_self, ite_true, ite_false, beq_self_eq_true, Bool.not_true, Bool.not_false, Wp.isB_0, Wp.isB_1, Wp.isB_2, Wp.isB_3, Wp.isB_4, Wp.isB_5, Wp.isB_6, Wp.isB_7, Wp.isB_8, Wp.isB_9, Wp.isB_10, Wp.isB_11, Wp.isB_12, Wp.isB_13, Wp.isB_14, Wp.isB_15, Wp.isB_16, Wp.isB_17, Wp.isB_18, Wp.isB_19, Wp.isB_20, Wp.isB_21, Wp.isB_22, Wp.isB_23, Wp.isB_24, Wp.isB_25, Wp.isB_26, Wp.isB_27, Wp.isB_28, Wp.isB_29, Wp.isB_30, Wp.isB_31, Wp.isB_32, Wp.isB_33, Wp.isB_34, Wp.isB_35, Wp.cmul_l, Wp.cmul_r, Wp.cpow_lit, Wp.size_le, Wp.size_lt, Wp.atI_0, Wp.atI_1, Wp.atI_2, Wp.atI_3, Wp.atI_4, Wp.atI_5, Wp.atI_6, Wp.ixN_0, Wp.ixN_1, Wp.ixN_2, Wp.itemsT, Wp.tyT, reduceIte, Wp.wFld, Wp.wFSet, Wp.wFAug, Wp.wMeth, Wp.wMake, Wp.rIxA, Wp.rInA, Wp.rSetA, Wp.ixA, Wp.inA, Wp.setA, Wp.lenA, Wp.getD, Option.map_some, Option.bind_some, Option.getD_some,  Wp.gIxA, Wp.wDNew, Wp.wDNewT, Wp.rLenA, Wp.rSortD, Wp.rMaxL, Wp.rPopL, Wp.rGet1, Wp.rGet2, Wp.wGet1, Wp.wGet2, Wp.wPop1, Wp.wPop2, Wp.wDel, Wp.isDT, Wp.keyT, Wp.keysT, Wp.keysL, Wp.ex_ins, Wp.ex_dct, Wp.wKGet, Wp.wKIx, Wp.rLenK, Wp.iZipK, Wp.wDisp, Wp.wPCons, Wp.wPNil, Wp.rGt, Int.cast_ofNat_Int, Int.reduceBEq, Wp.wRev, Wp.rRev, Wp.rMulA, lk_Table__rows, pt_Table__rows, no_Table_take, no_Table_rows, no_Table_birth, no_Table_forget, ln_Table, mk_Table, lk_Mux__number, pt_Mux__number, lk_Mux__table, pt_Mux__table, no_Mux_receive, no_Mux_forget, no_Mux_rows, no_Mux__pass_on, ln_Mux, mk_Mux, Wp.wRev, Wp.rRev, *])
local macro_rules | `(tactic| walk_at "r2") => `(tactic| repeat (first | walk_at "wq" | walk_at "go"))
local macro_rules | `(tactic| walk_at "w0") => `(tactic| simp (disch := omega) only [Wp.wSeq, Wp.wNext, Wp.wSet, Wp.wVar, Wp.wC, Wp.wOp, Wp.wRet, Wp.wIfS, Wp.wTest, Wp.wCall, Wp.wCons, Wp.wNil, Wp.wTup, Wp.wLst, Wp.wAsg, Wp.gTp, Wp.gC, Wp.gNm, Wp.gN0, Wp.gIx, Wp.rSet, Wp.rAdd, Wp.rMul, Wp.rMod, Wp.rSub, Wp.rFdiv, Wp.rPow, Wp.rInt, Wp.rIx, Wp.rLt, Wp.rLe, Wp.rCmp, Wp.rGeI, Wp.rGtI, Wp.wCB, Wp.rLen, Wp.rLen1, Wp.rInt1, Wp.rMax2, Wp.rMin2, Wp.rTupOf, Wp.rListOf,
  Wp.wIsi, Wp.rBIs, Wp.rIsN, Wp.isNon, Wp.wMt, Wp.rAppendT, Wp.rExtendT, Wp.rReverseT, Wp.wNot, Wp.wOr, Wp.wAnd, Wp.wAndV, Wp.wOrV, Wp.wNotV, Wp.wFor, Wp.iRg1, Wp.iRg2, Wp.iAnyW, Wp.wAll, Wp.wChain, Wp.wSl, Wp.wNoPart, Wp.wPart, Wp.rSl, Wp.wNeg, Wp.rNeg, Wp.wLc, Wp.wYes, Wp.wDrop, Wp.wipeT, Wp.wAug, List.map, List.set_cons_zero, List.set_cons_succ, List.getElem?_cons_zero, List.getElem?_cons_succ, List.length_cons, List.length_nil, List.cons_append, List.nil_append, List.replicate, Wp.startT,
  true_and, and_true, Wp.wif_true, Wp.wif_false, Wp.ex_some, Wp.ex_some1, Wp.ex_eq, Wp.ex_lst, Wp.ex_lst0, Wp.rEq_int, Bool.false_bne, Bool.true_bne, Int.reduceLT, Int.reduceLE, Int.reduceAdd, Nat.reduceAdd, Nat.reduceSub, eq_self, ite_true, ite_false, beq_self_eq_true, Bool.not_true, Bool.not_false, Wp.isB_0, Wp.isB_1, Wp.isB_2, Wp.isB_3, Wp.isB_4, Wp.isB_5, Wp.isB_6, Wp.isB_7, Wp.isB_8, Wp.isB_9, Wp.isB_10, Wp.isB_11, Wp.isB_12, Wp.isB_13, Wp.isB_14, Wp.isB_15, Wp.isB_16, Wp.isB_17, Wp.isB_18, Wp.isB_19, Wp.isB_20, Wp.isB_21, Wp.isB_22, Wp.isB_23, Wp.isB_24, Wp.isB_25, Wp.isB_26, Wp.isB_27, Wp.isB_28, Wp.isB_29, Wp.isB_30, Wp.isB_31, Wp.isB_32, Wp.isB_33, Wp.isB_34, Wp.isB_35, Wp.cmul_l, Wp.cmul_r, Wp.cpow_lit, Wp.size_le, Wp.size_lt, Wp.atI_0, Wp.atI_1, Wp.atI_2, Wp.atI_3, Wp.atI_4, Wp.atI_5, Wp.atI_6, Wp.ixN_0, Wp.ixN_1, Wp.ixN_2, Wp.itemsT, Wp.tyT, reduceIte, Wp.wFld, Wp.wFSet, Wp.wFAug, Wp.wMeth, Wp.wMake, Wp.rIxA, Wp.rInA, Wp.rSetA, Wp.ixA, Wp.inA, Wp.setA, Wp.lenA, Wp.getD, Option.map_some, Option.bind_some, Option.getD_some,  Wp.gIxA, Wp.wDNew, Wp.wDNewT, Wp.rLenA, Wp.rSortD, Wp.rMaxL, Wp.rPopL, Wp.rGet1, Wp.rGet2, Wp.wGet1, Wp.wGet2, Wp.wPop1, Wp.wPop2, Wp.wDel, Wp.isDT, Wp.keyT, Wp.keysT, Wp.keysL, Wp.ex_ins, Wp.ex_dct, Wp.wKGet, Wp.wKIx, Wp.rLenK, Wp.iZipK, Wp.wDisp, Wp.wPCons, Wp.wPNil, Wp.rGt, Int.cast_ofNat_Int, Int.reduceBEq, Wp.wRev, Wp.rRev, Wp.rMulA, lk_Table__rows, pt_Table__rows, no_Table_take, no_Table_rows, no_Table_birth, no_Table_forget, ln_Table, mk_Table, lk_Mux__number, pt_Mux__number, lk_Mux__table, pt_Mux__table, no_Mux_receive, no_Mux_forget, no_Mux_rows, no_Mux__pass_on, ln_Mux, mk_Mux, Wp.wRev, Wp.rRev])
local macro_rules | `(tactic| walk_at "r0") => `(tactic| repeat (first | walk_at "w0" | walk_at "go"))
variable {K : PySem.W.Frag} {C_Table C_Mux : Addr}
theorem pk_form {v : T} (h : isPk v = true) : ∃ w a r, v = .tup (.str w :: a :: r) ∧ isPr a = true := by
  match v, h with
  | .tup [.str w, a], h => simp only [isPk, Bool.and_eq_true] at h; exact ⟨w, a, _, rfl, h.2⟩
  | .tup [.str w, a, b], h => simp only [isPk, Bool.and_eq_true] at h; exact ⟨w, a, _, rfl, h.2.1⟩
  | .tup [.str w, a, b, c, d, e, f], h => simp only [isPk, Bool.and_eq_true] at h; exact ⟨w, a, _, rfl, h.2.1⟩
theorem pr_form {v : T} (h : isPr v = true) : ∃ a b : Int, v = .tup [.int a, .int b] ∧ (0 ≤ a ∧ a ≤ 5) ∧ 1 ≤ b ∧ b ≤ 1000000 := by
  match v, h with
  | .tup [a, b], h =>
    simp only [isPr, Bool.and_eq_true] at h
    obtain ⟨h1, h2⟩ := h
    cases a with
    | int i =>
      cases b with
      | int j =>
        simp only [isI, Bool.and_eq_true, decide_eq_true_eq] at h1 h2
        exact ⟨i, j, rfl, h1, h2⟩
      | _ => cases h2
    | _ => cases h1
theorem isI_form {v : T} {a b : Int} (h : isI v a b = true) : ∃ i, v = .int i ∧ a ≤ i ∧ i ≤ b := by
  cases v with
  | int i => simp only [isI, Bool.and_eq_true, decide_eq_true_eq] at h; exact ⟨i, rfl, h⟩
  | _ => cases h
theorem isUp_pk {v : T} (h : isUp v = true) : isPk v = true := by
  match v, h with
  | .tup (.str w :: r), h => simp only [isUp, Bool.and_eq_true] at h; exact h.1
def spUp : WSp := fun ts S Q _ => match ts with
  | [v] => Kn S v ∧ Q (.bl (isUp v)) S
  | _ => False
theorem hw_packet_up : ∀ ts S Q E, ts.length = 1 → spUp ts S Q E → b__is_packet_up K C_Table C_Mux spPk spGo { nx := fun _ S' => Q .non S', rt := Q } (Wp.startT N__is_packet_up ts) S := by
  intro ts S Q E _ h
  match ts, h with
  | [v], ⟨kv, h⟩ =>
    unfold b__is_packet_up N__is_packet_up
    walk_at "r2"
    refine ⟨kv, ?_⟩
    show wif (isPk v) _ _
    refine if_bool (fun e => ?_) (fun e => ?_)
    · obtain ⟨w, a, r, rfl, _⟩ := pk_form e
      simp only [isUp, e, Bool.true_and] at h
      exact h
    · have : isUp v = false := by
        cases hu : isUp v with
        | false => rfl
        | true => rw [isUp_pk hu] at e; cases e
      rw [this] at h
      exact h
def spBk : WSp := fun ts S Q _ => match ts with
  | [.tup [.int a, .int b]] => Q (.int ((5 * b + 7 * a) % 16)) S
  | _ => False
theorem hw_bucket_of : ∀ ts S Q E, ts.length = 1 → spBk ts S Q E → b_bucket_of K C_Table C_Mux { nx := fun _ S' => Q .non S', rt := Q } (Wp.startT N_bucket_of ts) S := by
  intro ts S Q E _ h
  match ts, h with
  | [.tup [.int a, .int b]], h =>
    unfold b_bucket_of N_bucket_of
    walk_at "r2"
    exact h
/-! ### messages -/
def intOf : T → Int
  | .int i => i
  | _ => 0
def bkOf : T → Int
  | .tup (_ :: .tup [.int a, .int b] :: _) => (5 * b + 7 * a) % 16
  | _ => 0
def isWrap : T → Bool
  | .tup [.str w, b, h, p] => decide (w = "wrap") && (isI b 0 15 && (isI h 0 8 && (isUp p && (intOf b == bkOf p))))
  | _ => false
def look : List (Str × List Ki) → Str → Option (List Ki)
  | [], _ => none
  | (z, ks) :: r, w => if z = w then some ks else look r w
def tblP (t : List (Str × List Ki)) : T → Bool
  | .tup (.str w :: ps) => match look t w with
    | some ks => allP okK ks ps
    | none => false
  | _ => false
def tA : List (Str × List Ki) := [("grant", [.n, .b, .k, .c, .d]), ("granted", [.b, .b, .k, .c]), ("hand", [.b, .b, .f, .l, .c, .v]), ("handed", [.b, .b, .f, .l, .c]), ("moved", [.b, .f, .l, .c, .b]), ("ended", [.b, .f, .l, .c]), ("noted", [.b, .f, .l, .c]), ("births", [.s]), ("stop", [.k, .c, .s]), ("give", [.b, .k, .c, .b]), ("known", [.b, .k, .c]), ("push", [.b, .c, .c, .b]), ("table", [.t])]
def tC : List (Str × List Ki) := [("born", [.b]), ("report", [.b, .k, .c, .r]), ("owns", [.b, .k, .c]), ("pushed", [.b, .c]), ("held", [.b, .c])]
def tM : List (Str × List Ki) := [("table", [.t])]
def toTbl (t : List (Str × List Ki)) : List (Str × List Str) := t.map fun x => (x.1, x.2.map kn)
theorem tbl_A : tbl_TO_AGENT = toTbl tA := rfl
theorem tbl_C : tbl_TO_CONTROLLER = toTbl tC := rfl
theorem tbl_M : tbl_TO_MUX = toTbl tM := rfl
theorem get_look : ∀ (t : List (Str × List Ki)) (w : Str), tblGet (toTbl t) w = (look t w).map (List.map kn)
  | [], _ => rfl
  | (z, ks) :: r, w => by
    show (if z = w then some (ks.map kn) else tblGet (toTbl r) w) = ((if z = w then some ks else look r w)).map (List.map kn)
    rw [get_look r w]
    by_cases e : z = w
    · rw [if_pos e, if_pos e]; rfl
    · rw [if_neg e, if_neg e]
theorem look_mem : ∀ {t : List (Str × List Ki)} {w : Str} {ks : List Ki}, look t w = some ks → (w, ks) ∈ t
  | (z, ls) :: r, w, ks, h => by
    unfold look at h
    by_cases e : z = w
    · rw [if_pos e] at h; cases h; rw [e]; exact List.mem_cons_self
    · rw [if_neg e] at h; exact List.mem_cons_of_mem _ (look_mem h)
def spHas (K : PySem.W.Frag) : WSp := fun ts S Q _ => match ts with
  | [.non, v] => Q (.bl false) S
  | [.ref a, .tup (t :: ps)] => ∃ ks : List Ki, KTup K a (ks.map kn) ∧ (∀ k ∈ ks, C1 k = true) ∧ (∀ p ∈ ps, Kn S p) ∧ ps.length ≤ 1000 ∧ Q (.bl (allP okK ks ps)) S
  | _ => False
theorem hw_has_parts : ∀ ts S Q E, ts.length = 2 → spHas K ts S Q E → b__has_parts K C_Table C_Mux (spParts K okK C1) { nx := fun _ S' => Q .non S', rt := Q } (Wp.startT N__has_parts ts) S := by
  intro ts S Q E _ h
  unfold b__has_parts N__has_parts
  match ts, h with
  | [.non, v], h =>
    simp only [spHas] at h
    walk_at "r2"
  | [.ref a, .tup (t :: ps)], ⟨ks, kt, hc, hp, hl, h⟩ =>
    walk_at "r0"
    rw [cut1]
    exact ⟨ks, kt, hc, hp, hl, h⟩
theorem fw_str {v : T} {w : Str} (h : fw v = .str w) : ∃ r, v = .tup (.str w :: r) := by
  cases v with
  | tup xs =>
    cases xs with
    | nil => cases h
    | cons a r =>
      cases a with
      | str x => cases h; exact ⟨r, rfl⟩
      | _ => cases h
  | _ => cases h
theorem fw_cases (v : T) : fw v = .non ∨ ∃ w r, v = .tup (.str w :: r) := by
  cases v with
  | tup xs =>
    cases xs with
    | nil => exact .inl rfl
    | cons a r =>
      cases a with
      | str x => exact .inr ⟨x, r, rfl⟩
      | _ => exact .inl rfl
  | _ => exact .inl rfl
theorem tbl_call (t : List (Str × List Ki)) (hC : ∀ x ∈ t, ∀ k ∈ x.2, C1 k = true) (v : T) (S : Sta) (kv : Kn S v) (Q : T → Sta → Prop) (h : Q (.bl (tblP t v)) S) :
    (match fw v with
      | .str z => (match tblGet (toTbl t) z with
        | none => spHas K [.non, v] S Q fun _ _ => False
        | some zs => ∀ a, KTup K a zs → spHas K [.ref a, v] S Q fun _ _ => False)
      | .non => spHas K [.non, v] S Q fun _ _ => False
      | _ => False) := by
  rcases fw_cases v with e | ⟨w, r, rfl⟩
  · have hz : tblP t v = false := by
      cases v with
      | tup xs =>
        cases xs with
        | nil => rfl
        | cons a r =>
          cases a with
          | str x => cases e
          | _ => rfl
      | _ => rfl
    rw [hz] at h
    rw [e]
    exact h
  · simp only [tblP] at h
    simp only [fw]
    rw [get_look]
    cases hl : look t w with
    | none =>
      rw [hl] at h
      exact h
    | some ks =>
      rw [hl] at h
      show ∀ a, KTup K a (ks.map kn) → _
      intro a ka
      have kn0 := kv
      cases kv with
      | tup _ hlen hk =>
        refine ⟨ks, ka, hC _ (look_mem hl), fun p hp => hk p (List.mem_cons_of_mem _ hp), ?_, h⟩
        rw [List.length_cons] at hlen
        omega
inductive Ad where
  | agent (n : Int) | ctl | mux (n : Int) | client (n : Int)
def adT : Ad → T
  | .agent n => .tup [.str "agent", .int n]
  | .ctl => .tup [.str "controller"]
  | .mux n => .tup [.str "mux", .int n]
  | .client n => .tup [.str "client", .int n]
def flowC : T → Int
  | .tup (_ :: .tup [.int a, _] :: _) => a
  | _ => -1
def isMsg : Ad → T → Bool
  | .client n, v => isPk v && (!isUp v && (flowC v == n))
  | .mux _, v => isUp v || tblP tM v
  | .agent _, v => isWrap v || tblP tA v
  | .ctl, v => tblP tC v
def spWr : WSp := fun ts S Q _ => match ts with
  | [v] => Kn S v ∧ Q (.bl (isWrap v)) S
  | _ => False
theorem wrap_no {v : T} (h : ¬ ∃ w b c d, v = .tup [.str w, b, c, d]) : isWrap v = false := by
  cases hw : isWrap v with
  | false => rfl
  | true =>
    match v, hw with
    | .tup [.str w, b, c, d], _ => exact absurd ⟨w, b, c, d, rfl⟩ h
theorem hw_is_wrap : ∀ ts S Q E, ts.length = 1 → spWr ts S Q E → b__is_wrap K C_Table C_Mux spFw (spPart okK C1) spIsI spUp spBk { nx := fun _ S' => Q .non S', rt := Q } (Wp.startT N__is_wrap ts) S := by
  intro ts S Q E _ h
  match ts, h with
  | [v], ⟨kv, h⟩ =>
    unfold b__is_wrap N__is_wrap
    walk_at "r0"
    refine ⟨kv, ?_⟩
    rcases fw_cases v with e | ⟨w, r, rfl⟩
    · rw [wrap_no (fun ⟨w, b, c, d, e2⟩ => by rw [e2] at e; cases e)] at h
      rw [e]
      refine rEq_scal rfl (by decide +kernel) ?_
      rw [show (true != eqF .non (.str "wrap")) = true from rfl]
      walk_at "r0"
      exact h
    · have hs : PyData.strOk w = true := by
        cases kv.items _ List.mem_cons_self with
        | str _ z _ => exact z
      simp only [fw]
      refine rEqL hs (by decide +kernel) (b := !decide (w = "wrap")) (by rw [Bool.true_bne]; congr 1) ?_
      walk_at "r0"
      refine if_bool (fun e => ?_) (fun e => ?_)
      · have hz : isWrap (.tup (.str w :: r)) = false := by
          cases hw : isWrap (.tup (.str w :: r)) with
          | false => rfl
          | true =>
            match r, hw with
            | [b, c, d], hw =>
              simp only [isWrap, Bool.and_eq_true] at hw
              rw [hw.1] at e
              cases e
        rw [hz] at h
        exact h
      · have ew : decide (w = "wrap") = true := by simpa using e
        by_cases hl : r.length = 3
        · obtain ⟨b, c, d, rfl⟩ : ∃ b c d, r = [b, c, d] := by
            match r, hl with
            | [b, c, d], _ => exact ⟨b, c, d, rfl⟩
          have hk := kv.items
          simp only [isWrap, ew, Bool.true_and] at h
          clear e hl
          walk_at "r0"
          refine ⟨.k, rfl, rfl, hk b (by simp), ?_⟩
          show wif (!isI b 0 15) _ _
          refine if_bool (fun e1 => ?_) (fun e1 => ?_)
          · have e2 : isI b 0 15 = false := by simpa using e1
            rw [e2, Bool.false_and] at h
            walk_at "r0"
            exact h
          have e2 : isI b 0 15 = true := by simpa using e1
          obtain ⟨bi, rfl, hb1, hb2⟩ := isI_form e2
          rw [e2, Bool.true_and] at h
          walk_at "r0"
          refine ⟨hk c (by simp), ?_⟩
          show wif (!isI c 0 8) _ _
          refine if_bool (fun e3 => ?_) (fun e3 => ?_)
          · have e4 : isI c 0 8 = false := by simpa using e3
            rw [e4, Bool.false_and] at h
            walk_at "r0"
            exact h
          have e4 : isI c 0 8 = true := by simpa using e3
          rw [e4, Bool.true_and] at h
          walk_at "r0"
          refine ⟨hk d (by simp), ?_⟩
          show wif (isUp d) _ _
          refine if_bool (fun e5 => ?_) (fun e5 => ?_)
          · rw [e5, Bool.true_and] at h
            obtain ⟨w2, a, r2, rfl, hpr⟩ := pk_form (isUp_pk e5)
            obtain ⟨i, j, rfl, _, _⟩ := pr_form hpr
            simp only [intOf, bkOf] at h
            walk_at "r0"
            show Wp.rEq false (.int bi) (.int ((5 * j + 7 * i) % 16)) S Q
            rw [rEq_int, Bool.false_bne]
            exact h
          · rw [e5, Bool.false_and] at h
            exact h
        · have hz : isWrap (.tup (.str w :: r)) = false := wrap_no (fun ⟨w2, b, c, d, e2⟩ => hl (by cases e2; rfl))
          rw [hz] at h
          walk_at "r0"
          rw [show ((((r.length + 1 : Nat) : Int)) == 4) = false by rw [beq_eq_false_iff_ne]; omega]
          walk_at "r0"
          exact h
def spMsg : WSp := fun ts S Q _ => match ts with
  | [a, v] => ∃ A : Ad, a = adT A ∧ Kn S v ∧ Q (.bl (isMsg A v)) S
  | _ => False
theorem cA : ∀ x ∈ tA, ∀ k ∈ x.2, C1 k = true := by decide +kernel
theorem cC : ∀ x ∈ tC, ∀ k ∈ x.2, C1 k = true := by decide +kernel
theorem cM : ∀ x ∈ tM, ∀ k ∈ x.2, C1 k = true := by decide +kernel
theorem hw_is_message : ∀ ts S Q E, ts.length = 2 → spMsg ts S Q E → b_is_message K C_Table C_Mux spFw spPk spGo spUp (spHas K) spWr { nx := fun _ S' => Q .non S', rt := Q } (Wp.startT N_is_message ts) S := by
  intro ts S Q E _ h
  match ts, h with
  | [a, v], ⟨A, e, kv, h⟩ =>
    subst e
    unfold b_is_message N_is_message
    rw [tbl_A, tbl_C, tbl_M]
    cases A with
    | client n =>
      simp only [adT, isMsg] at h ⊢
      walk_at "r0"
      refine ⟨kv, ?_⟩
      walk_at "r0"
      refine rEqL (by decide +kernel) (by decide +kernel) (b := true) (by decide +kernel) ?_
      walk_at "r0"
      refine ⟨kv, ?_⟩
      show wif (isPk v) _ _
      refine if_bool (fun e => ?_) (fun e => ?_)
      · obtain ⟨w, a, r, rfl, hpr⟩ := pk_form e
        obtain ⟨i, j, rfl, _, _⟩ := pr_form hpr
        rw [e, Bool.true_and] at h
        simp only [isUp, e, Bool.true_and, flowC] at h
        walk_at "r0"
        show wif (!up3 w) _ _
        refine if_bool (fun e2 => ?_) (fun e2 => ?_)
        · rw [e2, Bool.true_and] at h
          walk_at "r0"
          exact h
        · rw [e2, Bool.false_and] at h
          exact h
      · rw [e, Bool.false_and] at h
        exact h
    | mux n =>
      simp only [adT, isMsg] at h ⊢
      walk_at "r0"
      refine ⟨kv, ?_⟩
      walk_at "r0"
      refine rEqL (by decide +kernel) (by decide +kernel) (b := false) (by decide +kernel) ?_
      walk_at "r0"
      refine rEqL (by decide +kernel) (by decide +kernel) (b := true) (by decide +kernel) ?_
      refine wif_t ⟨kv, ?_⟩
      show wif (isUp v) _ _
      refine if_bool (fun e => ?_) (fun e => ?_)
      · rw [e, Bool.true_or] at h
        exact h
      · rw [e, Bool.false_or] at h
        exact tbl_call tM cM v S kv Q h
    | agent n =>
      simp only [adT, isMsg] at h ⊢
      walk_at "r0"
      refine ⟨kv, ?_⟩
      walk_at "r0"
      refine rEqL (by decide +kernel) (by decide +kernel) (b := false) (by decide +kernel) ?_
      walk_at "r0"
      refine rEqL (by decide +kernel) (by decide +kernel) (b := false) (by decide +kernel) ?_
      walk_at "r0"
      refine rEqL (by decide +kernel) (by decide +kernel) (b := true) (by decide +kernel) ?_
      refine wif_t ⟨kv, ?_⟩
      show wif (isWrap v) _ _
      refine if_bool (fun e => ?_) (fun e => ?_)
      · rw [e, Bool.true_or] at h
        exact h
      · rw [e, Bool.false_or] at h
        exact tbl_call tA cA v S kv Q h
    | ctl =>
      simp only [adT, isMsg] at h ⊢
      walk_at "r0"
      refine ⟨kv, ?_⟩
      walk_at "r0"
      refine rEqL (by decide +kernel) (by decide +kernel) (b := false) (by decide +kernel) ?_
      walk_at "r0"
      refine rEqL (by decide +kernel) (by decide +kernel) (b := false) (by decide +kernel) ?_
      walk_at "r0"
      refine rEqL (by decide +kernel) (by decide +kernel) (b := false) (by decide +kernel) ?_
      refine wif_f ?_
      walk_at "r0"
      exact tbl_call tC cC v S kv Q h
end My

set_option Elab.async false
set_option linter.all false
set_option maxRecDepth 100000
set_option maxHeartbeats 8000000
namespace My
open PySem PySem.Spec PyProof.Rows L2 Wp Gn
local macro_rules | `(tactic| walk_at "go") => `(tactic| (with_reducible refine goS_i ?_))
local macro_rules | `(tactic| walk_at "wp") => `(tactic| simp (disch := omega) only [Wp.wSeq, Wp.wNext, Wp.wSet, Wp.wVar, Wp.wC, Wp.wOp, Wp.wRet, Wp.wIfS, Wp.wTest, Wp.wCall, Wp.wCons, Wp.wNil, Wp.wTup, Wp.wLst, Wp.wAsg, Wp.gTp, Wp.gC, Wp.gNm, Wp.gN0, Wp.gIx, Wp.rSet, Wp.rAdd, Wp.rMul, Wp.rMod, Wp.rSub, Wp.rFdiv, Wp.rPow, Wp.rInt, Wp.rIx, Wp.rLt, Wp.rLe, Wp.rCmp, Wp.rGeI, Wp.rGtI, Wp.wCB, Wp.rLen, Wp.rLen1, Wp.rInt1, Wp.rMax2, Wp.rMin2, Wp.rTupOf, Wp.rListOf,
  Wp.wIsi, Wp.rBIs, Wp.rIsN, Wp.isNon, Wp.wMt, Wp.rAppendT, Wp.rExtendT, Wp.rReverseT, Wp.wNot, Wp.wOr, Wp.wAnd, Wp.wAndV, Wp.wOrV, Wp.wNotV, Wp.wFor, Wp.iRg1, Wp.iRg2, Wp.iAnyW, Wp.wAll, Wp.wChain, Wp.wSl, Wp.wNoPart, Wp.wPart, Wp.rSl, Wp.wNeg, Wp.rNeg, Wp.wLc, Wp.wYes, Wp.wDrop, Wp.wipeT, Wp.wAug, List.map, List.set_cons_zero, List.set_cons_succ, List.getElem?_cons_zero, List.getElem?_cons_succ, List.length_cons, List.length_nil, List.cons_append, List.nil_append, List.replicate, Wp.startT,
  true_and, and_true, Wp.wif_true, Wp.wif_false, Wp.ex_some, Wp.ex_some1, Wp.ex_eq, Wp.ex_lst, Wp.ex_lst0, Wp.rEq_int, Bool.false_bne, Bool.true_bne, Int.reduceLT, Int.reduceLE, Int.reduceAdd, Nat.reduceAdd, Nat.reduceSub, eq_self, ite_true, ite_false, beq_self_eq_true, Bool.not_true, Bool.not_false, Wp.isB_0, Wp.isB_1, Wp.isB_2, Wp.isB_3, Wp.isB_4, Wp.isB_5, Wp.isB_6, Wp.isB_7, Wp.isB_8, Wp.isB_9, Wp.isB_10, Wp.isB_11, Wp.isB_12, Wp.isB_13, Wp.isB_14, Wp.isB_15, Wp.isB_16, Wp.isB_17, Wp.isB_18, Wp.isB_19, Wp.isB_20, Wp.isB_21, Wp.isB_22, Wp.isB_23, Wp.isB_24, Wp.isB_25, Wp.isB_26, Wp.isB_27, Wp.isB_28, Wp.isB_29, Wp.isB_30, Wp.isB_31, Wp.isB_32, Wp.isB_33, Wp.isB_34, Wp.isB_35, Wp.cmul_l, Wp.cmul_r, Wp.cpow_lit, Wp.size_le, Wp.size_lt, Wp.atI_0, Wp.atI_1, Wp.atI_2, Wp.atI_3, Wp.atI_4, Wp.atI_5, Wp.atI_6, Wp.ixN_0, Wp.ixN_1, Wp.ixN_2, Wp.itemsT, Wp.tyT, reduceIte, Wp.wFld, Wp.wFSet, Wp.wFAug, Wp.wMeth, Wp.wMake, Wp.rIxA, Wp.rInA, Wp.rSetA, Wp.ixA, Wp.inA, Wp.setA, Wp.lenA, Wp.getD, Option.map_some, Option.bind_some, Option.getD_some,  Wp.gIxA, Wp.wDNew, Wp.wDNewT, Wp.rLenA, Wp.rSortD, Wp.rMaxL, Wp.rPopL, Wp.rGet1, Wp.rGet2, Wp.wGet1, Wp.wGet2, Wp.wPop1, Wp.wPop2, Wp.wDel, Wp.isDT, Wp.keyT, Wp.keysT, Wp.keysL, Wp.ex_ins, Wp.ex_dct, Wp.wKGet, Wp.wKIx, Wp.rLenK, Wp.iZipK, Wp.wDisp, Wp.wPCons, Wp.wPNil, Wp.rGt, Int.cast_ofNat_Int, Int.reduceBEq, Wp.wRev, Wp.rRev, Wp.rMulA, lk_Table__rows, pt_Table__rows, no_Table_take, no_Table_rows, no_Table_birth, no_Table_forget, ln_Table, mk_Table, lk_Mux__number, pt_Mux__number, lk_Mux__table, pt_Mux__table, no_Mux_receive, no_Mux_forget, no_Mux_rows, no_Mux__pass_on, ln_Mux, mk_Mux, Wp.wRev, Wp.rRev, Wp.upS, Wp.upS_upS, *])
local macro_rules | `(tactic| walk_at "run") => `(tactic| repeat (first | walk_at "wp" | walk_at "go"))
local macro_rules | `(tactic| walk_at "wq") => `(tactic| simp (disch := omega) only [Wp.wSeq, Wp.wNext, Wp.wSet, Wp.wVar, Wp.wC, Wp.wOp, Wp.wRet, Wp.wIfS, Wp.wTest, Wp.wCall, Wp.wCons, Wp.wNil, Wp.wTup, Wp.wLst, Wp.wAsg, Wp.gTp, Wp.gC, Wp.gNm, Wp.gN0, Wp.gIx, Wp.rSet, Wp.rAdd, Wp.rMul, Wp.rMod, Wp.rSub, Wp.rFdiv, Wp.rPow, Wp.rInt, Wp.rIx, Wp.rLt, Wp.rLe, Wp.rCmp, Wp.rGeI, Wp.rGtI, Wp.wCB, Wp.rLen, Wp.rLen1, Wp.rInt1, Wp.rMax2, Wp.rMin2, Wp.rTupOf, Wp.rListOf,
  Wp.wIsi, Wp.rBIs, Wp.rIsN, Wp.isNon, Wp.wMt, Wp.rAppendT, Wp.rExtendT, Wp.rReverseT, Wp.wNot, Wp.wOr, Wp.wAnd, Wp.wAndV, Wp.wOrV, Wp.wNotV, Wp.wFor, Wp.iRg1, Wp.iRg2, Wp.iAnyW, Wp.wAll, Wp.wChain, Wp.wSl, Wp.wNoPart, Wp.wPart, Wp.rSl, Wp.wNeg, Wp.rNeg, Wp.wLc, Wp.wYes, Wp.wDrop, Wp.wipeT, Wp.wAug, List.map, List.set_cons_zero, List.set_cons_succ, List.getElem?_cons_zero, List.getElem?_cons_succ, List.length_cons, List.length_nil, List.cons_append, List.nil_append, List.replicate, Wp.startT,
  true_and, and_true, Wp.wif_true, Wp.wif_false, Wp.ex_some, Wp.ex_some1, Wp.ex_eq, Wp.ex_lst, Wp.ex_lst0, Wp.rEq_int, Bool.false_bne, Bool.true_bne, Int.reduceLT, Int.reduceLE, Int.reduceAdd, Nat.reduceAdd, Nat.reduceSub, eq_self, ite_true, ite_false, beq_self_eq_true, Bool.not_true, Bool.not_false, Wp.isB_0, Wp.isB_1, Wp.isB_2, Wp.isB_3, Wp.isB_4, Wp.isB_5, Wp.isB_6, Wp.isB_7, Wp.isB_8, Wp.isB_9, Wp.isB_10, Wp.isB_11, Wp.isB_12, Wp.isB_13, Wp.isB_14, Wp.isB_15, Wp.isB_16, Wp.isB_17, Wp.isB_18, Wp.isB_19, Wp.isB_20, Wp.isB_21, Wp.isB_22, Wp.isB_23, Wp.isB_24, Wp.isB_25, Wp.isB_26, Wp.isB_27, Wp.isB_28, Wp.isB_29, Wp.isB_30, Wp.isB_31, Wp.isB_32, Wp.isB_33, Wp.isB_34, Wp.isB_35, Wp.cmul_l, Wp.cmul_r, Wp.cpow_lit, Wp.size_le, Wp.size_lt, Wp.atI_0, Wp.atI_1, Wp.atI_2, Wp.atI_3, Wp.atI_4, Wp.atI_5, Wp.atI_6, Wp.ixN_0, Wp.ixN_1, Wp.ixN_2, Wp.itemsT, Wp.tyT, reduceIte, Wp.wFld, Wp.wFSet, Wp.wFAug, Wp.wMeth, Wp.wMake, Wp.rIxA, Wp.rInA, Wp.rSetA, Wp.ixA, Wp.inA, Wp.setA, Wp.lenA, Wp.getD, Option.map_some, Option.bind_some, Option.getD_some,  Wp.gIxA, Wp.wDNew, Wp.wDNewT, Wp.rLenA, Wp.rSortD, Wp.rMaxL, Wp.rPopL, Wp.rGet1, Wp.rGet2, Wp.wGet1, Wp.wGet2, Wp.wPop1, Wp.wPop2, Wp.wDel, Wp.isDT, Wp.keyT, Wp.keysT, Wp.keysL, Wp.ex_ins, Wp.ex_dct, Wp.wKGet, Wp.wKIx, Wp.rLenK, Wp.iZipK, Wp.wDisp, Wp.wPCons, Wp.wPNil, Wp.rGt, Int.cast_ofNat_Int, Int.reduceBEq, Wp.wRev, Wp.rRev, Wp.rMulA, lk_Table__rows, pt_Table__rows, no_Table_take, no_Table_rows, no_Table_birth, no_Table_forget, ln_Table, mk_Table, lk_Mux__number, pt_Mux__number, lk_Mux__table, pt_Mux__table, no_Mux_receive, no_Mux_forget, no_Mux_rows, no_Mux__pass_on, ln_Mux, mk_Mux, Wp.wRev, Wp.rRev, *])
local macro_rules | `(tactic| walk_at "r2") => `(tactic| repeat (first | walk_at "wq" | walk_at "go"))
local macro_rules | `(tactic| walk_at "w0") => `(tactic| simp (disch := omega) only [Wp.wSeq, Wp.wNext, Wp.wSet, Wp.wVar, Wp.wC, Wp.wOp, Wp.wRet, Wp.wIfS, Wp.wTest, Wp.wCall, Wp.wCons, Wp.wNil, Wp.wTup, Wp.wLst, Wp.wAsg, Wp.gTp, Wp.gC, Wp.gNm, Wp.gN0, Wp.gIx, Wp.rSet, Wp.rAdd, Wp.rMul, Wp.rMod, Wp.rSub, Wp.rFdiv, Wp.rPow, Wp.rInt, Wp.rIx, Wp.rLt, Wp.rLe, Wp.rCmp, Wp.rGeI, Wp.rGtI, Wp.wCB, Wp.rLen, Wp.rLen1, Wp.rInt1, Wp.rMax2, Wp.rMin2, Wp.rTupOf, Wp.rListOf,
  Wp.wIsi, Wp.rBIs, Wp.rIsN, Wp.isNon, Wp.wMt, Wp.rAppendT, Wp.rExtendT, Wp.rReverseT, Wp.wNot, Wp.wOr, Wp.wAnd, Wp.wAndV, Wp.wOrV, Wp.wNotV, Wp.wFor, Wp.iRg1, Wp.iRg2, Wp.iAnyW, Wp.wAll, Wp.wChain, Wp.wSl, Wp.wNoPart, Wp.wPart, Wp.rSl, Wp.wNeg, Wp.rNeg, Wp.wLc, Wp.wYes, Wp.wDrop, Wp.wipeT, Wp.wAug, List.map, List.set_cons_zero, List.set_cons_succ, List.getElem?_cons_zero, List.getElem?_cons_succ, List.length_cons, List.length_nil, List.cons_append, List.nil_append, List.replicate, Wp.startT,
  true_and, and_true, Wp.wif_true, Wp.wif_false, Wp.ex_some, Wp.ex_some1, Wp.ex_eq, Wp.ex_lst, Wp.ex_lst0, Wp.rEq_int, Bool.false_bne, Bool.true_bne, Int.reduceLT, Int.reduceLE, Int.reduceAdd, Nat.reduceAdd, Nat.reduceSub, eq_self, ite_true, ite_false, beq_self_eq_true, Bool.not_true, Bool.not_false, Wp.isB_0, Wp.isB_1, Wp.isB_2, Wp.isB_3, Wp.isB_4, Wp.isB_5, Wp.isB_6, Wp.isB_7, Wp.isB_8, Wp.isB_9, Wp.isB_10, Wp.isB_11, Wp.isB_12, Wp.isB_13, Wp.isB_14, Wp.isB_15, Wp.isB_16, Wp.isB_17, Wp.isB_18, Wp.isB_19, Wp.isB_20, Wp.isB_21, Wp.isB_22, Wp.isB_23, Wp.isB_24, Wp.isB_25, Wp.isB_26, Wp.isB_27, Wp.isB_28, Wp.isB_29, Wp.isB_30, Wp.isB_31, Wp.isB_32, Wp.isB_33, Wp.isB_34, Wp.isB_35, Wp.cmul_l, Wp.cmul_r, Wp.cpow_lit, Wp.size_le, Wp.size_lt, Wp.atI_0, Wp.atI_1, Wp.atI_2, Wp.atI_3, Wp.atI_4, Wp.atI_5, Wp.atI_6, Wp.ixN_0, Wp.ixN_1, Wp.ixN_2, Wp.itemsT, Wp.tyT, reduceIte, Wp.wFld, Wp.wFSet, Wp.wFAug, Wp.wMeth, Wp.wMake, Wp.rIxA, Wp.rInA, Wp.rSetA, Wp.ixA, Wp.inA, Wp.setA, Wp.lenA, Wp.getD, Option.map_some, Option.bind_some, Option.getD_some,  Wp.gIxA, Wp.wDNew, Wp.wDNewT, Wp.rLenA, Wp.rSortD, Wp.rMaxL, Wp.rPopL, Wp.rGet1, Wp.rGet2, Wp.wGet1, Wp.wGet2, Wp.wPop1, Wp.wPop2, Wp.wDel, Wp.isDT, Wp.keyT, Wp.keysT, Wp.keysL, Wp.ex_ins, Wp.ex_dct, Wp.wKGet, Wp.wKIx, Wp.rLenK, Wp.iZipK, Wp.wDisp, Wp.wPCons, Wp.wPNil, Wp.rGt, Int.cast_ofNat_Int, Int.reduceBEq, Wp.wRev, Wp.rRev, Wp.rMulA, lk_Table__rows, pt_Table__rows, no_Table_take, no_Table_rows, no_Table_birth, no_Table_forget, ln_Table, mk_Table, lk_Mux__number, pt_Mux__number, lk_Mux__table, pt_Mux__table, no_Mux_receive, no_Mux_forget, no_Mux_rows, no_Mux__pass_on, ln_Mux, mk_Mux, Wp.wRev, Wp.rRev])
local macro_rules | `(tactic| walk_at "r0") => `(tactic| repeat (first | walk_at "w0" | walk_at "go"))
variable {K : PySem.W.Frag} {C_Mux : Addr}
/-! ### rows, and the newest of them -/
structure Row where
  b : Int
  v : Int
  w : T
def Row.t (r : Row) : T := .tup [.int r.b, .int r.v, r.w]
def upd1 (m : Int → Option Row) (r : Row) : Int → Option Row := fun b => if b = r.b then (match m b with
  | none => some r
  | some o => if o.v < r.v then some r else some o) else m b
def best (rs : List Row) : Int → Option Row := rs.foldl upd1 fun _ => none
theorem best_app (rs : List Row) (r : Row) : best (rs ++ [r]) = upd1 (best rs) r := by simp [best]
def rowsOf (rs : List Row) : List Row := (List.range 16).filterMap fun (b : Nat) => best rs b
def inB (rs : List Row) : Prop := ∀ r ∈ rs, 0 ≤ r.b ∧ r.b < 16
/-- a table stands at p, its dict at d, and has taken rs -/
structure TabAt (C : Addr) (S : Sta) (p d : Addr) (rs : List Row) : Prop where
  ob : S p = some (.ins C (F_Table (.ref d)))
  dc : ∃ kvs : List (Key × T), S d = some (.dct kvs) ∧ (∀ b : Int, valT kvs (.inl b) = (best rs b).map Row.t) ∧ (kvs.map (·.1)).Nodup ∧ (∀ k ∈ kvs.map (·.1), ∃ b : Int, k = .inl b ∧ 0 ≤ b ∧ b < 16)
theorem keys16 {ks : List Key} (hn : ks.Nodup) (h : ∀ k ∈ ks, ∃ b : Int, k = .inl b ∧ 0 ≤ b ∧ b < 16) : ks.length ≤ 16 := nodup_keys 16 ks hn h
theorem TabAt.ne {C p d : Addr} {S : Sta} {rs : List Row} (h : TabAt C S p d rs) : p ≠ d := fun e => by
  obtain ⟨kvs, e1, _⟩ := h.dc
  have := h.ob
  rw [e, e1] at this
  cases this
def spInit (C : Addr) : WSp := fun ts S Q _ => match ts with
  | [.ref p] => S p = some (.ins C []) ∧ ∀ d S', S d = none → (∀ a o, S a = some o → a ≠ p → S' a = some o) → TabAt C S' p d [] → Q .non S'
  | _ => False
theorem hw_tinit (C : Addr) : ∀ ts S Q E, ts.length = 1 → spInit C ts S Q E → b_Table_init K C C_Mux { nx := fun _ S' => Q .non S', rt := Q } (Wp.startT N_Table_init ts) S := by
  intro ts S Q E _ h
  match ts, h with
  | [.ref p], ⟨hp, h⟩ =>
    unfold b_Table_init N_Table_init
    walk_at "r0"
    intro d hd
    have hpd : p ≠ d := fun e => by rw [e, hd] at hp; cases hp
    obtain ⟨S1, e1, g1, h1⟩ := al_ (o := .dct []) hd
    rw [e1]
    have hp1 := g1 _ _ hp
    clear hp
    walk_at "r2"
    refine ⟨by decide, ?_⟩
    refine goS_i (h d _ hd (fun a o ea na => ?_) ⟨?_, [], ?_, ?_, ?_, ?_⟩)
    · rw [upS_ne na]; exact g1 _ _ ea
    · rw [upS_same]
    · rw [upS_ne hpd.symm]; exact h1
    · intro b; rfl
    · exact List.nodup_nil
    · intro k hk; cases hk
def spForget (C : Addr) : WSp := fun ts S Q _ => match ts with
  | [.ref p] => ∃ d rs, TabAt C S p d rs ∧ ∀ d' S', S d' = none → (∀ a o, S a = some o → a ≠ p → S' a = some o) → TabAt C S' p d' [] → Q .non S'
  | _ => False
theorem hw_tforget (C : Addr) : ∀ ts S Q E, ts.length = 1 → spForget C ts S Q E → b_Table_forget K C C_Mux { nx := fun _ S' => Q .non S', rt := Q } (Wp.startT N_Table_forget ts) S := by
  intro ts S Q E _ h
  match ts, h with
  | [.ref p], ⟨d0, rs, ht, h⟩ =>
    have hp := ht.ob
    unfold b_Table_forget N_Table_forget
    walk_at "r0"
    intro d hd
    have hpd : p ≠ d := fun e => by rw [e, hd] at hp; cases hp
    obtain ⟨S1, e1, g1, h1⟩ := al_ (o := .dct []) hd
    rw [e1]
    have hp1 := g1 _ _ hp
    clear hp
    walk_at "r2"
    refine ⟨by decide, ?_⟩
    refine goS_i (h d _ hd (fun a o ea na => ?_) ⟨?_, [], ?_, ?_, ?_, ?_⟩)
    · rw [upS_ne na]; exact g1 _ _ ea
    · rw [upS_same]
    · rw [upS_ne hpd.symm]; exact h1
    · intro b; rfl
    · exact List.nodup_nil
    · intro k hk; cases hk
def spBirth (C : Addr) : WSp := fun ts S Q _ => match ts with
  | [.ref p, .int b] => ∃ d rs, TabAt C S p d rs ∧ Q (match best rs b with | none => .non | some r => r.w) S
  | _ => False
theorem hw_tbirth (C : Addr) : ∀ ts S Q E, ts.length = 2 → spBirth C ts S Q E → b_Table_birth K C C_Mux { nx := fun _ S' => Q .non S', rt := Q } (Wp.startT N_Table_birth ts) S := by
  intro ts S Q E _ h
  match ts, h with
  | [.ref p, .int b], ⟨d, rs, ⟨hp, kvs, hd, hv, _⟩, h⟩ =>
    have hvb := hv b
    unfold b_Table_birth N_Table_birth
    cases e : best rs b with
    | none =>
      rw [e] at hvb
      simp only [e] at h
      clear hv
      walk_at "r2"
      try simp only [Option.map_none, Option.isSome_none]
      walk_at "r2"
    | some r =>
      rw [e] at hvb
      simp only [e] at h
      clear hv
      walk_at "r2"
      try simp only [Option.map_some, Option.isSome_some]
      walk_at "r2"
      try simp only [Option.map_some, ex_some1, Row.t]
      walk_at "r2"
def spTake (C : Addr) : WSp := fun ts S Q _ => match ts with
  | [.ref p, .tup us] => ∃ d rs rs', us = rs'.map Row.t ∧ TabAt C S p d rs ∧ inB rs' ∧ ∀ S', (∀ a o, S a = some o → a ≠ d → S' a = some o) → TabAt C S' p d (rs ++ rs') → Q .non S'
  | _ => False
theorem take_step {C p d : Addr} {S : Sta} {rs : List Row} {r : Row} (ht : TabAt C S p d rs) (hr : 0 ≤ r.b ∧ r.b < 16) :
    ∃ kvs, S d = some (.dct kvs) ∧ kvs.length < sizeLine ∧ valT kvs (.inl r.b) = (best rs r.b).map Row.t ∧
      (((best rs r.b).isNone = true ∨ ∃ o, best rs r.b = some o ∧ o.v < r.v) → TabAt C (upS S d (.dct (putT kvs (.inl r.b) r.t))) p d (rs ++ [r])) ∧
      ((∃ o, best rs r.b = some o ∧ ¬ o.v < r.v) → TabAt C S p d (rs ++ [r])) := by
  obtain ⟨kvs, hd, hv, hn, hk⟩ := ht.dc
  have hl := keys16 hn hk
  rw [List.length_map] at hl
  refine ⟨kvs, hd, lt_sz (by omega), hv _, fun hc => ⟨by rw [upS_ne ht.ne]; exact ht.ob, _, upS_same, fun b => ?_, nodup_putT hn, fun k hkm => ?_⟩, fun hc => ⟨ht.ob, kvs, hd, fun b => ?_, hn, hk⟩⟩
  · rw [valT_put, best_app, upd1]
    by_cases hb : b = r.b
    · subst hb
      rw [if_pos rfl, if_pos rfl]
      rcases hc with h | ⟨o, h, hlt⟩
      · rw [Option.isNone_iff_eq_none.mp h]; rfl
      · simp only [h, if_pos hlt]; rfl
    · rw [if_neg (fun e => hb (Sum.inl.inj e)), if_neg hb]
      exact hv b
  · rw [keys_putT] at hkm
    split at hkm
    · exact hk k hkm
    · rcases List.mem_append.mp hkm with h | h
      · exact hk k h
      · rw [List.mem_singleton.mp h]; exact ⟨r.b, rfl, hr.1, hr.2⟩
  · rw [best_app, upd1]
    by_cases hb : b = r.b
    · subst hb
      obtain ⟨o, h, hlt⟩ := hc
      rw [if_pos rfl]
      simp only [h, if_neg hlt]
      rw [hv, h]
    · rw [if_neg hb]; exact hv b
theorem hw_take (C : Addr) : ∀ ts S Q E, ts.length = 2 → spTake C ts S Q E → b_Table_take K C C_Mux { nx := fun _ S' => Q .non S', rt := Q } (Wp.startT N_Table_take ts) S := by
  intro ts S Q E _ h
  match ts, h with
  | [.ref p, .tup us], ⟨d, rs, rs', e, ht, hin, h⟩ =>
    subst e
    unfold b_Table_take N_Table_take
    walk_at "r0"
    refine loop_inv (fun i σ S' => ∃ x2 x3 x4 x5, σ = [some (.ref p), some (.tup (rs'.map Row.t)), x2, x3, x4, x5] ∧ (∀ a o, S a = some o → a ≠ d → S' a = some o) ∧ TabAt C S' p d (rs ++ rs'.take i)) ⟨_, _, _, _, rfl, fun _ _ e _ => e, by simpa using ht⟩ (fun _ _ _ _ => trivial) (fun i x σ S' LP hx hI nx => ?_) (fun σ S' hI => ?_)
    · obtain ⟨x2, x3, x4, x5, rfl, g, ht'⟩ := hI
      have nx := fun x2 x3 x4 x5 S' g ht => nx _ S' ⟨x2, x3, x4, x5, rfl, g, ht⟩
      obtain ⟨r, hr, rfl⟩ := map_at hx
      have hr2 := hin r (List.mem_of_getElem? hr)
      have et : rs ++ rs'.take (i + 1) = (rs ++ rs'.take i) ++ [r] := by rw [List.take_succ, hr, ← List.append_assoc]; rfl
      rw [et] at nx
      obtain ⟨kvs, hd, hl, hv, h1, h2⟩ := take_step ht' hr2
      have hp := ht'.ob
      unfold l1_Table_take
      rw [show r.t = .tup [.int r.b, .int r.v, r.w] from rfl]
      have fin : TabAt C (upS S' d (.dct (putT kvs (.inl r.b) r.t))) p d ((rs ++ rs'.take i) ++ [r]) → LP [some (.ref p), some (.tup (rs'.map Row.t)), some r.t, some (.int r.b), some (.int r.v), some r.w] (upS S' d (.dct (putT kvs (.inl r.b) r.t))) := fun ht2 => nx _ _ _ _ _ (fun a o ea na => by rw [upS_ne na]; exact g a o ea na) ht2
      cases e : best (rs ++ rs'.take i) r.b with
      | none =>
        have fin := fin (h1 (.inl (by rw [e]; rfl)))
        rw [e] at hv
        clear h h1 h2 nx ht ht'
        walk_at "r2"
        try simp only [Option.map_none, Option.isSome_none]
        walk_at "r2"
        try simp only [if_pos hl]
        walk_at "r2"
        exact fin
      | some o =>
        rw [e] at hv
        have fin := fun hlt => fin (h1 (.inr ⟨o, e, hlt⟩))
        have nx := fun hlt a b c f => nx a b c f _ g (h2 ⟨o, e, hlt⟩)
        clear h h1 h2 ht ht'
        walk_at "r2"
        try simp only [Option.map_some, Option.isSome_some]
        walk_at "r2"
        try simp only [Option.map_some, ex_some1, Row.t]
        walk_at "r2"
        refine if_dec (fun hlt => ?_) (fun hlt => ?_)
        · have fin := fin hlt
          walk_at "r2"
          try simp only [if_pos hl]
          walk_at "r2"
          exact fin
        · walk_at "r0"
          exact nx hlt _ _ _ _
    · obtain ⟨x2, x3, x4, x5, rfl, g, ht'⟩ := hI
      rw [List.length_map, List.take_length] at ht'
      exact h S' g ht'
end My

set_option Elab.async false
set_option linter.all false
set_option maxRecDepth 100000
set_option maxHeartbeats 8000000
namespace My
open PySem PySem.Spec PyProof.Rows L2 Wp Gn
local macro_rules | `(tactic| walk_at "go") => `(tactic| (with_reducible refine goS_i ?_))
local macro_rules | `(tactic| walk_at "wp") => `(tactic| simp (disch := omega) only [Wp.wSeq, Wp.wNext, Wp.wSet, Wp.wVar, Wp.wC, Wp.wOp, Wp.wRet, Wp.wIfS, Wp.wTest, Wp.wCall, Wp.wCons, Wp.wNil, Wp.wTup, Wp.wLst, Wp.wAsg, Wp.gTp, Wp.gC, Wp.gNm, Wp.gN0, Wp.gIx, Wp.rSet, Wp.rAdd, Wp.rMul, Wp.rMod, Wp.rSub, Wp.rFdiv, Wp.rPow, Wp.rInt, Wp.rIx, Wp.rLt, Wp.rLe, Wp.rCmp, Wp.rGeI, Wp.rGtI, Wp.wCB, Wp.rLen, Wp.rLen1, Wp.rInt1, Wp.rMax2, Wp.rMin2, Wp.rTupOf, Wp.rListOf,
  Wp.wIsi, Wp.rBIs, Wp.rIsN, Wp.isNon, Wp.wMt, Wp.rAppendT, Wp.rExtendT, Wp.rReverseT, Wp.wNot, Wp.wOr, Wp.wAnd, Wp.wAndV, Wp.wOrV, Wp.wNotV, Wp.wFor, Wp.iRg1, Wp.iRg2, Wp.iAnyW, Wp.wAll, Wp.wChain, Wp.wSl, Wp.wNoPart, Wp.wPart, Wp.rSl, Wp.wNeg, Wp.rNeg, Wp.wLc, Wp.wYes, Wp.wDrop, Wp.wipeT, Wp.wAug, List.map, List.set_cons_zero, List.set_cons_succ, List.getElem?_cons_zero, List.getElem?_cons_succ, List.length_cons, List.length_nil, List.cons_append, List.nil_append, List.replicate, Wp.startT,
  true_and, and_true, Wp.wif_true, Wp.wif_false, Wp.ex_some, Wp.ex_some1, Wp.ex_eq, Wp.ex_lst, Wp.ex_lst0, Wp.rEq_int, Bool.false_bne, Bool.true_bne, Int.reduceLT, Int.reduceLE, Int.reduceAdd, Nat.reduceAdd, Nat.reduceSub, eq_self, ite_true, ite_false, beq_self_eq_true, Bool.not_true, Bool.not_false, Wp.isB_0, Wp.isB_1, Wp.isB_2, Wp.isB_3, Wp.isB_4, Wp.isB_5, Wp.isB_6, Wp.isB_7, Wp.isB_8, Wp.isB_9, Wp.isB_10, Wp.isB_11, Wp.isB_12, Wp.isB_13, Wp.isB_14, Wp.isB_15, Wp.isB_16, Wp.isB_17, Wp.isB_18, Wp.isB_19, Wp.isB_20, Wp.isB_21, Wp.isB_22, Wp.isB_23, Wp.isB_24, Wp.isB_25, Wp.isB_26, Wp.isB_27, Wp.isB_28, Wp.isB_29, Wp.isB_30, Wp.isB_31, Wp.isB_32, Wp.isB_33, Wp.isB_34, Wp.isB_35, Wp.cmul_l, Wp.cmul_r, Wp.cpow_lit, Wp.size_le, Wp.size_lt, Wp.atI_0, Wp.atI_1, Wp.atI_2, Wp.atI_3, Wp.atI_4, Wp.atI_5, Wp.atI_6, Wp.ixN_0, Wp.ixN_1, Wp.ixN_2, Wp.itemsT, Wp.tyT, reduceIte, Wp.wFld, Wp.wFSet, Wp.wFAug, Wp.wMeth, Wp.wMake, Wp.rIxA, Wp.rInA, Wp.rSetA, Wp.ixA, Wp.inA, Wp.setA, Wp.lenA, Wp.getD, Option.map_some, Option.bind_some, Option.getD_some,  Wp.gIxA, Wp.wDNew, Wp.wDNewT, Wp.rLenA, Wp.rSortD, Wp.rMaxL, Wp.rPopL, Wp.rGet1, Wp.rGet2, Wp.wGet1, Wp.wGet2, Wp.wPop1, Wp.wPop2, Wp.wDel, Wp.isDT, Wp.keyT, Wp.keysT, Wp.keysL, Wp.ex_ins, Wp.ex_dct, Wp.wKGet, Wp.wKIx, Wp.rLenK, Wp.iZipK, Wp.wDisp, Wp.wPCons, Wp.wPNil, Wp.rGt, Int.cast_ofNat_Int, Int.reduceBEq, Wp.wRev, Wp.rRev, Wp.rMulA, lk_Table__rows, pt_Table__rows, no_Table_take, no_Table_rows, no_Table_birth, no_Table_forget, ln_Table, mk_Table, lk_Mux__number, pt_Mux__number, lk_Mux__table, pt_Mux__table, no_Mux_receive, no_Mux_forget, no_Mux_rows, no_Mux__pass_on, ln_Mux, mk_Mux, Wp.wRev, Wp.rRev, Wp.upS, Wp.upS_upS, *])
local macro_rules | `(tactic| walk_at "run") => `(tactic| repeat (first | walk_at "wp" | walk_at "go"))
local macro_rules | `(tactic| walk_at "wq") => `(tactic| simp (disch := omega) only [Wp.wSeq, Wp.wNext, Wp.wSet, Wp.wVar, Wp.wC, Wp.wOp, Wp.wRet, Wp.wIfS, Wp.wTest, Wp.wCall, Wp.wCons, Wp.wNil, Wp.wTup, Wp.wLst, Wp.wAsg, Wp.gTp, Wp.gC, Wp.gNm, Wp.gN0, Wp.gIx, Wp.rSet, Wp.rAdd, Wp.rMul, Wp.rMod, Wp.rSub, Wp.rFdiv, Wp.rPow, Wp.rInt, Wp.rIx, Wp.rLt, Wp.rLe, Wp.rCmp, Wp.rGeI, Wp.rGtI, Wp.wCB, Wp.rLen, Wp.rLen1, Wp.rInt1, Wp.rMax2, Wp.rMin2, Wp.rTupOf, Wp.rListOf,
  Wp.wIsi, Wp.rBIs, Wp.rIsN, Wp.isNon, Wp.wMt, Wp.rAppendT, Wp.rExtendT, Wp.rReverseT, Wp.wNot, Wp.wOr, Wp.wAnd, Wp.wAndV, Wp.wOrV, Wp.wNotV, Wp.wFor, Wp.iRg1, Wp.iRg2, Wp.iAnyW, Wp.wAll, Wp.wChain, Wp.wSl, Wp.wNoPart, Wp.wPart, Wp.rSl, Wp.wNeg, Wp.rNeg, Wp.wLc, Wp.wYes, Wp.wDrop, Wp.wipeT, Wp.wAug, List.map, List.set_cons_zero, List.set_cons_succ, List.getElem?_cons_zero, List.getElem?_cons_succ, List.length_cons, List.length_nil, List.cons_append, List.nil_append, List.replicate, Wp.startT,
  true_and, and_true, Wp.wif_true, Wp.wif_false, Wp.ex_some, Wp.ex_some1, Wp.ex_eq, Wp.ex_lst, Wp.ex_lst0, Wp.rEq_int, Bool.false_bne, Bool.true_bne, Int.reduceLT, Int.reduceLE, Int.reduceAdd, Nat.reduceAdd, Nat.reduceSub, eq_self, ite_true, ite_false, beq_self_eq_true, Bool.not_true, Bool.not_false, Wp.isB_0, Wp.isB_1, Wp.isB_2, Wp.isB_3, Wp.isB_4, Wp.isB_5, Wp.isB_6, Wp.isB_7, Wp.isB_8, Wp.isB_9, Wp.isB_10, Wp.isB_11, Wp.isB_12, Wp.isB_13, Wp.isB_14, Wp.isB_15, Wp.isB_16, Wp.isB_17, Wp.isB_18, Wp.isB_19, Wp.isB_20, Wp.isB_21, Wp.isB_22, Wp.isB_23, Wp.isB_24, Wp.isB_25, Wp.isB_26, Wp.isB_27, Wp.isB_28, Wp.isB_29, Wp.isB_30, Wp.isB_31, Wp.isB_32, Wp.isB_33, Wp.isB_34, Wp.isB_35, Wp.cmul_l, Wp.cmul_r, Wp.cpow_lit, Wp.size_le, Wp.size_lt, Wp.atI_0, Wp.atI_1, Wp.atI_2, Wp.atI_3, Wp.atI_4, Wp.atI_5, Wp.atI_6, Wp.ixN_0, Wp.ixN_1, Wp.ixN_2, Wp.itemsT, Wp.tyT, reduceIte, Wp.wFld, Wp.wFSet, Wp.wFAug, Wp.wMeth, Wp.wMake, Wp.rIxA, Wp.rInA, Wp.rSetA, Wp.ixA, Wp.inA, Wp.setA, Wp.lenA, Wp.getD, Option.map_some, Option.bind_some, Option.getD_some,  Wp.gIxA, Wp.wDNew, Wp.wDNewT, Wp.rLenA, Wp.rSortD, Wp.rMaxL, Wp.rPopL, Wp.rGet1, Wp.rGet2, Wp.wGet1, Wp.wGet2, Wp.wPop1, Wp.wPop2, Wp.wDel, Wp.isDT, Wp.keyT, Wp.keysT, Wp.keysL, Wp.ex_ins, Wp.ex_dct, Wp.wKGet, Wp.wKIx, Wp.rLenK, Wp.iZipK, Wp.wDisp, Wp.wPCons, Wp.wPNil, Wp.rGt, Int.cast_ofNat_Int, Int.reduceBEq, Wp.wRev, Wp.rRev, Wp.rMulA, lk_Table__rows, pt_Table__rows, no_Table_take, no_Table_rows, no_Table_birth, no_Table_forget, ln_Table, mk_Table, lk_Mux__number, pt_Mux__number, lk_Mux__table, pt_Mux__table, no_Mux_receive, no_Mux_forget, no_Mux_rows, no_Mux__pass_on, ln_Mux, mk_Mux, Wp.wRev, Wp.rRev, *])
local macro_rules | `(tactic| walk_at "r2") => `(tactic| repeat (first | walk_at "wq" | walk_at "go"))
local macro_rules | `(tactic| walk_at "w0") => `(tactic| simp (disch := omega) only [Wp.wSeq, Wp.wNext, Wp.wSet, Wp.wVar, Wp.wC, Wp.wOp, Wp.wRet, Wp.wIfS, Wp.wTest, Wp.wCall, Wp.wCons, Wp.wNil, Wp.wTup, Wp.wLst, Wp.wAsg, Wp.gTp, Wp.gC, Wp.gNm, Wp.gN0, Wp.gIx, Wp.rSet, Wp.rAdd, Wp.rMul, Wp.rMod, Wp.rSub, Wp.rFdiv, Wp.rPow, Wp.rInt, Wp.rIx, Wp.rLt, Wp.rLe, Wp.rCmp, Wp.rGeI, Wp.rGtI, Wp.wCB, Wp.rLen, Wp.rLen1, Wp.rInt1, Wp.rMax2, Wp.rMin2, Wp.rTupOf, Wp.rListOf,
  Wp.wIsi, Wp.rBIs, Wp.rIsN, Wp.isNon, Wp.wMt, Wp.rAppendT, Wp.rExtendT, Wp.rReverseT, Wp.wNot, Wp.wOr, Wp.wAnd, Wp.wAndV, Wp.wOrV, Wp.wNotV, Wp.wFor, Wp.iRg1, Wp.iRg2, Wp.iAnyW, Wp.wAll, Wp.wChain, Wp.wSl, Wp.wNoPart, Wp.wPart, Wp.rSl, Wp.wNeg, Wp.rNeg, Wp.wLc, Wp.wYes, Wp.wDrop, Wp.wipeT, Wp.wAug, List.map, List.set_cons_zero, List.set_cons_succ, List.getElem?_cons_zero, List.getElem?_cons_succ, List.length_cons, List.length_nil, List.cons_append, List.nil_append, List.replicate, Wp.startT,
  true_and, and_true, Wp.wif_true, Wp.wif_false, Wp.ex_some, Wp.ex_some1, Wp.ex_eq, Wp.ex_lst, Wp.ex_lst0, Wp.rEq_int, Bool.false_bne, Bool.true_bne, Int.reduceLT, Int.reduceLE, Int.reduceAdd, Nat.reduceAdd, Nat.reduceSub, eq_self, ite_true, ite_false, beq_self_eq_true, Bool.not_true, Bool.not_false, Wp.isB_0, Wp.isB_1, Wp.isB_2, Wp.isB_3, Wp.isB_4, Wp.isB_5, Wp.isB_6, Wp.isB_7, Wp.isB_8, Wp.isB_9, Wp.isB_10, Wp.isB_11, Wp.isB_12, Wp.isB_13, Wp.isB_14, Wp.isB_15, Wp.isB_16, Wp.isB_17, Wp.isB_18, Wp.isB_19, Wp.isB_20, Wp.isB_21, Wp.isB_22, Wp.isB_23, Wp.isB_24, Wp.isB_25, Wp.isB_26, Wp.isB_27, Wp.isB_28, Wp.isB_29, Wp.isB_30, Wp.isB_31, Wp.isB_32, Wp.isB_33, Wp.isB_34, Wp.isB_35, Wp.cmul_l, Wp.cmul_r, Wp.cpow_lit, Wp.size_le, Wp.size_lt, Wp.atI_0, Wp.atI_1, Wp.atI_2, Wp.atI_3, Wp.atI_4, Wp.atI_5, Wp.atI_6, Wp.ixN_0, Wp.ixN_1, Wp.ixN_2, Wp.itemsT, Wp.tyT, reduceIte, Wp.wFld, Wp.wFSet, Wp.wFAug, Wp.wMeth, Wp.wMake, Wp.rIxA, Wp.rInA, Wp.rSetA, Wp.ixA, Wp.inA, Wp.setA, Wp.lenA, Wp.getD, Option.map_some, Option.bind_some, Option.getD_some,  Wp.gIxA, Wp.wDNew, Wp.wDNewT, Wp.rLenA, Wp.rSortD, Wp.rMaxL, Wp.rPopL, Wp.rGet1, Wp.rGet2, Wp.wGet1, Wp.wGet2, Wp.wPop1, Wp.wPop2, Wp.wDel, Wp.isDT, Wp.keyT, Wp.keysT, Wp.keysL, Wp.ex_ins, Wp.ex_dct, Wp.wKGet, Wp.wKIx, Wp.rLenK, Wp.iZipK, Wp.wDisp, Wp.wPCons, Wp.wPNil, Wp.rGt, Int.cast_ofNat_Int, Int.reduceBEq, Wp.wRev, Wp.rRev, Wp.rMulA, lk_Table__rows, pt_Table__rows, no_Table_take, no_Table_rows, no_Table_birth, no_Table_forget, ln_Table, mk_Table, lk_Mux__number, pt_Mux__number, lk_Mux__table, pt_Mux__table, no_Mux_receive, no_Mux_forget, no_Mux_rows, no_Mux__pass_on, ln_Mux, mk_Mux, Wp.wRev, Wp.rRev])
local macro_rules | `(tactic| walk_at "r0") => `(tactic| repeat (first | walk_at "w0" | walk_at "go"))
variable {K : PySem.W.Frag} {C_Mux : Addr}
/-! ### the newest rows -/
theorem best_b : ∀ (rs : List Row) {b : Int} {r : Row}, best rs b = some r → r.b = b ∧ r ∈ rs := fun rs => by
  induction rs using snoc_ind with
  | nil => intro b r h; cases h
  | app rs x ih =>
    intro b r h
    rw [best_app, upd1] at h
    by_cases hb : b = x.b
    · rw [if_pos hb] at h
      cases e : best rs b with
      | none => rw [e] at h; cases h; exact ⟨hb.symm, by simp⟩
      | some o =>
        rw [e] at h
        simp only at h
        split at h
        · cases h; exact ⟨hb.symm, by simp⟩
        · cases h
          obtain ⟨h1, h2⟩ := ih e
          exact ⟨h1, List.mem_append_left _ h2⟩
    · rw [if_neg hb] at h
      obtain ⟨h1, h2⟩ := ih h
      exact ⟨h1, List.mem_append_left _ h2⟩
theorem best_none' (rs : List Row) : ∀ b : Int, best rs b = none ↔ ∀ r ∈ rs, r.b ≠ b := by
  induction rs using snoc_ind with
  | nil => exact fun b => ⟨fun _ r h => (by cases h), fun _ => rfl⟩
  | app rs x ih =>
    intro b
    rw [best_app, upd1]
    by_cases hb : b = x.b
    · rw [if_pos hb]
      constructor
      · intro h
        cases e : best rs b with
        | none => rw [e] at h; cases h
        | some o => rw [e] at h; simp only at h; split at h <;> cases h
      · intro h
        exact absurd hb.symm (h x (by simp))
    · rw [if_neg hb, ih]
      constructor
      · intro h r hr
        rcases List.mem_append.mp hr with z | z
        · exact h r z
        · rw [List.mem_singleton.mp z]; exact fun e => hb e.symm
      · exact fun h r hr => h r (List.mem_append_left _ hr)
theorem best_none (rs : List Row) {b : Int} : best rs b = none ↔ ∀ r ∈ rs, r.b ≠ b := best_none' rs b
theorem best_max : ∀ (rs : List Row) {b : Int} {r : Row}, best rs b = some r → ∀ x ∈ rs, x.b = b → x.v ≤ r.v := fun rs => by
  induction rs using snoc_ind with
  | nil => intro b r h; cases h
  | app rs x ih =>
    intro b r h y hy hyb
    rw [best_app, upd1] at h
    by_cases hb : b = x.b
    · rw [if_pos hb] at h
      cases e : best rs b with
      | none =>
        rw [e] at h; cases h
        rcases List.mem_append.mp hy with z | z
        · exact absurd hyb ((best_none rs).mp e y z)
        · rw [List.mem_singleton.mp z]; exact Int.le_refl _
      | some o =>
        rw [e] at h
        simp only at h
        split at h
        · rename_i hlt
          cases h
          rcases List.mem_append.mp hy with z | z
          · have := ih e y z hyb; omega
          · rw [List.mem_singleton.mp z]; exact Int.le_refl _
        · rename_i hlt
          cases h
          rcases List.mem_append.mp hy with z | z
          · exact ih e y z hyb
          · rw [List.mem_singleton.mp z]; omega
    · rw [if_neg hb] at h
      rcases List.mem_append.mp hy with z | z
      · exact ih h y z hyb
      · rw [List.mem_singleton.mp z] at hyb; exact absurd hyb.symm hb
/-- the first one with this version -/
theorem best_first : ∀ (rs : List Row) {b : Int} {r : Row}, best rs b = some r → ((rs.filter fun x => x.b == b).filter fun x => x.v == r.v).head? = some r := fun rs => by
  induction rs using snoc_ind with
  | nil => intro b r h; cases h
  | app rs x ih =>
    intro b r h
    have h0 := h
    rw [best_app, upd1] at h
    rw [List.filter_append, List.filter_append]
    by_cases hb : b = x.b
    · rw [if_pos hb] at h
      cases e : best rs b with
      | none =>
        rw [e] at h; cases h
        have : rs.filter (fun y => y.b == b) = [] := List.filter_eq_nil_iff.mpr fun y hy => by simpa using (best_none rs).mp e y hy
        rw [this]
        simp [hb]
      | some o =>
        rw [e] at h
        simp only at h
        split at h
        · rename_i hlt
          cases h
          have : (rs.filter (fun y => y.b == b)).filter (fun y => y.v == x.v) = [] := List.filter_eq_nil_iff.mpr fun y hy => by
            rw [List.mem_filter] at hy
            have := best_max rs e y hy.1 (by simpa using hy.2)
            simp
            omega
          rw [this]
          simp [hb]
        · cases h
          have := ih e
          rw [List.head?_append, this]
          rfl
    · rw [if_neg hb] at h
      have := ih h
      rw [List.head?_append, this]
      rfl
theorem rowsOf_mem {rs : List Row} {r : Row} (h : r ∈ rowsOf rs) : best rs r.b = some r := by
  obtain ⟨b, hb, e⟩ := List.mem_filterMap.mp h
  rw [(best_b rs e).1]
  exact e
theorem rowsOf_keys {rs : List Row} (hi : inB rs) (b : Int) : b ∈ (rowsOf rs).map (·.b) ↔ (best rs b).isSome = true := by
  constructor
  · intro h
    obtain ⟨r, hr, rfl⟩ := List.mem_map.mp h
    rw [rowsOf_mem hr]
    rfl
  · intro h
    obtain ⟨r, hr⟩ := Option.isSome_iff_exists.mp h
    obtain ⟨h1, h2⟩ := best_b rs hr
    have h3 := hi r h2
    refine List.mem_map.mpr ⟨r, List.mem_filterMap.mpr ⟨b.toNat, List.mem_range.mpr (by omega), ?_⟩, h1⟩
    rw [Int.toNat_of_nonneg (by omega)]
    exact hr
theorem rowsOf_sorted (rs : List Row) : ((rowsOf rs).map (·.b)).Pairwise (· < ·) := by
  rw [List.pairwise_map]
  unfold rowsOf
  refine List.Pairwise.filterMap _ (R := (· < ·)) (fun a a' hlt b hb b' hb' => ?_) List.pairwise_lt_range
  rw [(best_b rs hb).1, (best_b rs hb').1]
  omega
theorem rowsOf_len (rs : List Row) : (rowsOf rs).length ≤ 16 := by
  have := List.length_filterMap_le (fun (b : Nat) => best rs (b : Int)) (List.range 16)
  rw [List.length_range] at this
  exact this
/-- the keys as ints -/
def kI : Key → Int
  | .inl b => b
  | .inr _ => 0
theorem kI_map {ks : List Key} (h : ∀ k ∈ ks, ∃ b : Int, k = .inl b ∧ 0 ≤ b ∧ b < 16) : ks = (ks.map kI).map Sum.inl := by
  rw [List.map_map]
  conv => lhs; rw [← List.map_id ks]
  refine List.map_congr_left fun k hk => ?_
  obtain ⟨b, rfl, _⟩ := h k hk
  rfl
def spRowsM (C : Addr) : WSp := fun ts S Q _ => match ts with
  | [.ref p] => ∃ d rs, TabAt C S p d rs ∧ inB rs ∧ ∀ S', Gr S S' → Q (.tup ((rowsOf rs).map Row.t)) S'
  | _ => False
theorem hw_rows (C : Addr) : ∀ ts S Q E, ts.length = 1 → spRowsM C ts S Q E → b_Table_rows K C C_Mux { nx := fun _ S' => Q .non S', rt := Q } (Wp.startT N_Table_rows ts) S := by
  intro ts S Q E _ h
  match ts, h with
  | [.ref p], ⟨d, rs, ⟨hp, kvs, hd, hv, hn, hk⟩, hin, h⟩ =>
    have hk16 := keys16 hn hk
    unfold b_Table_rows N_Table_rows
    have h0 := h
    clear h
    walk_at "r0"
    rw [hp]
    walk_at "r0"
    refine ⟨kvs, (kvs.map (·.1)).map kI, hd, kI_map hk, by simp at hk16 ⊢; omega, fun ys q hperm hsort hq => ?_⟩
    have hys : ys = (rowsOf rs).map (·.b) := sorted_is hperm hsort (by
        rw [kI_map hk] at hn
        exact nodup_of_map _ hn) (rowsOf_sorted rs) fun b => by
      rw [rowsOf_keys hin, ← Option.isSome_map (f := Row.t), ← hv b, valT_mem]
      constructor
      · intro hm
        obtain ⟨k, hkm, rfl⟩ := List.mem_map.mp hm
        obtain ⟨c, rfl, _⟩ := hk k hkm
        exact hkm
      · intro hm
        exact List.mem_map.mpr ⟨.inl b, hm, rfl⟩
    subst hys
    walk_at "r0"
    refine ⟨_, upS_same, fun D hD => ?_⟩
    have hDq : D ≠ q := fun e => by rw [e, upS_same] at hD; cases hD
    have hD0 : S D = none := by rw [upS_ne hDq] at hD; exact hD
    have hdq : d ≠ q := fun e => by rw [e, hq] at hd; cases hd
    have hdD : d ≠ D := fun e => by rw [e, hD0] at hd; cases hd
    have hpq : p ≠ q := fun e => by rw [e, hq] at hp; cases hp
    have hpD : p ≠ D := fun e => by rw [e, hD0] at hp; cases hp
    rw [List.map_map]
    refine comp_each (α := Row) (xs := rowsOf rs) _ Row.t (by have := rowsOf_len rs; omega) (fun acc => by rw [upS_ne hDq.symm, upS_same]) (fun r hr acc R hR => ?_) ?_
    · unfold l1_Table_rows
      have hp2 : upS (upS S q (.lst (List.map (T.int ∘ fun x => x.b) (rowsOf rs)))) D (.lst acc) p = some (.ins C (F_Table (.ref d))) := by rw [upS_ne hpD, upS_ne hpq]; exact hp
      have hd2 : upS (upS S q (.lst (List.map (T.int ∘ fun x => x.b) (rowsOf rs)))) D (.lst acc) d = some (.dct kvs) := by rw [upS_ne hdD, upS_ne hdq]; exact hd
      have hv2 : valT kvs (.inl r.b) = some r.t := by rw [hv, rowsOf_mem hr]; rfl
      generalize upS (upS S q _) D (.lst acc) = S2 at hR hp2 hd2 ⊢
      clear hp hd hv
      simp only [Function.comp]
      walk_at "r0"
      rw [hp2]
      walk_at "r0"
      rw [hd2]
      walk_at "r0"
      rw [hv2]
      walk_at "r0"
      exact hR
    · walk_at "r0"
      refine ⟨_, itemsT_ref upS_same, ?_⟩
      rw [List.map_map] at hD
      exact h0 _ ((gr_new hq).trans (gr_new hD))
end My

set_option Elab.async false
set_option linter.all false
set_option maxRecDepth 100000
set_option maxHeartbeats 8000000
namespace My
open PySem PySem.Spec PyProof.Rows L2 Wp Gn
local macro_rules | `(tactic| walk_at "go") => `(tactic| (with_reducible refine goS_i ?_))
local macro_rules | `(tactic| walk_at "wp") => `(tactic| simp (disch := omega) only [Wp.wSeq, Wp.wNext, Wp.wSet, Wp.wVar, Wp.wC, Wp.wOp, Wp.wRet, Wp.wIfS, Wp.wTest, Wp.wCall, Wp.wCons, Wp.wNil, Wp.wTup, Wp.wLst, Wp.wAsg, Wp.gTp, Wp.gC, Wp.gNm, Wp.gN0, Wp.gIx, Wp.rSet, Wp.rAdd, Wp.rMul, Wp.rMod, Wp.rSub, Wp.rFdiv, Wp.rPow, Wp.rInt, Wp.rIx, Wp.rLt, Wp.rLe, Wp.rCmp, Wp.rGeI, Wp.rGtI, Wp.wCB, Wp.rLen, Wp.rLen1, Wp.rInt1, Wp.rMax2, Wp.rMin2, Wp.rTupOf, Wp.rListOf,
  Wp.wIsi, Wp.rBIs, Wp.rIsN, Wp.isNon, Wp.wMt, Wp.rAppendT, Wp.rExtendT, Wp.rReverseT, Wp.wNot, Wp.wOr, Wp.wAnd, Wp.wAndV, Wp.wOrV, Wp.wNotV, Wp.wFor, Wp.iRg1, Wp.iRg2, Wp.iAnyW, Wp.wAll, Wp.wChain, Wp.wSl, Wp.wNoPart, Wp.wPart, Wp.rSl, Wp.wNeg, Wp.rNeg, Wp.wLc, Wp.wYes, Wp.wDrop, Wp.wipeT, Wp.wAug, List.map, List.set_cons_zero, List.set_cons_succ, List.getElem?_cons_zero, List.getElem?_cons_succ, List.length_cons, List.length_nil, List.cons_append, List.nil_append, List.replicate, Wp.startT,
  true_and, and_true, Wp.wif_true, Wp.wif_false, Wp.ex_some, Wp.ex_some1, Wp.ex_eq, Wp.ex_lst, Wp.ex_lst0, Wp.rEq_int, Bool.false_bne, Bool.true_bne, Int.reduceLT, Int.reduceLE, Int.reduceAdd, Nat.reduceAdd, Nat.reduceSub, eq_self, ite_true, ite_false, beq_self_eq_true, Bool.not_true, Bool.not_false, Wp.isB_0, Wp.isB_1, Wp.isB_2, Wp.isB_3, Wp.isB_4, Wp.isB_5, Wp.isB_6, Wp.isB_7, Wp.isB_8, Wp.isB_9, Wp.isB_10, Wp.isB_11, Wp.isB_12, Wp.isB_13, Wp.isB_14, Wp.isB_15, Wp.isB_16, Wp.isB_17, Wp.isB_18, Wp.isB_19, Wp.isB_20, Wp.isB_21, Wp.isB_22, Wp.isB_23, Wp.isB_24, Wp.isB_25, Wp.isB_26, Wp.isB_27, Wp.isB_28, Wp.isB_29, Wp.isB_30, Wp.isB_31, Wp.isB_32, Wp.isB_33, Wp.isB_34, Wp.isB_35, Wp.cmul_l, Wp.cmul_r, Wp.cpow_lit, Wp.size_le, Wp.size_lt, Wp.atI_0, Wp.atI_1, Wp.atI_2, Wp.atI_3, Wp.atI_4, Wp.atI_5, Wp.atI_6, Wp.ixN_0, Wp.ixN_1, Wp.ixN_2, Wp.itemsT, Wp.tyT, reduceIte, Wp.wFld, Wp.wFSet, Wp.wFAug, Wp.wMeth, Wp.wMake, Wp.rIxA, Wp.rInA, Wp.rSetA, Wp.ixA, Wp.inA, Wp.setA, Wp.lenA, Wp.getD, Option.map_some, Option.bind_some, Option.getD_some,  Wp.gIxA, Wp.wDNew, Wp.wDNewT, Wp.rLenA, Wp.rSortD, Wp.rMaxL, Wp.rPopL, Wp.rGet1, Wp.rGet2, Wp.wGet1, Wp.wGet2, Wp.wPop1, Wp.wPop2, Wp.wDel, Wp.isDT, Wp.keyT, Wp.keysT, Wp.keysL, Wp.ex_ins, Wp.ex_dct, Wp.wKGet, Wp.wKIx, Wp.rLenK, Wp.iZipK, Wp.wDisp, Wp.wPCons, Wp.wPNil, Wp.rGt, Int.cast_ofNat_Int, Int.reduceBEq, Wp.wRev, Wp.rRev, Wp.rMulA, lk_Table__rows, pt_Table__rows, no_Table_take, no_Table_rows, no_Table_birth, no_Table_forget, ln_Table, mk_Table, lk_Mux__number, pt_Mux__number, lk_Mux__table, pt_Mux__table, no_Mux_receive, no_Mux_forget, no_Mux_rows, no_Mux__pass_on, ln_Mux, mk_Mux, Wp.wRev, Wp.rRev, Wp.upS, Wp.upS_upS, *])
local macro_rules | `(tactic| walk_at "run") => `(tactic| repeat (first | walk_at "wp" | walk_at "go"))
local macro_rules | `(tactic| walk_at "wq") => `(tactic| simp (disch := omega) only [Wp.wSeq, Wp.wNext, Wp.wSet, Wp.wVar, Wp.wC, Wp.wOp, Wp.wRet, Wp.wIfS, Wp.wTest, Wp.wCall, Wp.wCons, Wp.wNil, Wp.wTup, Wp.wLst, Wp.wAsg, Wp.gTp, Wp.gC, Wp.gNm, Wp.gN0, Wp.gIx, Wp.rSet, Wp.rAdd, Wp.rMul, Wp.rMod, Wp.rSub, Wp.rFdiv, Wp.rPow, Wp.rInt, Wp.rIx, Wp.rLt, Wp.rLe, Wp.rCmp, Wp.rGeI, Wp.rGtI, Wp.wCB, Wp.rLen, Wp.rLen1, Wp.rInt1, Wp.rMax2, Wp.rMin2, Wp.rTupOf, Wp.rListOf,
  Wp.wIsi, Wp.rBIs, Wp.rIsN, Wp.isNon, Wp.wMt, Wp.rAppendT, Wp.rExtendT, Wp.rReverseT, Wp.wNot, Wp.wOr, Wp.wAnd, Wp.wAndV, Wp.wOrV, Wp.wNotV, Wp.wFor, Wp.iRg1, Wp.iRg2, Wp.iAnyW, Wp.wAll, Wp.wChain, Wp.wSl, Wp.wNoPart, Wp.wPart, Wp.rSl, Wp.wNeg, Wp.rNeg, Wp.wLc, Wp.wYes, Wp.wDrop, Wp.wipeT, Wp.wAug, List.map, List.set_cons_zero, List.set_cons_succ, List.getElem?_cons_zero, List.getElem?_cons_succ, List.length_cons, List.length_nil, List.cons_append, List.nil_append, List.replicate, Wp.startT,
  true_and, and_true, Wp.wif_true, Wp.wif_false, Wp.ex_some, Wp.ex_some1, Wp.ex_eq, Wp.ex_lst, Wp.ex_lst0, Wp.rEq_int, Bool.false_bne, Bool.true_bne, Int.reduceLT, Int.reduceLE, Int.reduceAdd, Nat.reduceAdd, Nat.reduceSub, eq_self, ite_true, ite_false, beq_self_eq_true, Bool.not_true, Bool.not_false, Wp.isB_0, Wp.isB_1, Wp.isB_2, Wp.isB_3, Wp.isB_4, Wp.isB_5, Wp.isB_6, Wp.isB_7, Wp.isB_8, Wp.isB_9, Wp.isB_10, Wp.isB_11, Wp.isB_12, Wp.isB_13, Wp.isB_14, Wp.isB_15, Wp.isB_16, Wp.isB_17, Wp.isB_18, Wp.isB_19, Wp.isB_20, Wp.isB_21, Wp.isB_22, Wp.isB_23, Wp.isB_24, Wp.isB_25, Wp.isB_26, Wp.isB_27, Wp.isB_28, Wp.isB_29, Wp.isB_30, Wp.isB_31, Wp.isB_32, Wp.isB_33, Wp.isB_34, Wp.isB_35, Wp.cmul_l, Wp.cmul_r, Wp.cpow_lit, Wp.size_le, Wp.size_lt, Wp.atI_0, Wp.atI_1, Wp.atI_2, Wp.atI_3, Wp.atI_4, Wp.atI_5, Wp.atI_6, Wp.ixN_0, Wp.ixN_1, Wp.ixN_2, Wp.itemsT, Wp.tyT, reduceIte, Wp.wFld, Wp.wFSet, Wp.wFAug, Wp.wMeth, Wp.wMake, Wp.rIxA, Wp.rInA, Wp.rSetA, Wp.ixA, Wp.inA, Wp.setA, Wp.lenA, Wp.getD, Option.map_some, Option.bind_some, Option.getD_some,  Wp.gIxA, Wp.wDNew, Wp.wDNewT, Wp.rLenA, Wp.rSortD, Wp.rMaxL, Wp.rPopL, Wp.rGet1, Wp.rGet2, Wp.wGet1, Wp.wGet2, Wp.wPop1, Wp.wPop2, Wp.wDel, Wp.isDT, Wp.keyT, Wp.keysT, Wp.keysL, Wp.ex_ins, Wp.ex_dct, Wp.wKGet, Wp.wKIx, Wp.rLenK, Wp.iZipK, Wp.wDisp, Wp.wPCons, Wp.wPNil, Wp.rGt, Int.cast_ofNat_Int, Int.reduceBEq, Wp.wRev, Wp.rRev, Wp.rMulA, lk_Table__rows, pt_Table__rows, no_Table_take, no_Table_rows, no_Table_birth, no_Table_forget, ln_Table, mk_Table, lk_Mux__number, pt_Mux__number, lk_Mux__table, pt_Mux__table, no_Mux_receive, no_Mux_forget, no_Mux_rows, no_Mux__pass_on, ln_Mux, mk_Mux, Wp.wRev, Wp.rRev, *])
local macro_rules | `(tactic| walk_at "r2") => `(tactic| repeat (first | walk_at "wq" | walk_at "go"))
local macro_rules | `(tactic| walk_at "w0") => `(tactic| simp (disch := omega) only [Wp.wSeq, Wp.wNext, Wp.wSet, Wp.wVar, Wp.wC, Wp.wOp, Wp.wRet, Wp.wIfS, Wp.wTest, Wp.wCall, Wp.wCons, Wp.wNil, Wp.wTup, Wp.wLst, Wp.wAsg, Wp.gTp, Wp.gC, Wp.gNm, Wp.gN0, Wp.gIx, Wp.rSet, Wp.rAdd, Wp.rMul, Wp.rMod, Wp.rSub, Wp.rFdiv, Wp.rPow, Wp.rInt, Wp.rIx, Wp.rLt, Wp.rLe, Wp.rCmp, Wp.rGeI, Wp.rGtI, Wp.wCB, Wp.rLen, Wp.rLen1, Wp.rInt1, Wp.rMax2, Wp.rMin2, Wp.rTupOf, Wp.rListOf,
  Wp.wIsi, Wp.rBIs, Wp.rIsN, Wp.isNon, Wp.wMt, Wp.rAppendT, Wp.rExtendT, Wp.rReverseT, Wp.wNot, Wp.wOr, Wp.wAnd, Wp.wAndV, Wp.wOrV, Wp.wNotV, Wp.wFor, Wp.iRg1, Wp.iRg2, Wp.iAnyW, Wp.wAll, Wp.wChain, Wp.wSl, Wp.wNoPart, Wp.wPart, Wp.rSl, Wp.wNeg, Wp.rNeg, Wp.wLc, Wp.wYes, Wp.wDrop, Wp.wipeT, Wp.wAug, List.map, List.set_cons_zero, List.set_cons_succ, List.getElem?_cons_zero, List.getElem?_cons_succ, List.length_cons, List.length_nil, List.cons_append, List.nil_append, List.replicate, Wp.startT,
  true_and, and_true, Wp.wif_true, Wp.wif_false, Wp.ex_some, Wp.ex_some1, Wp.ex_eq, Wp.ex_lst, Wp.ex_lst0, Wp.rEq_int, Bool.false_bne, Bool.true_bne, Int.reduceLT, Int.reduceLE, Int.reduceAdd, Nat.reduceAdd, Nat.reduceSub, eq_self, ite_true, ite_false, beq_self_eq_true, Bool.not_true, Bool.not_false, Wp.isB_0, Wp.isB_1, Wp.isB_2, Wp.isB_3, Wp.isB_4, Wp.isB_5, Wp.isB_6, Wp.isB_7, Wp.isB_8, Wp.isB_9, Wp.isB_10, Wp.isB_11, Wp.isB_12, Wp.isB_13, Wp.isB_14, Wp.isB_15, Wp.isB_16, Wp.isB_17, Wp.isB_18, Wp.isB_19, Wp.isB_20, Wp.isB_21, Wp.isB_22, Wp.isB_23, Wp.isB_24, Wp.isB_25, Wp.isB_26, Wp.isB_27, Wp.isB_28, Wp.isB_29, Wp.isB_30, Wp.isB_31, Wp.isB_32, Wp.isB_33, Wp.isB_34, Wp.isB_35, Wp.cmul_l, Wp.cmul_r, Wp.cpow_lit, Wp.size_le, Wp.size_lt, Wp.atI_0, Wp.atI_1, Wp.atI_2, Wp.atI_3, Wp.atI_4, Wp.atI_5, Wp.atI_6, Wp.ixN_0, Wp.ixN_1, Wp.ixN_2, Wp.itemsT, Wp.tyT, reduceIte, Wp.wFld, Wp.wFSet, Wp.wFAug, Wp.wMeth, Wp.wMake, Wp.rIxA, Wp.rInA, Wp.rSetA, Wp.ixA, Wp.inA, Wp.setA, Wp.lenA, Wp.getD, Option.map_some, Option.bind_some, Option.getD_some,  Wp.gIxA, Wp.wDNew, Wp.wDNewT, Wp.rLenA, Wp.rSortD, Wp.rMaxL, Wp.rPopL, Wp.rGet1, Wp.rGet2, Wp.wGet1, Wp.wGet2, Wp.wPop1, Wp.wPop2, Wp.wDel, Wp.isDT, Wp.keyT, Wp.keysT, Wp.keysL, Wp.ex_ins, Wp.ex_dct, Wp.wKGet, Wp.wKIx, Wp.rLenK, Wp.iZipK, Wp.wDisp, Wp.wPCons, Wp.wPNil, Wp.rGt, Int.cast_ofNat_Int, Int.reduceBEq, Wp.wRev, Wp.rRev, Wp.rMulA, lk_Table__rows, pt_Table__rows, no_Table_take, no_Table_rows, no_Table_birth, no_Table_forget, ln_Table, mk_Table, lk_Mux__number, pt_Mux__number, lk_Mux__table, pt_Mux__table, no_Mux_receive, no_Mux_forget, no_Mux_rows, no_Mux__pass_on, ln_Mux, mk_Mux, Wp.wRev, Wp.rRev])
local macro_rules | `(tactic| walk_at "r0") => `(tactic| repeat (first | walk_at "w0" | walk_at "go"))
variable {K : PySem.W.Frag} {C_Mux : Addr}
/-! ### the law's newest rows -/
def spNew : WSp := fun ts S Q _ => match ts with
  | [.ref W] => ∃ rs, S W = some (.lst (rs.map Row.t)) ∧ rs.length ≤ 10000 ∧ inB rs ∧ ∀ S', Gr S S' → Q (.tup ((rowsOf rs).map Row.t)) S'
  | _ => False
def rowsTo (rs : List Row) (i : Nat) : List Row := (List.range i).filterMap fun (b : Nat) => best rs b
theorem rowsTo_succ (rs : List Row) (i : Nat) : rowsTo rs (i + 1) = rowsTo rs i ++ (best rs i).toList := by
  unfold rowsTo
  rw [List.range_succ, List.filterMap_append]
  congr 1
theorem rowsTo_len (rs : List Row) (i : Nat) : (rowsTo rs i).length ≤ i := by
  have := List.length_filterMap_le (fun (b : Nat) => best rs (b : Int)) (List.range i)
  rw [List.length_range] at this
  exact this
theorem gr_ne {S S' : Sta} {a q : Addr} {o : O} (e : S a = some o) (h : S q = none) : a ≠ q := fun z => by rw [z, h] at e; cases e
theorem hw_newest (C : Addr) : ∀ ts S Q E, ts.length = 1 → spNew ts S Q E → b__law_newest K C C_Mux { nx := fun _ S' => Q .non S', rt := Q } (Wp.startT N__law_newest ts) S := by
  intro ts S Q E _ h
  match ts, h with
  | [.ref W], ⟨rs, hW, hl, hin, h⟩ =>
    unfold b__law_newest N__law_newest
    have h0 := h
    clear h
    walk_at "r0"
    intro F hF
    walk_at "r0"
    refine ⟨by omega, by omega, ?_⟩
    refine loop_inv (fun i σ S' => ∃ x2 x3 x5, σ = [some (.ref W), some (.ref F), x2, x3, none, x5] ∧ Gr S S' ∧ S' F = some (.lst ((rowsTo rs i).map Row.t))) ⟨none, none, none, rfl, gr_new hF, by rw [upS_same]; rfl⟩ (fun _ _ _ _ => trivial) (fun i x σ S' LP hx hI nx => ?_) (fun σ S' hI => ?_)
    · obtain ⟨x2, x3, x5, rfl, g, hFS⟩ := hI
      have nx := fun x2 x3 x5 S' g h => nx _ S' ⟨x2, x3, x5, rfl, g, h⟩
      obtain ⟨hi, rfl⟩ := range_at hx
      rw [Int.zero_add]
      rw [rowsTo_succ] at nx
      unfold l6__law_newest
      have hWS := g _ _ hW
      walk_at "r0"
      refine ⟨_, hWS, fun D hD => ?_⟩
      have nWD : W ≠ D := gr_ne (S' := S') hWS hD
      refine comp_filt (xs := rs) Row.t (fun r => r.b == (i : Int)) Row.t (by omega) (fun acc => by rw [upS_ne nWD]; exact hWS) (fun r hr acc A R h1 h2 => ?_) ?_
      · unfold l1__law_newest l2__law_newest
        simp only [show r.t = .tup [.int r.b, .int r.v, r.w] from rfl] at h1 ⊢
        walk_at "r0"
        refine if_bool (fun e => ?_) (fun e => ?_)
        · exact h1 e
        · exact h2 e
      obtain ⟨S1, e1, g1, hD1⟩ := al_ (o := .lst ((rs.filter fun r => r.b == (i : Int)).map Row.t)) hD
      rw [e1]
      clear e1
      have hF1 := g1 _ _ hFS
      generalize hown : rs.filter (fun r => r.b == (i : Int)) = own at hD1
      have holen : own.length ≤ 10000 := by rw [← hown]; exact Nat.le_trans (List.length_filter_le _ _) hl
      walk_at "r0"
      rw [hD1]
      walk_at "r0"
      rw [List.length_map]
      refine if_dec (fun hpos => ?_) (fun hneg => ?_)
      · walk_at "r0"
        intro D2 hD2
        have n12 : D ≠ D2 := gr_ne (S' := S1) hD1 hD2
        refine comp_each (xs := own) Row.t (fun r => .int r.v) (by omega) (fun acc => by rw [upS_ne n12]; exact hD1) (fun r hr acc R hR => ?_) ?_
        · unfold l3__law_newest
          simp only [show r.t = .tup [.int r.b, .int r.v, r.w] from rfl]
          walk_at "r0"
          exact hR
        obtain ⟨S2, e2, g2, hD2'⟩ := al_ (o := .lst (own.map fun r => T.int r.v)) hD2
        rw [e2]
        clear e2
        have hD12 := g2 _ _ hD1
        have hF2 := g2 _ _ hF1
        walk_at "r0"
        refine ⟨own.map (·.v), by rw [hD2', List.map_map]; rfl, by simpa using hpos, fun m hm hmax => ?_⟩
        obtain ⟨r0, hr0, hr0v⟩ := List.mem_map.mp hm
        obtain ⟨rb, hrb⟩ : ∃ rb, best rs (i : Int) = some rb := by
          cases e : best rs (i : Int) with
          | some rb => exact ⟨rb, rfl⟩
          | none =>
            rw [← hown, List.mem_filter] at hr0
            exact absurd (by simpa using hr0.2) ((best_none rs).mp e r0 hr0.1)
        have hbb := best_b rs hrb
        have hmv : m = rb.v := by
          have h1 : rb.v ≤ m := hmax _ (List.mem_map.mpr ⟨rb, by rw [← hown, List.mem_filter]; exact ⟨hbb.2, by simpa using hbb.1⟩, rfl⟩)
          rw [← hown, List.mem_filter] at hr0
          have h2 := best_max rs hrb r0 hr0.1 (by simpa using hr0.2)
          omega
        have hfst := best_first rs hrb
        rw [hown] at hfst
        walk_at "r0"
        refine ⟨⟨_, hF2⟩, _, hD12, fun D3 hD3 => ?_⟩
        have n13 : D ≠ D3 := gr_ne (S' := S2) hD12 hD3
        have n3F : F ≠ D3 := gr_ne (S' := S2) hF2 hD3
        refine comp_filt (xs := own) Row.t (fun r => r.v == rb.v) Row.t (by omega) (fun acc => by rw [upS_ne n13]; exact hD12) (fun r hr acc A R h1 h2 => ?_) ?_
        · unfold l4__law_newest l5__law_newest
          simp only [show r.t = .tup [.int r.b, .int r.v, r.w] from rfl] at h1 ⊢
          walk_at "r0"
          rw [hmv]
          refine if_bool (fun e => ?_) (fun e => ?_)
          · exact h1 e
          · exact h2 e
        obtain ⟨S3, e3, g3, hD3'⟩ := al_ (o := .lst ((own.filter fun r => r.v == rb.v).map Row.t)) hD3
        rw [e3]
        clear e3
        have hF3 := g3 _ _ hF2
        have hat : ((own.filter fun r => r.v == rb.v).map Row.t)[0]? = some rb.t := by
          rw [List.getElem?_map, ← List.head?_eq_getElem?, hfst]; rfl
        walk_at "r0"
        rw [hD3']
        walk_at "r0"
        rw [hat]
        walk_at "r0"
        refine ⟨_, hF3, ?_, ?_⟩
        · have := rowsTo_len rs i
          rw [List.length_map]; exact lt_sz (by omega)
        · refine goS_i (nx _ _ _ _ (fun a o ea => ?_) ?_)
          · rw [upS_ne (gr_ne (S' := S) ea hF)]
            exact g3 _ _ (g2 _ _ (g1 _ _ (g _ _ ea)))
          · rw [upS_same, hrb]
            simp
      · walk_at "r0"
        have hn : best rs (i : Int) = none := by
          rw [best_none]
          intro r hr hb
          have : r ∈ own := by rw [← hown, List.mem_filter]; exact ⟨hr, by simpa using hb⟩
          have := List.length_pos_of_mem this
          omega
        refine nx _ _ _ _ (g.trans g1) ?_
        rw [hF1, hn]
        simp
    · obtain ⟨x2, x3, x5, rfl, g, hFS⟩ := hI
      rw [rangeT_length] at hFS
      walk_at "r0"
      exact ⟨_, itemsT_ref hFS, h0 S' g⟩
end My

set_option Elab.async false
set_option linter.all false
set_option maxRecDepth 100000
set_option maxHeartbeats 8000000
namespace My
open PySem PySem.Spec PyProof.Rows L2 Wp Gn
local macro_rules | `(tactic| walk_at "go") => `(tactic| (with_reducible refine goS_i ?_))
local macro_rules | `(tactic| walk_at "wp") => `(tactic| simp (disch := omega) only [Wp.wSeq, Wp.wNext, Wp.wSet, Wp.wVar, Wp.wC, Wp.wOp, Wp.wRet, Wp.wIfS, Wp.wTest, Wp.wCall, Wp.wCons, Wp.wNil, Wp.wTup, Wp.wLst, Wp.wAsg, Wp.gTp, Wp.gC, Wp.gNm, Wp.gN0, Wp.gIx, Wp.rSet, Wp.rAdd, Wp.rMul, Wp.rMod, Wp.rSub, Wp.rFdiv, Wp.rPow, Wp.rInt, Wp.rIx, Wp.rLt, Wp.rLe, Wp.rCmp, Wp.rGeI, Wp.rGtI, Wp.wCB, Wp.rLen, Wp.rLen1, Wp.rInt1, Wp.rMax2, Wp.rMin2, Wp.rTupOf, Wp.rListOf,
  Wp.wIsi, Wp.rBIs, Wp.rIsN, Wp.isNon, Wp.wMt, Wp.rAppendT, Wp.rExtendT, Wp.rReverseT, Wp.wNot, Wp.wOr, Wp.wAnd, Wp.wAndV, Wp.wOrV, Wp.wNotV, Wp.wFor, Wp.iRg1, Wp.iRg2, Wp.iAnyW, Wp.wAll, Wp.wChain, Wp.wSl, Wp.wNoPart, Wp.wPart, Wp.rSl, Wp.wNeg, Wp.rNeg, Wp.wLc, Wp.wYes, Wp.wDrop, Wp.wipeT, Wp.wAug, List.map, List.set_cons_zero, List.set_cons_succ, List.getElem?_cons_zero, List.getElem?_cons_succ, List.length_cons, List.length_nil, List.cons_append, List.nil_append, List.replicate, Wp.startT,
  true_and, and_true, Wp.wif_true, Wp.wif_false, Wp.ex_some, Wp.ex_some1, Wp.ex_eq, Wp.ex_lst, Wp.ex_lst0, Wp.rEq_int, Bool.false_bne, Bool.true_bne, Int.reduceLT, Int.reduceLE, Int.reduceAdd, Nat.reduceAdd, Nat.reduceSub, eq_self, ite_true, ite_false, beq_self_eq_true, Bool.not_true, Bool.not_false, Wp.isB_0, Wp.isB_1, Wp.isB_2, Wp.isB_3, Wp.isB_4, Wp.isB_5, Wp.isB_6, Wp.isB_7, Wp.isB_8, Wp.isB_9, Wp.isB_10, Wp.isB_11, Wp.isB_12, Wp.isB_13, Wp.isB_14, Wp.isB_15, Wp.isB_16, Wp.isB_17, Wp.isB_18, Wp.isB_19, Wp.isB_20, Wp.isB_21, Wp.isB_22, Wp.isB_23, Wp.isB_24, Wp.isB_25, Wp.isB_26, Wp.isB_27, Wp.isB_28, Wp.isB_29, Wp.isB_30, Wp.isB_31, Wp.isB_32, Wp.isB_33, Wp.isB_34, Wp.isB_35, Wp.cmul_l, Wp.cmul_r, Wp.cpow_lit, Wp.size_le, Wp.size_lt, Wp.atI_0, Wp.atI_1, Wp.atI_2, Wp.atI_3, Wp.atI_4, Wp.atI_5, Wp.atI_6, Wp.ixN_0, Wp.ixN_1, Wp.ixN_2, Wp.itemsT, Wp.tyT, reduceIte, Wp.wFld, Wp.wFSet, Wp.wFAug, Wp.wMeth, Wp.wMake, Wp.rIxA, Wp.rInA, Wp.rSetA, Wp.ixA, Wp.inA, Wp.setA, Wp.lenA, Wp.getD, Option.map_some, Option.bind_some, Option.getD_some,  Wp.gIxA, Wp.wDNew, Wp.wDNewT, Wp.rLenA, Wp.rSortD, Wp.rMaxL, Wp.rPopL, Wp.rGet1, Wp.rGet2, Wp.wGet1, Wp.wGet2, Wp.wPop1, Wp.wPop2, Wp.wDel, Wp.isDT, Wp.keyT, Wp.keysT, Wp.keysL, Wp.ex_ins, Wp.ex_dct, Wp.wKGet, Wp.wKIx, Wp.rLenK, Wp.iZipK, Wp.wDisp, Wp.wPCons, Wp.wPNil, Wp.rGt, Int.cast_ofNat_Int, Int.reduceBEq, Wp.wRev, Wp.rRev, Wp.rMulA, lk_Table__rows, pt_Table__rows, no_Table_take, no_Table_rows, no_Table_birth, no_Table_forget, ln_Table, mk_Table, lk_Mux__number, pt_Mux__number, lk_Mux__table, pt_Mux__table, no_Mux_receive, no_Mux_forget, no_Mux_rows, no_Mux__pass_on, ln_Mux, mk_Mux, Wp.wRev, Wp.rRev, Wp.upS, Wp.upS_upS, *])
local macro_rules | `(tactic| walk_at "run") => `(tactic| repeat (first | walk_at "wp" | walk_at "go"))
local macro_rules | `(tactic| walk_at "wq") => `(tactic| simp (disch := omega) only [Wp.wSeq, Wp.wNext, Wp.wSet, Wp.wVar, Wp.wC, Wp.wOp, Wp.wRet, Wp.wIfS, Wp.wTest, Wp.wCall, Wp.wCons, Wp.wNil, Wp.wTup, Wp.wLst, Wp.wAsg, Wp.gTp, Wp.gC, Wp.gNm, Wp.gN0, Wp.gIx, Wp.rSet, Wp.rAdd, Wp.rMul, Wp.rMod, Wp.rSub, Wp.rFdiv, Wp.rPow, Wp.rInt, Wp.rIx, Wp.rLt, Wp.rLe, Wp.rCmp, Wp.rGeI, Wp.rGtI, Wp.wCB, Wp.rLen, Wp.rLen1, Wp.rInt1, Wp.rMax2, Wp.rMin2, Wp.rTupOf, Wp.rListOf,
  Wp.wIsi, Wp.rBIs, Wp.rIsN, Wp.isNon, Wp.wMt, Wp.rAppendT, Wp.rExtendT, Wp.rReverseT, Wp.wNot, Wp.wOr, Wp.wAnd, Wp.wAndV, Wp.wOrV, Wp.wNotV, Wp.wFor, Wp.iRg1, Wp.iRg2, Wp.iAnyW, Wp.wAll, Wp.wChain, Wp.wSl, Wp.wNoPart, Wp.wPart, Wp.rSl, Wp.wNeg, Wp.rNeg, Wp.wLc, Wp.wYes, Wp.wDrop, Wp.wipeT, Wp.wAug, List.map, List.set_cons_zero, List.set_cons_succ, List.getElem?_cons_zero, List.getElem?_cons_succ, List.length_cons, List.length_nil, List.cons_append, List.nil_append, List.replicate, Wp.startT,
  true_and, and_true, Wp.wif_true, Wp.wif_false, Wp.ex_some, Wp.ex_some1, Wp.ex_eq, Wp.ex_lst, Wp.ex_lst0, Wp.rEq_int, Bool.false_bne, Bool.true_bne, Int.reduceLT, Int.reduceLE, Int.reduceAdd, Nat.reduceAdd, Nat.reduceSub, eq_self, ite_true, ite_false, beq_self_eq_true, Bool.not_true, Bool.not_false, Wp.isB_0, Wp.isB_1, Wp.isB_2, Wp.isB_3, Wp.isB_4, Wp.isB_5, Wp.isB_6, Wp.isB_7, Wp.isB_8, Wp.isB_9, Wp.isB_10, Wp.isB_11, Wp.isB_12, Wp.isB_13, Wp.isB_14, Wp.isB_15, Wp.isB_16, Wp.isB_17, Wp.isB_18, Wp.isB_19, Wp.isB_20, Wp.isB_21, Wp.isB_22, Wp.isB_23, Wp.isB_24, Wp.isB_25, Wp.isB_26, Wp.isB_27, Wp.isB_28, Wp.isB_29, Wp.isB_30, Wp.isB_31, Wp.isB_32, Wp.isB_33, Wp.isB_34, Wp.isB_35, Wp.cmul_l, Wp.cmul_r, Wp.cpow_lit, Wp.size_le, Wp.size_lt, Wp.atI_0, Wp.atI_1, Wp.atI_2, Wp.atI_3, Wp.atI_4, Wp.atI_5, Wp.atI_6, Wp.ixN_0, Wp.ixN_1, Wp.ixN_2, Wp.itemsT, Wp.tyT, reduceIte, Wp.wFld, Wp.wFSet, Wp.wFAug, Wp.wMeth, Wp.wMake, Wp.rIxA, Wp.rInA, Wp.rSetA, Wp.ixA, Wp.inA, Wp.setA, Wp.lenA, Wp.getD, Option.map_some, Option.bind_some, Option.getD_some,  Wp.gIxA, Wp.wDNew, Wp.wDNewT, Wp.rLenA, Wp.rSortD, Wp.rMaxL, Wp.rPopL, Wp.rGet1, Wp.rGet2, Wp.wGet1, Wp.wGet2, Wp.wPop1, Wp.wPop2, Wp.wDel, Wp.isDT, Wp.keyT, Wp.keysT, Wp.keysL, Wp.ex_ins, Wp.ex_dct, Wp.wKGet, Wp.wKIx, Wp.rLenK, Wp.iZipK, Wp.wDisp, Wp.wPCons, Wp.wPNil, Wp.rGt, Int.cast_ofNat_Int, Int.reduceBEq, Wp.wRev, Wp.rRev, Wp.rMulA, lk_Table__rows, pt_Table__rows, no_Table_take, no_Table_rows, no_Table_birth, no_Table_forget, ln_Table, mk_Table, lk_Mux__number, pt_Mux__number, lk_Mux__table, pt_Mux__table, no_Mux_receive, no_Mux_forget, no_Mux_rows, no_Mux__pass_on, ln_Mux, mk_Mux, Wp.wRev, Wp.rRev, *])
local macro_rules | `(tactic| walk_at "r2") => `(tactic| repeat (first | walk_at "wq" | walk_at "go"))
local macro_rules | `(tactic| walk_at "w0") => `(tactic| simp (disch := omega) only [Wp.wSeq, Wp.wNext, Wp.wSet, Wp.wVar, Wp.wC, Wp.wOp, Wp.wRet, Wp.wIfS, Wp.wTest, Wp.wCall, Wp.wCons, Wp.wNil, Wp.wTup, Wp.wLst, Wp.wAsg, Wp.gTp, Wp.gC, Wp.gNm, Wp.gN0, Wp.gIx, Wp.rSet, Wp.rAdd, Wp.rMul, Wp.rMod, Wp.rSub, Wp.rFdiv, Wp.rPow, Wp.rInt, Wp.rIx, Wp.rLt, Wp.rLe, Wp.rCmp, Wp.rGeI, Wp.rGtI, Wp.wCB, Wp.rLen, Wp.rLen1, Wp.rInt1, Wp.rMax2, Wp.rMin2, Wp.rTupOf, Wp.rListOf,
  Wp.wIsi, Wp.rBIs, Wp.rIsN, Wp.isNon, Wp.wMt, Wp.rAppendT, Wp.rExtendT, Wp.rReverseT, Wp.wNot, Wp.wOr, Wp.wAnd, Wp.wAndV, Wp.wOrV, Wp.wNotV, Wp.wFor, Wp.iRg1, Wp.iRg2, Wp.iAnyW, Wp.wAll, Wp.wChain, Wp.wSl, Wp.wNoPart, Wp.wPart, Wp.rSl, Wp.wNeg, Wp.rNeg, Wp.wLc, Wp.wYes, Wp.wDrop, Wp.wipeT, Wp.wAug, List.map, List.set_cons_zero, List.set_cons_succ, List.getElem?_cons_zero, List.getElem?_cons_succ, List.length_cons, List.length_nil, List.cons_append, List.nil_append, List.replicate, Wp.startT,
  true_and, and_true, Wp.wif_true, Wp.wif_false, Wp.ex_some, Wp.ex_some1, Wp.ex_eq, Wp.ex_lst, Wp.ex_lst0, Wp.rEq_int, Bool.false_bne, Bool.true_bne, Int.reduceLT, Int.reduceLE, Int.reduceAdd, Nat.reduceAdd, Nat.reduceSub, eq_self, ite_true, ite_false, beq_self_eq_true, Bool.not_true, Bool.not_false, Wp.isB_0, Wp.isB_1, Wp.isB_2, Wp.isB_3, Wp.isB_4, Wp.isB_5, Wp.isB_6, Wp.isB_7, Wp.isB_8, Wp.isB_9, Wp.isB_10, Wp.isB_11, Wp.isB_12, Wp.isB_13, Wp.isB_14, Wp.isB_15, Wp.isB_16, Wp.isB_17, Wp.isB_18, Wp.isB_19, Wp.isB_20, Wp.isB_21, Wp.isB_22, Wp.isB_23, Wp.isB_24, Wp.isB_25, Wp.isB_26, Wp.isB_27, Wp.isB_28, Wp.isB_29, Wp.isB_30, Wp.isB_31, Wp.isB_32, Wp.isB_33, Wp.isB_34, Wp.isB_35, Wp.cmul_l, Wp.cmul_r, Wp.cpow_lit, Wp.size_le, Wp.size_lt, Wp.atI_0, Wp.atI_1, Wp.atI_2, Wp.atI_3, Wp.atI_4, Wp.atI_5, Wp.atI_6, Wp.ixN_0, Wp.ixN_1, Wp.ixN_2, Wp.itemsT, Wp.tyT, reduceIte, Wp.wFld, Wp.wFSet, Wp.wFAug, Wp.wMeth, Wp.wMake, Wp.rIxA, Wp.rInA, Wp.rSetA, Wp.ixA, Wp.inA, Wp.setA, Wp.lenA, Wp.getD, Option.map_some, Option.bind_some, Option.getD_some,  Wp.gIxA, Wp.wDNew, Wp.wDNewT, Wp.rLenA, Wp.rSortD, Wp.rMaxL, Wp.rPopL, Wp.rGet1, Wp.rGet2, Wp.wGet1, Wp.wGet2, Wp.wPop1, Wp.wPop2, Wp.wDel, Wp.isDT, Wp.keyT, Wp.keysT, Wp.keysL, Wp.ex_ins, Wp.ex_dct, Wp.wKGet, Wp.wKIx, Wp.rLenK, Wp.iZipK, Wp.wDisp, Wp.wPCons, Wp.wPNil, Wp.rGt, Int.cast_ofNat_Int, Int.reduceBEq, Wp.wRev, Wp.rRev, Wp.rMulA, lk_Table__rows, pt_Table__rows, no_Table_take, no_Table_rows, no_Table_birth, no_Table_forget, ln_Table, mk_Table, lk_Mux__number, pt_Mux__number, lk_Mux__table, pt_Mux__table, no_Mux_receive, no_Mux_forget, no_Mux_rows, no_Mux__pass_on, ln_Mux, mk_Mux, Wp.wRev, Wp.rRev])
local macro_rules | `(tactic| walk_at "r0") => `(tactic| repeat (first | walk_at "w0" | walk_at "go"))
variable {K : PySem.W.Frag} {C_Mux : Addr}
/-! ### drawn rows, the law -/
def okR (r : Row) : Prop := (0 ≤ r.b ∧ r.b < 16) ∧ ∃ a n : Int, r.w = .tup [.int a, .int n] ∧ (0 ≤ r.v ∧ r.v ≤ 999999) ∧ (0 ≤ a ∧ a ≤ 5) ∧ 1 ≤ n ∧ n ≤ 1000000
theorem two_at {i a b : Int} (h0 : 0 ≤ i) (h1 : i < 2) : ∃ n : Int, atI [T.int a, .int b] i = some (.int n) ∧ (n = a ∨ n = b) := by
  obtain ⟨t, ht, hm⟩ := atI_in (xs := [T.int a, .int b]) h0 (by simpa using h1)
  simp only [List.mem_cons, List.not_mem_nil, or_false] at hm
  rcases hm with e | e <;> subst e
  · exact ⟨a, ht, .inl rfl⟩
  · exact ⟨b, ht, .inr rfl⟩
theorem three_at {i a b c : Int} (h0 : 0 ≤ i) (h1 : i < 3) : ∃ n : Int, atI [T.int a, .int b, .int c] i = some (.int n) ∧ (n = a ∨ n = b ∨ n = c) := by
  obtain ⟨t, ht, hm⟩ := atI_in (xs := [T.int a, .int b, .int c]) h0 (by simpa using h1)
  simp only [List.mem_cons, List.not_mem_nil, or_false] at hm
  rcases hm with e | e | e <;> subst e
  · exact ⟨a, ht, .inl rfl⟩
  · exact ⟨b, ht, .inr (.inl rfl)⟩
  · exact ⟨c, ht, .inr (.inr rfl)⟩
def spRws : WSp := fun ts S Q _ => match ts with
  | [.ref p, .int m] => Wp.IsBag none S p ∧ 0 ≤ m ∧ m ≤ 1000 ∧ ∀ (rs : List Row) S', Wp.Grb none p S S' → (∀ r ∈ rs, okR r) → (rs.length : Int) ≤ m → Q (.tup (rs.map Row.t)) S'
  | _ => False
theorem hw_law_rows (C : Addr) : ∀ ts S Q E, ts.length = 2 → spRws ts S Q E → b__law_rows K C C_Mux (Wp.spDraw false) { nx := fun _ S' => Q .non S', rt := Q } (Wp.startT N__law_rows ts) S := by
  intro ts S Q E _ h
  match ts, h with
  | [.ref p, .int m], ⟨hb, h0, h1, h⟩ =>
    unfold b__law_rows N__law_rows
    have hq := h
    clear h
    walk_at "r0"
    intro Z hZ
    have hZp := new_ne hb hZ
    have g1 := (gr_new (o := .lst []) hZ).grb hb
    walk_at "r0"
    refine ⟨none, rfl, g1.bag, by omega, by omega, fun many S2 m0 m1 g2 => ?_⟩
    walk_at "r0"
    refine ⟨by omega, by omega, ?_⟩
    refine loop_inv (fun i σ S3 => ∃ x3 x4, σ = [some (.ref p), some (.int m), some (.ref Z), x3, x4] ∧ Wp.Grb none p S S3 ∧ ∃ rs : List Row, S3 Z = some (.lst (rs.map Row.t)) ∧ rs.length = i ∧ (∀ r ∈ rs, okR r)) ⟨none, none, rfl, g1.trans g2, [], g2.keep Z _ upS_same hZp, rfl, fun _ z => by cases z⟩ (fun _ _ _ _ => trivial) (fun i y σ S3 LP hy hI nx2 => ?_) (fun σ S3 hI => ?_)
    · obtain ⟨x3, x4, rfl, g3, rs, e3, hlen, hok⟩ := hI
      obtain ⟨hi, _⟩ := range_at hy
      have nx2 := fun x3 x4 S' g h => nx2 _ S' ⟨x3, x4, rfl, g, h⟩
      unfold l1__law_rows
      walk_at "r0"
      refine ⟨none, rfl, g3.bag, by omega, by omega, fun a S4 a0 a1 g4 => ?_⟩
      walk_at "r0"
      refine ⟨none, rfl, g4.bag, by omega, by omega, fun n S5 n0 n1 g5 => ?_⟩
      have e5 := g5.keep Z _ (g4.keep Z _ e3 hZp) hZp
      walk_at "r0"
      refine ⟨⟨_, e5⟩, none, rfl, g5.bag, by omega, by omega, fun c S6 c0 c1 g6 => ?_⟩
      walk_at "r0"
      intro q hq1
      have g7 := (gr_new (o := .lst [.int 1, .int 4, .int 8]) hq1).grb g6.bag
      walk_at "r0"
      refine ⟨none, rfl, g7.bag, by omega, by omega, fun j S8 j0 j1 g8 => ?_⟩
      have hq8 := g8.keep q _ upS_same (new_ne g6.bag hq1)
      obtain ⟨dv, hdv, hdv2⟩ := three_at (a := 1) (b := 4) (c := 8) j0 j1
      refine ⟨.int dv, by simp only [ixA, hq8, hdv], ?_⟩
      walk_at "r0"
      refine ⟨⟨by omega, by omega⟩, ?_⟩
      walk_at "r0"
      intro q2 hq2
      have g9 := (gr_new (o := .lst [.int 5, .int 60]) hq2).grb g8.bag
      walk_at "r0"
      refine ⟨none, rfl, g9.bag, by omega, by omega, fun j2 S10 j20 j21 g10 => ?_⟩
      have hq10 := g10.keep q2 _ upS_same (new_ne g8.bag hq2)
      obtain ⟨dw, hdw, hdw2⟩ := two_at (a := 5) (b := 60) j20 j21
      refine ⟨.int dw, by simp only [ixA, hq10, hdw], ?_⟩
      walk_at "r0"
      refine ⟨none, rfl, g10.bag, by omega, by omega, fun v S11 v0 v1 g11 => ?_⟩
      have gg := g6.trans (g7.trans (g8.trans (g9.trans (g10.trans g11))))
      have e11 := gg.keep Z _ e5 hZp
      walk_at "r0"
      refine ⟨_, e11, by rw [List.length_map]; exact lt_sz (by omega), ?_⟩
      have hdiv : 0 ≤ c / dv ∧ c / dv < 16 := by
        rcases hdv2 with e | e | e <;> subst e <;> omega
      have gall := (g3.trans (g4.trans (g5.trans gg))).up (o := .lst (rs.map Row.t ++ [.tup [.int (c / dv), .int v, .tup [.int a, .int (1 + n)]]])) hb hZ
      refine goS_i (nx2 _ _ _ gall ⟨rs ++ [⟨c / dv, v, .tup [.int a, .int (1 + n)]⟩], ?_, by simp [hlen], ?_⟩)
      · rw [upS_same, List.map_append]; rfl
      · intro r hr
        rcases List.mem_append.mp hr with z | z
        · exact hok r z
        · rw [List.mem_singleton.mp z]; exact ⟨hdiv, a, 1 + n, rfl, by simp only; rcases hdw2 with e | e <;> subst e <;> omega, by omega, by omega, by omega⟩
    · obtain ⟨x3, x4, rfl, g3, rs, e3, hlen, hok⟩ := hI
      rw [rangeT_length] at hlen
      walk_at "r0"
      exact ⟨_, itemsT_ref e3, hq rs S3 g3 hok (by omega)⟩
theorem TabAt.keep {C : Addr} {S S' : Sta} {q d : Addr} {rs : List Row} (h : TabAt C S q d rs) (k : ∀ a o, S a = some o → a = q ∨ a = d → S' a = some o) : TabAt C S' q d rs := by
  obtain ⟨kvs, e, r⟩ := h.dc
  exact ⟨k _ _ h.ob (.inl rfl), kvs, k _ _ e (.inr rfl), r⟩
theorem bag_keep {S S' : Sta} {p : Addr} (h : Wp.IsBag none S p) (k : ∀ o, S p = some o → S' p = some o) : Wp.IsBag none S' p := by
  obtain ⟨a, b, c, e⟩ := h
  exact ⟨a, b, c, k _ e⟩
def bw (rs : List Row) (b : Int) : T := match best rs b with
  | none => .non
  | some r => r.w
theorem bw_filt (rs : List Row) (hok : ∀ r ∈ rs, okR r) : ∀ l : List Nat, ((l.map fun (j : Nat) => bw rs j).filter fun t => !Wp.isNon t) = (l.filterMap fun (j : Nat) => best rs j).map (·.w)
  | [] => rfl
  | j :: l => by
    have ih := bw_filt rs hok l
    cases e : best rs (j : Int) with
    | none =>
      have e2 : bw rs j = .non := by unfold bw; rw [e]
      rw [List.map_cons, List.filter_cons, List.filterMap_cons, e2, e, if_neg (by simp [Wp.isNon])]
      exact ih
    | some r =>
      obtain ⟨_, a, n, hw, _⟩ := hok r (best_b rs e).2
      have e2 : bw rs j = r.w := by unfold bw; rw [e]
      rw [List.map_cons, List.filter_cons, List.filterMap_cons, e2, e, if_pos (by rw [hw]; rfl), ih]
      rfl
theorem nb_rows : ∀ rs : List Row, (∀ r ∈ rs, okR r) → nbTs (rs.map Row.t) = true ∧ dpTs (rs.map Row.t) ≤ 2
  | [], _ => ⟨rfl, Nat.zero_le _⟩
  | r :: rs, h => by
    obtain ⟨h1, h2⟩ := nb_rows rs fun x hx => h x (List.mem_cons_of_mem _ hx)
    obtain ⟨_, a, n, e, _⟩ := h r List.mem_cons_self
    rw [List.map_cons]
    unfold Row.t
    rw [e]
    refine ⟨?_, ?_⟩
    · simp only [nbTs, nbT, Bool.and_self, Bool.true_and]; exact h1
    · simp only [dpTs, dpT]
      show max _ (dpTs (rs.map Row.t)) ≤ 2
      omega
theorem nb_ws : ∀ rs : List Row, (∀ r ∈ rs, okR r) → nbTs (rs.map fun r => r.w) = true ∧ dpTs (rs.map fun r => r.w) ≤ 2
  | [], _ => ⟨rfl, Nat.zero_le _⟩
  | r :: rs, h => by
    obtain ⟨h1, h2⟩ := nb_ws rs fun x hx => h x (List.mem_cons_of_mem _ hx)
    obtain ⟨_, a, n, e, _⟩ := h r List.mem_cons_self
    rw [List.map_cons, e]
    refine ⟨?_, ?_⟩
    · simp only [nbTs, nbT, Bool.and_self, Bool.true_and]; exact h1
    · simp only [dpTs, dpT]
      omega
theorem rowsOf_ok {rs : List Row} (h : ∀ r ∈ rs, okR r) : ∀ r ∈ rowsOf rs, okR r := fun r hr => h r (best_b rs (rowsOf_mem hr)).2
theorem inB_of {rs : List Row} (h : ∀ r ∈ rs, okR r) : inB rs := fun r hr => (h r hr).1
end My

set_option Elab.async false
set_option linter.all false
set_option maxRecDepth 100000
set_option maxHeartbeats 8000000
namespace My
open PySem PySem.Spec PyProof.Rows L2 Wp Gn
local macro_rules | `(tactic| walk_at "go") => `(tactic| (with_reducible refine goS_i ?_))
local macro_rules | `(tactic| walk_at "wp") => `(tactic| simp (disch := omega) only [Wp.wSeq, Wp.wNext, Wp.wSet, Wp.wVar, Wp.wC, Wp.wOp, Wp.wRet, Wp.wIfS, Wp.wTest, Wp.wCall, Wp.wCons, Wp.wNil, Wp.wTup, Wp.wLst, Wp.wAsg, Wp.gTp, Wp.gC, Wp.gNm, Wp.gN0, Wp.gIx, Wp.rSet, Wp.rAdd, Wp.rMul, Wp.rMod, Wp.rSub, Wp.rFdiv, Wp.rPow, Wp.rInt, Wp.rIx, Wp.rLt, Wp.rLe, Wp.rCmp, Wp.rGeI, Wp.rGtI, Wp.wCB, Wp.rLen, Wp.rLen1, Wp.rInt1, Wp.rMax2, Wp.rMin2, Wp.rTupOf, Wp.rListOf,
  Wp.wIsi, Wp.rBIs, Wp.rIsN, Wp.isNon, Wp.wMt, Wp.rAppendT, Wp.rExtendT, Wp.rReverseT, Wp.wNot, Wp.wOr, Wp.wAnd, Wp.wAndV, Wp.wOrV, Wp.wNotV, Wp.wFor, Wp.iRg1, Wp.iRg2, Wp.iAnyW, Wp.wAll, Wp.wChain, Wp.wSl, Wp.wNoPart, Wp.wPart, Wp.rSl, Wp.wNeg, Wp.rNeg, Wp.wLc, Wp.wYes, Wp.wDrop, Wp.wipeT, Wp.wAug, List.map, List.set_cons_zero, List.set_cons_succ, List.getElem?_cons_zero, List.getElem?_cons_succ, List.length_cons, List.length_nil, List.cons_append, List.nil_append, List.replicate, Wp.startT,
  true_and, and_true, Wp.wif_true, Wp.wif_false, Wp.ex_some, Wp.ex_some1, Wp.ex_eq, Wp.ex_lst, Wp.ex_lst0, Wp.rEq_int, Bool.false_bne, Bool.true_bne, Int.reduceLT, Int.reduceLE, Int.reduceAdd, Nat.reduceAdd, Nat.reduceSub, eq_self, ite_true, ite_false, beq_self_eq_true, Bool.not_true, Bool.not_false, Wp.isB_0, Wp.isB_1, Wp.isB_2, Wp.isB_3, Wp.isB_4, Wp.isB_5, Wp.isB_6, Wp.isB_7, Wp.isB_8, Wp.isB_9, Wp.isB_10, Wp.isB_11, Wp.isB_12, Wp.isB_13, Wp.isB_14, Wp.isB_15, Wp.isB_16, Wp.isB_17, Wp.isB_18, Wp.isB_19, Wp.isB_20, Wp.isB_21, Wp.isB_22, Wp.isB_23, Wp.isB_24, Wp.isB_25, Wp.isB_26, Wp.isB_27, Wp.isB_28, Wp.isB_29, Wp.isB_30, Wp.isB_31, Wp.isB_32, Wp.isB_33, Wp.isB_34, Wp.isB_35, Wp.cmul_l, Wp.cmul_r, Wp.cpow_lit, Wp.size_le, Wp.size_lt, Wp.atI_0, Wp.atI_1, Wp.atI_2, Wp.atI_3, Wp.atI_4, Wp.atI_5, Wp.atI_6, Wp.ixN_0, Wp.ixN_1, Wp.ixN_2, Wp.itemsT, Wp.tyT, reduceIte, Wp.wFld, Wp.wFSet, Wp.wFAug, Wp.wMeth, Wp.wMake, Wp.rIxA, Wp.rInA, Wp.rSetA, Wp.ixA, Wp.inA, Wp.setA, Wp.lenA, Wp.getD, Option.map_some, Option.bind_some, Option.getD_some,  Wp.gIxA, Wp.wDNew, Wp.wDNewT, Wp.rLenA, Wp.rSortD, Wp.rMaxL, Wp.rPopL, Wp.rGet1, Wp.rGet2, Wp.wGet1, Wp.wGet2, Wp.wPop1, Wp.wPop2, Wp.wDel, Wp.isDT, Wp.keyT, Wp.keysT, Wp.keysL, Wp.ex_ins, Wp.ex_dct, Wp.wKGet, Wp.wKIx, Wp.rLenK, Wp.iZipK, Wp.wDisp, Wp.wPCons, Wp.wPNil, Wp.rGt, Int.cast_ofNat_Int, Int.reduceBEq, Wp.wRev, Wp.rRev, Wp.rMulA, lk_Table__rows, pt_Table__rows, no_Table_take, no_Table_rows, no_Table_birth, no_Table_forget, ln_Table, mk_Table, lk_Mux__number, pt_Mux__number, lk_Mux__table, pt_Mux__table, no_Mux_receive, no_Mux_forget, no_Mux_rows, no_Mux__pass_on, ln_Mux, mk_Mux, Wp.wRev, Wp.rRev, Wp.upS, Wp.upS_upS, *])
local macro_rules | `(tactic| walk_at "run") => `(tactic| repeat (first | walk_at "wp" | walk_at "go"))
local macro_rules | `(tactic| walk_at "wq") => `(tactic| simp (disch := omega) only [Wp.wSeq, Wp.wNext, Wp.wSet, Wp.wVar, Wp.wC, Wp.wOp, Wp.wRet, Wp.wIfS, Wp.wTest, Wp.wCall, Wp.wCons, Wp.wNil, Wp.wTup, Wp.wLst, Wp.wAsg, Wp.gTp, Wp.gC, Wp.gNm, Wp.gN0, Wp.gIx, Wp.rSet, Wp.rAdd, Wp.rMul, Wp.rMod, Wp.rSub, Wp.rFdiv, Wp.rPow, Wp.rInt, Wp.rIx, Wp.rLt, Wp.rLe, Wp.rCmp, Wp.rGeI, Wp.rGtI, Wp.wCB, Wp.rLen, Wp.rLen1, Wp.rInt1, Wp.rMax2, Wp.rMin2, Wp.rTupOf, Wp.rListOf,
  Wp.wIsi, Wp.rBIs, Wp.rIsN, Wp.isNon, Wp.wMt, Wp.rAppendT, Wp.rExtendT, Wp.rReverseT, Wp.wNot, Wp.wOr, Wp.wAnd, Wp.wAndV, Wp.wOrV, Wp.wNotV, Wp.wFor, Wp.iRg1, Wp.iRg2, Wp.iAnyW, Wp.wAll, Wp.wChain, Wp.wSl, Wp.wNoPart, Wp.wPart, Wp.rSl, Wp.wNeg, Wp.rNeg, Wp.wLc, Wp.wYes, Wp.wDrop, Wp.wipeT, Wp.wAug, List.map, List.set_cons_zero, List.set_cons_succ, List.getElem?_cons_zero, List.getElem?_cons_succ, List.length_cons, List.length_nil, List.cons_append, List.nil_append, List.replicate, Wp.startT,
  true_and, and_true, Wp.wif_true, Wp.wif_false, Wp.ex_some, Wp.ex_some1, Wp.ex_eq, Wp.ex_lst, Wp.ex_lst0, Wp.rEq_int, Bool.false_bne, Bool.true_bne, Int.reduceLT, Int.reduceLE, Int.reduceAdd, Nat.reduceAdd, Nat.reduceSub, eq_self, ite_true, ite_false, beq_self_eq_true, Bool.not_true, Bool.not_false, Wp.isB_0, Wp.isB_1, Wp.isB_2, Wp.isB_3, Wp.isB_4, Wp.isB_5, Wp.isB_6, Wp.isB_7, Wp.isB_8, Wp.isB_9, Wp.isB_10, Wp.isB_11, Wp.isB_12, Wp.isB_13, Wp.isB_14, Wp.isB_15, Wp.isB_16, Wp.isB_17, Wp.isB_18, Wp.isB_19, Wp.isB_20, Wp.isB_21, Wp.isB_22, Wp.isB_23, Wp.isB_24, Wp.isB_25, Wp.isB_26, Wp.isB_27, Wp.isB_28, Wp.isB_29, Wp.isB_30, Wp.isB_31, Wp.isB_32, Wp.isB_33, Wp.isB_34, Wp.isB_35, Wp.cmul_l, Wp.cmul_r, Wp.cpow_lit, Wp.size_le, Wp.size_lt, Wp.atI_0, Wp.atI_1, Wp.atI_2, Wp.atI_3, Wp.atI_4, Wp.atI_5, Wp.atI_6, Wp.ixN_0, Wp.ixN_1, Wp.ixN_2, Wp.itemsT, Wp.tyT, reduceIte, Wp.wFld, Wp.wFSet, Wp.wFAug, Wp.wMeth, Wp.wMake, Wp.rIxA, Wp.rInA, Wp.rSetA, Wp.ixA, Wp.inA, Wp.setA, Wp.lenA, Wp.getD, Option.map_some, Option.bind_some, Option.getD_some,  Wp.gIxA, Wp.wDNew, Wp.wDNewT, Wp.rLenA, Wp.rSortD, Wp.rMaxL, Wp.rPopL, Wp.rGet1, Wp.rGet2, Wp.wGet1, Wp.wGet2, Wp.wPop1, Wp.wPop2, Wp.wDel, Wp.isDT, Wp.keyT, Wp.keysT, Wp.keysL, Wp.ex_ins, Wp.ex_dct, Wp.wKGet, Wp.wKIx, Wp.rLenK, Wp.iZipK, Wp.wDisp, Wp.wPCons, Wp.wPNil, Wp.rGt, Int.cast_ofNat_Int, Int.reduceBEq, Wp.wRev, Wp.rRev, Wp.rMulA, lk_Table__rows, pt_Table__rows, no_Table_take, no_Table_rows, no_Table_birth, no_Table_forget, ln_Table, mk_Table, lk_Mux__number, pt_Mux__number, lk_Mux__table, pt_Mux__table, no_Mux_receive, no_Mux_forget, no_Mux_rows, no_Mux__pass_on, ln_Mux, mk_Mux, Wp.wRev, Wp.rRev, *])
local macro_rules | `(tactic| walk_at "r2") => `(tactic| repeat (first | walk_at "wq" | walk_at "go"))
local macro_rules | `(tactic| walk_at "w0") => `(tactic| simp (disch := omega) only [Wp.wSeq, Wp.wNext, Wp.wSet, Wp.wVar, Wp.wC, Wp.wOp, Wp.wRet, Wp.wIfS, Wp.wTest, Wp.wCall, Wp.wCons, Wp.wNil, Wp.wTup, Wp.wLst, Wp.wAsg, Wp.gTp, Wp.gC, Wp.gNm, Wp.gN0, Wp.gIx, Wp.rSet, Wp.rAdd, Wp.rMul, Wp.rMod, Wp.rSub, Wp.rFdiv, Wp.rPow, Wp.rInt, Wp.rIx, Wp.rLt, Wp.rLe, Wp.rCmp, Wp.rGeI, Wp.rGtI, Wp.wCB, Wp.rLen, Wp.rLen1, Wp.rInt1, Wp.rMax2, Wp.rMin2, Wp.rTupOf, Wp.rListOf,
  Wp.wIsi, Wp.rBIs, Wp.rIsN, Wp.isNon, Wp.wMt, Wp.rAppendT, Wp.rExtendT, Wp.rReverseT, Wp.wNot, Wp.wOr, Wp.wAnd, Wp.wAndV, Wp.wOrV, Wp.wNotV, Wp.wFor, Wp.iRg1, Wp.iRg2, Wp.iAnyW, Wp.wAll, Wp.wChain, Wp.wSl, Wp.wNoPart, Wp.wPart, Wp.rSl, Wp.wNeg, Wp.rNeg, Wp.wLc, Wp.wYes, Wp.wDrop, Wp.wipeT, Wp.wAug, List.map, List.set_cons_zero, List.set_cons_succ, List.getElem?_cons_zero, List.getElem?_cons_succ, List.length_cons, List.length_nil, List.cons_append, List.nil_append, List.replicate, Wp.startT,
  true_and, and_true, Wp.wif_true, Wp.wif_false, Wp.ex_some, Wp.ex_some1, Wp.ex_eq, Wp.ex_lst, Wp.ex_lst0, Wp.rEq_int, Bool.false_bne, Bool.true_bne, Int.reduceLT, Int.reduceLE, Int.reduceAdd, Nat.reduceAdd, Nat.reduceSub, eq_self, ite_true, ite_false, beq_self_eq_true, Bool.not_true, Bool.not_false, Wp.isB_0, Wp.isB_1, Wp.isB_2, Wp.isB_3, Wp.isB_4, Wp.isB_5, Wp.isB_6, Wp.isB_7, Wp.isB_8, Wp.isB_9, Wp.isB_10, Wp.isB_11, Wp.isB_12, Wp.isB_13, Wp.isB_14, Wp.isB_15, Wp.isB_16, Wp.isB_17, Wp.isB_18, Wp.isB_19, Wp.isB_20, Wp.isB_21, Wp.isB_22, Wp.isB_23, Wp.isB_24, Wp.isB_25, Wp.isB_26, Wp.isB_27, Wp.isB_28, Wp.isB_29, Wp.isB_30, Wp.isB_31, Wp.isB_32, Wp.isB_33, Wp.isB_34, Wp.isB_35, Wp.cmul_l, Wp.cmul_r, Wp.cpow_lit, Wp.size_le, Wp.size_lt, Wp.atI_0, Wp.atI_1, Wp.atI_2, Wp.atI_3, Wp.atI_4, Wp.atI_5, Wp.atI_6, Wp.ixN_0, Wp.ixN_1, Wp.ixN_2, Wp.itemsT, Wp.tyT, reduceIte, Wp.wFld, Wp.wFSet, Wp.wFAug, Wp.wMeth, Wp.wMake, Wp.rIxA, Wp.rInA, Wp.rSetA, Wp.ixA, Wp.inA, Wp.setA, Wp.lenA, Wp.getD, Option.map_some, Option.bind_some, Option.getD_some,  Wp.gIxA, Wp.wDNew, Wp.wDNewT, Wp.rLenA, Wp.rSortD, Wp.rMaxL, Wp.rPopL, Wp.rGet1, Wp.rGet2, Wp.wGet1, Wp.wGet2, Wp.wPop1, Wp.wPop2, Wp.wDel, Wp.isDT, Wp.keyT, Wp.keysT, Wp.keysL, Wp.ex_ins, Wp.ex_dct, Wp.wKGet, Wp.wKIx, Wp.rLenK, Wp.iZipK, Wp.wDisp, Wp.wPCons, Wp.wPNil, Wp.rGt, Int.cast_ofNat_Int, Int.reduceBEq, Wp.wRev, Wp.rRev, Wp.rMulA, lk_Table__rows, pt_Table__rows, no_Table_take, no_Table_rows, no_Table_birth, no_Table_forget, ln_Table, mk_Table, lk_Mux__number, pt_Mux__number, lk_Mux__table, pt_Mux__table, no_Mux_receive, no_Mux_forget, no_Mux_rows, no_Mux__pass_on, ln_Mux, mk_Mux, Wp.wRev, Wp.rRev])
local macro_rules | `(tactic| walk_at "r0") => `(tactic| repeat (first | walk_at "w0" | walk_at "go"))
variable {K : PySem.W.Frag} {C CM : Addr}
/-! ### the mux -/
structure MuxAt (C CM : Addr) (S : Sta) (p t d : Addr) (n : Int) (rs : List Row) : Prop where
  ob : S p = some (.ins CM (F_Mux (.int n) (.ref t)))
  tb : TabAt C S t d rs
  ne : p ≠ t
theorem MuxAt.nd {S : Sta} {p t d : Addr} {n : Int} {rs : List Row} (h : MuxAt C CM S p t d n rs) : p ≠ d := fun e => by
  obtain ⟨kvs, e2, _⟩ := h.tb.dc
  have := h.ob
  rw [e, e2] at this
  cases this
theorem MuxAt.keep {S S' : Sta} {p t d : Addr} {n : Int} {rs : List Row} (h : MuxAt C CM S p t d n rs) (k : ∀ a o, S a = some o → a = p ∨ a = t ∨ a = d → S' a = some o) : MuxAt C CM S' p t d n rs :=
  ⟨k _ _ h.ob (.inl rfl), h.tb.keep fun a o e z => k a o e (.inr z), h.ne⟩
theorem MuxAt.gr {S S' : Sta} {p t d : Addr} {n : Int} {rs : List Row} (h : MuxAt C CM S p t d n rs) (g : Gr S S') : MuxAt C CM S' p t d n rs := h.keep fun a o e _ => g a o e
def spMInit (C CM : Addr) : WSp := fun ts S Q _ => match ts with
  | [.ref p, .int n] => S p = some (.ins CM []) ∧ ∀ t d S', (∀ a o, S a = some o → a ≠ p → S' a = some o) → (S t = none ∧ S d = none) → MuxAt C CM S' p t d n [] → Q .non S'
  | _ => False
theorem hw_minit : ∀ ts S Q E, ts.length = 2 → spMInit C CM ts S Q E → b_Mux_init K C CM (spInit C) { nx := fun _ S' => Q .non S', rt := Q } (Wp.startT N_Mux_init ts) S := by
  intro ts S Q E _ h
  match ts, h with
  | [.ref p, .int n], ⟨hp, h⟩ =>
    unfold b_Mux_init N_Mux_init
    walk_at "r0"
    rw [hp]
    walk_at "r0"
    refine ⟨by decide, ?_⟩
    generalize hS1 : upS S p _ = S1
    have hp1 : S1 p = some (.ins CM (putFT "_number" (.int n) [])) := by rw [← hS1]; exact upS_same
    have f1 : ∀ a o, S a = some o → a ≠ p → S1 a = some o := fun a o e na => by rw [← hS1, upS_ne na]; exact e
    have n1 : ∀ a, S1 a = none → S a = none := fun a e => by
      cases z : S a with
      | none => rfl
      | some o =>
        by_cases ap : a = p
        · rw [ap, hp1] at e; cases e
        · rw [f1 a o z ap] at e; cases e
    walk_at "r0"
    intro q hq
    have hqp : p ≠ q := fun e => by rw [← e, hp1] at hq; cases hq
    refine ⟨upS_same, fun d S2 hd f2 ht => ?_⟩
    have hp2 : S2 p = some (.ins CM (putFT "_number" (.int n) [])) := f2 p _ (by rw [upS_ne hqp]; exact hp1) hqp
    have hdS1 : S1 d = none := by
      by_cases dq : d = q
      · rw [dq]; exact hq
      · rw [upS_ne dq] at hd; exact hd
    have hdp : p ≠ d := fun e => by rw [← e, hp1] at hdS1; cases hdS1
    refine ⟨rfl, ?_⟩
    walk_at "r0"
    rw [hp2]
    walk_at "r0"
    refine ⟨Nat.lt_of_lt_of_le (show (putFT "_number" (T.int n) []).length < 2 from Nat.lt_of_lt_of_le (Nat.lt_succ_self 1) (Nat.le_refl _)) (by decide), ?_⟩
    refine goS_i (h q d _ (fun a o e na => ?_) ⟨n1 q hq, n1 d hdS1⟩ ⟨?_, ?_, hqp⟩)
    · rw [upS_ne na]
      have h1 := f1 a o e na
      have haq : a ≠ q := fun z => by rw [z, hq] at h1; cases h1
      exact f2 a o (by rw [upS_ne haq]; exact h1) haq
    · rw [upS_same]
      try rfl
    · refine ht.keep fun a o e z => ?_
      rw [upS_ne (by rcases z with z | z <;> rw [z]; exact hqp.symm; exact hdp.symm)]
      exact e
def spMForget (C CM : Addr) : WSp := fun ts S Q _ => match ts with
  | [.ref p] => ∃ t d n rs, MuxAt C CM S p t d n rs ∧ ∀ d' S', S d' = none → (∀ a o, S a = some o → a ≠ t → S' a = some o) → MuxAt C CM S' p t d' n [] → Q .non S'
  | _ => False
theorem hw_mforget : ∀ ts S Q E, ts.length = 1 → spMForget C CM ts S Q E → b_Mux_forget K C CM (spForget C) { nx := fun _ S' => Q .non S', rt := Q } (Wp.startT N_Mux_forget ts) S := by
  intro ts S Q E _ h
  match ts, h with
  | [.ref p], ⟨t, d, n, rs, hm, h⟩ =>
    have hp := hm.ob
    have ht := hm.tb.ob
    unfold b_Mux_forget N_Mux_forget
    walk_at "r0"
    rw [hp]
    walk_at "r0"
    rw [ht]
    walk_at "r0"
    exact ⟨d, rs, hm.tb, fun d' S' hd f ht' => h d' S' hd f ⟨f _ _ hp hm.ne, ht', hm.ne⟩⟩
def spMRows (C CM : Addr) : WSp := fun ts S Q _ => match ts with
  | [.ref p] => ∃ t d n rs, MuxAt C CM S p t d n rs ∧ inB rs ∧ ∀ S', Gr S S' → Q (.tup ((rowsOf rs).map Row.t)) S'
  | _ => False
theorem hw_mrows : ∀ ts S Q E, ts.length = 1 → spMRows C CM ts S Q E → b_Mux_rows K C CM (spRowsM C) { nx := fun _ S' => Q .non S', rt := Q } (Wp.startT N_Mux_rows ts) S := by
  intro ts S Q E _ h
  match ts, h with
  | [.ref p], ⟨t, d, n, rs, hm, hin, h⟩ =>
    have hp := hm.ob
    have ht := hm.tb.ob
    unfold b_Mux_rows N_Mux_rows
    walk_at "r0"
    rw [hp]
    walk_at "r0"
    rw [ht]
    walk_at "r0"
    exact ⟨d, rs, hm.tb, hin, h⟩
def agOf : T → T
  | .tup (a :: _) => a
  | _ => .non
/-- what is sent for a packet of the flow (a, b) -/
def dueL (rs : List Row) (a b : Int) (v : T) : List T := match best rs ((5 * b + 7 * a) % 16) with
  | none => []
  | some r => [.tup [.tup [.str "agent", agOf r.w], .tup [.str "wrap", .int ((5 * b + 7 * a) % 16), .int 8, v]]]
def spPass (C CM : Addr) : WSp := fun ts S Q _ => match ts with
  | [.ref p, v] => ∃ t d n rs w a b r, MuxAt C CM S p t d n rs ∧ (∀ r ∈ rs, okR r) ∧ v = .tup (.str w :: .tup [.int a, .int b] :: r) ∧ ∀ q S', S q = none → Gr S S' → S' q = some (.lst (dueL rs a b v)) → Q (.ref q) S'
  | _ => False
theorem hw_pass : ∀ ts S Q E, ts.length = 2 → spPass C CM ts S Q E → b_Mux__pass_on K C CM spBk (spBirth C) { nx := fun _ S' => Q .non S', rt := Q } (Wp.startT N_Mux__pass_on ts) S := by
  intro ts S Q E _ h
  match ts, h with
  | [.ref p, v], ⟨t, d, n, rs, w, a, b, r, hm, hok, e, h⟩ =>
    subst e
    have hp := hm.ob
    have ht := hm.tb.ob
    unfold b_Mux__pass_on N_Mux__pass_on
    walk_at "r0"
    show spBk [.tup [.int a, .int b]] S _ _
    simp only [spBk]
    walk_at "r0"
    rw [hp]
    walk_at "r0"
    rw [ht]
    walk_at "r0"
    refine ⟨d, rs, hm.tb, ?_⟩
    unfold dueL at h
    cases e : best rs ((5 * b + 7 * a) % 16) with
    | none =>
      rw [e] at h
      walk_at "r0"
      intro q hq
      exact h q _ hq (gr_new hq) upS_same
    | some r0 =>
      rw [e] at h
      obtain ⟨_, ag, m, hw, _⟩ := hok r0 (best_b rs e).2
      simp only at h ⊢
      rw [hw] at h ⊢
      walk_at "r0"
      intro q hq
      exact h q _ hq (gr_new hq) upS_same
theorem pk_w6' {w : Str} {r : List T} (h : isPk (.tup (.str w :: r)) = true) : w ≠ "table" := by
  have : decide (w = "open") = true ∨ w3 w = true ∨ w2 w = true := by
    match r, h with
    | [a], h => simp only [isPk, Bool.and_eq_true] at h; exact .inl h.1
    | [a, b], h => simp only [isPk, Bool.and_eq_true] at h; exact .inr (.inl h.1)
    | [a, b, c, d, e, f], h => simp only [isPk, Bool.and_eq_true] at h; exact .inr (.inr h.1)
  simp only [w3, w2, Bool.or_eq_true, decide_eq_true_eq] at this
  rcases this with h | (h | h | h) | h | h <;> subst h <;> decide +kernel
def spRecv (C CM : Addr) : WSp := fun ts S Q _ => match ts with
  | [.ref p, v] => ∃ t d n rs, MuxAt C CM S p t d n rs ∧ (∀ r ∈ rs, okR r) ∧ Kn S v ∧
      ((isMsg (.mux n) v = false ∧ ∀ q S', S q = none → Gr S S' → S' q = some (.lst []) → Q (.ref q) S') ∨
       (∃ rs', v = .tup [.str "table", .tup (rs'.map Row.t)] ∧ isMsg (.mux n) v = true ∧ inB rs' ∧ ∀ q S', S q = none → (∀ a o, S a = some o → a ≠ d → S' a = some o) → MuxAt C CM S' p t d n (rs ++ rs') → S' q = some (.lst []) → Q (.ref q) S') ∨
       (∃ w a b r, v = .tup (.str w :: .tup [.int a, .int b] :: r) ∧ isUp v = true ∧ ∀ q S', S q = none → Gr S S' → S' q = some (.lst (dueL rs a b v)) → Q (.ref q) S'))
  | _ => False
theorem hw_recv : ∀ ts S Q E, ts.length = 2 → spRecv C CM ts S Q E → b_Mux_receive K C CM spMsg (spTake C) (spPass C CM) { nx := fun _ S' => Q .non S', rt := Q } (Wp.startT N_Mux_receive ts) S := by
  intro ts S Q E _ h
  match ts, h with
  | [.ref p, v], ⟨t, d, n, rs, hm, hok, kv, h⟩ =>
    have hp := hm.ob
    have ht := hm.tb.ob
    unfold b_Mux_receive N_Mux_receive
    walk_at "r0"
    rw [hp]
    walk_at "r0"
    refine ⟨.mux n, rfl, kv, ?_⟩
    rcases h with ⟨hno, h⟩ | ⟨rs', rfl, hyes, hin, h⟩ | ⟨w, a, b, r, rfl, hup, h⟩
    · rw [hno]
      walk_at "r0"
      intro q hq
      exact h q _ hq (gr_new hq) upS_same
    · rw [hyes]
      walk_at "r0"
      refine rEqL (by decide +kernel) (by decide +kernel) (b := true) (by decide +kernel) ?_
      walk_at "r0"
      rw [hp]
      walk_at "r0"
      rw [ht]
      walk_at "r0"
      refine ⟨d, rs, rs', rfl, hm.tb, hin, fun S1 f1 ht1 => ?_⟩
      walk_at "r0"
      intro q hq
      have hq0 : S q = none := by
        cases z : S q with
        | none => rfl
        | some o =>
          by_cases qd : q = d
          · obtain ⟨kvs, e2, _⟩ := ht1.dc
            rw [qd, e2] at hq; cases hq
          · rw [f1 q o z qd] at hq; cases hq
      have g2 := gr_new (o := .lst []) hq
      exact h q _ hq0 (fun a o e na => g2 _ _ (f1 a o e na)) ⟨g2 _ _ (f1 p _ hp hm.nd), ht1.keep fun a o e _ => g2 _ _ e, hm.ne⟩ upS_same
    · have hw6 := pk_w6' (isUp_pk hup)
      rw [show isMsg (.mux n) (.tup (.str w :: .tup [.int a, .int b] :: r)) = true by simp only [isMsg, hup, Bool.true_or]]
      walk_at "r0"
      have hs : PyData.strOk w = true := by
        cases kv.items _ List.mem_cons_self with
        | str _ z _ => exact z
      refine rEqL hs (by decide +kernel) (b := false) ?_ ?_
      · rw [Bool.false_bne]
        exact beq_eq_false_iff_ne.mpr hw6
      walk_at "r0"
      rw [hp]
      walk_at "r0"
      exact ⟨t, d, n, rs, w, a, b, r, hm, hok, rfl, h⟩
end My

set_option Elab.async false
set_option linter.all false
set_option maxRecDepth 100000
set_option maxHeartbeats 8000000
namespace My
open PySem PySem.Spec PyProof.Rows L2 Wp Gn
local macro_rules | `(tactic| walk_at "go") => `(tactic| (with_reducible refine goS_i ?_))
local macro_rules | `(tactic| walk_at "wp") => `(tactic| simp (disch := omega) only [Wp.wSeq, Wp.wNext, Wp.wSet, Wp.wVar, Wp.wC, Wp.wOp, Wp.wRet, Wp.wIfS, Wp.wTest, Wp.wCall, Wp.wCons, Wp.wNil, Wp.wTup, Wp.wLst, Wp.wAsg, Wp.gTp, Wp.gC, Wp.gNm, Wp.gN0, Wp.gIx, Wp.rSet, Wp.rAdd, Wp.rMul, Wp.rMod, Wp.rSub, Wp.rFdiv, Wp.rPow, Wp.rInt, Wp.rIx, Wp.rLt, Wp.rLe, Wp.rCmp, Wp.rGeI, Wp.rGtI, Wp.wCB, Wp.rLen, Wp.rLen1, Wp.rInt1, Wp.rMax2, Wp.rMin2, Wp.rTupOf, Wp.rListOf,
  Wp.wIsi, Wp.rBIs, Wp.rIsN, Wp.isNon, Wp.wMt, Wp.rAppendT, Wp.rExtendT, Wp.rReverseT, Wp.wNot, Wp.wOr, Wp.wAnd, Wp.wAndV, Wp.wOrV, Wp.wNotV, Wp.wFor, Wp.iRg1, Wp.iRg2, Wp.iAnyW, Wp.wAll, Wp.wChain, Wp.wSl, Wp.wNoPart, Wp.wPart, Wp.rSl, Wp.wNeg, Wp.rNeg, Wp.wLc, Wp.wYes, Wp.wDrop, Wp.wipeT, Wp.wAug, List.map, List.set_cons_zero, List.set_cons_succ, List.getElem?_cons_zero, List.getElem?_cons_succ, List.length_cons, List.length_nil, List.cons_append, List.nil_append, List.replicate, Wp.startT,
  true_and, and_true, Wp.wif_true, Wp.wif_false, Wp.ex_some, Wp.ex_some1, Wp.ex_eq, Wp.ex_lst, Wp.ex_lst0, Wp.rEq_int, Bool.false_bne, Bool.true_bne, Int.reduceLT, Int.reduceLE, Int.reduceAdd, Nat.reduceAdd, Nat.reduceSub, eq_self, ite_true, ite_false, beq_self_eq_true, Bool.not_true, Bool.not_false, Wp.isB_0, Wp.isB_1, Wp.isB_2, Wp.isB_3, Wp.isB_4, Wp.isB_5, Wp.isB_6, Wp.isB_7, Wp.isB_8, Wp.isB_9, Wp.isB_10, Wp.isB_11, Wp.isB_12, Wp.isB_13, Wp.isB_14, Wp.isB_15, Wp.isB_16, Wp.isB_17, Wp.isB_18, Wp.isB_19, Wp.isB_20, Wp.isB_21, Wp.isB_22, Wp.isB_23, Wp.isB_24, Wp.isB_25, Wp.isB_26, Wp.isB_27, Wp.isB_28, Wp.isB_29, Wp.isB_30, Wp.isB_31, Wp.isB_32, Wp.isB_33, Wp.isB_34, Wp.isB_35, Wp.cmul_l, Wp.cmul_r, Wp.cpow_lit, Wp.size_le, Wp.size_lt, Wp.atI_0, Wp.atI_1, Wp.atI_2, Wp.atI_3, Wp.atI_4, Wp.atI_5, Wp.atI_6, Wp.ixN_0, Wp.ixN_1, Wp.ixN_2, Wp.itemsT, Wp.tyT, reduceIte, Wp.wFld, Wp.wFSet, Wp.wFAug, Wp.wMeth, Wp.wMake, Wp.rIxA, Wp.rInA, Wp.rSetA, Wp.ixA, Wp.inA, Wp.setA, Wp.lenA, Wp.getD, Option.map_some, Option.bind_some, Option.getD_some,  Wp.gIxA, Wp.wDNew, Wp.wDNewT, Wp.rLenA, Wp.rSortD, Wp.rMaxL, Wp.rPopL, Wp.rGet1, Wp.rGet2, Wp.wGet1, Wp.wGet2, Wp.wPop1, Wp.wPop2, Wp.wDel, Wp.isDT, Wp.keyT, Wp.keysT, Wp.keysL, Wp.ex_ins, Wp.ex_dct, Wp.wKGet, Wp.wKIx, Wp.rLenK, Wp.iZipK, Wp.wDisp, Wp.wPCons, Wp.wPNil, Wp.rGt, Int.cast_ofNat_Int, Int.reduceBEq, Wp.wRev, Wp.rRev, Wp.rMulA, lk_Table__rows, pt_Table__rows, no_Table_take, no_Table_rows, no_Table_birth, no_Table_forget, ln_Table, mk_Table, lk_Mux__number, pt_Mux__number, lk_Mux__table, pt_Mux__table, no_Mux_receive, no_Mux_forget, no_Mux_rows, no_Mux__pass_on, ln_Mux, mk_Mux, Wp.wRev, Wp.rRev, Wp.upS, Wp.upS_upS, *])
local macro_rules | `(tactic| walk_at "run") => `(tactic| repeat (first | walk_at "wp" | walk_at "go"))
local macro_rules | `(tactic| walk_at "wq") => `(tactic| simp (disch := omega) only [Wp.wSeq, Wp.wNext, Wp.wSet, Wp.wVar, Wp.wC, Wp.wOp, Wp.wRet, Wp.wIfS, Wp.wTest, Wp.wCall, Wp.wCons, Wp.wNil, Wp.wTup, Wp.wLst, Wp.wAsg, Wp.gTp, Wp.gC, Wp.gNm, Wp.gN0, Wp.gIx, Wp.rSet, Wp.rAdd, Wp.rMul, Wp.rMod, Wp.rSub, Wp.rFdiv, Wp.rPow, Wp.rInt, Wp.rIx, Wp.rLt, Wp.rLe, Wp.rCmp, Wp.rGeI, Wp.rGtI, Wp.wCB, Wp.rLen, Wp.rLen1, Wp.rInt1, Wp.rMax2, Wp.rMin2, Wp.rTupOf, Wp.rListOf,
  Wp.wIsi, Wp.rBIs, Wp.rIsN, Wp.isNon, Wp.wMt, Wp.rAppendT, Wp.rExtendT, Wp.rReverseT, Wp.wNot, Wp.wOr, Wp.wAnd, Wp.wAndV, Wp.wOrV, Wp.wNotV, Wp.wFor, Wp.iRg1, Wp.iRg2, Wp.iAnyW, Wp.wAll, Wp.wChain, Wp.wSl, Wp.wNoPart, Wp.wPart, Wp.rSl, Wp.wNeg, Wp.rNeg, Wp.wLc, Wp.wYes, Wp.wDrop, Wp.wipeT, Wp.wAug, List.map, List.set_cons_zero, List.set_cons_succ, List.getElem?_cons_zero, List.getElem?_cons_succ, List.length_cons, List.length_nil, List.cons_append, List.nil_append, List.replicate, Wp.startT,
  true_and, and_true, Wp.wif_true, Wp.wif_false, Wp.ex_some, Wp.ex_some1, Wp.ex_eq, Wp.ex_lst, Wp.ex_lst0, Wp.rEq_int, Bool.false_bne, Bool.true_bne, Int.reduceLT, Int.reduceLE, Int.reduceAdd, Nat.reduceAdd, Nat.reduceSub, eq_self, ite_true, ite_false, beq_self_eq_true, Bool.not_true, Bool.not_false, Wp.isB_0, Wp.isB_1, Wp.isB_2, Wp.isB_3, Wp.isB_4, Wp.isB_5, Wp.isB_6, Wp.isB_7, Wp.isB_8, Wp.isB_9, Wp.isB_10, Wp.isB_11, Wp.isB_12, Wp.isB_13, Wp.isB_14, Wp.isB_15, Wp.isB_16, Wp.isB_17, Wp.isB_18, Wp.isB_19, Wp.isB_20, Wp.isB_21, Wp.isB_22, Wp.isB_23, Wp.isB_24, Wp.isB_25, Wp.isB_26, Wp.isB_27, Wp.isB_28, Wp.isB_29, Wp.isB_30, Wp.isB_31, Wp.isB_32, Wp.isB_33, Wp.isB_34, Wp.isB_35, Wp.cmul_l, Wp.cmul_r, Wp.cpow_lit, Wp.size_le, Wp.size_lt, Wp.atI_0, Wp.atI_1, Wp.atI_2, Wp.atI_3, Wp.atI_4, Wp.atI_5, Wp.atI_6, Wp.ixN_0, Wp.ixN_1, Wp.ixN_2, Wp.itemsT, Wp.tyT, reduceIte, Wp.wFld, Wp.wFSet, Wp.wFAug, Wp.wMeth, Wp.wMake, Wp.rIxA, Wp.rInA, Wp.rSetA, Wp.ixA, Wp.inA, Wp.setA, Wp.lenA, Wp.getD, Option.map_some, Option.bind_some, Option.getD_some,  Wp.gIxA, Wp.wDNew, Wp.wDNewT, Wp.rLenA, Wp.rSortD, Wp.rMaxL, Wp.rPopL, Wp.rGet1, Wp.rGet2, Wp.wGet1, Wp.wGet2, Wp.wPop1, Wp.wPop2, Wp.wDel, Wp.isDT, Wp.keyT, Wp.keysT, Wp.keysL, Wp.ex_ins, Wp.ex_dct, Wp.wKGet, Wp.wKIx, Wp.rLenK, Wp.iZipK, Wp.wDisp, Wp.wPCons, Wp.wPNil, Wp.rGt, Int.cast_ofNat_Int, Int.reduceBEq, Wp.wRev, Wp.rRev, Wp.rMulA, lk_Table__rows, pt_Table__rows, no_Table_take, no_Table_rows, no_Table_birth, no_Table_forget, ln_Table, mk_Table, lk_Mux__number, pt_Mux__number, lk_Mux__table, pt_Mux__table, no_Mux_receive, no_Mux_forget, no_Mux_rows, no_Mux__pass_on, ln_Mux, mk_Mux, Wp.wRev, Wp.rRev, *])
local macro_rules | `(tactic| walk_at "r2") => `(tactic| repeat (first | walk_at "wq" | walk_at "go"))
local macro_rules | `(tactic| walk_at "w0") => `(tactic| simp (disch := omega) only [Wp.wSeq, Wp.wNext, Wp.wSet, Wp.wVar, Wp.wC, Wp.wOp, Wp.wRet, Wp.wIfS, Wp.wTest, Wp.wCall, Wp.wCons, Wp.wNil, Wp.wTup, Wp.wLst, Wp.wAsg, Wp.gTp, Wp.gC, Wp.gNm, Wp.gN0, Wp.gIx, Wp.rSet, Wp.rAdd, Wp.rMul, Wp.rMod, Wp.rSub, Wp.rFdiv, Wp.rPow, Wp.rInt, Wp.rIx, Wp.rLt, Wp.rLe, Wp.rCmp, Wp.rGeI, Wp.rGtI, Wp.wCB, Wp.rLen, Wp.rLen1, Wp.rInt1, Wp.rMax2, Wp.rMin2, Wp.rTupOf, Wp.rListOf,
  Wp.wIsi, Wp.rBIs, Wp.rIsN, Wp.isNon, Wp.wMt, Wp.rAppendT, Wp.rExtendT, Wp.rReverseT, Wp.wNot, Wp.wOr, Wp.wAnd, Wp.wAndV, Wp.wOrV, Wp.wNotV, Wp.wFor, Wp.iRg1, Wp.iRg2, Wp.iAnyW, Wp.wAll, Wp.wChain, Wp.wSl, Wp.wNoPart, Wp.wPart, Wp.rSl, Wp.wNeg, Wp.rNeg, Wp.wLc, Wp.wYes, Wp.wDrop, Wp.wipeT, Wp.wAug, List.map, List.set_cons_zero, List.set_cons_succ, List.getElem?_cons_zero, List.getElem?_cons_succ, List.length_cons, List.length_nil, List.cons_append, List.nil_append, List.replicate, Wp.startT,
  true_and, and_true, Wp.wif_true, Wp.wif_false, Wp.ex_some, Wp.ex_some1, Wp.ex_eq, Wp.ex_lst, Wp.ex_lst0, Wp.rEq_int, Bool.false_bne, Bool.true_bne, Int.reduceLT, Int.reduceLE, Int.reduceAdd, Nat.reduceAdd, Nat.reduceSub, eq_self, ite_true, ite_false, beq_self_eq_true, Bool.not_true, Bool.not_false, Wp.isB_0, Wp.isB_1, Wp.isB_2, Wp.isB_3, Wp.isB_4, Wp.isB_5, Wp.isB_6, Wp.isB_7, Wp.isB_8, Wp.isB_9, Wp.isB_10, Wp.isB_11, Wp.isB_12, Wp.isB_13, Wp.isB_14, Wp.isB_15, Wp.isB_16, Wp.isB_17, Wp.isB_18, Wp.isB_19, Wp.isB_20, Wp.isB_21, Wp.isB_22, Wp.isB_23, Wp.isB_24, Wp.isB_25, Wp.isB_26, Wp.isB_27, Wp.isB_28, Wp.isB_29, Wp.isB_30, Wp.isB_31, Wp.isB_32, Wp.isB_33, Wp.isB_34, Wp.isB_35, Wp.cmul_l, Wp.cmul_r, Wp.cpow_lit, Wp.size_le, Wp.size_lt, Wp.atI_0, Wp.atI_1, Wp.atI_2, Wp.atI_3, Wp.atI_4, Wp.atI_5, Wp.atI_6, Wp.ixN_0, Wp.ixN_1, Wp.ixN_2, Wp.itemsT, Wp.tyT, reduceIte, Wp.wFld, Wp.wFSet, Wp.wFAug, Wp.wMeth, Wp.wMake, Wp.rIxA, Wp.rInA, Wp.rSetA, Wp.ixA, Wp.inA, Wp.setA, Wp.lenA, Wp.getD, Option.map_some, Option.bind_some, Option.getD_some,  Wp.gIxA, Wp.wDNew, Wp.wDNewT, Wp.rLenA, Wp.rSortD, Wp.rMaxL, Wp.rPopL, Wp.rGet1, Wp.rGet2, Wp.wGet1, Wp.wGet2, Wp.wPop1, Wp.wPop2, Wp.wDel, Wp.isDT, Wp.keyT, Wp.keysT, Wp.keysL, Wp.ex_ins, Wp.ex_dct, Wp.wKGet, Wp.wKIx, Wp.rLenK, Wp.iZipK, Wp.wDisp, Wp.wPCons, Wp.wPNil, Wp.rGt, Int.cast_ofNat_Int, Int.reduceBEq, Wp.wRev, Wp.rRev, Wp.rMulA, lk_Table__rows, pt_Table__rows, no_Table_take, no_Table_rows, no_Table_birth, no_Table_forget, ln_Table, mk_Table, lk_Mux__number, pt_Mux__number, lk_Mux__table, pt_Mux__table, no_Mux_receive, no_Mux_forget, no_Mux_rows, no_Mux__pass_on, ln_Mux, mk_Mux, Wp.wRev, Wp.rRev])
local macro_rules | `(tactic| walk_at "r0") => `(tactic| repeat (first | walk_at "w0" | walk_at "go"))
variable {K : PySem.W.Frag} {C CM : Addr}
/-! ### what may be compared -/
theorem nb_I {v : T} {a b : Int} (h : isI v a b = true) : nbT v = true ∧ dpT v = 0 := by obtain ⟨i, rfl, _⟩ := isI_form h; exact ⟨rfl, rfl⟩
theorem nb_lf {v : T} (h : isLf v = true) : nbT v = true ∧ dpT v ≤ 1 := by
  match v, h with
  | .tup [a, b, c], h =>
    simp only [isLf, Bool.and_eq_true] at h
    obtain ⟨i, rfl, _⟩ := isI_form h.1.1
    obtain ⟨j, rfl, _⟩ := isI_form h.1.2
    obtain ⟨k, rfl, _⟩ := isI_form h.2
    exact ⟨rfl, Nat.le_of_ble_eq_true rfl⟩
theorem nb_by {v : T} (h : isBy v = true) : nbT v = true ∧ dpT v ≤ 1 := by
  cases v with
  | tup ts =>
    simp only [isBy, List.all_eq_true] at h
    have key : ∀ ts : List T, (∀ t ∈ ts, isI t 0 255 = true) → nbTs ts = true ∧ dpTs ts = 0 := by
      intro ts
      induction ts with
      | nil => exact fun _ => ⟨rfl, rfl⟩
      | cons t ts ih =>
        intro h
        obtain ⟨i, rfl, _⟩ := isI_form (h t List.mem_cons_self)
        obtain ⟨h1, h2⟩ := ih fun x hx => h x (List.mem_cons_of_mem _ hx)
        refine ⟨?_, ?_⟩
        · simp only [nbTs, nbT, Bool.true_and]; exact h1
        · simp only [dpTs, dpT, h2]; rfl
    obtain ⟨h1, h2⟩ := key ts h
    refine ⟨h1, ?_⟩
    simp only [dpT, h2]
    exact Nat.le_refl _
  | _ => cases h
theorem pk_nb {w : Str} {a : T} {r : List T} (h : isPk (.tup (.str w :: a :: r)) = true) : nbTs r = true ∧ dpTs r ≤ 1 := by
  match r, h with
  | [], _ => exact ⟨rfl, Nat.zero_le _⟩
  | [b], h =>
    simp only [isPk, Bool.and_eq_true] at h
    obtain ⟨h1, h2⟩ := nb_lf h.2.2
    exact ⟨by simp only [nbTs, h1, Bool.and_self], by simp only [dpTs]; omega⟩
  | [b, c, d, e, f], h =>
    simp only [isPk, isSg, Bool.and_eq_true] at h
    obtain ⟨_, _, hb, hc, he, hd, _, hf⟩ := h
    obtain ⟨b1, b2⟩ := nb_lf hb
    obtain ⟨c1, c2⟩ := nb_I hc
    obtain ⟨d1, d2⟩ := nb_by hd
    obtain ⟨e1, e2⟩ := nb_I he
    obtain ⟨f1, f2⟩ := nb_I hf
    exact ⟨by simp only [nbTs, b1, c1, d1, e1, f1, Bool.and_self], by simp only [dpTs, c2, e2, f2]; omega⟩
def sOk (x : Str) : Bool := PyData.strOk x && decide (x.length ≤ 100)
theorem kd_s {S : Sta} {d n : Nat} {x : Str} (h : sOk x = true) : Kd S d n (.str x) := by
  simp only [sOk, Bool.and_eq_true, decide_eq_true_eq] at h
  exact .str d n x h.1 h.2
def dueU (rs : List Row) (w : Str) (a b : Int) (v : T) : List T := if up3 w = true then dueL rs a b v else []
theorem gone {S S' : Sta} {q : Addr} (g : Gr S S') (h : S' q = none) : S q = none := by
  cases e : S q with
  | none => rfl
  | some o => rw [g _ _ e] at h; cases h
theorem nb_due {rs : List Row} (hok : ∀ r ∈ rs, okR r) {w : Str} {a b : Int} {r : List T} (hp : isPk (.tup (.str w :: .tup [.int a, .int b] :: r)) = true) (hs : PyData.strOk w = true) :
    nbTs (dueL rs a b (.tup (.str w :: .tup [.int a, .int b] :: r))) = true ∧ dpTs (dueL rs a b (.tup (.str w :: .tup [.int a, .int b] :: r))) ≤ 10 := by
  obtain ⟨h1, h2⟩ := pk_nb hp
  unfold dueL
  cases e : best rs ((5 * b + 7 * a) % 16) with
  | none => exact ⟨rfl, Nat.zero_le _⟩
  | some x =>
    obtain ⟨_, ag, m, hw, _⟩ := hok x (best_b rs e).2
    simp only [hw, agOf]
    refine ⟨?_, ?_⟩
    · simp only [nbTs, nbT, h1, hs, Bool.and_self, Bool.and_true]
      decide +kernel
    · simp only [dpTs, dpT]
      omega
theorem no_tab {w : Str} {r : List T} {n : Int} (hp : isPk (.tup (.str w :: r)) = true) (hu : up3 w = false) : isMsg (.mux n) (.tup (.str w :: r)) = false := by
  have h1 : isUp (.tup (.str w :: r)) = false := by simp only [isUp, hu, Bool.and_false]
  have h2 : look tM w = none := by
    show (if ("table" : Str) = w then some [Ki.t] else none) = none
    rw [if_neg (fun e => pk_w6' hp e.symm)]
  simp only [isMsg, h1, tblP, h2, Bool.or_self]
theorem tab_yes {rs : List Row} (hok : ∀ r ∈ rs, okR r) {n : Int} : isMsg (.mux n) (.tup [.str "table", .tup (rs.map Row.t)]) = true := by
  have h2 : look tM "table" = some [.t] := by decide +kernel
  have h3 : allRw .t (.tup (rs.map Row.t)) = true := by
    show (rs.map Row.t).all (okRw .t) = true
    rw [List.all_eq_true]
    intro x hx
    obtain ⟨r0, hr0, rfl⟩ := List.mem_map.mp hx
    obtain ⟨hb, ag, m, hw, hv, ha, hm⟩ := hok r0 hr0
    show allP ok0 [.k, .c, .b] [.int r0.b, .int r0.v, r0.w] = true
    rw [hw]
    simp only [allP, ok0, isI_in (show 0 ≤ r0.b ∧ r0.b ≤ 15 by omega), isI_in (show 0 ≤ r0.v ∧ r0.v ≤ 1000000 by omega), isPr, isI_in ha, isI_in hm, Bool.and_self]
  simp only [isMsg, tblP, h2, allP, okK, isRk, if_true, h3, Bool.and_self, Bool.or_true]
theorem bag_off {S : Sta} {p : Addr} (hb : IsBag S p) {q : Addr} {o : O} (e : S q = some o) (h : ∀ xs, o ≠ .lst xs) : q ≠ p := fun z => by
  obtain ⟨a, b, c, e2⟩ := hb
  rw [z, e2] at e
  cases e
  exact h _ rfl
theorem mux_off {S : Sta} {p pm t d : Addr} {n : Int} {rs : List Row} (hb : IsBag S p) (hm : MuxAt C CM S pm t d n rs) : pm ≠ p ∧ t ≠ p ∧ d ≠ p := by
  obtain ⟨kvs, e, _⟩ := hm.tb.dc
  exact ⟨bag_off hb hm.ob (fun _ z => by cases z), bag_off hb hm.tb.ob (fun _ z => by cases z), bag_off hb e (fun _ z => by cases z)⟩
theorem mux_grb {S S' : Sta} {p pm t d : Addr} {n : Int} {rs : List Row} (hb : IsBag S p) (hm : MuxAt C CM S pm t d n rs) (g : Grb p S S') : MuxAt C CM S' pm t d n rs := by
  obtain ⟨h1, h2, h3⟩ := mux_off hb hm
  exact hm.keep fun a o e z => g.keep a o e (by rcases z with z | z | z <;> rw [z] <;> assumption)

/-! ### the same rows in any order -/
theorem best_ext {rs rs' : List Row} (W : Int → Int → T) (hm : ∀ r, r ∈ rs ↔ r ∈ rs') (hf : ∀ r ∈ rs, r.w = W r.b r.v) (b : Int) : best rs b = best rs' b := by
  cases e : best rs b with
  | none =>
    refine ((best_none rs').mpr fun r hr => ?_).symm
    exact (best_none rs).mp e r ((hm r).mpr hr)
  | some r =>
    obtain ⟨h1, h2⟩ := best_b rs e
    cases e' : best rs' b with
    | none => exact absurd h1 ((best_none rs').mp e' r ((hm r).mp h2))
    | some x =>
      obtain ⟨k1, k2⟩ := best_b rs' e'
      have a := best_max rs e x ((hm x).mpr k2) k1
      have c := best_max rs' e' r ((hm r).mp h2) h1
      have w1 := hf r h2
      have w2 := hf x ((hm x).mpr k2)
      have hv : r.v = x.v := by omega
      have hb : r.b = x.b := by rw [h1, k1]
      have hw : r.w = x.w := by rw [w1, w2, hv, hb]
      cases r; cases x
      simp only at hv hb hw
      subst hv hb hw
      rfl
theorem rowsOf_ext {rs rs' : List Row} (h : ∀ b, best rs b = best rs' b) : rowsOf rs = rowsOf rs' := by
  unfold rowsOf
  exact congrArg (fun f => (List.range 16).filterMap f) (funext fun b => h b)
theorem dueU_ext {rs rs' : List Row} (h : ∀ b, best rs b = best rs' b) (w : Str) (a b : Int) (v : T) : dueU rs w a b v = dueU rs' w a b v := by
  unfold dueU dueL
  rw [h]
/-! ### what comes of a packet -/
def PkV (v : T) : Prop := ∃ w r, v = .tup (.str w :: r) ∧ isPk v = true ∧ ∀ S0, Kd S0 2 9 v
def outF (R : List Row) (v : T) : List T := match v with
  | .tup (.str w :: .tup [.int a, .int b] :: _) => dueU R w a b v
  | _ => []
theorem outF_ext {rs rs' : List Row} (h : ∀ b, best rs b = best rs' b) (v : T) : outF rs v = outF rs' v := by
  unfold outF
  split
  · exact dueU_ext h _ _ _ _
  · rfl
theorem recv_pk {S : Sta} {pm t d : Addr} {n : Int} {R : List Row} (hm : MuxAt C CM S pm t d n R) (hok : ∀ r ∈ R, okR r) {v : T} (hv : PkV v) {Q : T → Sta → Prop} {E : Addr → Sta → Prop}
    (h : ∀ q S', S q = none → Gr S S' → S' q = some (.lst (outF R v)) → Q (.ref q) S') : spRecv C CM [.ref pm, v] S Q E := by
  obtain ⟨w, r, rfl, hpk, hkd⟩ := hv
  obtain ⟨w2, x, r2, e, hpr⟩ := pk_form hpk
  cases e
  obtain ⟨a, b, rfl, ha, hbb⟩ := pr_form hpr
  refine ⟨t, d, n, R, hm, hok, (hkd S).kn (by decide), ?_⟩
  have h' : ∀ q S', S q = none → Gr S S' → S' q = some (.lst (dueU R w a b (.tup (.str w :: .tup [.int a, .int b] :: r2)))) → Q (.ref q) S' := h
  cases hu : up3 w with
  | true =>
    refine .inr (.inr ⟨w, a, b, r2, rfl, by simp only [isUp, hpk, hu, Bool.and_self], fun q S2 hq g2 e2 => h' q S2 hq g2 ?_⟩)
    unfold dueU
    rw [if_pos hu]
    exact e2
  | false =>
    refine .inl ⟨no_tab hpk hu, fun q S2 hq g2 e2 => h' q S2 hq g2 ?_⟩
    unfold dueU
    rw [if_neg (by rw [hu]; exact Bool.false_ne_true)]
    exact e2
theorem nb_out {R : List Row} (hok : ∀ r ∈ R, okR r) {v : T} (hv : PkV v) : nbTs (outF R v) = true ∧ dpTs (outF R v) ≤ 10 := by
  obtain ⟨w, r, rfl, hpk, hkd⟩ := hv
  obtain ⟨w2, x, r2, e, hpr⟩ := pk_form hpk
  cases e
  obtain ⟨a, b, rfl, ha, hbb⟩ := pr_form hpr
  have kv : Kn (fun _ => none) (.tup (.str w :: .tup [.int a, .int b] :: r2)) := (hkd _).kn (by decide)
  have hs : PyData.strOk w = true := by
    cases kv.items _ List.mem_cons_self with
    | str _ z _ => exact z
  show nbTs (dueU R w a b _) = true ∧ dpTs (dueU R w a b _) ≤ 10
  unfold dueU
  split
  · exact nb_due hok hpk hs
  · exact ⟨rfl, Nat.zero_le _⟩
theorem nb_outs {R : List Row} (hok : ∀ r ∈ R, okR r) : ∀ vs : List T, (∀ v ∈ vs, PkV v) → nbTs (vs.map fun v => T.fl (outF R v)) = true ∧ dpTs (vs.map fun v => T.fl (outF R v)) ≤ 11
  | [], _ => ⟨rfl, Nat.zero_le _⟩
  | v :: vs, h => by
    obtain ⟨h1, h2⟩ := nb_outs hok vs fun x hx => h x (List.mem_cons_of_mem _ hx)
    obtain ⟨a1, a2⟩ := nb_out hok (h v List.mem_cons_self)
    refine ⟨?_, ?_⟩
    · simp only [List.map_cons, nbTs, nbT, a1, Bool.true_and]; exact h1
    · simp only [List.map_cons, dpTs, dpT]
      show max _ (dpTs (vs.map fun v => T.fl (outF R v))) ≤ 11
      omega
theorem kd_table {S : Sta} {rs' : List Row} (hok' : ∀ r ∈ rs', okR r) (hl' : rs'.length ≤ 1000) : Kd S 4 1000 (.tup [.str "table", .tup (rs'.map Row.t)]) := by
  refine .tup 3 1000 _ (Nat.le_of_ble_eq_true rfl) ?_
  simp only [List.forall_mem_cons, List.not_mem_nil, false_implies, implies_true, and_true]
  refine ⟨kd_s (by decide +kernel), .tup 2 1000 _ (by rw [List.length_map]; omega) fun x hx => ?_⟩
  obtain ⟨r0, hr0, rfl⟩ := List.mem_map.mp hx
  obtain ⟨_, ag, m, hw, _⟩ := hok' r0 hr0
  unfold Row.t
  rw [hw]
  refine .tup 1 1000 _ (Nat.le_of_ble_eq_true rfl) ?_
  simp only [List.forall_mem_cons, List.not_mem_nil, false_implies, implies_true, and_true]
  refine ⟨.int _ _ _, .int _ _ _, .tup 0 1000 _ (Nat.le_of_ble_eq_true rfl) ?_⟩
  simp only [List.forall_mem_cons, List.not_mem_nil, false_implies, implies_true, and_true]
  exact ⟨.int _ _ _, .int _ _ _⟩
theorem recv_tab {S : Sta} {pm t d : Addr} {n : Int} {R : List Row} (hm : MuxAt C CM S pm t d n R) (hok : ∀ r ∈ R, okR r) {rs' : List Row} (hok' : ∀ r ∈ rs', okR r) (hl' : rs'.length ≤ 1000) {Q : T → Sta → Prop} {E : Addr → Sta → Prop}
    (h : ∀ q S', S q = none → (∀ a o, S a = some o → a ≠ d → S' a = some o) → MuxAt C CM S' pm t d n (R ++ rs') → Q (.ref q) S') : spRecv C CM [.ref pm, .tup [.str "table", .tup (rs'.map Row.t)]] S Q E :=
  ⟨t, d, n, R, hm, hok, (kd_table hok' hl').kn (by decide), .inr (.inl ⟨rs', rfl, tab_yes hok', inB_of hok', fun q S2 hq f2 hm2 _ => h q S2 hq f2 hm2⟩)⟩
/-! ### lists of fresh lists -/
def Fill (S : Sta) (D : Addr) (out : T → List T) : List T → List T → Prop
  | [], [] => True
  | x :: xs, v :: vs => (∃ q, x = .ref q ∧ q ≠ D ∧ S q = some (.lst (out v))) ∧ Fill S D out xs vs
  | _, _ => False
theorem Fill.keep {S S' : Sta} {D D' : Addr} {out : T → List T} (k : ∀ q o, q ≠ D → S q = some o → S' q = some o ∧ q ≠ D') : ∀ {L vs : List T}, Fill S D out L vs → Fill S' D' out L vs
  | [], [], _ => True.intro
  | x :: xs, v :: vs, ⟨⟨q, e, n, h⟩, r⟩ => ⟨⟨q, e, (k q _ n h).2, (k q _ n h).1⟩, Fill.keep k r⟩
  | [], _ :: _, h => h.elim
  | _ :: _, [], h => h.elim
theorem Fill.snoc {S : Sta} {D : Addr} {out : T → List T} {x v : T} (hx : ∃ q, x = .ref q ∧ q ≠ D ∧ S q = some (.lst (out v))) : ∀ {L vs : List T}, Fill S D out L vs → Fill S D out (L ++ [x]) (vs ++ [v])
  | [], [], _ => ⟨hx, True.intro⟩
  | x :: xs, v :: vs, ⟨h, r⟩ => ⟨h, Fill.snoc hx r⟩
  | [], _ :: _, h => h.elim
  | _ :: _, [], h => h.elim
theorem Fill.see {S : Sta} {D : Addr} {out : T → List T} : ∀ {L vs : List T}, Fill S D out L vs → L.map (Wp.see S) = vs.map fun v => T.fl (out v)
  | [], [], _ => rfl
  | x :: xs, v :: vs, ⟨⟨q, e, n, h⟩, r⟩ => by rw [List.map_cons, List.map_cons, Fill.see r, e, see_ref h]
  | [], _ :: _, h => h.elim
  | _ :: _, [], h => h.elim
theorem Fill.len {S : Sta} {D : Addr} {out : T → List T} : ∀ {L vs : List T}, Fill S D out L vs → L.length = vs.length
  | [], [], _ => rfl
  | x :: xs, v :: vs, ⟨_, r⟩ => by rw [List.length_cons, List.length_cons, Fill.len r]
  | [], _ :: _, h => h.elim
  | _ :: _, [], h => h.elim
theorem comp_refs {te : WE} {i : Nat} {σ : Sl} {D : Addr} {Q : T → Sta → Prop} {xs : List T} {S : Sta} (stb : Sta → Prop) (hst : ∀ S1, Gr S S1 → stb S1) (out : T → List T) (hD : S D = none) (hl : xs.length ≤ 1000000)
    (step : ∀ x ∈ xs, ∀ (S1 : Sta) (R : T → Sta → Prop), Gr S S1 → (∀ q S2, S1 q = none → Gr S1 S2 → S2 q = some (.lst (out x)) → R (.ref q) S2) → te (σ.set i (some x)) S1 R)
    (done : ∀ S2 L, Gr S S2 → S2 D = some (.lst L) → Fill S2 D out L xs → Q (.ref D) S2) : compW (gNm i) wYes te stb σ D Q xs (upS S D (.lst [])) := by
  refine comp_inv (fun k S' => Gr S S' ∧ ∃ L, S' D = some (.lst L) ∧ Fill S' D out L (xs.take k)) ⟨gr_new hD, [], upS_same, by rw [List.take_zero]; exact True.intro⟩ (fun _ S1 h => hst S1 h.1) (fun k x S1 LP hx hI nx => ?_) (fun S' hI => ?_)
  · obtain ⟨g, L, e, hf⟩ := hI
    refine wif_t (step x (List.mem_of_getElem? hx) S1 _ g fun q S2 hq g2 e2 => ?_)
    have hk : (xs.take k).length ≤ xs.length := by rw [List.length_take]; omega
    have nqD : q ≠ D := fun z => by rw [z, e] at hq; cases hq
    refine ⟨_, g2 _ _ e, ?_, nx _ ⟨fun a o h => ?_, _, upS_same, ?_⟩⟩
    · rw [hf.len]; exact lt_sz (by omega)
    · rw [upS_ne (fun z => by rw [z, hD] at h; cases h)]
      exact g2 _ _ (g _ _ h)
    · rw [show xs.take (k + 1) = xs.take k ++ [x] by rw [List.take_succ, hx]; rfl]
      refine Fill.snoc ⟨q, rfl, nqD, by rw [upS_ne nqD]; exact e2⟩ (hf.keep fun q' o n h => ⟨?_, n⟩)
      rw [upS_ne n]
      exact g2 _ _ h
  · obtain ⟨g, L, e, hf⟩ := hI
    rw [List.take_length] at hf
    exact done S' L g e hf
end My

set_option Elab.async false
set_option linter.all false
set_option maxRecDepth 100000
set_option maxHeartbeats 8000000
namespace My
open PySem PySem.Spec PyProof.Rows L2 Wp Gn
local macro_rules | `(tactic| walk_at "go") => `(tactic| (with_reducible refine goS_i ?_))
local macro_rules | `(tactic| walk_at "wp") => `(tactic| simp (disch := omega) only [Wp.wSeq, Wp.wNext, Wp.wSet, Wp.wVar, Wp.wC, Wp.wOp, Wp.wRet, Wp.wIfS, Wp.wTest, Wp.wCall, Wp.wCons, Wp.wNil, Wp.wTup, Wp.wLst, Wp.wAsg, Wp.gTp, Wp.gC, Wp.gNm, Wp.gN0, Wp.gIx, Wp.rSet, Wp.rAdd, Wp.rMul, Wp.rMod, Wp.rSub, Wp.rFdiv, Wp.rPow, Wp.rInt, Wp.rIx, Wp.rLt, Wp.rLe, Wp.rCmp, Wp.rGeI, Wp.rGtI, Wp.wCB, Wp.rLen, Wp.rLen1, Wp.rInt1, Wp.rMax2, Wp.rMin2, Wp.rTupOf, Wp.rListOf,
  Wp.wIsi, Wp.rBIs, Wp.rIsN, Wp.isNon, Wp.wMt, Wp.rAppendT, Wp.rExtendT, Wp.rReverseT, Wp.wNot, Wp.wOr, Wp.wAnd, Wp.wAndV, Wp.wOrV, Wp.wNotV, Wp.wFor, Wp.iRg1, Wp.iRg2, Wp.iAnyW, Wp.wAll, Wp.wChain, Wp.wSl, Wp.wNoPart, Wp.wPart, Wp.rSl, Wp.wNeg, Wp.rNeg, Wp.wLc, Wp.wYes, Wp.wDrop, Wp.wipeT, Wp.wAug, List.map, List.set_cons_zero, List.set_cons_succ, List.getElem?_cons_zero, List.getElem?_cons_succ, List.length_cons, List.length_nil, List.cons_append, List.nil_append, List.replicate, Wp.startT,
  true_and, and_true, Wp.wif_true, Wp.wif_false, Wp.ex_some, Wp.ex_some1, Wp.ex_eq, Wp.ex_lst, Wp.ex_lst0, Wp.rEq_int, Bool.false_bne, Bool.true_bne, Int.reduceLT, Int.reduceLE, Int.reduceAdd, Nat.reduceAdd, Nat.reduceSub, eq_self, ite_true, ite_false, beq_self_eq_true, Bool.not_true, Bool.not_false, Wp.isB_0, Wp.isB_1, Wp.isB_2, Wp.isB_3, Wp.isB_4, Wp.isB_5, Wp.isB_6, Wp.isB_7, Wp.isB_8, Wp.isB_9, Wp.isB_10, Wp.isB_11, Wp.isB_12, Wp.isB_13, Wp.isB_14, Wp.isB_15, Wp.isB_16, Wp.isB_17, Wp.isB_18, Wp.isB_19, Wp.isB_20, Wp.isB_21, Wp.isB_22, Wp.isB_23, Wp.isB_24, Wp.isB_25, Wp.isB_26, Wp.isB_27, Wp.isB_28, Wp.isB_29, Wp.isB_30, Wp.isB_31, Wp.isB_32, Wp.isB_33, Wp.isB_34, Wp.isB_35, Wp.cmul_l, Wp.cmul_r, Wp.cpow_lit, Wp.size_le, Wp.size_lt, Wp.atI_0, Wp.atI_1, Wp.atI_2, Wp.atI_3, Wp.atI_4, Wp.atI_5, Wp.atI_6, Wp.ixN_0, Wp.ixN_1, Wp.ixN_2, Wp.itemsT, Wp.tyT, reduceIte, Wp.wFld, Wp.wFSet, Wp.wFAug, Wp.wMeth, Wp.wMake, Wp.rIxA, Wp.rInA, Wp.rSetA, Wp.ixA, Wp.inA, Wp.setA, Wp.lenA, Wp.getD, Option.map_some, Option.bind_some, Option.getD_some,  Wp.gIxA, Wp.wDNew, Wp.wDNewT, Wp.rLenA, Wp.rSortD, Wp.rMaxL, Wp.rPopL, Wp.rGet1, Wp.rGet2, Wp.wGet1, Wp.wGet2, Wp.wPop1, Wp.wPop2, Wp.wDel, Wp.isDT, Wp.keyT, Wp.keysT, Wp.keysL, Wp.ex_ins, Wp.ex_dct, Wp.wKGet, Wp.wKIx, Wp.rLenK, Wp.iZipK, Wp.wDisp, Wp.wPCons, Wp.wPNil, Wp.rGt, Int.cast_ofNat_Int, Int.reduceBEq, Wp.wRev, Wp.rRev, Wp.rMulA, lk_Table__rows, pt_Table__rows, no_Table_take, no_Table_rows, no_Table_birth, no_Table_forget, ln_Table, mk_Table, lk_Mux__number, pt_Mux__number, lk_Mux__table, pt_Mux__table, no_Mux_receive, no_Mux_forget, no_Mux_rows, no_Mux__pass_on, ln_Mux, mk_Mux, Wp.wRev, Wp.rRev, Wp.upS, Wp.upS_upS, *])
local macro_rules | `(tactic| walk_at "run") => `(tactic| repeat (first | walk_at "wp" | walk_at "go"))
local macro_rules | `(tactic| walk_at "wq") => `(tactic| simp (disch := omega) only [Wp.wSeq, Wp.wNext, Wp.wSet, Wp.wVar, Wp.wC, Wp.wOp, Wp.wRet, Wp.wIfS, Wp.wTest, Wp.wCall, Wp.wCons, Wp.wNil, Wp.wTup, Wp.wLst, Wp.wAsg, Wp.gTp, Wp.gC, Wp.gNm, Wp.gN0, Wp.gIx, Wp.rSet, Wp.rAdd, Wp.rMul, Wp.rMod, Wp.rSub, Wp.rFdiv, Wp.rPow, Wp.rInt, Wp.rIx, Wp.rLt, Wp.rLe, Wp.rCmp, Wp.rGeI, Wp.rGtI, Wp.wCB, Wp.rLen, Wp.rLen1, Wp.rInt1, Wp.rMax2, Wp.rMin2, Wp.rTupOf, Wp.rListOf,
  Wp.wIsi, Wp.rBIs, Wp.rIsN, Wp.isNon, Wp.wMt, Wp.rAppendT, Wp.rExtendT, Wp.rReverseT, Wp.wNot, Wp.wOr, Wp.wAnd, Wp.wAndV, Wp.wOrV, Wp.wNotV, Wp.wFor, Wp.iRg1, Wp.iRg2, Wp.iAnyW, Wp.wAll, Wp.wChain, Wp.wSl, Wp.wNoPart, Wp.wPart, Wp.rSl, Wp.wNeg, Wp.rNeg, Wp.wLc, Wp.wYes, Wp.wDrop, Wp.wipeT, Wp.wAug, List.map, List.set_cons_zero, List.set_cons_succ, List.getElem?_cons_zero, List.getElem?_cons_succ, List.length_cons, List.length_nil, List.cons_append, List.nil_append, List.replicate, Wp.startT,
  true_and, and_true, Wp.wif_true, Wp.wif_false, Wp.ex_some, Wp.ex_some1, Wp.ex_eq, Wp.ex_lst, Wp.ex_lst0, Wp.rEq_int, Bool.false_bne, Bool.true_bne, Int.reduceLT, Int.reduceLE, Int.reduceAdd, Nat.reduceAdd, Nat.reduceSub, eq_self, ite_true, ite_false, beq_self_eq_true, Bool.not_true, Bool.not_false, Wp.isB_0, Wp.isB_1, Wp.isB_2, Wp.isB_3, Wp.isB_4, Wp.isB_5, Wp.isB_6, Wp.isB_7, Wp.isB_8, Wp.isB_9, Wp.isB_10, Wp.isB_11, Wp.isB_12, Wp.isB_13, Wp.isB_14, Wp.isB_15, Wp.isB_16, Wp.isB_17, Wp.isB_18, Wp.isB_19, Wp.isB_20, Wp.isB_21, Wp.isB_22, Wp.isB_23, Wp.isB_24, Wp.isB_25, Wp.isB_26, Wp.isB_27, Wp.isB_28, Wp.isB_29, Wp.isB_30, Wp.isB_31, Wp.isB_32, Wp.isB_33, Wp.isB_34, Wp.isB_35, Wp.cmul_l, Wp.cmul_r, Wp.cpow_lit, Wp.size_le, Wp.size_lt, Wp.atI_0, Wp.atI_1, Wp.atI_2, Wp.atI_3, Wp.atI_4, Wp.atI_5, Wp.atI_6, Wp.ixN_0, Wp.ixN_1, Wp.ixN_2, Wp.itemsT, Wp.tyT, reduceIte, Wp.wFld, Wp.wFSet, Wp.wFAug, Wp.wMeth, Wp.wMake, Wp.rIxA, Wp.rInA, Wp.rSetA, Wp.ixA, Wp.inA, Wp.setA, Wp.lenA, Wp.getD, Option.map_some, Option.bind_some, Option.getD_some,  Wp.gIxA, Wp.wDNew, Wp.wDNewT, Wp.rLenA, Wp.rSortD, Wp.rMaxL, Wp.rPopL, Wp.rGet1, Wp.rGet2, Wp.wGet1, Wp.wGet2, Wp.wPop1, Wp.wPop2, Wp.wDel, Wp.isDT, Wp.keyT, Wp.keysT, Wp.keysL, Wp.ex_ins, Wp.ex_dct, Wp.wKGet, Wp.wKIx, Wp.rLenK, Wp.iZipK, Wp.wDisp, Wp.wPCons, Wp.wPNil, Wp.rGt, Int.cast_ofNat_Int, Int.reduceBEq, Wp.wRev, Wp.rRev, Wp.rMulA, lk_Table__rows, pt_Table__rows, no_Table_take, no_Table_rows, no_Table_birth, no_Table_forget, ln_Table, mk_Table, lk_Mux__number, pt_Mux__number, lk_Mux__table, pt_Mux__table, no_Mux_receive, no_Mux_forget, no_Mux_rows, no_Mux__pass_on, ln_Mux, mk_Mux, Wp.wRev, Wp.rRev, *])
local macro_rules | `(tactic| walk_at "r2") => `(tactic| repeat (first | walk_at "wq" | walk_at "go"))
local macro_rules | `(tactic| walk_at "w0") => `(tactic| simp (disch := omega) only [Wp.wSeq, Wp.wNext, Wp.wSet, Wp.wVar, Wp.wC, Wp.wOp, Wp.wRet, Wp.wIfS, Wp.wTest, Wp.wCall, Wp.wCons, Wp.wNil, Wp.wTup, Wp.wLst, Wp.wAsg, Wp.gTp, Wp.gC, Wp.gNm, Wp.gN0, Wp.gIx, Wp.rSet, Wp.rAdd, Wp.rMul, Wp.rMod, Wp.rSub, Wp.rFdiv, Wp.rPow, Wp.rInt, Wp.rIx, Wp.rLt, Wp.rLe, Wp.rCmp, Wp.rGeI, Wp.rGtI, Wp.wCB, Wp.rLen, Wp.rLen1, Wp.rInt1, Wp.rMax2, Wp.rMin2, Wp.rTupOf, Wp.rListOf,
  Wp.wIsi, Wp.rBIs, Wp.rIsN, Wp.isNon, Wp.wMt, Wp.rAppendT, Wp.rExtendT, Wp.rReverseT, Wp.wNot, Wp.wOr, Wp.wAnd, Wp.wAndV, Wp.wOrV, Wp.wNotV, Wp.wFor, Wp.iRg1, Wp.iRg2, Wp.iAnyW, Wp.wAll, Wp.wChain, Wp.wSl, Wp.wNoPart, Wp.wPart, Wp.rSl, Wp.wNeg, Wp.rNeg, Wp.wLc, Wp.wYes, Wp.wDrop, Wp.wipeT, Wp.wAug, List.map, List.set_cons_zero, List.set_cons_succ, List.getElem?_cons_zero, List.getElem?_cons_succ, List.length_cons, List.length_nil, List.cons_append, List.nil_append, List.replicate, Wp.startT,
  true_and, and_true, Wp.wif_true, Wp.wif_false, Wp.ex_some, Wp.ex_some1, Wp.ex_eq, Wp.ex_lst, Wp.ex_lst0, Wp.rEq_int, Bool.false_bne, Bool.true_bne, Int.reduceLT, Int.reduceLE, Int.reduceAdd, Nat.reduceAdd, Nat.reduceSub, eq_self, ite_true, ite_false, beq_self_eq_true, Bool.not_true, Bool.not_false, Wp.isB_0, Wp.isB_1, Wp.isB_2, Wp.isB_3, Wp.isB_4, Wp.isB_5, Wp.isB_6, Wp.isB_7, Wp.isB_8, Wp.isB_9, Wp.isB_10, Wp.isB_11, Wp.isB_12, Wp.isB_13, Wp.isB_14, Wp.isB_15, Wp.isB_16, Wp.isB_17, Wp.isB_18, Wp.isB_19, Wp.isB_20, Wp.isB_21, Wp.isB_22, Wp.isB_23, Wp.isB_24, Wp.isB_25, Wp.isB_26, Wp.isB_27, Wp.isB_28, Wp.isB_29, Wp.isB_30, Wp.isB_31, Wp.isB_32, Wp.isB_33, Wp.isB_34, Wp.isB_35, Wp.cmul_l, Wp.cmul_r, Wp.cpow_lit, Wp.size_le, Wp.size_lt, Wp.atI_0, Wp.atI_1, Wp.atI_2, Wp.atI_3, Wp.atI_4, Wp.atI_5, Wp.atI_6, Wp.ixN_0, Wp.ixN_1, Wp.ixN_2, Wp.itemsT, Wp.tyT, reduceIte, Wp.wFld, Wp.wFSet, Wp.wFAug, Wp.wMeth, Wp.wMake, Wp.rIxA, Wp.rInA, Wp.rSetA, Wp.ixA, Wp.inA, Wp.setA, Wp.lenA, Wp.getD, Option.map_some, Option.bind_some, Option.getD_some,  Wp.gIxA, Wp.wDNew, Wp.wDNewT, Wp.rLenA, Wp.rSortD, Wp.rMaxL, Wp.rPopL, Wp.rGet1, Wp.rGet2, Wp.wGet1, Wp.wGet2, Wp.wPop1, Wp.wPop2, Wp.wDel, Wp.isDT, Wp.keyT, Wp.keysT, Wp.keysL, Wp.ex_ins, Wp.ex_dct, Wp.wKGet, Wp.wKIx, Wp.rLenK, Wp.iZipK, Wp.wDisp, Wp.wPCons, Wp.wPNil, Wp.rGt, Int.cast_ofNat_Int, Int.reduceBEq, Wp.wRev, Wp.rRev, Wp.rMulA, lk_Table__rows, pt_Table__rows, no_Table_take, no_Table_rows, no_Table_birth, no_Table_forget, ln_Table, mk_Table, lk_Mux__number, pt_Mux__number, lk_Mux__table, pt_Mux__table, no_Mux_receive, no_Mux_forget, no_Mux_rows, no_Mux__pass_on, ln_Mux, mk_Mux, Wp.wRev, Wp.rRev])
local macro_rules | `(tactic| walk_at "r0") => `(tactic| repeat (first | walk_at "w0" | walk_at "go"))
variable {K : PySem.W.Frag} {C CM : Addr}
def WS9 : List Str := ["open", "up", "no", "open", "up", "no", "hello", "down", "gone"]
structure Two (C CM : Addr) (S : Sta) (p Wd D pm t d pn u e : Addr) (R R1 R2 : List Row) : Prop where
  one : MuxAt C CM S pm t d 0 R1
  oth : MuxAt C CM S pn u e 2 R2
  bag : IsBag S p
  wd : S Wd = some (.lst (WS9.map T.str))
  lst : S D = some (.lst (R.map Row.t))
  wp : Wd ≠ p
  dp : D ≠ p
  nd : d ≠ e
  nt : t ≠ u
  nu : pm ≠ u
theorem Two.grb {S S' : Sta} {p Wd D pm t d pn u e : Addr} {R R1 R2 : List Row} (h : Two C CM S p Wd D pm t d pn u e R R1 R2) (g : Grb p S S') : Two C CM S' p Wd D pm t d pn u e R R1 R2 :=
  ⟨mux_grb h.bag h.one g, mux_grb h.bag h.oth g, g.bag, g.keep _ _ h.wd h.wp, g.keep _ _ h.lst h.dp, h.wp, h.dp, h.nd, h.nt, h.nu⟩
theorem Two.gr {S S' : Sta} {p Wd D pm t d pn u e : Addr} {R R1 R2 : List Row} (h : Two C CM S p Wd D pm t d pn u e R R1 R2) (g : Gr S S') : Two C CM S' p Wd D pm t d pn u e R R1 R2 := h.grb (Gr.grb h.bag g)
theorem ne_dct {S : Sta} {a d : Addr} {o : O} {kvs : List (Key × T)} (ha : S a = some o) (hd : S d = some (.dct kvs)) (n : ∀ k, o ≠ .dct k) : a ≠ d := fun z => by
  rw [z, hd] at ha
  cases ha
  exact n _ rfl
theorem Two.up1 {S S' : Sta} {p Wd D pm t d pn u e : Addr} {R R1 R2 R' : List Row} (h : Two C CM S p Wd D pm t d pn u e R R1 R2) (f : ∀ a o, S a = some o → a ≠ d → S' a = some o) (hm : MuxAt C CM S' pm t d 0 R') : Two C CM S' p Wd D pm t d pn u e R R' R2 := by
  obtain ⟨kvs, ed, _⟩ := h.one.tb.dc
  obtain ⟨kvs2, ee, _⟩ := h.oth.tb.dc
  obtain ⟨x, y, z, eb⟩ := h.bag
  refine ⟨hm, h.oth.keep fun a o ea z => f a o ea ?_, bag_keep h.bag fun o eo => f _ _ eo (ne_dct eb ed fun _ q => by cases q), f _ _ h.wd (ne_dct h.wd ed fun _ q => by cases q), f _ _ h.lst (ne_dct h.lst ed fun _ q => by cases q), h.wp, h.dp, h.nd, h.nt, h.nu⟩
  rcases z with z | z | z
  · rw [z]; exact ne_dct h.oth.ob ed fun _ q => by cases q
  · rw [z]; exact ne_dct h.oth.tb.ob ed fun _ q => by cases q
  · rw [z]; exact h.nd.symm
theorem Two.up2 {S S' : Sta} {p Wd D pm t d pn u e : Addr} {R R1 R2 R' : List Row} (h : Two C CM S p Wd D pm t d pn u e R R1 R2) (f : ∀ a o, S a = some o → a ≠ e → S' a = some o) (hm : MuxAt C CM S' pn u e 2 R') : Two C CM S' p Wd D pm t d pn u e R R1 R' := by
  obtain ⟨kvs, ed, _⟩ := h.oth.tb.dc
  obtain ⟨x, y, z, eb⟩ := h.bag
  refine ⟨h.one.keep fun a o ea z => f a o ea ?_, hm, bag_keep h.bag fun o eo => f _ _ eo (ne_dct eb ed fun _ q => by cases q), f _ _ h.wd (ne_dct h.wd ed fun _ q => by cases q), f _ _ h.lst (ne_dct h.lst ed fun _ q => by cases q), h.wp, h.dp, h.nd, h.nt, h.nu⟩
  rcases z with z | z | z
  · rw [z]; exact ne_dct h.one.ob ed fun _ q => by cases q
  · rw [z]; exact ne_dct h.one.tb.ob ed fun _ q => by cases q
  · rw [z]; exact h.nd
theorem Two.fg {S S' : Sta} {p Wd D pm t d pn u e e' : Addr} {R R1 R2 R' : List Row} (h : Two C CM S p Wd D pm t d pn u e R R1 R2) (f : ∀ a o, S a = some o → a ≠ u → S' a = some o) (he : S e' = none) (hm : MuxAt C CM S' pn u e' 2 R') : Two C CM S' p Wd D pm t d pn u e' R R1 R' := by
  have hu := h.oth.tb.ob
  obtain ⟨kvs, ed, _⟩ := h.one.tb.dc
  obtain ⟨x, y, z, eb⟩ := h.bag
  have nl : ∀ {a : Addr} {xs : List T}, S a = some (.lst xs) → a ≠ u := fun ea z => by rw [z, hu] at ea; cases ea
  have nk : ∀ {a : Addr} {xs}, S a = some (.dct xs) → a ≠ u := fun ea z => by rw [z, hu] at ea; cases ea
  refine ⟨h.one.keep fun a o ea z => f a o ea ?_, hm, bag_keep h.bag fun o eo => f _ _ eo (nl eb), f _ _ h.wd (nl h.wd), f _ _ h.lst (nl h.lst), h.wp, h.dp, fun z => ?_, h.nt, h.nu⟩
  · rcases z with z | z | z
    · rw [z]; exact h.nu
    · rw [z]; exact h.nt
    · rw [z]; exact nk ed
  · rw [z, he] at ed; cases ed
theorem gr_make {S S' : Sta} {q : Addr} {o : O} (hq : S q = none) (f : ∀ a x, upS S q o a = some x → a ≠ q → S' a = some x) : Gr S S' := fun a x e => by
  have n : a ≠ q := fun z => by rw [z, hq] at e; cases e
  exact f a x (by rw [upS_ne n]; exact e) n
def tw (r : Row) : Row := ⟨r.b, r.v, .tup [.int ((r.b + r.v) % 6), .int (1 + r.v)]⟩
theorem tw_ok {r : Row} (h : okR r) : okR (tw r) := by
  obtain ⟨h1, a, n, hw, h2, h3, h4⟩ := h
  exact ⟨h1, (r.b + r.v) % 6, 1 + r.v, rfl, h2, by omega, by omega, by omega⟩
theorem outF_len (R : List Row) (v : T) : (outF R v).length ≤ 1 := by
  unfold outF
  split
  · unfold dueU dueL
    split
    · split
      · exact Nat.zero_le _
      · exact Nat.le_refl _
    · exact Nat.zero_le _
  · exact Nat.zero_le _
end My

set_option Elab.async false
set_option linter.all false
set_option maxRecDepth 100000
set_option maxHeartbeats 8000000
namespace My
open PySem PySem.Spec PyProof.Rows L2 Wp Gn
local macro_rules | `(tactic| walk_at "go") => `(tactic| (with_reducible refine goS_i ?_))
local macro_rules | `(tactic| walk_at "wp") => `(tactic| simp (disch := omega) only [Wp.wSeq, Wp.wNext, Wp.wSet, Wp.wVar, Wp.wC, Wp.wOp, Wp.wRet, Wp.wIfS, Wp.wTest, Wp.wCall, Wp.wCons, Wp.wNil, Wp.wTup, Wp.wLst, Wp.wAsg, Wp.gTp, Wp.gC, Wp.gNm, Wp.gN0, Wp.gIx, Wp.rSet, Wp.rAdd, Wp.rMul, Wp.rMod, Wp.rSub, Wp.rFdiv, Wp.rPow, Wp.rInt, Wp.rIx, Wp.rLt, Wp.rLe, Wp.rCmp, Wp.rGeI, Wp.rGtI, Wp.wCB, Wp.rLen, Wp.rLen1, Wp.rInt1, Wp.rMax2, Wp.rMin2, Wp.rTupOf, Wp.rListOf,
  Wp.wIsi, Wp.rBIs, Wp.rIsN, Wp.isNon, Wp.wMt, Wp.rAppendT, Wp.rExtendT, Wp.rReverseT, Wp.wNot, Wp.wOr, Wp.wAnd, Wp.wAndV, Wp.wOrV, Wp.wNotV, Wp.wFor, Wp.iRg1, Wp.iRg2, Wp.iAnyW, Wp.wAll, Wp.wChain, Wp.wSl, Wp.wNoPart, Wp.wPart, Wp.rSl, Wp.wNeg, Wp.rNeg, Wp.wLc, Wp.wYes, Wp.wDrop, Wp.wipeT, Wp.wAug, List.map, List.set_cons_zero, List.set_cons_succ, List.getElem?_cons_zero, List.getElem?_cons_succ, List.length_cons, List.length_nil, List.cons_append, List.nil_append, List.replicate, Wp.startT,
  true_and, and_true, Wp.wif_true, Wp.wif_false, Wp.ex_some, Wp.ex_some1, Wp.ex_eq, Wp.ex_lst, Wp.ex_lst0, Wp.rEq_int, Bool.false_bne, Bool.true_bne, Int.reduceLT, Int.reduceLE, Int.reduceAdd, Nat.reduceAdd, Nat.reduceSub, eq_self, ite_true, ite_false, beq_self_eq_true, Bool.not_true, Bool.not_false, Wp.isB_0, Wp.isB_1, Wp.isB_2, Wp.isB_3, Wp.isB_4, Wp.isB_5, Wp.isB_6, Wp.isB_7, Wp.isB_8, Wp.isB_9, Wp.isB_10, Wp.isB_11, Wp.isB_12, Wp.isB_13, Wp.isB_14, Wp.isB_15, Wp.isB_16, Wp.isB_17, Wp.isB_18, Wp.isB_19, Wp.isB_20, Wp.isB_21, Wp.isB_22, Wp.isB_23, Wp.isB_24, Wp.isB_25, Wp.isB_26, Wp.isB_27, Wp.isB_28, Wp.isB_29, Wp.isB_30, Wp.isB_31, Wp.isB_32, Wp.isB_33, Wp.isB_34, Wp.isB_35, Wp.cmul_l, Wp.cmul_r, Wp.cpow_lit, Wp.size_le, Wp.size_lt, Wp.atI_0, Wp.atI_1, Wp.atI_2, Wp.atI_3, Wp.atI_4, Wp.atI_5, Wp.atI_6, Wp.ixN_0, Wp.ixN_1, Wp.ixN_2, Wp.itemsT, Wp.tyT, reduceIte, Wp.wFld, Wp.wFSet, Wp.wFAug, Wp.wMeth, Wp.wMake, Wp.rIxA, Wp.rInA, Wp.rSetA, Wp.ixA, Wp.inA, Wp.setA, Wp.lenA, Wp.getD, Option.map_some, Option.bind_some, Option.getD_some,  Wp.gIxA, Wp.wDNew, Wp.wDNewT, Wp.rLenA, Wp.rSortD, Wp.rMaxL, Wp.rPopL, Wp.rGet1, Wp.rGet2, Wp.wGet1, Wp.wGet2, Wp.wPop1, Wp.wPop2, Wp.wDel, Wp.isDT, Wp.keyT, Wp.keysT, Wp.keysL, Wp.ex_ins, Wp.ex_dct, Wp.wKGet, Wp.wKIx, Wp.rLenK, Wp.iZipK, Wp.wDisp, Wp.wPCons, Wp.wPNil, Wp.rGt, Int.cast_ofNat_Int, Int.reduceBEq, Wp.wRev, Wp.rRev, Wp.rMulA, lk_Table__rows, pt_Table__rows, no_Table_take, no_Table_rows, no_Table_birth, no_Table_forget, ln_Table, mk_Table, lk_Mux__number, pt_Mux__number, lk_Mux__table, pt_Mux__table, no_Mux_receive, no_Mux_forget, no_Mux_rows, no_Mux__pass_on, ln_Mux, mk_Mux, Wp.wRev, Wp.rRev, Wp.upS, Wp.upS_upS, *])
local macro_rules | `(tactic| walk_at "run") => `(tactic| repeat (first | walk_at "wp" | walk_at "go"))
local macro_rules | `(tactic| walk_at "wq") => `(tactic| simp (disch := omega) only [Wp.wSeq, Wp.wNext, Wp.wSet, Wp.wVar, Wp.wC, Wp.wOp, Wp.wRet, Wp.wIfS, Wp.wTest, Wp.wCall, Wp.wCons, Wp.wNil, Wp.wTup, Wp.wLst, Wp.wAsg, Wp.gTp, Wp.gC, Wp.gNm, Wp.gN0, Wp.gIx, Wp.rSet, Wp.rAdd, Wp.rMul, Wp.rMod, Wp.rSub, Wp.rFdiv, Wp.rPow, Wp.rInt, Wp.rIx, Wp.rLt, Wp.rLe, Wp.rCmp, Wp.rGeI, Wp.rGtI, Wp.wCB, Wp.rLen, Wp.rLen1, Wp.rInt1, Wp.rMax2, Wp.rMin2, Wp.rTupOf, Wp.rListOf,
  Wp.wIsi, Wp.rBIs, Wp.rIsN, Wp.isNon, Wp.wMt, Wp.rAppendT, Wp.rExtendT, Wp.rReverseT, Wp.wNot, Wp.wOr, Wp.wAnd, Wp.wAndV, Wp.wOrV, Wp.wNotV, Wp.wFor, Wp.iRg1, Wp.iRg2, Wp.iAnyW, Wp.wAll, Wp.wChain, Wp.wSl, Wp.wNoPart, Wp.wPart, Wp.rSl, Wp.wNeg, Wp.rNeg, Wp.wLc, Wp.wYes, Wp.wDrop, Wp.wipeT, Wp.wAug, List.map, List.set_cons_zero, List.set_cons_succ, List.getElem?_cons_zero, List.getElem?_cons_succ, List.length_cons, List.length_nil, List.cons_append, List.nil_append, List.replicate, Wp.startT,
  true_and, and_true, Wp.wif_true, Wp.wif_false, Wp.ex_some, Wp.ex_some1, Wp.ex_eq, Wp.ex_lst, Wp.ex_lst0, Wp.rEq_int, Bool.false_bne, Bool.true_bne, Int.reduceLT, Int.reduceLE, Int.reduceAdd, Nat.reduceAdd, Nat.reduceSub, eq_self, ite_true, ite_false, beq_self_eq_true, Bool.not_true, Bool.not_false, Wp.isB_0, Wp.isB_1, Wp.isB_2, Wp.isB_3, Wp.isB_4, Wp.isB_5, Wp.isB_6, Wp.isB_7, Wp.isB_8, Wp.isB_9, Wp.isB_10, Wp.isB_11, Wp.isB_12, Wp.isB_13, Wp.isB_14, Wp.isB_15, Wp.isB_16, Wp.isB_17, Wp.isB_18, Wp.isB_19, Wp.isB_20, Wp.isB_21, Wp.isB_22, Wp.isB_23, Wp.isB_24, Wp.isB_25, Wp.isB_26, Wp.isB_27, Wp.isB_28, Wp.isB_29, Wp.isB_30, Wp.isB_31, Wp.isB_32, Wp.isB_33, Wp.isB_34, Wp.isB_35, Wp.cmul_l, Wp.cmul_r, Wp.cpow_lit, Wp.size_le, Wp.size_lt, Wp.atI_0, Wp.atI_1, Wp.atI_2, Wp.atI_3, Wp.atI_4, Wp.atI_5, Wp.atI_6, Wp.ixN_0, Wp.ixN_1, Wp.ixN_2, Wp.itemsT, Wp.tyT, reduceIte, Wp.wFld, Wp.wFSet, Wp.wFAug, Wp.wMeth, Wp.wMake, Wp.rIxA, Wp.rInA, Wp.rSetA, Wp.ixA, Wp.inA, Wp.setA, Wp.lenA, Wp.getD, Option.map_some, Option.bind_some, Option.getD_some,  Wp.gIxA, Wp.wDNew, Wp.wDNewT, Wp.rLenA, Wp.rSortD, Wp.rMaxL, Wp.rPopL, Wp.rGet1, Wp.rGet2, Wp.wGet1, Wp.wGet2, Wp.wPop1, Wp.wPop2, Wp.wDel, Wp.isDT, Wp.keyT, Wp.keysT, Wp.keysL, Wp.ex_ins, Wp.ex_dct, Wp.wKGet, Wp.wKIx, Wp.rLenK, Wp.iZipK, Wp.wDisp, Wp.wPCons, Wp.wPNil, Wp.rGt, Int.cast_ofNat_Int, Int.reduceBEq, Wp.wRev, Wp.rRev, Wp.rMulA, lk_Table__rows, pt_Table__rows, no_Table_take, no_Table_rows, no_Table_birth, no_Table_forget, ln_Table, mk_Table, lk_Mux__number, pt_Mux__number, lk_Mux__table, pt_Mux__table, no_Mux_receive, no_Mux_forget, no_Mux_rows, no_Mux__pass_on, ln_Mux, mk_Mux, Wp.wRev, Wp.rRev, *])
local macro_rules | `(tactic| walk_at "r2") => `(tactic| repeat (first | walk_at "wq" | walk_at "go"))
local macro_rules | `(tactic| walk_at "w0") => `(tactic| simp (disch := omega) only [Wp.wSeq, Wp.wNext, Wp.wSet, Wp.wVar, Wp.wC, Wp.wOp, Wp.wRet, Wp.wIfS, Wp.wTest, Wp.wCall, Wp.wCons, Wp.wNil, Wp.wTup, Wp.wLst, Wp.wAsg, Wp.gTp, Wp.gC, Wp.gNm, Wp.gN0, Wp.gIx, Wp.rSet, Wp.rAdd, Wp.rMul, Wp.rMod, Wp.rSub, Wp.rFdiv, Wp.rPow, Wp.rInt, Wp.rIx, Wp.rLt, Wp.rLe, Wp.rCmp, Wp.rGeI, Wp.rGtI, Wp.wCB, Wp.rLen, Wp.rLen1, Wp.rInt1, Wp.rMax2, Wp.rMin2, Wp.rTupOf, Wp.rListOf,
  Wp.wIsi, Wp.rBIs, Wp.rIsN, Wp.isNon, Wp.wMt, Wp.rAppendT, Wp.rExtendT, Wp.rReverseT, Wp.wNot, Wp.wOr, Wp.wAnd, Wp.wAndV, Wp.wOrV, Wp.wNotV, Wp.wFor, Wp.iRg1, Wp.iRg2, Wp.iAnyW, Wp.wAll, Wp.wChain, Wp.wSl, Wp.wNoPart, Wp.wPart, Wp.rSl, Wp.wNeg, Wp.rNeg, Wp.wLc, Wp.wYes, Wp.wDrop, Wp.wipeT, Wp.wAug, List.map, List.set_cons_zero, List.set_cons_succ, List.getElem?_cons_zero, List.getElem?_cons_succ, List.length_cons, List.length_nil, List.cons_append, List.nil_append, List.replicate, Wp.startT,
  true_and, and_true, Wp.wif_true, Wp.wif_false, Wp.ex_some, Wp.ex_some1, Wp.ex_eq, Wp.ex_lst, Wp.ex_lst0, Wp.rEq_int, Bool.false_bne, Bool.true_bne, Int.reduceLT, Int.reduceLE, Int.reduceAdd, Nat.reduceAdd, Nat.reduceSub, eq_self, ite_true, ite_false, beq_self_eq_true, Bool.not_true, Bool.not_false, Wp.isB_0, Wp.isB_1, Wp.isB_2, Wp.isB_3, Wp.isB_4, Wp.isB_5, Wp.isB_6, Wp.isB_7, Wp.isB_8, Wp.isB_9, Wp.isB_10, Wp.isB_11, Wp.isB_12, Wp.isB_13, Wp.isB_14, Wp.isB_15, Wp.isB_16, Wp.isB_17, Wp.isB_18, Wp.isB_19, Wp.isB_20, Wp.isB_21, Wp.isB_22, Wp.isB_23, Wp.isB_24, Wp.isB_25, Wp.isB_26, Wp.isB_27, Wp.isB_28, Wp.isB_29, Wp.isB_30, Wp.isB_31, Wp.isB_32, Wp.isB_33, Wp.isB_34, Wp.isB_35, Wp.cmul_l, Wp.cmul_r, Wp.cpow_lit, Wp.size_le, Wp.size_lt, Wp.atI_0, Wp.atI_1, Wp.atI_2, Wp.atI_3, Wp.atI_4, Wp.atI_5, Wp.atI_6, Wp.ixN_0, Wp.ixN_1, Wp.ixN_2, Wp.itemsT, Wp.tyT, reduceIte, Wp.wFld, Wp.wFSet, Wp.wFAug, Wp.wMeth, Wp.wMake, Wp.rIxA, Wp.rInA, Wp.rSetA, Wp.ixA, Wp.inA, Wp.setA, Wp.lenA, Wp.getD, Option.map_some, Option.bind_some, Option.getD_some,  Wp.gIxA, Wp.wDNew, Wp.wDNewT, Wp.rLenA, Wp.rSortD, Wp.rMaxL, Wp.rPopL, Wp.rGet1, Wp.rGet2, Wp.wGet1, Wp.wGet2, Wp.wPop1, Wp.wPop2, Wp.wDel, Wp.isDT, Wp.keyT, Wp.keysT, Wp.keysL, Wp.ex_ins, Wp.ex_dct, Wp.wKGet, Wp.wKIx, Wp.rLenK, Wp.iZipK, Wp.wDisp, Wp.wPCons, Wp.wPNil, Wp.rGt, Int.cast_ofNat_Int, Int.reduceBEq, Wp.wRev, Wp.rRev, Wp.rMulA, lk_Table__rows, pt_Table__rows, no_Table_take, no_Table_rows, no_Table_birth, no_Table_forget, ln_Table, mk_Table, lk_Mux__number, pt_Mux__number, lk_Mux__table, pt_Mux__table, no_Mux_receive, no_Mux_forget, no_Mux_rows, no_Mux__pass_on, ln_Mux, mk_Mux, Wp.wRev, Wp.rRev])
local macro_rules | `(tactic| walk_at "r0") => `(tactic| repeat (first | walk_at "w0" | walk_at "go"))
variable {K : PySem.W.Frag} {C CM : Addr}
abbrev sMI (C CM : Addr) : WSp := spMInit C CM
theorem body (a0 : Option T) (Wd : Addr) (k : Nat) (hk : k < 63) (ns : List Int) (a3 a4 a5 a6 a7 a8 a9 a10 a11 a12 : Option T) (hl : ns.length ≤ 63) (S : Sta) (hW : S Wd = some (.lst (WS9.map T.str))) (Dn : WEnds)
    (hnx : ∀ a3 a4 a5 a6 a7 a8 a9 a10 a11 a12 S', S' Wd = some (.lst (WS9.map T.str)) → Dn.nx [some (.fl (ns.map T.int)), some (.ref Wd), some (.int k), a3, a4, a5, a6, a7, a8, a9, a10, a11, a12] S') :
    l7_law K C CM spBag3 spRws (spMInit C CM) (spRecv C CM) (spMForget C CM) spDraw spPacket (spMRows C CM) spNew Dn [some (.fl (ns.map T.int)), some (.ref Wd), some (.int k), a3, a4, a5, a6, a7, a8, a9, a10, a11, a12] S := by
  unfold l7_law
  walk_at "r0"
  refine ⟨ns, rfl, by omega, by omega, fun p S1 hp g1 hb => ?_⟩
  have hW1 := g1 _ _ hW
  have nWp : Wd ≠ p := fun z => by rw [z, hp] at hW; cases hW
  walk_at "r0"
  refine ⟨hb, by decide, by decide, fun rs S2 g2 hok hlen => ?_⟩
  have hW2 := g2.keep _ _ hW1 nWp
  walk_at "r0"
  intro D hD
  refine comp_each (xs := rs) Row.t (fun r => (tw r).t) (by omega) (fun _ => trivial) (fun r hr acc R hR => ?_) ?_
  · unfold l1_law
    simp only [show r.t = .tup [.int r.b, .int r.v, r.w] from rfl]
    have hR : R (.tup [.int r.b, .int r.v, .tup [.int ((r.b + r.v) % 6), .int (1 + r.v)]]) (upS S2 D (.lst acc)) := hR
    walk_at "r0"
    exact hR
  have hl1 : ∀ r ∈ rs.map tw, okR r := fun r hr => by
    obtain ⟨r0, h0, rfl⟩ := List.mem_map.mp hr
    exact tw_ok (hok r0 h0)
  have hl2 : (rs.map tw).length ≤ 40 := by rw [List.length_map]; omega
  have hW3 : ∀ r ∈ rs.map tw, r.w = .tup [.int ((r.b + r.v) % 6), .int (1 + r.v)] := fun r hr => by
    obtain ⟨r0, h0, rfl⟩ := List.mem_map.mp hr
    rfl
  rw [show (rs.map fun r => (tw r).t) = (rs.map tw).map Row.t by rw [List.map_map]; rfl]
  generalize rs.map tw = R at hl1 hl2 hW3
  obtain ⟨S3, e3, g3, hD3⟩ := al_ (o := .lst (R.map Row.t)) hD
  rw [e3]
  clear e3
  have hb3 := g2.bag.gr g3
  have hW4 := g3 _ _ hW2
  have nDp := new_ne g2.bag hD
  clear hlen hok hD g3 hW2 g2 hW1 hb hp g1
  walk_at "r0"
  intro pm hpm
  refine ⟨upS_same, fun t d S4 f4 ⟨ht, hd⟩ hm4 => ?_⟩
  have g4 := gr_make hpm f4
  refine ⟨rfl, ?_⟩
  walk_at "r0"
  intro pn hpn
  refine ⟨upS_same, fun u e S5 f5 ⟨hu, he⟩ hm5 => ?_⟩
  have g5 := gr_make hpn f5
  have h5 : Two C CM S5 p Wd D pm t d pn u e R [] [] := by
    obtain ⟨kvs, ed, _⟩ := hm4.tb.dc
    have hne : ∀ {a b : Addr} {x : O}, S4 a = some x → upS S4 pn (.ins CM []) b = none → a ≠ b := fun {a b x} ha hb z => by
      rw [z] at ha
      by_cases q : b = pn
      · rw [q, upS_same] at hb; cases hb
      · rw [upS_ne q, ha] at hb; cases hb
    exact ⟨hm4.gr g5, hm5, (hb3.gr g4).gr g5, g5 _ _ (g4 _ _ hW4), g5 _ _ (g4 _ _ hD3), nWp, nDp, hne ed he, hne hm4.tb.ob hu, hne hm4.ob hu⟩
  refine ⟨rfl, ?_⟩
  clear hm5 hm4 g5 g4 hD3 hW4 hb3 hpm hpn f4 f5 ht hd hu he
  have hpn5 := h5.oth.ob
  walk_at "r0"
  rw [hpn5]
  walk_at "r0"
  refine ⟨h5.bag, by decide, by decide, fun r8 S6 g6 hok8 hl8 => ?_⟩
  have h6 := h5.grb g6
  refine recv_tab h6.oth (fun _ z => by cases z) hok8 (by omega) fun q7 S7 hq7 f7 hm7 => ?_
  have h7 := h6.up2 f7 hm7
  clear hm7 f7 h6 g6 h5 hpn5 hq7
  have hpn7 := h7.oth.ob
  walk_at "r0"
  rw [hpn7]
  walk_at "r0"
  refine ⟨u, e, 2, _, h7.oth, fun e' S8 he8 f8 hm8 => ?_⟩
  have h8 := h7.fg f8 he8 hm8
  clear hm8 f8 he8 h7 hpn7
  have hpm8 := h8.one.ob
  have hD8 := h8.lst
  walk_at "r0"
  rw [hpm8]
  walk_at "r0"
  refine ⟨_, itemsT_ref hD8, recv_tab h8.one (fun _ z => by cases z) hl1 (by omega) fun q9 S9 hq9 f9 hm9 => ?_⟩
  have h9 := h8.up1 f9 hm9
  clear hm9 f9 h8 hpm8 hD8 hq9 hok8 hl8
  rw [List.nil_append] at h9
  have hD9 := h9.lst
  walk_at "r0"
  refine ⟨_, hD9, fun Z hZ => ⟨_, upS_same, ?_⟩⟩
  obtain ⟨S10, e10, g10, hZ10⟩ := al_ (o := .lst (R.map Row.t).reverse) hZ
  rw [e10]
  clear e10
  have h10 := h9.gr g10
  have nZp := new_ne h9.bag hZ
  clear h9 g10 hZ hD9
  refine loop_inv (fun i σ S' => ∃ x5 x8, σ = [some (.fl (ns.map T.int)), some (.ref Wd), some (.int k), some (.ref p), some (.ref D), x5, some (.ref pm), some (.ref pn), x8, a9, a10, a11, a12] ∧ Two C CM S' p Wd D pm t d pn u e' R R (R.reverse.take i) ∧ S' Z = some (.lst (R.map Row.t).reverse))
    ⟨a5, a8, rfl, h10, hZ10⟩ (fun i σ S' h => by obtain ⟨_, _, _, _, h⟩ := h; exact h) (fun i x σ S' LP hx hI nx => ?_) (fun σ S' hI => ?_)
  · obtain ⟨x5, x8, rfl, h, hZ'⟩ := hI
    obtain ⟨r, hr, rfl⟩ : ∃ r, R.reverse[i]? = some r ∧ r.t = x := by
      rw [← List.map_reverse, List.getElem?_map] at hx
      cases q : R.reverse[i]? with
      | none => rw [q] at hx; cases hx
      | some r => rw [q] at hx; cases hx; exact ⟨r, rfl, rfl⟩
    have hrR : r ∈ R := List.mem_reverse.mp (List.mem_of_getElem? hr)
    have hok2 : ∀ z ∈ R.reverse.take i, okR z := fun z hz => hl1 z (List.mem_reverse.mp (List.mem_of_mem_take hz))
    have hok3 : ∀ z ∈ R.reverse.take i ++ [r], okR z := fun z hz => (List.mem_append.mp hz).elim (hok2 z) fun hz => by rw [List.mem_singleton.mp hz]; exact hl1 r hrR
    have ht : R.reverse.take (i + 1) = R.reverse.take i ++ [r] := by rw [List.take_succ, hr]; rfl
    have nx := fun x5 x8 S' h1 h2 => nx _ S' ⟨x5, x8, rfl, h1, h2⟩
    simp only [ht] at nx
    clear hx h10 hZ10 hnx
    have hpn := h.oth.ob
    obtain ⟨kvs, ee, _⟩ := h.oth.tb.dc
    have nZe := ne_dct hZ' ee fun _ q => by cases q
    unfold l2_law
    walk_at "r0"
    rw [hpn]
    walk_at "r0"
    refine recv_tab (rs' := [r]) h.oth hok2 (fun z hz => by rw [List.mem_singleton.mp hz]; exact hl1 r hrR) (by show 1 ≤ 1000; decide) fun q1 S1' hq1 f1 hm1 => ?_
    have h1 := h.up2 f1 hm1
    have hZ1 := f1 _ _ hZ' nZe
    clear hm1 f1 hpn h ee hZ' hq1
    walk_at "r0"
    refine ⟨h1.bag, by decide, by decide, fun r0 S2' r00 r01 g2 => ?_⟩
    have h2 := h1.grb g2
    have hZ2 := g2.keep _ _ hZ1 nZp
    clear hZ1 h1 g2
    walk_at "r0"
    refine if_bool (fun _ => ?_) (fun _ => ?_)
    · have hpn2 := h2.oth.ob
      walk_at "r0"
      rw [hpn2]
      walk_at "r0"
      refine ⟨WS9, h2.bag, h2.wd, by decide +kernel, by decide, by decide, h2.wp, fun w r3 S3' g3 hw hpk hkd => ?_⟩
      have h3 := h2.grb g3
      have hZ3 := g3.keep _ _ hZ2 nZp
      refine recv_pk h3.oth hok3 ⟨w, r3, rfl, hpk, hkd⟩ fun q4 S4' hq4 g4 e4 => ?_
      walk_at "r0"
      refine ⟨⟨_, e4⟩, _, e4, lt_sz (Nat.le_trans (outF_len _ _) (by decide)), ?_⟩
      have g5 : ∀ {o : O}, Gr S3' (upS S4' q4 o) := fun {o} a x ea => by
        rw [upS_ne (fun z => by rw [z, hq4] at ea; cases ea)]
        exact g4 _ _ ea
      exact goS_i (nx _ _ _ (h3.gr g5) (g5 _ _ hZ3))
    · walk_at "r0"
      exact nx _ _ _ h2 hZ2
  · obtain ⟨x5, x8, rfl, h, _⟩ := hI
    rw [show R.reverse.take (R.map Row.t).reverse.length = R.reverse by rw [List.length_reverse, List.length_map]; exact List.take_of_length_le (by rw [List.length_reverse]; exact Nat.le_refl _)] at h
    clear h10 hZ10 nZp
    walk_at "r0"
    refine ⟨h.bag, by decide, by decide, fun j S11 j0 j1 g11 => ?_⟩
    have h11 := h.grb g11
    clear h g11
    walk_at "r0"
    refine ⟨by omega, by omega, fun D9 hD9 => ?_⟩
    have nD9p := new_ne h11.bag hD9
    refine comp_inv (fun i S' => Grb p S11 S' ∧ ∃ L, S' D9 = some (.lst L) ∧ L.length = i ∧ ∀ v ∈ L, PkV v) ⟨Gr.grb h11.bag (gr_new hD9), [], upS_same, rfl, fun _ z => by cases z⟩ (fun _ _ _ => trivial) (fun i x S' LP hx hI nx => ?_) (fun S' hI => ?_)
    · obtain ⟨g', L, eL, hlen, hv⟩ := hI
      obtain ⟨hi, _⟩ := range_at hx
      have h' := h11.grb g'
      refine wif_t ?_
      clear hx hnx
      unfold l3_law
      walk_at "r0"
      refine ⟨WS9, h'.bag, h'.wd, by decide +kernel, by decide, by decide, h'.wp, fun w r3 S3' g3 hw hpk hkd => ?_⟩
      have eL3 := g3.keep _ _ eL nD9p
      refine ⟨_, eL3, lt_sz (by omega), nx _ ⟨(g'.trans g3).up h11.bag hD9, _, upS_same, by rw [List.length_append, hlen]; rfl, fun v hv' => ?_⟩⟩
      rcases List.mem_append.mp hv' with z | z
      · exact hv v z
      · rw [List.mem_singleton.mp z]; exact ⟨w, r3, rfl, hpk, hkd⟩
    · obtain ⟨g12, L, eL, hlen, hv⟩ := hI
      rw [rangeT_length] at hlen
      have hlen : L.length ≤ 1000 := by omega
      have h12 := h11.grb g12
      clear g12 h11 hD9
      have hpm12 := h12.one.ob
      walk_at "r0"
      rw [hpm12]
      walk_at "r0"
      refine ⟨t, d, 0, R, h12.one, inB_of hl1, fun S13 g13 => ?_⟩
      have h13 := h12.gr g13
      have eL13 := g13 _ _ eL
      clear hpm12 h12 eL g13
      walk_at "r0"
      refine ⟨_, eL13, fun D8 hD8 => ?_⟩
      refine comp_refs _ (fun S1 g => g _ _ eL13) (outF R) hD8 (by omega) (fun x hx S1 Rk g h => ?_) fun S14 L8 g14 e14 f14 => ?_
      · have h1 := h13.gr g
        have hpm1 := h1.one.ob
        unfold l4_law
        walk_at "r0"
        rw [hpm1]
        walk_at "r0"
        exact recv_pk h1.one hl1 (hv x hx) h
      have h14 := h13.gr g14
      have eL14 := g14 _ _ eL13
      clear h13 eL13 hD8 g14
      walk_at "r0"
      refine ⟨_, eL14, fun Z2 hZ2 => ⟨_, upS_same, fun D10 hD10 => ?_⟩⟩
      obtain ⟨S15, e15, g15, hZ15⟩ := al_ (o := .lst L.reverse) hZ2
      rw [e15] at hD10 ⊢
      clear e15
      have hbe : ∀ b, best R b = best R.reverse b := best_ext (fun b v => .tup [.int ((b + v) % 6), .int (1 + v)]) (fun r => List.mem_reverse.symm) hW3
      have hokr : ∀ r ∈ R.reverse, okR r := fun r hr => hl1 r (List.mem_reverse.mp hr)
      have h15 := h14.gr g15
      have e15 := g15 _ _ e14
      have f15 := f14.keep fun q o n h => ⟨g15 _ _ h, n⟩
      have eL15 := g15 _ _ eL14
      clear h14 e14 f14 g15 eL14 hZ2
      refine comp_refs _ (fun S1 g => g _ _ hZ15) (outF R.reverse) hD10 (by rw [List.length_reverse]; omega) (fun x hx S1 Rk g h => ?_) fun S16 L10 g16 e16 f16 => ?_
      · have h1 := h15.gr g
        have hpn1 := h1.oth.ob
        unfold l5_law
        walk_at "r0"
        rw [hpn1]
        walk_at "r0"
        exact recv_pk h1.oth hokr (hv x (List.mem_reverse.mp hx)) h
      refine ⟨_, e16, fun Z3 hZ3 => ?_⟩
      obtain ⟨S17, e17, g17, hZ17⟩ := al_ (o := .lst L10.reverse) hZ3
      rw [e17]
      clear e17
      have g1517 := g16.trans g17
      have h17 := h15.gr g1517
      have e17 := g1517 _ _ e15
      have f17 := f15.keep fun q o n h => ⟨g1517 _ _ h, n⟩
      have eL17 := g1517 _ _ eL15
      have f16 := f16.keep fun q o n h => ⟨g17 _ _ h, n⟩
      obtain ⟨n1, n2⟩ := nb_outs hl1 L hv
      refine rEq2_same (neg := false) (z := .fl (L.map fun v => .fl (outF R v))) (by rw [see2_ref e17, f17.see]) ?_ (by simpa only [nbT] using n1) (by simp only [dpT]; omega) ?_
      · rw [see2_ref hZ17, List.map_reverse, f16.see, List.map_reverse, List.reverse_reverse]
        exact congrArg T.fl (List.map_congr_left fun v _ => by rw [outF_ext hbe v])
      clear f16 e16 hZ3 hZ17 h15 e15 f15 eL15 hZ15 hD10 g16 g17 g1517
      have hpm17 := h17.one.ob
      obtain ⟨w1, w2⟩ := nb_rows (rowsOf R) (rowsOf_ok hl1)
      walk_at "r0"
      rw [hpm17]
      walk_at "r0"
      refine ⟨t, d, 0, R, h17.one, inB_of hl1, fun S18 g18 => ?_⟩
      refine rEq_nb rfl rfl (by simpa only [see, nbT] using w1) (by simpa only [see, nbT] using w1) (by simp only [see, dpT]; omega) (by simp only [see, dpT]; omega) (fun _ => ?_) (fun z => absurd rfl z)
      have h18 := h17.gr g18
      have hpn18 := h18.oth.ob
      walk_at "r0"
      rw [hpn18]
      walk_at "r0"
      refine ⟨u, e', 2, R.reverse, h18.oth, inB_of hokr, fun S19 g19 => ?_⟩
      rw [← rowsOf_ext hbe]
      refine rEq_nb rfl rfl (by simpa only [see, nbT] using w1) (by simpa only [see, nbT] using w1) (by simp only [see, dpT]; omega) (by simp only [see, dpT]; omega) (fun _ => ?_) (fun z => absurd rfl z)
      have h19 := h18.gr g19
      walk_at "r0"
      refine ⟨R, h19.lst, by omega, inB_of hl1, fun S20 g20 => ?_⟩
      refine rEq_nb rfl rfl (by simpa only [see, nbT] using w1) (by simpa only [see, nbT] using w1) (by simp only [see, dpT]; omega) (by simp only [see, dpT]; omega) (fun _ => ?_) (fun z => absurd rfl z)
      have g1720 := (g18.trans g19).trans g20
      have h20 := h17.gr g1720
      have e20 := g1720 _ _ e17
      have f20 := f17.keep fun q o n h => ⟨g1720 _ _ h, n⟩
      have eL20 := g1720 _ _ eL17
      clear h19 h18 h17 e17 f17 eL17 hpm17 hpn18 g18 g19 g20 g1720 w1 w2
      walk_at "r0"
      refine ⟨_, eL20, fun D12 hD12 => ?_⟩
      refine comp_refs _ (fun S1 g => g _ _ eL20) (outF R) hD12 (by omega) (fun x hx S1 Rk g h => ?_) fun S21 L12 g21 e21 f21 => ?_
      · have h1 := h20.gr g
        have hpm1 := h1.one.ob
        unfold l6_law
        walk_at "r0"
        rw [hpm1]
        walk_at "r0"
        exact recv_pk h1.one hl1 (hv x hx) h
      have f22 := f20.keep fun q o n h => ⟨g21 _ _ h, n⟩
      refine rEq2_same (neg := false) (z := .fl (L.map fun v => .fl (outF R v))) (by rw [see2_ref (g21 _ _ e20), f22.see]) (by rw [see2_ref e21, f21.see]) (by simpa only [nbT] using n1) (by simp only [dpT]; omega) ?_
      have h21 := h20.gr g21
      walk_at "r0"
      exact hnx _ _ _ _ _ _ _ _ _ _ S21 h21.wd
end My

set_option Elab.async false
set_option linter.all false
set_option maxRecDepth 100000
set_option maxHeartbeats 8000000
namespace My
open PySem PySem.Spec PyProof.Rows L2 Wp Gn
local macro_rules | `(tactic| walk_at "go") => `(tactic| (with_reducible refine goS_i ?_))
local macro_rules | `(tactic| walk_at "wp") => `(tactic| simp (disch := omega) only [Wp.wSeq, Wp.wNext, Wp.wSet, Wp.wVar, Wp.wC, Wp.wOp, Wp.wRet, Wp.wIfS, Wp.wTest, Wp.wCall, Wp.wCons, Wp.wNil, Wp.wTup, Wp.wLst, Wp.wAsg, Wp.gTp, Wp.gC, Wp.gNm, Wp.gN0, Wp.gIx, Wp.rSet, Wp.rAdd, Wp.rMul, Wp.rMod, Wp.rSub, Wp.rFdiv, Wp.rPow, Wp.rInt, Wp.rIx, Wp.rLt, Wp.rLe, Wp.rCmp, Wp.rGeI, Wp.rGtI, Wp.wCB, Wp.rLen, Wp.rLen1, Wp.rInt1, Wp.rMax2, Wp.rMin2, Wp.rTupOf, Wp.rListOf,
  Wp.wIsi, Wp.rBIs, Wp.rIsN, Wp.isNon, Wp.wMt, Wp.rAppendT, Wp.rExtendT, Wp.rReverseT, Wp.wNot, Wp.wOr, Wp.wAnd, Wp.wAndV, Wp.wOrV, Wp.wNotV, Wp.wFor, Wp.iRg1, Wp.iRg2, Wp.iAnyW, Wp.wAll, Wp.wChain, Wp.wSl, Wp.wNoPart, Wp.wPart, Wp.rSl, Wp.wNeg, Wp.rNeg, Wp.wLc, Wp.wYes, Wp.wDrop, Wp.wipeT, Wp.wAug, List.map, List.set_cons_zero, List.set_cons_succ, List.getElem?_cons_zero, List.getElem?_cons_succ, List.length_cons, List.length_nil, List.cons_append, List.nil_append, List.replicate, Wp.startT,
  true_and, and_true, Wp.wif_true, Wp.wif_false, Wp.ex_some, Wp.ex_some1, Wp.ex_eq, Wp.ex_lst, Wp.ex_lst0, Wp.rEq_int, Bool.false_bne, Bool.true_bne, Int.reduceLT, Int.reduceLE, Int.reduceAdd, Nat.reduceAdd, Nat.reduceSub, eq_self, ite_true, ite_false, beq_self_eq_true, Bool.not_true, Bool.not_false, Wp.isB_0, Wp.isB_1, Wp.isB_2, Wp.isB_3, Wp.isB_4, Wp.isB_5, Wp.isB_6, Wp.isB_7, Wp.isB_8, Wp.isB_9, Wp.isB_10, Wp.isB_11, Wp.isB_12, Wp.isB_13, Wp.isB_14, Wp.isB_15, Wp.isB_16, Wp.isB_17, Wp.isB_18, Wp.isB_19, Wp.isB_20, Wp.isB_21, Wp.isB_22, Wp.isB_23, Wp.isB_24, Wp.isB_25, Wp.isB_26, Wp.isB_27, Wp.isB_28, Wp.isB_29, Wp.isB_30, Wp.isB_31, Wp.isB_32, Wp.isB_33, Wp.isB_34, Wp.isB_35, Wp.cmul_l, Wp.cmul_r, Wp.cpow_lit, Wp.size_le, Wp.size_lt, Wp.atI_0, Wp.atI_1, Wp.atI_2, Wp.atI_3, Wp.atI_4, Wp.atI_5, Wp.atI_6, Wp.ixN_0, Wp.ixN_1, Wp.ixN_2, Wp.itemsT, Wp.tyT, reduceIte, Wp.wFld, Wp.wFSet, Wp.wFAug, Wp.wMeth, Wp.wMake, Wp.rIxA, Wp.rInA, Wp.rSetA, Wp.ixA, Wp.inA, Wp.setA, Wp.lenA, Wp.getD, Option.map_some, Option.bind_some, Option.getD_some,  Wp.gIxA, Wp.wDNew, Wp.wDNewT, Wp.rLenA, Wp.rSortD, Wp.rMaxL, Wp.rPopL, Wp.rGet1, Wp.rGet2, Wp.wGet1, Wp.wGet2, Wp.wPop1, Wp.wPop2, Wp.wDel, Wp.isDT, Wp.keyT, Wp.keysT, Wp.keysL, Wp.ex_ins, Wp.ex_dct, Wp.wKGet, Wp.wKIx, Wp.rLenK, Wp.iZipK, Wp.wDisp, Wp.wPCons, Wp.wPNil, Wp.rGt, Int.cast_ofNat_Int, Int.reduceBEq, Wp.wRev, Wp.rRev, Wp.rMulA, lk_Table__rows, pt_Table__rows, no_Table_take, no_Table_rows, no_Table_birth, no_Table_forget, ln_Table, mk_Table, lk_Mux__number, pt_Mux__number, lk_Mux__table, pt_Mux__table, no_Mux_receive, no_Mux_forget, no_Mux_rows, no_Mux__pass_on, ln_Mux, mk_Mux, Wp.wRev, Wp.rRev, Wp.upS, Wp.upS_upS, *])
local macro_rules | `(tactic| walk_at "run") => `(tactic| repeat (first | walk_at "wp" | walk_at "go"))
local macro_rules | `(tactic| walk_at "wq") => `(tactic| simp (disch := omega) only [Wp.wSeq, Wp.wNext, Wp.wSet, Wp.wVar, Wp.wC, Wp.wOp, Wp.wRet, Wp.wIfS, Wp.wTest, Wp.wCall, Wp.wCons, Wp.wNil, Wp.wTup, Wp.wLst, Wp.wAsg, Wp.gTp, Wp.gC, Wp.gNm, Wp.gN0, Wp.gIx, Wp.rSet, Wp.rAdd, Wp.rMul, Wp.rMod, Wp.rSub, Wp.rFdiv, Wp.rPow, Wp.rInt, Wp.rIx, Wp.rLt, Wp.rLe, Wp.rCmp, Wp.rGeI, Wp.rGtI, Wp.wCB, Wp.rLen, Wp.rLen1, Wp.rInt1, Wp.rMax2, Wp.rMin2, Wp.rTupOf, Wp.rListOf,
  Wp.wIsi, Wp.rBIs, Wp.rIsN, Wp.isNon, Wp.wMt, Wp.rAppendT, Wp.rExtendT, Wp.rReverseT, Wp.wNot, Wp.wOr, Wp.wAnd, Wp.wAndV, Wp.wOrV, Wp.wNotV, Wp.wFor, Wp.iRg1, Wp.iRg2, Wp.iAnyW, Wp.wAll, Wp.wChain, Wp.wSl, Wp.wNoPart, Wp.wPart, Wp.rSl, Wp.wNeg, Wp.rNeg, Wp.wLc, Wp.wYes, Wp.wDrop, Wp.wipeT, Wp.wAug, List.map, List.set_cons_zero, List.set_cons_succ, List.getElem?_cons_zero, List.getElem?_cons_succ, List.length_cons, List.length_nil, List.cons_append, List.nil_append, List.replicate, Wp.startT,
  true_and, and_true, Wp.wif_true, Wp.wif_false, Wp.ex_some, Wp.ex_some1, Wp.ex_eq, Wp.ex_lst, Wp.ex_lst0, Wp.rEq_int, Bool.false_bne, Bool.true_bne, Int.reduceLT, Int.reduceLE, Int.reduceAdd, Nat.reduceAdd, Nat.reduceSub, eq_self, ite_true, ite_false, beq_self_eq_true, Bool.not_true, Bool.not_false, Wp.isB_0, Wp.isB_1, Wp.isB_2, Wp.isB_3, Wp.isB_4, Wp.isB_5, Wp.isB_6, Wp.isB_7, Wp.isB_8, Wp.isB_9, Wp.isB_10, Wp.isB_11, Wp.isB_12, Wp.isB_13, Wp.isB_14, Wp.isB_15, Wp.isB_16, Wp.isB_17, Wp.isB_18, Wp.isB_19, Wp.isB_20, Wp.isB_21, Wp.isB_22, Wp.isB_23, Wp.isB_24, Wp.isB_25, Wp.isB_26, Wp.isB_27, Wp.isB_28, Wp.isB_29, Wp.isB_30, Wp.isB_31, Wp.isB_32, Wp.isB_33, Wp.isB_34, Wp.isB_35, Wp.cmul_l, Wp.cmul_r, Wp.cpow_lit, Wp.size_le, Wp.size_lt, Wp.atI_0, Wp.atI_1, Wp.atI_2, Wp.atI_3, Wp.atI_4, Wp.atI_5, Wp.atI_6, Wp.ixN_0, Wp.ixN_1, Wp.ixN_2, Wp.itemsT, Wp.tyT, reduceIte, Wp.wFld, Wp.wFSet, Wp.wFAug, Wp.wMeth, Wp.wMake, Wp.rIxA, Wp.rInA, Wp.rSetA, Wp.ixA, Wp.inA, Wp.setA, Wp.lenA, Wp.getD, Option.map_some, Option.bind_some, Option.getD_some,  Wp.gIxA, Wp.wDNew, Wp.wDNewT, Wp.rLenA, Wp.rSortD, Wp.rMaxL, Wp.rPopL, Wp.rGet1, Wp.rGet2, Wp.wGet1, Wp.wGet2, Wp.wPop1, Wp.wPop2, Wp.wDel, Wp.isDT, Wp.keyT, Wp.keysT, Wp.keysL, Wp.ex_ins, Wp.ex_dct, Wp.wKGet, Wp.wKIx, Wp.rLenK, Wp.iZipK, Wp.wDisp, Wp.wPCons, Wp.wPNil, Wp.rGt, Int.cast_ofNat_Int, Int.reduceBEq, Wp.wRev, Wp.rRev, Wp.rMulA, lk_Table__rows, pt_Table__rows, no_Table_take, no_Table_rows, no_Table_birth, no_Table_forget, ln_Table, mk_Table, lk_Mux__number, pt_Mux__number, lk_Mux__table, pt_Mux__table, no_Mux_receive, no_Mux_forget, no_Mux_rows, no_Mux__pass_on, ln_Mux, mk_Mux, Wp.wRev, Wp.rRev, *])
local macro_rules | `(tactic| walk_at "r2") => `(tactic| repeat (first | walk_at "wq" | walk_at "go"))
local macro_rules | `(tactic| walk_at "w0") => `(tactic| simp (disch := omega) only [Wp.wSeq, Wp.wNext, Wp.wSet, Wp.wVar, Wp.wC, Wp.wOp, Wp.wRet, Wp.wIfS, Wp.wTest, Wp.wCall, Wp.wCons, Wp.wNil, Wp.wTup, Wp.wLst, Wp.wAsg, Wp.gTp, Wp.gC, Wp.gNm, Wp.gN0, Wp.gIx, Wp.rSet, Wp.rAdd, Wp.rMul, Wp.rMod, Wp.rSub, Wp.rFdiv, Wp.rPow, Wp.rInt, Wp.rIx, Wp.rLt, Wp.rLe, Wp.rCmp, Wp.rGeI, Wp.rGtI, Wp.wCB, Wp.rLen, Wp.rLen1, Wp.rInt1, Wp.rMax2, Wp.rMin2, Wp.rTupOf, Wp.rListOf,
  Wp.wIsi, Wp.rBIs, Wp.rIsN, Wp.isNon, Wp.wMt, Wp.rAppendT, Wp.rExtendT, Wp.rReverseT, Wp.wNot, Wp.wOr, Wp.wAnd, Wp.wAndV, Wp.wOrV, Wp.wNotV, Wp.wFor, Wp.iRg1, Wp.iRg2, Wp.iAnyW, Wp.wAll, Wp.wChain, Wp.wSl, Wp.wNoPart, Wp.wPart, Wp.rSl, Wp.wNeg, Wp.rNeg, Wp.wLc, Wp.wYes, Wp.wDrop, Wp.wipeT, Wp.wAug, List.map, List.set_cons_zero, List.set_cons_succ, List.getElem?_cons_zero, List.getElem?_cons_succ, List.length_cons, List.length_nil, List.cons_append, List.nil_append, List.replicate, Wp.startT,
  true_and, and_true, Wp.wif_true, Wp.wif_false, Wp.ex_some, Wp.ex_some1, Wp.ex_eq, Wp.ex_lst, Wp.ex_lst0, Wp.rEq_int, Bool.false_bne, Bool.true_bne, Int.reduceLT, Int.reduceLE, Int.reduceAdd, Nat.reduceAdd, Nat.reduceSub, eq_self, ite_true, ite_false, beq_self_eq_true, Bool.not_true, Bool.not_false, Wp.isB_0, Wp.isB_1, Wp.isB_2, Wp.isB_3, Wp.isB_4, Wp.isB_5, Wp.isB_6, Wp.isB_7, Wp.isB_8, Wp.isB_9, Wp.isB_10, Wp.isB_11, Wp.isB_12, Wp.isB_13, Wp.isB_14, Wp.isB_15, Wp.isB_16, Wp.isB_17, Wp.isB_18, Wp.isB_19, Wp.isB_20, Wp.isB_21, Wp.isB_22, Wp.isB_23, Wp.isB_24, Wp.isB_25, Wp.isB_26, Wp.isB_27, Wp.isB_28, Wp.isB_29, Wp.isB_30, Wp.isB_31, Wp.isB_32, Wp.isB_33, Wp.isB_34, Wp.isB_35, Wp.cmul_l, Wp.cmul_r, Wp.cpow_lit, Wp.size_le, Wp.size_lt, Wp.atI_0, Wp.atI_1, Wp.atI_2, Wp.atI_3, Wp.atI_4, Wp.atI_5, Wp.atI_6, Wp.ixN_0, Wp.ixN_1, Wp.ixN_2, Wp.itemsT, Wp.tyT, reduceIte, Wp.wFld, Wp.wFSet, Wp.wFAug, Wp.wMeth, Wp.wMake, Wp.rIxA, Wp.rInA, Wp.rSetA, Wp.ixA, Wp.inA, Wp.setA, Wp.lenA, Wp.getD, Option.map_some, Option.bind_some, Option.getD_some,  Wp.gIxA, Wp.wDNew, Wp.wDNewT, Wp.rLenA, Wp.rSortD, Wp.rMaxL, Wp.rPopL, Wp.rGet1, Wp.rGet2, Wp.wGet1, Wp.wGet2, Wp.wPop1, Wp.wPop2, Wp.wDel, Wp.isDT, Wp.keyT, Wp.keysT, Wp.keysL, Wp.ex_ins, Wp.ex_dct, Wp.wKGet, Wp.wKIx, Wp.rLenK, Wp.iZipK, Wp.wDisp, Wp.wPCons, Wp.wPNil, Wp.rGt, Int.cast_ofNat_Int, Int.reduceBEq, Wp.wRev, Wp.rRev, Wp.rMulA, lk_Table__rows, pt_Table__rows, no_Table_take, no_Table_rows, no_Table_birth, no_Table_forget, ln_Table, mk_Table, lk_Mux__number, pt_Mux__number, lk_Mux__table, pt_Mux__table, no_Mux_receive, no_Mux_forget, no_Mux_rows, no_Mux__pass_on, ln_Mux, mk_Mux, Wp.wRev, Wp.rRev])
local macro_rules | `(tactic| walk_at "r0") => `(tactic| repeat (first | walk_at "w0" | walk_at "go"))
variable {K : PySem.W.Frag} {C CM : Addr}
theorem hw_law : ∀ ts S Q E, ts.length = 1 → spLaw ts S Q E → b_law K C CM spBag3 spRws (spMInit C CM) (spRecv C CM) (spMForget C CM) spDraw spPacket (spMRows C CM) spNew { nx := fun _ S' => Q .non S', rt := Q } (Wp.startT N_law ts) S := by
  intro ts S Q E _ h
  obtain ⟨ns, rfl, hl, hf, hQ⟩ := h
  clear hf
  unfold b_law N_law
  walk_at "r0"
  intro Wd hWd
  obtain ⟨S1, e1, g1, hW1⟩ := al_ (o := .lst (WS9.map T.str)) hWd
  change _ at hW1
  rw [show ([T.str "open", T.str "up", T.str "no", T.str "open", T.str "up", T.str "no", T.str "hello", T.str "down", T.str "gone"] : List T) = WS9.map T.str from rfl]
  rw [e1]
  clear e1
  have hm : ∀ m : Int, (if (if ((ns.map T.int).length : Int) < 8 then ((ns.map T.int).length : Int) else 8) > 1 then if ((ns.map T.int).length : Int) < 8 then ((ns.map T.int).length : Int) else 8 else 1) = m → m ≤ 16 ∧ 1 ≤ m := by
    intro m e
    subst e
    omega
  walk_at "r0"
  generalize (if (if ((ns.map T.int).length : Int) < 8 then ((ns.map T.int).length : Int) else 8) > 1 then if ((ns.map T.int).length : Int) < 8 then ((ns.map T.int).length : Int) else 8 else 1) = m at hm ⊢
  obtain ⟨h1, h2⟩ := hm m rfl
  refine ⟨by omega, by omega, ?_⟩
  refine loop_inv (fun i σ S' => ∃ a2 a3 a4 a5 a6 a7 a8 a9 a10 a11 a12, σ = [some (.fl (ns.map T.int)), some (.ref Wd), a2, a3, a4, a5, a6, a7, a8, a9, a10, a11, a12] ∧ S' Wd = some (.lst (WS9.map T.str))) ⟨_, _, _, _, _, _, _, _, _, _, _, rfl, hW1⟩ (fun _ _ _ _ => trivial) (fun i x σ S' LP hx hI nx => ?_) (fun σ S' hI => ?_)
  · obtain ⟨a2, a3, a4, a5, a6, a7, a8, a9, a10, a11, a12, rfl, hW⟩ := hI
    obtain ⟨hi, rfl⟩ := range_at hx
    rw [Int.zero_add]
    exact body (K := K) (C := C) (CM := CM) none Wd i (by omega) ns a3 a4 a5 a6 a7 a8 a9 a10 a11 a12 hl S' hW _ fun a3 a4 a5 a6 a7 a8 a9 a10 a11 a12 S2 h2 => nx _ S2 ⟨_, _, _, _, _, _, _, _, _, _, _, rfl, h2⟩
  · obtain ⟨a2, a3, a4, a5, a6, a7, a8, a9, a10, a11, a12, rfl, hW⟩ := hI
    walk_at "r0"
    exact hQ S'
end My

set_option Elab.async false
set_option linter.all false
set_option maxRecDepth 100000
set_option maxHeartbeats 8000000
namespace My
open PySem PySem.Spec PyProof.Rows L2 Wp Gn
local macro_rules | `(tactic| walk_at "go") => `(tactic| (with_reducible refine goS_i ?_))
local macro_rules | `(tactic| walk_at "wp") => `(tactic| simp (disch := omega) only [Wp.wSeq, Wp.wNext, Wp.wSet, Wp.wVar, Wp.wC, Wp.wOp, Wp.wRet, Wp.wIfS, Wp.wTest, Wp.wCall, Wp.wCons, Wp.wNil, Wp.wTup, Wp.wLst, Wp.wAsg, Wp.gTp, Wp.gC, Wp.gNm, Wp.gN0, Wp.gIx, Wp.rSet, Wp.rAdd, Wp.rMul, Wp.rMod, Wp.rSub, Wp.rFdiv, Wp.rPow, Wp.rInt, Wp.rIx, Wp.rLt, Wp.rLe, Wp.rCmp, Wp.rGeI, Wp.rGtI, Wp.wCB, Wp.rLen, Wp.rLen1, Wp.rInt1, Wp.rMax2, Wp.rMin2, Wp.rTupOf, Wp.rListOf,
  Wp.wIsi, Wp.rBIs, Wp.rIsN, Wp.isNon, Wp.wMt, Wp.rAppendT, Wp.rExtendT, Wp.rReverseT, Wp.wNot, Wp.wOr, Wp.wAnd, Wp.wAndV, Wp.wOrV, Wp.wNotV, Wp.wFor, Wp.iRg1, Wp.iRg2, Wp.iAnyW, Wp.wAll, Wp.wChain, Wp.wSl, Wp.wNoPart, Wp.wPart, Wp.rSl, Wp.wNeg, Wp.rNeg, Wp.wLc, Wp.wYes, Wp.wDrop, Wp.wipeT, Wp.wAug, List.map, List.set_cons_zero, List.set_cons_succ, List.getElem?_cons_zero, List.getElem?_cons_succ, List.length_cons, List.length_nil, List.cons_append, List.nil_append, List.replicate, Wp.startT,
  true_and, and_true, Wp.wif_true, Wp.wif_false, Wp.ex_some, Wp.ex_some1, Wp.ex_eq, Wp.ex_lst, Wp.ex_lst0, Wp.rEq_int, Bool.false_bne, Bool.true_bne, Int.reduceLT, Int.reduceLE, Int.reduceAdd, Nat.reduceAdd, Nat.reduceSub, eq_self, ite_true, ite_false, beq_self_eq_true, Bool.not_true, Bool.not_false, Wp.isB_0, Wp.isB_1, Wp.isB_2, Wp.isB_3, Wp.isB_4, Wp.isB_5, Wp.isB_6, Wp.isB_7, Wp.isB_8, Wp.isB_9, Wp.isB_10, Wp.isB_11, Wp.isB_12, Wp.isB_13, Wp.isB_14, Wp.isB_15, Wp.isB_16, Wp.isB_17, Wp.isB_18, Wp.isB_19, Wp.isB_20, Wp.isB_21, Wp.isB_22, Wp.isB_23, Wp.isB_24, Wp.isB_25, Wp.isB_26, Wp.isB_27, Wp.isB_28, Wp.isB_29, Wp.isB_30, Wp.isB_31, Wp.isB_32, Wp.isB_33, Wp.isB_34, Wp.isB_35, Wp.cmul_l, Wp.cmul_r, Wp.cpow_lit, Wp.size_le, Wp.size_lt, Wp.atI_0, Wp.atI_1, Wp.atI_2, Wp.atI_3, Wp.atI_4, Wp.atI_5, Wp.atI_6, Wp.ixN_0, Wp.ixN_1, Wp.ixN_2, Wp.itemsT, Wp.tyT, reduceIte, Wp.wFld, Wp.wFSet, Wp.wFAug, Wp.wMeth, Wp.wMake, Wp.rIxA, Wp.rInA, Wp.rSetA, Wp.ixA, Wp.inA, Wp.setA, Wp.lenA, Wp.getD, Option.map_some, Option.bind_some, Option.getD_some,  Wp.gIxA, Wp.wDNew, Wp.wDNewT, Wp.rLenA, Wp.rSortD, Wp.rMaxL, Wp.rPopL, Wp.rGet1, Wp.rGet2, Wp.wGet1, Wp.wGet2, Wp.wPop1, Wp.wPop2, Wp.wDel, Wp.isDT, Wp.keyT, Wp.keysT, Wp.keysL, Wp.ex_ins, Wp.ex_dct, Wp.wKGet, Wp.wKIx, Wp.rLenK, Wp.iZipK, Wp.wDisp, Wp.wPCons, Wp.wPNil, Wp.rGt, Int.cast_ofNat_Int, Int.reduceBEq, Wp.wRev, Wp.rRev, Wp.rMulA, lk_Table__rows, pt_Table__rows, no_Table_take, no_Table_rows, no_Table_birth, no_Table_forget, ln_Table, mk_Table, lk_Mux__number, pt_Mux__number, lk_Mux__table, pt_Mux__table, no_Mux_receive, no_Mux_forget, no_Mux_rows, no_Mux__pass_on, ln_Mux, mk_Mux, Wp.wRev, Wp.rRev, Wp.upS, Wp.upS_upS, *])
local macro_rules | `(tactic| walk_at "run") => `(tactic| repeat (first | walk_at "wp" | walk_at "go"))
local macro_rules | `(tactic| walk_at "wq") => `(tactic| simp (disch := omega) only [Wp.wSeq, Wp.wNext, Wp.wSet, Wp.wVar, Wp.wC, Wp.wOp, Wp.wRet, Wp.wIfS, Wp.wTest, Wp.wCall, Wp.wCons, Wp.wNil, Wp.wTup, Wp.wLst, Wp.wAsg, Wp.gTp, Wp.gC, Wp.gNm, Wp.gN0, Wp.gIx, Wp.rSet, Wp.rAdd, Wp.rMul, Wp.rMod, Wp.rSub, Wp.rFdiv, Wp.rPow, Wp.rInt, Wp.rIx, Wp.rLt, Wp.rLe, Wp.rCmp, Wp.rGeI, Wp.rGtI, Wp.wCB, Wp.rLen, Wp.rLen1, Wp.rInt1, Wp.rMax2, Wp.rMin2, Wp.rTupOf, Wp.rListOf,
  Wp.wIsi, Wp.rBIs, Wp.rIsN, Wp.isNon, Wp.wMt, Wp.rAppendT, Wp.rExtendT, Wp.rReverseT, Wp.wNot, Wp.wOr, Wp.wAnd, Wp.wAndV, Wp.wOrV, Wp.wNotV, Wp.wFor, Wp.iRg1, Wp.iRg2, Wp.iAnyW, Wp.wAll, Wp.wChain, Wp.wSl, Wp.wNoPart, Wp.wPart, Wp.rSl, Wp.wNeg, Wp.rNeg, Wp.wLc, Wp.wYes, Wp.wDrop, Wp.wipeT, Wp.wAug, List.map, List.set_cons_zero, List.set_cons_succ, List.getElem?_cons_zero, List.getElem?_cons_succ, List.length_cons, List.length_nil, List.cons_append, List.nil_append, List.replicate, Wp.startT,
  true_and, and_true, Wp.wif_true, Wp.wif_false, Wp.ex_some, Wp.ex_some1, Wp.ex_eq, Wp.ex_lst, Wp.ex_lst0, Wp.rEq_int, Bool.false_bne, Bool.true_bne, Int.reduceLT, Int.reduceLE, Int.reduceAdd, Nat.reduceAdd, Nat.reduceSub, eq_self, ite_true, ite_false, beq_self_eq_true, Bool.not_true, Bool.not_false, Wp.isB_0, Wp.isB_1, Wp.isB_2, Wp.isB_3, Wp.isB_4, Wp.isB_5, Wp.isB_6, Wp.isB_7, Wp.isB_8, Wp.isB_9, Wp.isB_10, Wp.isB_11, Wp.isB_12, Wp.isB_13, Wp.isB_14, Wp.isB_15, Wp.isB_16, Wp.isB_17, Wp.isB_18, Wp.isB_19, Wp.isB_20, Wp.isB_21, Wp.isB_22, Wp.isB_23, Wp.isB_24, Wp.isB_25, Wp.isB_26, Wp.isB_27, Wp.isB_28, Wp.isB_29, Wp.isB_30, Wp.isB_31, Wp.isB_32, Wp.isB_33, Wp.isB_34, Wp.isB_35, Wp.cmul_l, Wp.cmul_r, Wp.cpow_lit, Wp.size_le, Wp.size_lt, Wp.atI_0, Wp.atI_1, Wp.atI_2, Wp.atI_3, Wp.atI_4, Wp.atI_5, Wp.atI_6, Wp.ixN_0, Wp.ixN_1, Wp.ixN_2, Wp.itemsT, Wp.tyT, reduceIte, Wp.wFld, Wp.wFSet, Wp.wFAug, Wp.wMeth, Wp.wMake, Wp.rIxA, Wp.rInA, Wp.rSetA, Wp.ixA, Wp.inA, Wp.setA, Wp.lenA, Wp.getD, Option.map_some, Option.bind_some, Option.getD_some,  Wp.gIxA, Wp.wDNew, Wp.wDNewT, Wp.rLenA, Wp.rSortD, Wp.rMaxL, Wp.rPopL, Wp.rGet1, Wp.rGet2, Wp.wGet1, Wp.wGet2, Wp.wPop1, Wp.wPop2, Wp.wDel, Wp.isDT, Wp.keyT, Wp.keysT, Wp.keysL, Wp.ex_ins, Wp.ex_dct, Wp.wKGet, Wp.wKIx, Wp.rLenK, Wp.iZipK, Wp.wDisp, Wp.wPCons, Wp.wPNil, Wp.rGt, Int.cast_ofNat_Int, Int.reduceBEq, Wp.wRev, Wp.rRev, Wp.rMulA, lk_Table__rows, pt_Table__rows, no_Table_take, no_Table_rows, no_Table_birth, no_Table_forget, ln_Table, mk_Table, lk_Mux__number, pt_Mux__number, lk_Mux__table, pt_Mux__table, no_Mux_receive, no_Mux_forget, no_Mux_rows, no_Mux__pass_on, ln_Mux, mk_Mux, Wp.wRev, Wp.rRev, *])
local macro_rules | `(tactic| walk_at "r2") => `(tactic| repeat (first | walk_at "wq" | walk_at "go"))
local macro_rules | `(tactic| walk_at "w0") => `(tactic| simp (disch := omega) only [Wp.wSeq, Wp.wNext, Wp.wSet, Wp.wVar, Wp.wC, Wp.wOp, Wp.wRet, Wp.wIfS, Wp.wTest, Wp.wCall, Wp.wCons, Wp.wNil, Wp.wTup, Wp.wLst, Wp.wAsg, Wp.gTp, Wp.gC, Wp.gNm, Wp.gN0, Wp.gIx, Wp.rSet, Wp.rAdd, Wp.rMul, Wp.rMod, Wp.rSub, Wp.rFdiv, Wp.rPow, Wp.rInt, Wp.rIx, Wp.rLt, Wp.rLe, Wp.rCmp, Wp.rGeI, Wp.rGtI, Wp.wCB, Wp.rLen, Wp.rLen1, Wp.rInt1, Wp.rMax2, Wp.rMin2, Wp.rTupOf, Wp.rListOf,
  Wp.wIsi, Wp.rBIs, Wp.rIsN, Wp.isNon, Wp.wMt, Wp.rAppendT, Wp.rExtendT, Wp.rReverseT, Wp.wNot, Wp.wOr, Wp.wAnd, Wp.wAndV, Wp.wOrV, Wp.wNotV, Wp.wFor, Wp.iRg1, Wp.iRg2, Wp.iAnyW, Wp.wAll, Wp.wChain, Wp.wSl, Wp.wNoPart, Wp.wPart, Wp.rSl, Wp.wNeg, Wp.rNeg, Wp.wLc, Wp.wYes, Wp.wDrop, Wp.wipeT, Wp.wAug, List.map, List.set_cons_zero, List.set_cons_succ, List.getElem?_cons_zero, List.getElem?_cons_succ, List.length_cons, List.length_nil, List.cons_append, List.nil_append, List.replicate, Wp.startT,
  true_and, and_true, Wp.wif_true, Wp.wif_false, Wp.ex_some, Wp.ex_some1, Wp.ex_eq, Wp.ex_lst, Wp.ex_lst0, Wp.rEq_int, Bool.false_bne, Bool.true_bne, Int.reduceLT, Int.reduceLE, Int.reduceAdd, Nat.reduceAdd, Nat.reduceSub, eq_self, ite_true, ite_false, beq_self_eq_true, Bool.not_true, Bool.not_false, Wp.isB_0, Wp.isB_1, Wp.isB_2, Wp.isB_3, Wp.isB_4, Wp.isB_5, Wp.isB_6, Wp.isB_7, Wp.isB_8, Wp.isB_9, Wp.isB_10, Wp.isB_11, Wp.isB_12, Wp.isB_13, Wp.isB_14, Wp.isB_15, Wp.isB_16, Wp.isB_17, Wp.isB_18, Wp.isB_19, Wp.isB_20, Wp.isB_21, Wp.isB_22, Wp.isB_23, Wp.isB_24, Wp.isB_25, Wp.isB_26, Wp.isB_27, Wp.isB_28, Wp.isB_29, Wp.isB_30, Wp.isB_31, Wp.isB_32, Wp.isB_33, Wp.isB_34, Wp.isB_35, Wp.cmul_l, Wp.cmul_r, Wp.cpow_lit, Wp.size_le, Wp.size_lt, Wp.atI_0, Wp.atI_1, Wp.atI_2, Wp.atI_3, Wp.atI_4, Wp.atI_5, Wp.atI_6, Wp.ixN_0, Wp.ixN_1, Wp.ixN_2, Wp.itemsT, Wp.tyT, reduceIte, Wp.wFld, Wp.wFSet, Wp.wFAug, Wp.wMeth, Wp.wMake, Wp.rIxA, Wp.rInA, Wp.rSetA, Wp.ixA, Wp.inA, Wp.setA, Wp.lenA, Wp.getD, Option.map_some, Option.bind_some, Option.getD_some,  Wp.gIxA, Wp.wDNew, Wp.wDNewT, Wp.rLenA, Wp.rSortD, Wp.rMaxL, Wp.rPopL, Wp.rGet1, Wp.rGet2, Wp.wGet1, Wp.wGet2, Wp.wPop1, Wp.wPop2, Wp.wDel, Wp.isDT, Wp.keyT, Wp.keysT, Wp.keysL, Wp.ex_ins, Wp.ex_dct, Wp.wKGet, Wp.wKIx, Wp.rLenK, Wp.iZipK, Wp.wDisp, Wp.wPCons, Wp.wPNil, Wp.rGt, Int.cast_ofNat_Int, Int.reduceBEq, Wp.wRev, Wp.rRev, Wp.rMulA, lk_Table__rows, pt_Table__rows, no_Table_take, no_Table_rows, no_Table_birth, no_Table_forget, ln_Table, mk_Table, lk_Mux__number, pt_Mux__number, lk_Mux__table, pt_Mux__table, no_Mux_receive, no_Mux_forget, no_Mux_rows, no_Mux__pass_on, ln_Mux, mk_Mux, Wp.wRev, Wp.rRev])
local macro_rules | `(tactic| walk_at "r0") => `(tactic| repeat (first | walk_at "w0" | walk_at "go"))
section
variable {P : Program} {K : PySem.W.Frag} {mg : Str → Option Value}
theorem fn_no {w : World} {base : Heap} {tl : List Addr} {k : Nat} {f : Addr} {fd : FuncData} {ps : List Str} : FnOk P w K mg base CX0 k f fd ps (Lsp tl K ps.length spNo) := ⟨fun vs H Q E h => lsp_len h, fun A outer s H args us vs Q E hr e0 hb hv h => by
  obtain ⟨_, ts, S, Q0, E0, _, _, _, z, _⟩ := h
  exact z.elim⟩
theorem fn_ex {ι : Type} {w : World} {base : Heap} {tl : List Addr} {k : Nat} {f : Addr} {fd : FuncData} {ps : List Str} {C : ι → Prop} {s : ι → WSp} (F : ∀ i, C i → FnOk P w K mg base CX0 k f fd ps (Lsp tl K ps.length (s i))) : FnOk P w K mg base CX0 k f fd ps (Lsp tl K ps.length fun ts S Q E => ∃ i, C i ∧ s i ts S Q E) :=
  ⟨fun vs H Q E h => lsp_len h, fun A outer s' H args us vs Q E hr e0 hb hv h => by
    obtain ⟨hT, ts, S, Q0, E0, h1, h2, h3, ⟨i, hi, h4⟩, h5⟩ := h
    exact (F i hi).run A outer s' H args us vs Q E hr e0 hb hv ⟨hT, ts, S, Q0, E0, h1, h2, h3, h4, h5⟩⟩
theorem four_of {α : Type} {p a b c d : α} (h : p ∈ [a, b, c, d]) : p = a ∨ p = b ∨ p = c ∨ p = d := by simpa using h
theorem law_ok {l : PySem.W.OpenLaw} {w : World} {h : Heap} {fa : Addr} {C_Table C_Mux : Addr} (T : Facts K mg w.params C_Table C_Mux) (X : K.In h) (G : h.Ns mainGlobals mg) (hfa : mg "law" = some (.ref fa)) (TE : TabsE K mg h ["is_bytes", "_can_stand", "_is_word", "_is_part"]) :
    ∃ (fd : FuncData) (cs : List (Addr × Addr)), (∀ (s : Shared) (u : Value), BindsTo s fd ⟨[u], []⟩ [("script", u)]) ∧ (∀ p ∈ cs, h.get? p.2 = some { cls := .none, data := .fields #[] }) ∧ (∀ p ∈ cs, K.lookup p.2 = none) ∧ (∀ p ∈ cs, PySem.W.CodeHd h p.1 p.2) ∧
      ∀ base : Heap, K.In base → base.Ns mainGlobals mg → (∀ p ∈ cs, GxR.TabB base mg p.1 p.2) → FnOk l.prog w K mg base CX0 49 fa fd ["script"] (Lsp (cs.map (·.2)) K 1 spLaw) := by
  obtain ⟨f, fd, F, m, b⟩ := T.d_law
  have e := m.symm.trans hfa
  cases e
  obtain ⟨fB, fdB, c1, P1, FB, mB, bB, tB⟩ := T.d_is_bytes
  obtain ⟨fC, fdC, c2, P2, FC, mC, bC, tC⟩ := T.d__can_stand
  obtain ⟨fW, fdW, c3, P3, FW, mW, bW, tW⟩ := T.d__is_word
  obtain ⟨fT, fdT, c4, P4, FT, mT, bT, tT⟩ := T.d__is_part
  have te1 := TE "is_bytes" (by simp) fB fdB c1 P1 mB (by obtain ⟨oc, od, kV, doc, pm, an, cdv, ct, osl, _, lk, _⟩ := FB.ex; exact ⟨_, _, _, lk⟩) tB
  have te2 := TE "_can_stand" (by simp) fC fdC c2 P2 mC (by obtain ⟨oc, od, kV, doc, pm, an, cdv, ct, osl, _, lk, _⟩ := FC.ex; exact ⟨_, _, _, lk⟩) tC
  have te3 := TE "_is_word" (by simp) fW fdW c3 P3 mW (by obtain ⟨oc, od, kV, doc, pm, an, cdv, ct, osl, _, lk, _⟩ := FW.ex; exact ⟨_, _, _, lk⟩) tW
  have te4 := TE "_is_part" (by simp) fT fdT c4 P4 mT (by obtain ⟨oc, od, kV, doc, pm, an, cdv, ct, osl, _, lk, _⟩ := FT.ex; exact ⟨_, _, _, lk⟩) tT
  refine ⟨fd, [(c1, P1), (c2, P2), (c3, P3), (c4, P4)], fun s u => ?_, fun p hp => ?_, fun p hp => ?_, fun p hp => ?_, fun base hb hg hTB => ?_⟩
  · obtain ⟨oc, od, kV, doc, pm, an, cdv, ct, osl, rfl, lk, hcd⟩ := F.ex
    exact .of_eq rfl
  · rcases four_of hp with h | h | h | h <;> rw [h]
    · exact te1.1
    · exact te2.1
    · exact te3.1
    · exact te4.1
  · rcases four_of hp with h | h | h | h <;> rw [h]
    · exact tB.no
    · exact tC.no
    · exact tW.no
    · exact tT.no
  · rcases four_of hp with h | h | h | h <;> rw [h]
    · exact te1.2
    · exact te2.2
    · exact te3.2
    · exact te4.2
  · have t1 : Tab1 base mg [P1, P2, P3, P4] fdB c1 P1 := ⟨tB.code, hTB (c1, P1) (by simp), by simp⟩
    have t2 : Tab1 base mg [P1, P2, P3, P4] fdC c2 P2 := ⟨tC.code, hTB (c2, P2) (by simp), by simp⟩
    have t3 : Tab1 base mg [P1, P2, P3, P4] fdW c3 P3 := ⟨tW.code, hTB (c3, P3) (by simp), by simp⟩
    have t4 : Tab1 base mg [P1, P2, P3, P4] fdT c4 P4 := ⟨tT.code, hTB (c4, P4) (by simp), by simp⟩
    have c_int : Cal l.prog w K mg base [P1, P2, P3, P4] 1 "is_integer" ["value", "least", "greatest"] spIsI := T.d_is_integer.cal fun f fd F => fn_is_integer (k := 0) T F hw_is_integer
    have c_by : Cal l.prog w K mg base [P1, P2, P3, P4] 3 "is_bytes" ["value"] spBy := ⟨fB, fdB, fn_is_bytes (k := 1) T FB t1 c_int hw_is_bytes, mB, FB.kp, bB⟩
    have c_tu : Cal l.prog w K mg base [P1, P2, P3, P4] 1 "_is_tuple" ["value", "many"] spTu := T.d__is_tuple.cal fun f fd F => fn__is_tuple (k := 0) T F hw_is_tuple
    have c_be : Cal l.prog w K mg base [P1, P2, P3, P4] 2 "_is_below" ["value", "many"] spBe := T.d__is_below.cal fun f fd F => fn__is_below (k := 1) T F c_int hw_is_below
    have c_or : Cal l.prog w K mg base [P1, P2, P3, P4] 2 "_is_ordinal" ["value"] spOr := T.d__is_ordinal.cal fun f fd F => fn__is_ordinal (k := 1) T F c_int hw_is_ordinal
    have c_fl : Cal l.prog w K mg base [P1, P2, P3, P4] 3 "is_flow" ["value"] spPr := T.d_is_flow.cal fun f fd F => fn_is_flow (k := 2) T F (c_tu.mono (by decide)) c_be c_or hw_is_flow
    have c_bi : Cal l.prog w K mg base [P1, P2, P3, P4] 3 "is_birth" ["value"] spPr := T.d_is_birth.cal fun f fd F => fn_is_birth (k := 2) T F (c_tu.mono (by decide)) c_be c_or hw_is_birth
    have c_li : Cal l.prog w K mg base [P1, P2, P3, P4] 4 "is_life" ["value"] spLf := T.d_is_life.cal fun f fd F => fn_is_life (k := 3) T F (c_tu.mono (by decide)) c_bi (c_or.mono (by decide)) hw_is_life
    have c_fw : Cal l.prog w K mg base [P1, P2, P3, P4] 1 "first_word" ["value"] spFw := T.d_first_word.cal fun f fd F => fn_first_word (k := 0) T F hw_first_word
    have c_sg : Cal l.prog w K mg base [P1, P2, P3, P4] 4 "_is_segment" ["parts"] spSg := T.d__is_segment.cal fun f fd F => fn__is_segment (k := 3) T F (c_int.mono (by decide)) c_by hw_is_segment
    have c_pk : Cal l.prog w K mg base [P1, P2, P3, P4] 5 "is_packet" ["value"] spPk := T.d_is_packet.cal fun f fd F => fn_is_packet (k := 4) T F (c_fw.mono (by decide)) (c_fl.mono (by decide)) c_li c_sg hw_is_packet
    have c_go : Cal l.prog w K mg base [P1, P2, P3, P4] 1 "goes_up" ["packet"] spGo := T.d_goes_up.cal fun f fd F => fn_goes_up (k := 0) T F hw_goes_up
    have c_bk : Cal l.prog w K mg base [P1, P2, P3, P4] 1 "bucket_of" ["flow"] spBk := T.d_bucket_of.cal fun f fd F => fn_bucket_of (k := 0) T F hw_bucket_of
    have c_wd : Cal l.prog w K mg base [P1, P2, P3, P4] 2 "_is_word" ["value"] spWd := ⟨fW, fdW, fn__is_word (k := 0) T FW t3 hw_is_word, mW, FW.kp, bW⟩
    have cs : ∀ d : Nat, FnOk l.prog w K mg base CX0 (2 * d + 4) fC fdC ["value", "levels"] (Lsp [P1, P2, P3, P4] K 2 (spCs d)) := fun d => by
      induction d with
      | zero => exact fn__can_stand (k := 2) T FC t2 ⟨fC, fdC, fn_no, mC, FC.kp, bC⟩ (c_int.mono (by decide)) c_wd (hw_can_stand 0 spNo fun e z => by cases z)
      | succ d ih => exact fn__can_stand (k := 2 * d + 4) T FC t2 ⟨fC, fdC, ih, mC, FC.kp, bC⟩ (c_int.mono (by omega)) (c_wd.mono (by omega)) (hw_can_stand (d + 1) (spCs d) fun e z => by cases z; rfl)
    have c_cs : Cal l.prog w K mg base [P1, P2, P3, P4] 36 "_can_stand" ["value", "levels"] (spCs 16) := ⟨fC, fdC, cs 16, mC, FC.kp, bC⟩
    have c_cw : Cal l.prog w K mg base [P1, P2, P3, P4] 37 "can_be_written" ["value"] spCw := T.d_can_be_written.cal fun f fd F => fn_can_be_written (k := 36) T F c_cs hw_can_be_written
    obtain ⟨fR, fdR, FR, mR, bR⟩ := T.d__is_row
    have c_p0 : Cal l.prog w K mg base [P1, P2, P3, P4] 39 "_is_part" ["kind", "value"] (spPart ok0 sc0) := ⟨fT, fdT, fn__is_part (k := 37) T FT t4 (c_bi.mono (by decide)) (c_fl.mono (by decide)) (c_li.mono (by decide)) (c_int.mono (by decide)) c_cw ⟨fR, fdR, fn_no, mR, FR.kp, bR⟩ (hw_is_part0 spNo), mT, FT.kp, bT⟩
    have c_a0 : Cal l.prog w K mg base [P1, P2, P3, P4] 40 "_are_parts" ["kinds", "parts"] (spParts K ok0 sc0) := T.d__are_parts.cal fun f fd F => fn__are_parts (k := 39) T F c_p0 (hw_are_parts ok0 sc0)
    have c_ro : Cal l.prog w K mg base [P1, P2, P3, P4] 41 "_is_row" ["kind", "row"] (spRow K) := ⟨fR, fdR, fn__is_row (k := 40) T FR (c_bi.mono (by decide)) c_a0 hw_is_row, mR, FR.kp, bR⟩
    have c_p1 : Cal l.prog w K mg base [P1, P2, P3, P4] 43 "_is_part" ["kind", "value"] (spPart okK C1) := ⟨fT, fdT, fn__is_part (k := 41) T FT t4 (c_bi.mono (by decide)) (c_fl.mono (by decide)) (c_li.mono (by decide)) (c_int.mono (by decide)) (c_cw.mono (by decide)) c_ro hw_is_part1, mT, FT.kp, bT⟩
    have c_a1 : Cal l.prog w K mg base [P1, P2, P3, P4] 44 "_are_parts" ["kinds", "parts"] (spParts K okK C1) := T.d__are_parts.cal fun f fd F => fn__are_parts (k := 43) T F c_p1 (hw_are_parts okK C1)
    have c_ha : Cal l.prog w K mg base [P1, P2, P3, P4] 45 "_has_parts" ["kinds", "value"] (spHas K) := T.d__has_parts.cal fun f fd F => fn__has_parts (k := 44) T F c_a1 hw_has_parts
    have c_up : Cal l.prog w K mg base [P1, P2, P3, P4] 6 "_is_packet_up" ["value"] spUp := T.d__is_packet_up.cal fun f fd F => fn__is_packet_up (k := 5) T F c_pk (c_go.mono (by decide)) hw_packet_up
    have c_wr : Cal l.prog w K mg base [P1, P2, P3, P4] 44 "_is_wrap" ["value"] spWr := T.d__is_wrap.cal fun f fd F => fn__is_wrap (k := 43) T F (c_fw.mono (by decide)) c_p1 (c_int.mono (by decide)) (c_up.mono (by decide)) (c_bk.mono (by decide)) hw_is_wrap
    have c_ms : Cal l.prog w K mg base [P1, P2, P3, P4] 46 "is_message" ["address", "value"] spMsg := T.d_is_message.cal fun f fd F => fn_is_message (k := 45) T F (c_fw.mono (by decide)) (c_pk.mono (by decide)) (c_go.mono (by decide)) (c_up.mono (by decide)) c_ha (c_wr.mono (by decide)) hw_is_message
    have c_bag : Cal l.prog w K mg base [P1, P2, P3, P4] 1 "_law_bag" ["script", "k"] spBag3 := T.d__law_bag.cal fun f fd F => fn__law_bag (k := 0) T F hw_bag3A
    have c_dr : Cal l.prog w K mg base [P1, P2, P3, P4] 1 "_law_draw" ["bag", "many"] spDraw := T.d__law_draw.cal fun f fd F => fn__law_draw (k := 0) T F hw_draw1
    have c_co : Cal l.prog w K mg base [P1, P2, P3, P4] 2 "_law_count" ["bag", "least"] spCount := T.d__law_count.cal fun f fd F => fn__law_count (k := 1) T F c_dr hw_count
    have c_lf : Cal l.prog w K mg base [P1, P2, P3, P4] 3 "_law_flow" ["bag"] spFlow := T.d__law_flow.cal fun f fd F => fn__law_flow (k := 2) T F c_co (c_dr.mono (by decide)) hw_flow
    have c_lb : Cal l.prog w K mg base [P1, P2, P3, P4] 3 "_law_birth" ["bag"] spFlow := T.d__law_birth.cal fun f fd F => fn__law_birth (k := 2) T F c_co (c_dr.mono (by decide)) hw_birth
    have c_ll : Cal l.prog w K mg base [P1, P2, P3, P4] 4 "_law_life" ["bag"] spLife := T.d__law_life.cal fun f fd F => fn__law_life (k := 3) T F c_lb (c_co.mono (by decide)) hw_life
    have c_lp : Cal l.prog w K mg base [P1, P2, P3, P4] 5 "_law_packet" ["bag", "words"] spPacket := T.d__law_packet.cal fun f fd F => fn__law_packet (k := 4) T F (c_dr.mono (by decide)) (c_lf.mono (by decide)) c_ll hw_packet
    have c_ti : CalI l.prog w K mg base [P1, P2, P3, P4] 1 C_Table "Table" ["self"] (spInit C_Table) := T.d_Table_init.cal fun f fd F => fn_Table_init (k := 0) T F (hw_tinit C_Table)
    have c_tf : CalM l.prog w K mg base [P1, P2, P3, P4] 1 C_Table "forget" ["self"] (spForget C_Table) := T.d_Table_forget.cal fun f fd F => fn_Table_forget (k := 0) T F  (hw_tforget C_Table)
    have c_tb : CalM l.prog w K mg base [P1, P2, P3, P4] 1 C_Table "birth" ["self", "bucket"] (spBirth C_Table) := T.d_Table_birth.cal fun f fd F => fn_Table_birth (k := 0) T F  (hw_tbirth C_Table)
    have c_tt : CalM l.prog w K mg base [P1, P2, P3, P4] 1 C_Table "take" ["self", "rows"] (spTake C_Table) := T.d_Table_take.cal fun f fd F => fn_Table_take (k := 0) T F  (hw_take C_Table)
    have c_tr : CalM l.prog w K mg base [P1, P2, P3, P4] 1 C_Table "rows" ["self"] (spRowsM C_Table) := T.d_Table_rows.cal fun f fd F => fn_Table_rows (k := 0) T F  (hw_rows C_Table)
    have c_mi : CalI l.prog w K mg base [P1, P2, P3, P4] 3 C_Mux "Mux" ["self", "number"] (spMInit C_Table C_Mux) := T.d_Mux_init.cal fun f fd F => fn_Mux_init (k := 1) T F c_ti hw_minit
    have c_mf : CalM l.prog w K mg base [P1, P2, P3, P4] 2 C_Mux "forget" ["self"] (spMForget C_Table C_Mux) := T.d_Mux_forget.cal fun f fd F => fn_Mux_forget (k := 1) T F c_tf hw_mforget
    have c_mr : CalM l.prog w K mg base [P1, P2, P3, P4] 2 C_Mux "rows" ["self"] (spMRows C_Table C_Mux) := T.d_Mux_rows.cal fun f fd F => fn_Mux_rows (k := 1) T F c_tr hw_mrows
    have c_mp : CalM l.prog w K mg base [P1, P2, P3, P4] 2 C_Mux "_pass_on" ["self", "packet"] (spPass C_Table C_Mux) := T.d_Mux__pass_on.cal fun f fd F => fn_Mux__pass_on (k := 1) T F c_bk c_tb hw_pass
    have c_mv : CalM l.prog w K mg base [P1, P2, P3, P4] 47 C_Mux "receive" ["self", "message"] (spRecv C_Table C_Mux) := T.d_Mux_receive.cal fun f fd F => fn_Mux_receive (k := 46) T F c_ms (c_tt.mono (by decide)) (c_mp.mono (by decide)) hw_recv
    have c_d3 : Cal l.prog w K mg base [P1, P2, P3, P4] 1 "_law_draw" ["bag", "many"] (Wp.spDraw false) := T.d__law_draw.cal fun f fd F => fn__law_draw (k := 0) T F hw_draw3A
    have c_lr : Cal l.prog w K mg base [P1, P2, P3, P4] 2 "_law_rows" ["bag", "most"] spRws := T.d__law_rows.cal fun f fd F => fn__law_rows (k := 1) T F c_d3 (hw_law_rows C_Table)
    have c_nw : Cal l.prog w K mg base [P1, P2, P3, P4] 1 "_law_newest" ["rows"] spNew := T.d__law_newest.cal fun f fd F => fn__law_newest (k := 0) T F (hw_newest C_Table)
    exact fn_law (k := 47) T F (c_bag.mono (by decide)) (c_lr.mono (by decide)) (c_mi.mono (by decide)) c_mv (c_mf.mono (by decide)) (c_dr.mono (by decide)) (c_lp.mono (by decide)) (c_mr.mono (by decide)) (c_nw.mono (by decide)) hw_law
end
end My

set_option Elab.async false
set_option linter.all false
set_option maxRecDepth 100000
open PySem PySem.W PyProof.Rows
theorem My.tbl_c {K : PySem.W.Frag} {P : Params} {e : DictEntry} {r : List DictEntry} {z : Str} {zs : List Str} {t : List (Str × List Str)} {tk : Tok} (h1 : e.key = .str z tk) (h2 : e.hash = PyData.keyHash P z) {a : Addr} (h3 : e.val = .ref a) (h4 : Wp.KTup K a zs) (h5 : Wp.TblOk K P r t) : Wp.TblOk K P (e :: r) ((z, zs) :: t) := ⟨⟨tk, h1, h2⟩, ⟨a, h3, h4⟩, h5⟩
theorem My.tup_c {K : PySem.W.Frag} {a : Addr} {zs : List Str} {o : Obj} {its : Array Value} {n : Nat} (h1 : K.lookup a = some o) (h2 : o.cls = .type "tuple") (h3 : o.data = .seq its n) (h4 : its.size ≤ sizeLine) (h5 : L2.Vals (zs.map L2.V.str) its.toList) : Wp.KTup K a zs := ⟨o, its, n, h1, h2, h3, h4, h5⟩
local macro_rules | `(tactic| walk_at "tup") => `(tactic| (refine' My.tup_c ?h1 ?h2 ?h3 ?h4 ?h5; (case h1 => k_is); (case h2 => rfl); (case h3 => rfl); (case h4 => exact Nat.le_of_ble_eq_true rfl); (case h5 => (simp only [List.map_cons, List.map_nil]; repeat (first | exact .nil | refine' .cons ⟨_, rfl⟩ ?_)))))
local macro_rules | `(tactic| walk_at "tbl") => `(tactic| ((first | unfold Gn.tbl_ROWS | unfold Gn.tbl_TO_AGENT | unfold Gn.tbl_TO_CONTROLLER | unfold Gn.tbl_TO_MUX); repeat (first | exact True.intro | refine My.tbl_c rfl rfl rfl (by walk_at "tup") ?_)))
set_option maxHeartbeats 0 in
theorem PySem.Challenge.cw_heldflows_k40_whole_muxes_keep_nothing_holds : PySem.Challenge.rw_heldflows_k40_whole_muxes_keep_nothing.Holds := by
  w_on; o_law; k_head; (case hw => w_witness2)
  k_fill
  refine Wp.law_walkT (l := PySem.Challenge.rw_heldflows_k40_whole_muxes_keep_nothing) (k := 49) (x := "script") ["is_bytes", "_can_stand", "_is_word", "_is_part"] rfl rfl ⟨rfl, by decide, by decide⟩ (by decide +kernel) (fun w h Y => PySem.W.kIn_of Y) ?F
  case F =>
    intro w mg fa h KX G hmg TE
    refine' My.law_ok (Gn.facts_mk KX G ?aC_Table ?pg_Table ?hd_Table ?po_Table ?sa_Table ?mk_Table ?kc_Table ?aC_Mux ?pg_Mux ?hd_Mux ?po_Mux ?sa_Mux ?mk_Mux ?kc_Mux ?nA_Mux__number ?nA_Mux__table ?nA_Table__rows ?wa_ROWS ?wl_ROWS ?wt_ROWS ?wo_ROWS ?wa_TO_AGENT ?wl_TO_AGENT ?wt_TO_AGENT ?wo_TO_AGENT ?wa_TO_CONTROLLER ?wl_TO_CONTROLLER ?wt_TO_CONTROLLER ?wo_TO_CONTROLLER ?wa_TO_MUX ?wl_TO_MUX ?wt_TO_MUX ?wo_TO_MUX ?i0 ?a0 ?l0 ?c0 ?k0 ?i1 ?a1 ?l1 ?c1 ?k1 ?i2 ?a2 ?l2 ?c2 ?k2 ?i3 ?a3 ?l3 ?c3 ?k3 ?i4 ?a4 ?l4 ?c4 ?k4 ?i5 ?a5 ?l5 ?c5 ?k5 ?i6 ?a6 ?l6 ?c6 ?k6 ?i7 ?a7 ?l7 ?c7 ?k7 ?i8 ?a8 ?l8 ?c8 ?k8 ?i9 ?a9 ?l9 ?c9 ?k9 ?a10 ?l10 ?c10 ?k10 ?a11 ?l11 ?c11 ?k11 ?x11 ?y11 ?u11 ?v11 ?a12 ?l12 ?c12 ?k12 ?a13 ?l13 ?c13 ?k13 ?a14 ?l14 ?c14 ?k14 ?a15 ?l15 ?c15 ?k15 ?a16 ?l16 ?c16 ?k16 ?a17 ?l17 ?c17 ?k17 ?a18 ?l18 ?c18 ?k18 ?a19 ?l19 ?c19 ?k19 ?a20 ?l20 ?c20 ?k20 ?a21 ?l21 ?c21 ?k21 ?a22 ?l22 ?c22 ?k22 ?a23 ?l23 ?c23 ?k23 ?a24 ?l24 ?c24 ?k24 ?x24 ?y24 ?u24 ?v24 ?a25 ?l25 ?c25 ?k25 ?x25 ?y25 ?u25 ?v25 ?a26 ?l26 ?c26 ?k26 ?a27 ?l27 ?c27 ?k27 ?a28 ?l28 ?c28 ?k28 ?a29 ?l29 ?c29 ?k29 ?a30 ?l30 ?c30 ?k30 ?a31 ?l31 ?c31 ?k31 ?x31 ?y31 ?u31 ?v31 ?a32 ?l32 ?c32 ?k32 ?a33 ?l33 ?c33 ?k33 ?a34 ?l34 ?c34 ?k34 ?a35 ?l35 ?c35 ?k35 ?a36 ?l36 ?c36 ?k36 ?a37 ?l37 ?c37 ?k37 ?a38 ?l38 ?c38 ?k38 ?a39 ?l39 ?c39 ?k39 ?a40 ?l40 ?c40 ?k40 ?a41 ?l41 ?c41 ?k41 ?a42 ?l42 ?c42 ?k42 ?n_BUCKETS ?n_MOST_AGENTS ?n_MOST_CLIENTS ?n_MOST_COUNT ?n_MOST_DATA ?n_MOST_HOPS ?n_MOST_INTEGER ?n_MOST_NESTED ?n_MOST_STREAM ?n_MOST_WORD ?z_all ?z_bool ?z_int ?z_isinstance ?z_len ?z_max ?z_min ?z_range ?z_sorted ?z_str ?z_tuple ?z_zip) KX G hmg TE
    (case aC_Table => k_is); (case pg_Table => k_is); (case hd_Table => k_is); (case po_Table => k_is); (case sa_Table => k_is); (case mk_Table => k_is); (case kc_Table => k_is); (case aC_Mux => k_is); (case pg_Mux => k_is); (case hd_Mux => k_is); (case po_Mux => k_is); (case sa_Mux => k_is); (case mk_Mux => k_is); (case kc_Mux => k_is); (case nA_Mux__number => k_is); (case nA_Mux__table => k_is); (case nA_Table__rows => k_is); (case wa_ROWS => k_is); (case wl_ROWS => k_is); (case wt_ROWS => walk_at "tbl"); (case wo_ROWS => decide); (case wa_TO_AGENT => k_is); (case wl_TO_AGENT => k_is); (case wt_TO_AGENT => walk_at "tbl"); (case wo_TO_AGENT => decide); (case wa_TO_CONTROLLER => k_is); (case wl_TO_CONTROLLER => k_is); (case wt_TO_CONTROLLER => walk_at "tbl"); (case wo_TO_CONTROLLER => decide); (case wa_TO_MUX => k_is); (case wl_TO_MUX => k_is); (case wt_TO_MUX => walk_at "tbl"); (case wo_TO_MUX => decide); (case i0 => k_is); (case a0 => k_is); (case l0 => k_is); (case c0 => k_is); (case k0 => k_is); (case i1 => k_is); (case a1 => k_is); (case l1 => k_is); (case c1 => k_is); (case k1 => k_is); (case i2 => k_is); (case a2 => k_is); (case l2 => k_is); (case c2 => k_is); (case k2 => k_is); (case i3 => k_is); (case a3 => k_is); (case l3 => k_is); (case c3 => k_is); (case k3 => k_is); (case i4 => k_is); (case a4 => k_is); (case l4 => k_is); (case c4 => k_is); (case k4 => k_is); (case i5 => k_is); (case a5 => k_is); (case l5 => k_is); (case c5 => k_is); (case k5 => k_is); (case i6 => k_is); (case a6 => k_is); (case l6 => k_is); (case c6 => k_is); (case k6 => k_is); (case i7 => k_is); (case a7 => k_is); (case l7 => k_is); (case c7 => k_is); (case k7 => k_is); (case i8 => k_is); (case a8 => k_is); (case l8 => k_is); (case c8 => k_is); (case k8 => k_is); (case i9 => k_is); (case a9 => k_is); (case l9 => k_is); (case c9 => k_is); (case k9 => k_is); (case a10 => k_is); (case l10 => k_is); (case c10 => k_is); (case k10 => k_is); (case a11 => k_is); (case l11 => k_is); (case c11 => k_is); (case k11 => k_is); (case x11 => first | rfl | k_is | decide); (case y11 => k_is); (case u11 => first | rfl | k_is | decide); (case v11 => first | rfl | k_is | decide); (case a12 => k_is); (case l12 => k_is); (case c12 => k_is); (case k12 => k_is); (case a13 => k_is); (case l13 => k_is); (case c13 => k_is); (case k13 => k_is); (case a14 => k_is); (case l14 => k_is); (case c14 => k_is); (case k14 => k_is); (case a15 => k_is); (case l15 => k_is); (case c15 => k_is); (case k15 => k_is); (case a16 => k_is); (case l16 => k_is); (case c16 => k_is); (case k16 => k_is); (case a17 => k_is); (case l17 => k_is); (case c17 => k_is); (case k17 => k_is); (case a18 => k_is); (case l18 => k_is); (case c18 => k_is); (case k18 => k_is); (case a19 => k_is); (case l19 => k_is); (case c19 => k_is); (case k19 => k_is); (case a20 => k_is); (case l20 => k_is); (case c20 => k_is); (case k20 => k_is); (case a21 => k_is); (case l21 => k_is); (case c21 => k_is); (case k21 => k_is); (case a22 => k_is); (case l22 => k_is); (case c22 => k_is); (case k22 => k_is); (case a23 => k_is); (case l23 => k_is); (case c23 => k_is); (case k23 => k_is); (case a24 => k_is); (case l24 => k_is); (case c24 => k_is); (case k24 => k_is); (case x24 => first | rfl | k_is | decide); (case y24 => k_is); (case u24 => first | rfl | k_is | decide); (case v24 => first | rfl | k_is | decide); (case a25 => k_is); (case l25 => k_is); (case c25 => k_is); (case k25 => k_is); (case x25 => first | rfl | k_is | decide); (case y25 => k_is); (case u25 => first | rfl | k_is | decide); (case v25 => first | rfl | k_is | decide); (case a26 => k_is); (case l26 => k_is); (case c26 => k_is); (case k26 => k_is); (case a27 => k_is); (case l27 => k_is); (case c27 => k_is); (case k27 => k_is); (case a28 => k_is); (case l28 => k_is); (case c28 => k_is); (case k28 => k_is); (case a29 => k_is); (case l29 => k_is); (case c29 => k_is); (case k29 => k_is); (case a30 => k_is); (case l30 => k_is); (case c30 => k_is); (case k30 => k_is); (case a31 => k_is); (case l31 => k_is); (case c31 => k_is); (case k31 => k_is); (case x31 => first | rfl | k_is | decide); (case y31 => k_is); (case u31 => first | rfl | k_is | decide); (case v31 => first | rfl | k_is | decide); (case a32 => k_is); (case l32 => k_is); (case c32 => k_is); (case k32 => k_is); (case a33 => k_is); (case l33 => k_is); (case c33 => k_is); (case k33 => k_is); (case a34 => k_is); (case l34 => k_is); (case c34 => k_is); (case k34 => k_is); (case a35 => k_is); (case l35 => k_is); (case c35 => k_is); (case k35 => k_is); (case a36 => k_is); (case l36 => k_is); (case c36 => k_is); (case k36 => k_is); (case a37 => k_is); (case l37 => k_is); (case c37 => k_is); (case k37 => k_is); (case a38 => k_is); (case l38 => k_is); (case c38 => k_is); (case k38 => k_is); (case a39 => k_is); (case l39 => k_is); (case c39 => k_is); (case k39 => k_is); (case a40 => k_is); (case l40 => k_is); (case c40 => k_is); (case k40 => k_is); (case a41 => k_is); (case l41 => k_is); (case c41 => k_is); (case k41 => k_is); (case a42 => k_is); (case l42 => k_is); (case c42 => k_is); (case k42 => k_is); (case n_BUCKETS => k_is); (case n_MOST_AGENTS => k_is); (case n_MOST_CLIENTS => k_is); (case n_MOST_COUNT => k_is); (case n_MOST_DATA => k_is); (case n_MOST_HOPS => k_is); (case n_MOST_INTEGER => k_is); (case n_MOST_NESTED => k_is); (case n_MOST_STREAM => k_is); (case n_MOST_WORD => k_is); (case z_all => k_is); (case z_bool => k_is); (case z_int => k_is); (case z_isinstance => k_is); (case z_len => k_is); (case z_max => k_is); (case z_min => k_is); (case z_range => k_is); (case z_sorted => k_is); (case z_str => k_is); (case z_tuple => k_is); (case z_zip => k_is)

