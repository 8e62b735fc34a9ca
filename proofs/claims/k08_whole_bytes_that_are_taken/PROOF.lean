import PyProof.Rows.All
import Wide.All
import OpenK.AllK
import Wide.FinOn
import HandS.ForMost
import HandS.TupAny
import HandS.IsInst
import HandS.Wide
import HandS.Deep
import HandS.AnyAll
import HandS.Codes
import HandS.Style
import HandS.Conv
import KE.KSortedM
import HandS.GenOver
import HandS.GenList
import HandS.EndOwn
import HandS.Iter
import HandS.Text
import KE.GoesEnumKw
import HandS.SortKw
import HandS.ForExc
import HandS.ExcIs
import HandS.Dict
import HandS.More
import HandS.Zip
import HandS.NoneIn
import HandS.WrittenGet
import HandS.TupMul
import HandS.SortRule
import HandS.DictTup
import KE.KDictPairs
import KE.KDictCopyH
import HandS.SortInts
import HandS.Exc
import HandS.ExcOwn
import HandS.TryOnly
import HandS.WordsExc
import PySem.Challenge.RW_heldflows_k08_whole_bytes_that_are_taken
set_option Elab.async false
set_option linter.all false
set_option maxRecDepth 100000
/-! trees, states, and what a reading over them is worth -/
namespace Wp
open PySem PySem.Spec PyProof.Rows L2

/-- a value as a tree: tuples by their items, frozen lists by theirs, all that changes by its address -/
inductive T where
  | non | bl (b : Bool) | int (i : Int) | str (s : Str) | tup (ts : List T) | fl (ts : List T) | ref (a : Addr) | pt (ts : List T)

/-- a list that never changes: known, or of the written part -/
def FzL (K : PySem.W.Frag) (H : Hp) (a : Addr) (xs : List V) : Prop :=
  (∃ o, H a = some (.frz o (.lst xs))) ∨
    ∃ (o : Obj) (its : Array Value) (n : Nat), K.lookup a = some o ∧ o.cls = .type "list" ∧ o.dict = none ∧ o.data = .seq its n ∧ its.size ≤ sizeLine ∧ Vals xs its.toList
theorem FzL.sq {K : PySem.W.Frag} {H : Hp} {a : Addr} {xs : List V} (h : FzL K H a xs) : SqL K H a xs := by
  rcases h with ⟨o, h⟩ | h
  · exact .inl (.inr ⟨o, h⟩)
  · exact .inr h

mutual
inductive Rep (K : PySem.W.Frag) (H : Hp) : T → V → Prop
  | non : Rep K H .non .non
  | bl (b : Bool) : Rep K H (.bl b) (.bl b)
  | int (i : Int) : Rep K H (.int i) (.int i)
  | str (x : Str) : Rep K H (.str x) (.str x)
  | ref (a : Addr) : Rep K H (.ref a) (.ref a)
  | tup {a : Addr} {xs : List V} {ts : List T} : H a = some (.tup xs) → Reps K H ts xs → Rep K H (.tup ts) (.ref a)
  | fl {a : Addr} {xs : List V} {ts : List T} : FzL K H a xs → Reps K H ts xs → Rep K H (.fl ts) (.ref a)
  | pt {a : Addr} {o : Obj} {xs : List V} {ts : List T} : o.dict = none → H a = some (.frz o (.tup xs)) → Reps K H ts xs → Rep K H (.pt ts) (.ref a)
inductive Reps (K : PySem.W.Frag) (H : Hp) : List T → List V → Prop
  | nil : Reps K H [] []
  | cons {t : T} {ts : List T} {v : V} {vs : List V} : Rep K H t v → Reps K H ts vs → Reps K H (t :: ts) (v :: vs)
end

/-- what stays -/
structure Ext (H H' : Hp) : Prop where
  tups : ∀ b xs, H b = some (.tup xs) → H' b = some (.tup xs)
  frzs : ∀ b o u, H b = some (.frz o u) → H' b = some (.frz o u)
  tabs : ∀ b, GxR.TabG H b → GxR.TabG H' b
theorem Ext.refl (H : Hp) : Ext H H := ⟨fun _ _ h => h, fun _ _ _ h => h, fun _ h => h⟩
theorem Ext.trans {H H1 H2 : Hp} (a : Ext H H1) (b : Ext H1 H2) : Ext H H2 := ⟨fun x xs h => b.tups x xs (a.tups x xs h), fun x o u h => b.frzs x o u (a.frzs x o u h), fun x h => b.tabs x (a.tabs x h)⟩
theorem Ext.new {H : Hp} {p : Addr} {o : HO} (h : H p = none) : Ext H (upd H p o) :=
  ⟨fun b xs e => by rw [upd_ne (ne_of_none e h)]; exact e, fun b o u e => by rw [upd_ne (ne_of_none e h)]; exact e, fun b ⟨ps, e, t⟩ => ⟨ps, by rw [upd_ne (ne_of_none e h)]; exact e, t⟩⟩
/-- what may be written over -/
def Soft : HO → Prop
  | .tup _ => False
  | .frz _ _ => False
  | .tbl _ => False
  | _ => True
theorem Ext.put {H : Hp} {p : Addr} {o u : HO} (h : H p = some u) (hs : Soft u) : Ext H (upd H p o) :=
  ⟨fun b xs e => by
    rw [upd_ne]
    · exact e
    · intro z; subst z; rw [h] at e; cases e; exact hs,
   fun b o u e => by
    rw [upd_ne]
    · exact e
    · intro z; subst z; rw [h] at e; cases e; exact hs,
   fun b ⟨ps, e, t⟩ => ⟨ps, by
    rw [upd_ne]
    · exact e
    · intro z; subst z; rw [h] at e; cases e; exact hs, t⟩⟩
theorem sqT_of {K : PySem.W.Frag} {H : Hp} {a : Addr} {xs : List V} (h : H a = some (.tup xs)) : SqT K H a xs := .inl (.inl h)
theorem Ext.sqT {K : PySem.W.Frag} {H H' : Hp} {a : Addr} {xs : List V} (e : Ext H H') (h : SqT K H a xs) : SqT K H' a xs := by
  rcases h with (h | ⟨o, h⟩) | h
  · exact .inl (.inl (e.tups _ _ h))
  · exact .inl (.inr ⟨o, e.frzs _ _ _ h⟩)
  · exact .inr h
theorem Ext.fzL {K : PySem.W.Frag} {H H' : Hp} {a : Addr} {xs : List V} (e : Ext H H') (h : FzL K H a xs) : FzL K H' a xs := by
  rcases h with ⟨o, h⟩ | h
  · exact .inl ⟨o, e.frzs _ _ _ h⟩
  · exact .inr h
mutual
theorem Rep.mono {K : PySem.W.Frag} {H H' : Hp} (e : Ext H H') : ∀ (t : T) (v : V), Rep K H t v → Rep K H' t v
  | .non, _, h => by cases h; exact .non
  | .bl b, _, h => by cases h; exact .bl b
  | .int i, _, h => by cases h; exact .int i
  | .str x, _, h => by cases h; exact .str x
  | .ref a, _, h => by cases h; exact .ref a
  | .tup ts, _, h => by
    cases h with
    | tup h1 h2 => exact .tup (e.tups _ _ h1) (Reps.mono e ts _ h2)
  | .fl ts, _, h => by
    cases h with
    | fl h1 h2 => exact .fl (e.fzL h1) (Reps.mono e ts _ h2)
  | .pt ts, _, r => by
    cases r with
    | pt h0 h1 h2 => exact .pt h0 (e.frzs _ _ _ h1) (Reps.mono e ts _ h2)
theorem Reps.mono {K : PySem.W.Frag} {H H' : Hp} (e : Ext H H') : ∀ (ts : List T) (vs : List V), Reps K H ts vs → Reps K H' ts vs
  | [], _, h => by cases h; exact .nil
  | t :: ts, _, h => by
    cases h with
    | cons h1 h2 => exact .cons (Rep.mono e t _ h1) (Reps.mono e ts _ h2)
end
section
variable {K : PySem.W.Frag} {H : Hp}
theorem Reps.length : ∀ {ts : List T} {vs : List V}, Reps K H ts vs → ts.length = vs.length
  | [], _, h => by cases h; rfl
  | t :: ts, _, h => by
    cases h with
    | cons h1 h2 => rw [List.length_cons, List.length_cons, Reps.length h2]
theorem Reps.get : ∀ {ts : List T} {vs : List V} {i : Nat} {t : T}, Reps K H ts vs → ts[i]? = some t → ∃ v, vs[i]? = some v ∧ Rep K H t v
  | [], _, _, _, _, e => by simp at e
  | t :: ts, _, 0, x, h, e => by
    cases h with
    | cons h1 h2 =>
      simp at e
      subst e
      exact ⟨_, rfl, h1⟩
  | t :: ts, _, i + 1, x, h, e => by
    cases h with
    | cons h1 h2 =>
      obtain ⟨v, e1, e2⟩ := Reps.get (i := i) h2 (by simpa using e)
      exact ⟨v, by simpa using e1, e2⟩
theorem Reps.getV : ∀ {ts : List T} {vs : List V} {i : Nat} {v : V}, Reps K H ts vs → vs[i]? = some v → ∃ t, ts[i]? = some t ∧ Rep K H t v
  | [], _, _, _, h, e => by cases h; simp at e
  | t :: ts, _, 0, x, h, e => by
    cases h with
    | cons h1 h2 =>
      simp at e
      subst e
      exact ⟨_, rfl, h1⟩
  | t :: ts, _, i + 1, x, h, e => by
    cases h with
    | cons h1 h2 =>
      obtain ⟨v, e1, e2⟩ := Reps.getV (i := i) h2 (by simpa using e)
      exact ⟨v, by simpa using e1, e2⟩
theorem Reps.append : ∀ {ts us : List T} {vs ws : List V}, Reps K H ts vs → Reps K H us ws → Reps K H (ts ++ us) (vs ++ ws)
  | [], _, _, _, h, g => by cases h; exact g
  | t :: ts, _, _, _, h, g => by
    cases h with
    | cons h1 h2 => exact .cons h1 (Reps.append h2 g)
theorem Reps.take : ∀ {ts : List T} {vs : List V} (n : Nat), Reps K H ts vs → Reps K H (ts.take n) (vs.take n)
  | _, _, 0, _ => .nil
  | [], _, n + 1, h => by cases h; exact .nil
  | t :: ts, _, n + 1, h => by
    cases h with
    | cons h1 h2 => exact .cons h1 (Reps.take n h2)
theorem Reps.drop : ∀ {ts : List T} {vs : List V} (n : Nat), Reps K H ts vs → Reps K H (ts.drop n) (vs.drop n)
  | _, _, 0, h => h
  | [], _, n + 1, h => by cases h; exact .nil
  | t :: ts, _, n + 1, h => by
    cases h with
    | cons h1 h2 => exact Reps.drop n h2
theorem Reps.set {t : T} {v : V} (r : Rep K H t v) : ∀ {ts : List T} {vs : List V} (i : Nat), Reps K H ts vs → Reps K H (ts.set i t) (vs.set i v)
  | [], _, _, h => by cases h; exact .nil
  | t :: ts, _, 0, h => by
    cases h with
    | cons h1 h2 => exact .cons r h2
  | t :: ts, _, i + 1, h => by
    cases h with
    | cons h1 h2 => exact .cons h1 (Reps.set r i h2)
theorem Reps.reverse : ∀ {ts : List T} {vs : List V}, Reps K H ts vs → Reps K H ts.reverse vs.reverse
  | [], _, h => by cases h; exact .nil
  | t :: ts, _, h => by
    cases h with
    | cons h1 h2 =>
      rw [List.reverse_cons, List.reverse_cons]
      exact Reps.append (Reps.reverse h2) (.cons h1 .nil)
theorem Reps.ints : ∀ (ns : List Int), Reps K H (ns.map T.int) (ns.map V.int)
  | [] => .nil
  | n :: ns => .cons (.int n) (Reps.ints ns)
theorem Reps.intsV : ∀ {ns : List Int} {vs : List V}, Reps K H (ns.map T.int) vs → vs = ns.map V.int
  | [], _, h => by cases h; rfl
  | n :: ns, _, h => by
    cases h with
    | cons h1 h2 =>
      cases h1
      rw [Reps.intsV h2]
      rfl
theorem Reps.blsV : ∀ {ns : List Bool} {vs : List V}, Reps K H (ns.map T.bl) vs → vs = ns.map V.bl
  | [], _, h => by cases h; rfl
  | n :: ns, _, h => by
    cases h with
    | cons h1 h2 =>
      cases h1
      rw [Reps.blsV h2]
      rfl
theorem Reps.strsV : ∀ {ns : List Str} {vs : List V}, Reps K H (ns.map T.str) vs → vs = ns.map V.str
  | [], _, h => by cases h; rfl
  | n :: ns, _, h => by
    cases h with
    | cons h1 h2 =>
      cases h1
      rw [Reps.strsV h2]
      rfl
end

/-! ### the state: what may change -/
inductive O where
  | lst (ts : List T)
  | ins (C : Addr) (fs : List (Str × T))
  | dct (kvs : List (Key × T))
  | dtt (kvs : List (List Key × T))
abbrev Sta := Addr → Option O
def upS (S : Sta) (a : Addr) (o : O) : Sta := fun b => if b = a then some o else S b
theorem upS_same {S : Sta} {a : Addr} {o : O} : upS S a o a = some o := by unfold upS; rw [if_pos rfl]
theorem upS_ne {S : Sta} {a b : Addr} {o : O} (h : b ≠ a) : upS S a o b = S b := by unfold upS; rw [if_neg h]
theorem upS_upS {S : Sta} {a : Addr} {o u : O} : upS (upS S a o) a u = upS S a u := by
  funext b; unfold upS; split <;> rfl
theorem upS_self {S : Sta} {a : Addr} {o : O} (h : S a = some o) : upS S a o = S := by
  funext b; unfold upS; split
  · rename_i e; subst e; exact h.symm
  · rfl
/-- pairs of a name or a key and a value -/
inductive KRep {κ : Type} (K : PySem.W.Frag) (H : Hp) : List (κ × T) → List (κ × V) → Prop
  | nil : KRep K H [] []
  | cons {f : κ} {t : T} {v : V} {fs : List (κ × T)} {gs : List (κ × V)} : Rep K H t v → KRep K H fs gs → KRep K H ((f, t) :: fs) ((f, v) :: gs)
abbrev FRep (K : PySem.W.Frag) (H : Hp) : List (Str × T) → List (Str × V) → Prop := KRep K H
theorem KRep.mono {κ : Type} {K : PySem.W.Frag} {H H' : Hp} (e : Ext H H') : ∀ {fs : List (κ × T)} {gs : List (κ × V)}, KRep K H fs gs → KRep K H' fs gs
  | _, _, .nil => .nil
  | _, _, .cons h1 h2 => .cons (Rep.mono e _ _ h1) (KRep.mono e h2)
theorem KRep.length {κ : Type} {K : PySem.W.Frag} {H : Hp} : ∀ {fs : List (κ × T)} {gs : List (κ × V)}, KRep K H fs gs → fs.length = gs.length
  | _, _, .nil => rfl
  | _, _, .cons h1 h2 => by rw [List.length_cons, List.length_cons, KRep.length h2]
def ORep (K : PySem.W.Frag) (H : Hp) (a : Addr) : O → Prop
  | .lst ts => ∃ xs, H a = some (.lst xs) ∧ Reps K H ts xs
  | .ins C fs => ∃ dx gs, H a = some (.ins C dx gs) ∧ FRep K H fs gs
  | .dct kvs => ∃ xs, H a = some (.dK xs) ∧ KRep K H kvs xs
  | .dtt kvs => ∃ xs, H a = some (.dT xs) ∧ KRep K H kvs xs
theorem ORep.keep {K : PySem.W.Frag} {H H' : Hp} {a : Addr} {o : O} (e : Ext H H') (z : H' a = H a) (r : ORep K H a o) : ORep K H' a o := by
  cases o with
  | lst ts => obtain ⟨xs, e1, e2⟩ := r; exact ⟨xs, z.trans e1, Reps.mono e _ _ e2⟩
  | ins C fs => obtain ⟨dx, gs, e1, e2⟩ := r; exact ⟨dx, gs, z.trans e1, KRep.mono e e2⟩
  | dct kvs => obtain ⟨xs, e1, e2⟩ := r; exact ⟨xs, z.trans e1, KRep.mono e e2⟩
  | dtt kvs => obtain ⟨xs, e1, e2⟩ := r; exact ⟨xs, z.trans e1, KRep.mono e e2⟩
def St (K : PySem.W.Frag) (S : Sta) (H : Hp) : Prop := ∀ a o, S a = some o → ORep K H a o
section
variable {K : PySem.W.Frag} {S : Sta} {H H' : Hp} {a p : Addr}
theorem St.has (h : St K S H) {o : O} (e : S a = some o) : ∃ u, H a = some u ∧ Soft u := by
  have q := h a o e
  cases o with
  | lst ts => obtain ⟨xs, e, _⟩ := q; exact ⟨_, e, trivial⟩
  | ins C fs => obtain ⟨dx, gs, e, _⟩ := q; exact ⟨_, e, trivial⟩
  | dct kvs => obtain ⟨xs, e, _⟩ := q; exact ⟨_, e, trivial⟩
  | dtt kvs => obtain ⟨xs, e, _⟩ := q; exact ⟨_, e, trivial⟩
theorem St.free (h : St K S H) (e : H p = none) : S p = none := by
  cases q : S p with
  | none => rfl
  | some o =>
    obtain ⟨u, hu, _⟩ := h.has q
    rw [e] at hu
    cases hu
/-- all that S speaks of stays as it is -/
theorem St.keep (h : St K S H) (e : Ext H H') (k : ∀ a o, S a = some o → H' a = H a) : St K S H' := fun a o q => (h a o q).keep e (k a o q)
theorem St.new (h : St K S H) (e : H p = none) (u : HO) : St K S (upd H p u) :=
  h.keep (Ext.new e) fun a o q => by
    obtain ⟨u', hu, _⟩ := h.has q
    exact upd_ne (ne_of_none hu e)
theorem St.put (h : St K S H') {o : O} (g : ORep K H' a o) : St K (upS S a o) H' := fun b u q => by
  by_cases hb : b = a
  · subst hb
    rw [upS_same] at q
    cases q
    exact g
  · rw [upS_ne hb] at q
    exact h b u q
/-- a thing is written anew -/
theorem St.setO (h : St K S H) {u u' : HO} {o' : O} (e : H a = Option.some u) (hs : Soft u) (r : Ext H (upd H a u') → ORep K (upd H a u') a o') : Ext H (upd H a u') ∧ St K (upS S a o') (upd H a u') := by
  have ex : Ext H (upd H a u') := Ext.put e hs
  refine ⟨ex, fun b u q => ?_⟩
  by_cases hb : b = a
  · subst hb
    rw [upS_same] at q
    cases q
    exact r ex
  · rw [upS_ne hb] at q
    exact (h b u q).keep ex (upd_ne hb)
/-- a list is written anew -/
theorem St.setL (h : St K S H) {xs : List V} {ts' : List T} {xs' : List V} (e : H a = Option.some (.lst xs)) (r : Reps K H ts' xs') : Ext H (upd H a (.lst xs')) ∧ St K (upS S a (.lst ts')) (upd H a (.lst xs')) :=
  h.setO e trivial fun ex => ⟨xs', upd_same, Reps.mono ex _ _ r⟩
/-- a new thing -/
theorem St.newO (h : St K S H) {u' : HO} {o' : O} (e : H p = Option.none) (r : Ext H (upd H p u') → ORep K (upd H p u') p o') : Ext H (upd H p u') ∧ St K (upS S p o') (upd H p u') := by
  have ex : Ext H (upd H p u') := Ext.new e
  exact ⟨ex, (h.new e _).put (r ex)⟩
/-- a new list -/
theorem St.newL (h : St K S H) {ts : List T} {xs : List V} (e : H p = Option.none) (r : Reps K H ts xs) : Ext H (upd H p (.lst xs)) ∧ St K (upS S p (.lst ts)) (upd H p (.lst xs)) := by
  have ex : Ext H (upd H p (.lst xs)) := Ext.new e
  exact ⟨ex, (h.new e _).put ⟨xs, upd_same, Reps.mono ex _ _ r⟩⟩
/-- less is known -/
theorem St.less {S' : Sta} (h : St K S H) (k : ∀ a o, S' a = Option.some o → S a = Option.some o) : St K S' H := fun a o q => h a o (k a o q)
end

/-! ### readings over trees -/
abbrev Sl := List (Option T)
abbrev WE := Sl → Sta → (T → Sta → Prop) → Prop
abbrev WT := Sl → Sta → (Bool → Sta → Prop) → Prop
abbrev WA := Sl → Sta → (List T → Sta → Prop) → Prop
structure WEnds where
  nx : Sl → Sta → Prop
  rt : T → Sta → Prop
  bk : Sl → Sta → Prop := fun _ _ => False
  ct : Sl → Sta → Prop := fun _ _ => False
abbrev WS := WEnds → Sl → Sta → Prop
def SlR (K : PySem.W.Frag) (H : Hp) (st : Sl) (σ : L2.St) : Prop := st.length = σ.length ∧ ∀ (i : Nat) (t : T), st[i]? = some (some t) → ∃ v, σ[i]? = some (some v) ∧ Rep K H t v
theorem SlR.mono {K : PySem.W.Frag} {H H' : Hp} {st : Sl} {σ : L2.St} (e : Ext H H') (h : SlR K H st σ) : SlR K H' st σ := ⟨h.1, fun i t q => by
  obtain ⟨v, e1, e2⟩ := h.2 i t q
  exact ⟨v, e1, Rep.mono e _ _ e2⟩⟩
theorem SlR.set {K : PySem.W.Frag} {H : Hp} {st : Sl} {σ : L2.St} {t : T} {v : V} (h : SlR K H st σ) (r : Rep K H t v) (i : Nat) : SlR K H (st.set i (some t)) (σ.set i (some v)) := by
  refine ⟨by rw [List.length_set, List.length_set]; exact h.1, fun j u q => ?_⟩
  by_cases hj : i = j
  · subst hj
    by_cases hl : i < st.length
    · rw [List.getElem?_set_self hl] at q
      cases q
      exact ⟨v, by rw [List.getElem?_set_self (h.1 ▸ hl)], r⟩
    · rw [List.getElem?_eq_none (by rw [List.length_set]; omega)] at q
      cases q
  · rw [List.getElem?_set_ne hj] at q
    obtain ⟨w, e1, e2⟩ := h.2 j u q
    exact ⟨w, by rw [List.getElem?_set_ne hj]; exact e1, e2⟩

def fin (K : PySem.W.Frag) (H : Hp) (Q : VK) : T → Sta → Prop := fun t S => ∀ H' v, Ext H H' → St K S H' → Rep K H' t v → Q v H'
def finB (K : PySem.W.Frag) (H : Hp) (Q : Bool → Hp → Prop) : Bool → Sta → Prop := fun b S => ∀ H', Ext H H' → St K S H' → Q b H'
def finA (K : PySem.W.Frag) (H : Hp) (Q : List V → Hp → Prop) : List T → Sta → Prop := fun ts S => ∀ H' vs, Ext H H' → St K S H' → Reps K H' ts vs → Q vs H'
def finS (K : PySem.W.Frag) (H : Hp) (Q : L2.St → Hp → Prop) : Sl → Sta → Prop := fun st S => ∀ H' σ, Ext H H' → St K S H' → SlR K H' st σ → Q σ H'
def finD (K : PySem.W.Frag) (H : Hp) (D : Ends) : WEnds := { nx := finS K H D.nx, rt := fin K H D.rt, bk := finS K H D.bk, ct := finS K H D.ct }
/-- on to what follows -/
def goS (f : Sl → Sta → Prop) (σ : Sl) (S : Sta) : Prop := f σ S
/-- either way of a test -/
@[irreducible] def wif (b : Bool) (A C : Prop) : Prop := match b with
  | true => A
  | false => C
theorem wif_true {A C : Prop} : wif true A C = A := by unfold wif; rfl
theorem wif_false {A C : Prop} : wif false A C = C := by unfold wif; rfl
theorem wt {A C : Prop} (h : wif true A C) : A := by rw [wif_true] at h; exact h
theorem wff {A C : Prop} (h : wif false A C) : C := by rw [wif_false] at h; exact h
theorem wif_t {A C : Prop} (h : A) : wif true A C := by rw [wif_true]; exact h
theorem wif_f {A C : Prop} (h : C) : wif false A C := by rw [wif_false]; exact h
theorem if_dec {p : Prop} [Decidable p] {A C : Prop} (h1 : p → A) (h2 : ¬ p → C) : wif (decide p) A C := by
  by_cases h : p
  · rw [decide_eq_true h, wif_true]; exact h1 h
  · rw [decide_eq_false h, wif_false]; exact h2 h
theorem if_bool {p : Bool} {A C : Prop} (h1 : p = true → A) (h2 : p = false → C) : wif p A C := by
  cases p
  · rw [wif_false]; exact h2 rfl
  · rw [wif_true]; exact h1 rfl
abbrev Im2 {α : Type} (P Q : α → Sta → Prop) : Prop := ∀ v S, P v S → Q v S
structure ImD (D0 D : WEnds) : Prop where
  nx : Im2 D0.nx D.nx
  rt : Im2 D0.rt D.rt
  bk : Im2 D0.bk D.bk
  ct : Im2 D0.ct D.ct
def LE (B : Hp) (X : Cx) (t : WE) : TE := fun σ H Q => ∃ st S Q0, Ext B H ∧ SlR X.K H st σ ∧ St X.K S H ∧ t st S Q0 ∧ Im2 Q0 (fin X.K H Q)
def LT (B : Hp) (X : Cx) (t : WT) : TT := fun σ H Q => ∃ st S Q0, Ext B H ∧ SlR X.K H st σ ∧ St X.K S H ∧ t st S Q0 ∧ Im2 Q0 (finB X.K H Q)
def LA (B : Hp) (X : Cx) (t : WA) : TA := fun σ H Q => ∃ st S Q0, Ext B H ∧ SlR X.K H st σ ∧ St X.K S H ∧ t st S Q0 ∧ Im2 Q0 (finA X.K H Q)
def LS (B : Hp) (X : Cx) (t : WS) : TS := fun D σ H => ∃ st S D0, Ext B H ∧ SlR X.K H st σ ∧ St X.K S H ∧ t D0 st S ∧ ImD D0 (finD X.K H D)
def JE (B : Hp) (X : Cx) (e : Expr) (t : WE) : Prop := PE X e (LE B X t)
def JT (B : Hp) (X : Cx) (e : Expr) (t : WT) : Prop := PT X e (LT B X t)
def JW (B : Hp) (X : Cx) (e : Expr) (t : WT) : Prop := PW X e (LT B X t)
def JA (B : Hp) (X : Cx) (es : List Expr) (t : WA) : Prop := PA X es (LA B X t)
def JS (B : Hp) (X : Cx) (s : Stmt) (t : WS) : Prop := PS X s (LS B X t)
def JSs (B : Hp) (X : Cx) (ss : List Stmt) (t : WS) : Prop := PSs X ss (LS B X t)
theorem JW.jt {B : Hp} {X : Cx} {e : Expr} {t : WT} (h : JW B X e t) : JT B X e t := PW.pt h

theorem pe_imp {X : Cx} {e : Expr} {t t' : TE} (h : PE X e t) (k : ∀ σ H Q, t' σ H Q → t σ H Q) : PE X e t' := ⟨fun pins s σ H Q I q => h.run pins s σ H Q I (k σ H Q q)⟩
theorem pt_imp {X : Cx} {e : Expr} {t t' : TT} (h : PT X e t) (k : ∀ σ H Q, t' σ H Q → t σ H Q) : PT X e t' := ⟨fun pins s σ H Q I q => h.run pins s σ H Q I (k σ H Q q)⟩
theorem pw_imp {X : Cx} {e : Expr} {t t' : TT} (h : PW X e t) (k : ∀ σ H Q, t' σ H Q → t σ H Q) : PW X e t' := ⟨fun wh pins s σ H Q I q => h.run wh pins s σ H Q I (k σ H Q q)⟩
theorem pa_imp {X : Cx} {e : List Expr} {t t' : TA} (h : PA X e t) (k : ∀ σ H Q, t' σ H Q → t σ H Q) : PA X e t' := ⟨fun pos pins s σ H Q I q => h.run pos pins s σ H Q I (k σ H Q q)⟩
theorem ps_imp {X : Cx} {s : Stmt} {t t' : TS} (h : PS X s t) (k : ∀ D σ H, t' D σ H → t D σ H) : PS X s t' := ⟨fun pins s σ H D I q => h.run pins s σ H D I (k D σ H q)⟩
theorem pss_imp {X : Cx} {s : List Stmt} {t t' : TS} (h : PSs X s t) (k : ∀ D σ H, t' D σ H → t D σ H) : PSs X s t' := ⟨fun pins s σ H D I q => h.run pins s σ H D I (k D σ H q)⟩
theorem fin_ext {K : PySem.W.Frag} {H H1 : Hp} {Q : VK} {t : T} {S : Sta} (e : Ext H H1) (h : fin K H Q t S) : fin K H1 Q t S := fun H' v e' s r => h H' v (e.trans e') s r
theorem finB_ext {K : PySem.W.Frag} {H H1 : Hp} {Q : Bool → Hp → Prop} {t : Bool} {S : Sta} (e : Ext H H1) (h : finB K H Q t S) : finB K H1 Q t S := fun H' e' s => h H' (e.trans e') s
theorem finA_ext {K : PySem.W.Frag} {H H1 : Hp} {Q : List V → Hp → Prop} {t : List T} {S : Sta} (e : Ext H H1) (h : finA K H Q t S) : finA K H1 Q t S := fun H' v e' s r => h H' v (e.trans e') s r
end Wp

set_option Elab.async false
set_option linter.all false
set_option maxRecDepth 100000
/-! expressions -/
namespace Wp
open PySem PySem.Spec PyProof.Rows L2
section
variable {B : Hp} {X : Cx} {a b c : Expr} {ta tb tc : WE} {pos : Pos}
/-! ### names, constants -/
def wVar (i : Nat) (σ : Sl) (S : Sta) (Q : T → Sta → Prop) : Prop := ∃ v, σ[i]? = some (some v) ∧ Q v S
def wC (t : T) (u0 : Sl) (S : Sta) (Q : T → Sta → Prop) : Prop := Q t S
theorem j_var (i : Nat) {x : Str} (hN : X.N[i]? = some x := by rfl) (hv : Vis X.env.scope x := by first | exact Or.inl rfl | exact Or.inr (Or.inl rfl) | exact Or.inr (Or.inr rfl)) (hd : (x == ("__debug__" : Str)) = false := by decide)
    (hcd : (x == ("__classdict__" : Str)) = false := by decide) : JE B X (.Name x pos) (wVar i) :=
  pe_imp (pe_var hN hv hd hcd) fun σ H Q ⟨st, S, Q0, _, r, s, ⟨v, e, q⟩, im⟩ => by
    obtain ⟨u, e1, e2⟩ := r.2 i v e
    exact ⟨u, e1, im v S q H u (Ext.refl H) s e2⟩
theorem j_const {e : Expr} {t : T} {v : V} (h : PE X e (tC v)) (r : ∀ H, Rep X.K H t v) : JE B X e (wC t) :=
  pe_imp h fun σ H Q ⟨st, S, Q0, _, _, s, q, im⟩ => im t S q H v (Ext.refl H) s (r H)
theorem j_int {i j} : JE B X (.Constant (.int i) j pos) (wC (.int i)) := j_const pe_int fun _ => .int i
theorem j_bl {i j} : JE B X (.Constant (.bool i) j pos) (wC (.bl i)) := j_const pe_bl fun _ => .bl i
theorem j_non {j} : JE B X (.Constant .none j pos) (wC .non) := j_const pe_non fun _ => .non
theorem j_str {i j} : JE B X (.Constant (.str i) j pos) (wC (.str i)) := j_const pe_str fun _ => .str i
theorem j_globI {x : Str} {i : Int} {t : Tok} (hg : Gl X x) (hm : X.mg x = some (.int i t)) (hd : (x == ("__debug__" : Str)) = false := by decide) : JE B X (.Name x pos) (wC (.int i)) :=
  j_const (pe_glob (v := V.int i) hg hm (show ∃ t', Value.int i t = Value.int i t' from ⟨t, rfl⟩) hd) fun _ => .int i
theorem j_globS {x : Str} {i : Str} {t : Tok} (hg : Gl X x) (hm : X.mg x = some (.str i t)) (hd : (x == ("__debug__" : Str)) = false := by decide) : JE B X (.Name x pos) (wC (.str i)) :=
  j_const (pe_glob (v := V.str i) hg hm (show ∃ t', Value.str i t = Value.str i t' from ⟨t, rfl⟩) hd) fun _ => .str i

/-! ### operations -/
abbrev R3 := T → T → Sta → (T → Sta → Prop) → Prop
def L3 (K : PySem.W.Frag) (r : R3) : R2 := fun x y H Q => ∃ a b S Q0, Rep K H a x ∧ Rep K H b y ∧ St K S H ∧ r a b S Q0 ∧ Im2 Q0 (fin K H Q)
def OpT (X : Cx) (f : Value → Value → Sem Value) (r : R3) : Prop := OpR X f (L3 X.K r)
def wOp (r : R3) (ta tb : WE) (σ : Sl) (S : Sta) (Q : T → Sta → Prop) : Prop := ta σ S fun x S1 => tb σ S1 fun y S2 => r x y S2 Q
theorem le_op {r : R3} {σ : L2.St} {H : Hp} {Q : VK} (h : LE B X (wOp r ta tb) σ H Q) : tOp (L3 X.K r) (LE B X ta) (LE B X tb) σ H Q := by
  obtain ⟨st, S, Q0, he, hr, hs, h, im⟩ := h
  refine ⟨st, S, _, he, hr, hs, h, fun x S1 h1 H1 v e1 s1 r1 => ?_⟩
  refine ⟨st, S1, _, he.trans e1, hr.mono e1, s1, h1, fun y S2 h2 H2 u e2 s2 r2 => ?_⟩
  exact ⟨x, y, S2, Q0, Rep.mono e2 _ _ r1, r2, s2, h2, fun z S3 q => fin_ext (e1.trans e2) (im z S3 q)⟩
theorem j_op {op : Operator} {r : R3} (ho : OpT X (binaryOp op) r) (ha : JE B X a ta) (hb : JE B X b tb) : JE B X (.BinOp a op b pos) (wOp r ta tb) := pe_imp (pe_op ho ha hb) fun _ _ _ h => le_op h
theorem j_cmp {op : CmpOp} {r : R3} (ho : OpT X (compareOp op) r) (ha : JE B X a ta) (hb : JE B X b tb) (hm : behindInMarks op b = false) : JE B X (.Compare a [op] [b] pos) (wOp r ta tb) := pe_imp (pe_cmpR ho ha hb hm) fun _ _ _ h => le_op h
/-- a value that is a bool, as a test -/
def wTest (t : WE) (σ : Sl) (S : Sta) (Q : Bool → Sta → Prop) : Prop := t σ S fun x S1 => match x with
  | .bl c => Q c S1
  | _ => False
theorem le_test {t : WE} {σ : L2.St} {H : Hp} {Q : Bool → Hp → Prop} (h : LT B X (wTest t) σ H Q) : LE B X t σ H fun x H' => ∃ k, x = V.bl k ∧ Q k H' := by
  obtain ⟨st, S, Q0, he, hr, hs, h, im⟩ := h
  refine ⟨st, S, _, he, hr, hs, h, fun x S1 h1 H1 v e1 s1 r1 => ?_⟩
  cases x with
  | bl c =>
    cases r1
    exact ⟨c, rfl, im c S1 h1 H1 e1 s1⟩
  | _ => exact h1.elim
theorem jt_val {e : Expr} {t : WE} (h : JE B X e t) (he : ∀ whole, isTrue e X.env whole = (do let v ← whole; standAt e.pos; holding [v] (truthy v)) := by intro _; rfl) : JT B X e (wTest t) :=
  pt_imp (pt_val h he) fun _ _ _ h => le_test h
theorem jt_cmp {op : CmpOp} {r : R3} (ho : OpT X (compareOp op) r) (ha : JE B X a ta) (hb : JE B X b tb) (hm : behindInMarks op b = false) : JT B X (.Compare a [op] [b] pos) (wTest (wOp r ta tb)) :=
  pt_imp (pt_cmpR ho ha hb hm) fun σ H Q h => le_op (le_test h)
/-! ### chains a < b < c -/
def wChain (r r' : R3) (ta tb tc : WE) (σ : Sl) (S : Sta) (Q : T → Sta → Prop) : Prop := ta σ S fun x S1 => tb σ S1 fun y S2 => r x y S2 fun z S3 => match z with
  | .bl k => wif k (tc σ S3 fun u S4 => r' y u S4 Q) (Q (.bl false) S3)
  | _ => False
theorem le_chain {r r' : R3} {σ : L2.St} {H : Hp} {Q : VK} (h : LE B X (wChain r r' ta tb tc) σ H Q) : tChain (L3 X.K r) (L3 X.K r') (LE B X ta) (LE B X tb) (LE B X tc) σ H Q := by
  obtain ⟨st, S, Q0, he, hr, hs, h, im⟩ := h
  refine ⟨st, S, _, he, hr, hs, h, fun x S1 h1 H1 v e1 s1 r1 => ?_⟩
  refine ⟨st, S1, _, he.trans e1, hr.mono e1, s1, h1, fun y S2 h2 H2 u e2 s2 r2 => ?_⟩
  refine ⟨x, y, S2, _, Rep.mono e2 _ _ r1, r2, s2, h2, fun z S3 q H3 w e3 s3 r3 => ?_⟩
  cases z with
  | bl k =>
    cases r3
    refine ⟨k, rfl, ?_⟩
    cases k with
    | true =>
      rw [if_pos rfl]
      have q : tc st S3 fun u S4 => r' y u S4 Q0 := (wt q)
      refine ⟨st, S3, _, (he.trans e1).trans (e2.trans e3), hr.mono (e1.trans (e2.trans e3)), s3, q, fun u' S4 h4 H4 v4 e4 s4 r4 => ?_⟩
      exact ⟨y, u', S4, Q0, Rep.mono (e3.trans e4) _ _ r2, r4, s4, h4, fun z S5 q5 => fin_ext (e1.trans (e2.trans (e3.trans e4))) (im z S5 q5)⟩
    | false =>
      rw [if_neg Bool.false_ne_true]
      have q : Q0 (.bl false) S3 := (wff q)
      exact im _ _ q H3 _ (e1.trans (e2.trans e3)) s3 (.bl false)
  | _ => exact q.elim
theorem j_chain {op op' : CmpOp} {r r' : R3} (ho : OpT X (compareOp op) r) (ho' : OpT X (compareOp op') r') (ha : JE B X a ta) (hb : JE B X b tb) (hc : JE B X c tc)
    (hm : lastMarks [op, op'] [b, c] = false := by with_unfolding_all rfl) : JE B X (.Compare a [op, op'] [b, c] pos) (wChain r r' ta tb tc) := pe_imp (pe_chain ho ho' ha hb hc hm) fun _ _ _ h => le_chain h
theorem jt_chain {op op' : CmpOp} {r r' : R3} (ho : OpT X (compareOp op) r) (ho' : OpT X (compareOp op') r') (ha : JE B X a ta) (hb : JE B X b tb) (hc : JE B X c tc)
    (hm : lastMarks [op, op'] [b, c] = false := by with_unfolding_all rfl) : JT B X (.Compare a [op, op'] [b, c] pos) (wTest (wChain r r' ta tb tc)) := pt_imp (pt_chain ho ho' ha hb hc hm) fun _ _ _ h => le_chain (le_test h)

/-! ### and, or, not, if -/
variable {rest : List Expr} {t u : WT}
def wAnd (t u : WT) (σ : Sl) (S : Sta) (Q : Bool → Sta → Prop) : Prop := t σ S fun c S1 => wif c (u σ S1 Q) (Q false S1)
def wOr (t u : WT) (σ : Sl) (S : Sta) (Q : Bool → Sta → Prop) : Prop := t σ S fun c S1 => wif c (Q true S1) (u σ S1 Q)
def wNot (t : WT) (σ : Sl) (S : Sta) (Q : Bool → Sta → Prop) : Prop := t σ S fun c S1 => Q (!c) S1
theorem jw_and1 (ha : JT B X a t) : JW B X (.BoolOp .And [a] pos) t := pw_and1 ha
theorem jw_or1 (ha : JT B X a t) : JW B X (.BoolOp .Or [a] pos) t := pw_or1 ha
theorem jw_and (ha : JT B X a t) (hb : JW B X (.BoolOp .And (b :: rest) pos) u) : JW B X (.BoolOp .And (a :: b :: rest) pos) (wAnd t u) :=
  pw_imp (pw_and ha hb) fun σ H Q ⟨st, S, Q0, he, hr, hs, h, im⟩ => by
    refine ⟨st, S, _, he, hr, hs, h, fun k S1 h1 H1 e1 s1 => ?_⟩
    cases k with
    | true =>
      rw [if_pos rfl]
      exact ⟨st, S1, Q0, he.trans e1, hr.mono e1, s1, (wt h1), fun z S3 q => finB_ext e1 (im z S3 q)⟩
    | false =>
      rw [if_neg Bool.false_ne_true]
      exact im _ _ (wff h1) H1 e1 s1
theorem jw_or (ha : JT B X a t) (hb : JW B X (.BoolOp .Or (b :: rest) pos) u) : JW B X (.BoolOp .Or (a :: b :: rest) pos) (wOr t u) :=
  pw_imp (pw_or ha hb) fun σ H Q ⟨st, S, Q0, he, hr, hs, h, im⟩ => by
    refine ⟨st, S, _, he, hr, hs, h, fun k S1 h1 H1 e1 s1 => ?_⟩
    cases k with
    | true =>
      rw [if_pos rfl]
      exact im _ _ (wt h1) H1 e1 s1
    | false =>
      rw [if_neg Bool.false_ne_true]
      exact ⟨st, S1, Q0, he.trans e1, hr.mono e1, s1, (wff h1), fun z S3 q => finB_ext e1 (im z S3 q)⟩
theorem jt_not (ha : JT B X a t) : JT B X (.UnaryOp .Not a pos) (wNot t) :=
  pt_imp (pt_not ha) fun σ H Q ⟨st, S, Q0, he, hr, hs, h, im⟩ => ⟨st, S, _, he, hr, hs, h, fun k S1 h1 H1 e1 s1 => im _ _ h1 H1 e1 s1⟩
/-- .. as values -/
def wAndV (ta tb : WE) (σ : Sl) (S : Sta) (Q : T → Sta → Prop) : Prop := ta σ S fun x S1 => match x with
  | .bl k => wif k (tb σ S1 Q) (Q (.bl false) S1)
  | _ => False
def wOrV (ta tb : WE) (σ : Sl) (S : Sta) (Q : T → Sta → Prop) : Prop := ta σ S fun x S1 => match x with
  | .bl k => wif k (Q (.bl true) S1) (tb σ S1 Q)
  | _ => False
def wNotV (t : WE) (σ : Sl) (S : Sta) (Q : T → Sta → Prop) : Prop := t σ S fun x S1 => match x with
  | .bl c => Q (.bl (!c)) S1
  | _ => False
theorem j_one {op} {t : WE} (h : JE B X a t) : JE B X (.BoolOp op [a] pos) t := pe_one h
theorem j_and (ha : JE B X a ta) (hb : JE B X (.BoolOp .And (b :: rest) pos) tb) : JE B X (.BoolOp .And (a :: b :: rest) pos) (wAndV ta tb) :=
  pe_imp (pe_and ha hb) fun σ H Q ⟨st, S, Q0, he, hr, hs, h, im⟩ => by
    refine ⟨st, S, _, he, hr, hs, h, fun x S1 h1 H1 v e1 s1 r1 => ?_⟩
    cases x with
    | bl k =>
      cases r1
      refine ⟨k, rfl, ?_⟩
      cases k with
      | true =>
        rw [if_pos rfl]
        exact ⟨st, S1, Q0, he.trans e1, hr.mono e1, s1, (wt h1), fun z S3 q => fin_ext e1 (im z S3 q)⟩
      | false =>
        rw [if_neg Bool.false_ne_true]
        exact im _ _ (wff h1) H1 _ e1 s1 (.bl false)
    | _ => exact h1.elim
theorem j_or (ha : JE B X a ta) (hb : JE B X (.BoolOp .Or (b :: rest) pos) tb) : JE B X (.BoolOp .Or (a :: b :: rest) pos) (wOrV ta tb) :=
  pe_imp (pe_or ha hb) fun σ H Q ⟨st, S, Q0, he, hr, hs, h, im⟩ => by
    refine ⟨st, S, _, he, hr, hs, h, fun x S1 h1 H1 v e1 s1 r1 => ?_⟩
    cases x with
    | bl k =>
      cases r1
      refine ⟨k, rfl, ?_⟩
      cases k with
      | true =>
        rw [if_pos rfl]
        exact im _ _ (wt h1) H1 _ e1 s1 (.bl true)
      | false =>
        rw [if_neg Bool.false_ne_true]
        exact ⟨st, S1, Q0, he.trans e1, hr.mono e1, s1, (wff h1), fun z S3 q => fin_ext e1 (im z S3 q)⟩
    | _ => exact h1.elim
theorem j_not (ha : JE B X a ta) : JE B X (.UnaryOp .Not a pos) (wNotV ta) :=
  pe_imp (pe_not ha) fun σ H Q ⟨st, S, Q0, he, hr, hs, h, im⟩ => by
    refine ⟨st, S, _, he, hr, hs, h, fun x S1 h1 H1 v e1 s1 r1 => ?_⟩
    cases x with
    | bl k =>
      cases r1
      exact ⟨k, rfl, im _ _ h1 H1 _ e1 s1 (.bl _)⟩
    | _ => exact h1.elim
def wIf (t : WT) (ta tb : WE) (σ : Sl) (S : Sta) (Q : T → Sta → Prop) : Prop := t σ S fun c S1 => wif c (ta σ S1 Q) (tb σ S1 Q)
theorem j_ifExp (hc : JT B X c t) (ha : JE B X a ta) (hb : JE B X b tb) : JE B X (.IfExp c a b pos) (wIf t ta tb) :=
  pe_imp (pe_ifExp hc ha hb) fun σ H Q ⟨st, S, Q0, he, hr, hs, h, im⟩ => by
    refine ⟨st, S, _, he, hr, hs, h, fun k S1 h1 H1 e1 s1 => ?_⟩
    cases k with
    | true =>
      rw [if_pos rfl]
      exact ⟨st, S1, Q0, he.trans e1, hr.mono e1, s1, (wt h1), fun z S3 q => fin_ext e1 (im z S3 q)⟩
    | false =>
      rw [if_neg Bool.false_ne_true]
      exact ⟨st, S1, Q0, he.trans e1, hr.mono e1, s1, (wff h1), fun z S3 q => fin_ext e1 (im z S3 q)⟩

/-! ### argument lists, displays -/
def wNil (u0 : Sl) (S : Sta) (Q : List T → Sta → Prop) : Prop := Q [] S
def wCons (ta : WE) (tr : WA) (σ : Sl) (S : Sta) (Q : List T → Sta → Prop) : Prop := ta σ S fun x S1 => tr σ S1 fun xs S2 => Q (x :: xs) S2
variable {es : List Expr} {tr : WA}
theorem ja_nil : JA B X [] wNil := pa_imp pa_nil fun σ H Q ⟨st, S, Q0, he, hr, hs, h, im⟩ => im _ _ h H [] (Ext.refl H) hs .nil
theorem ja_cons (ha : JE B X a ta) (hr : JA B X es tr) (hs : starEach (a :: es) X.env = (false, eval a X.env) :: starEach es X.env := by rfl) : JA B X (a :: es) (wCons ta tr) :=
  pa_imp (pa_cons ha hr hs) fun σ H Q ⟨st, S, Q0, he, hr, hs, h, im⟩ => by
    refine ⟨st, S, _, he, hr, hs, h, fun x S1 h1 H1 v e1 s1 r1 => ?_⟩
    refine ⟨st, S1, _, he.trans e1, hr.mono e1, s1, h1, fun xs S2 h2 H2 vs e2 s2 r2 => ?_⟩
    exact im _ _ h2 H2 _ (e1.trans e2) s2 (.cons (Rep.mono e2 _ _ r1) r2)
def wTup (t : WA) (σ : Sl) (S : Sta) (Q : T → Sta → Prop) : Prop := t σ S fun xs S1 => xs.length ≤ sizeLine ∧ Q (.tup xs) S1
def wLst (t : WA) (σ : Sl) (S : Sta) (Q : T → Sta → Prop) : Prop := t σ S fun xs S1 => xs.length ≤ sizeLine ∧ ∀ p, S1 p = none → Q (.ref p) (upS S1 p (.lst xs))
theorem j_tup {x1} (h : JA B X es tr) : JE B X (.Tuple es x1 pos) (wTup tr) :=
  pe_imp (pe_tup h) fun σ H Q ⟨st, S, Q0, he, hr, hs, h, im⟩ => by
    refine ⟨st, S, _, he, hr, hs, h, fun xs S1 h1 H1 vs e1 s1 r1 => ?_⟩
    refine ⟨by rw [← r1.length]; exact h1.1, fun p hp => ?_⟩
    exact im _ _ h1.2 _ _ (e1.trans (Ext.new hp)) (s1.new hp _) (.tup upd_same (Reps.mono (Ext.new hp) _ _ r1))
theorem j_lst (h : JA B X es tr) : JE B X (.List es pos) (wLst tr) :=
  pe_imp (pe_lst h) fun σ H Q ⟨st, S, Q0, he, hr, hs, h, im⟩ => by
    refine ⟨st, S, _, he, hr, hs, h, fun xs S1 h1 H1 vs e1 s1 r1 => ?_⟩
    refine ⟨by rw [← r1.length]; exact h1.1, fun p hp => ?_⟩
    obtain ⟨e2, s2⟩ := s1.newL hp r1
    exact im _ _ (h1.2 p (s1.free hp)) _ _ (e1.trans e2) s2 (.ref p)
end
end Wp

set_option Elab.async false
set_option linter.all false
set_option maxRecDepth 100000
/-! operations on values -/
namespace Wp
open PySem PySem.Spec PyProof.Rows L2
section
variable {B : Hp} {X : Cx}
/-! ### arithmetic -/
def rInt (C : Int → Int → Prop) (g : Int → Int → T) (x : T) (y : T) (S : Sta) (Q : T → Sta → Prop) : Prop := match x, y with
  | .int i, .int j => C i j ∧ Q (g i j) S
  | _, _ => False
theorem opT_I {f : Value → Value → Sem Value} {C : Int → Int → Prop} {gV : Int → Int → V} {gT : Int → Int → T} (h : OpR X f (rI C gV)) (hr : ∀ H i j, Rep X.K H (gT i j) (gV i j)) : OpT X f (rInt C gT) := by
  intro pins s σ H x y v u Q I rx ry ⟨a, b, S, Q0, ra, rb, hs, q, im⟩
  cases a with
  | int i =>
    cases b with
    | int j =>
      cases ra
      cases rb
      exact h pins s σ H _ _ v u Q I rx ry ⟨i, j, rfl, rfl, q.1, im _ _ q.2 H _ (Ext.refl H) hs (hr H i j)⟩
    | _ => exact q.elim
  | _ => exact q.elim
theorem opT_I0 {f : Value → Value → Sem Value} {gV : Int → Int → V} {gT : Int → Int → T} (h : OpR X f (rI0 gV)) (hr : ∀ H i j, Rep X.K H (gT i j) (gV i j)) : OpT X f (rInt (fun _ _ => True) gT) := by
  intro pins s σ H x y v u Q I rx ry ⟨a, b, S, Q0, ra, rb, hs, q, im⟩
  cases a with
  | int i =>
    cases b with
    | int j =>
      cases ra
      cases rb
      exact h pins s σ H _ _ v u Q I rx ry ⟨i, j, rfl, rfl, im _ _ q.2 H _ (Ext.refl H) hs (hr H i j)⟩
    | _ => exact q.elim
  | _ => exact q.elim
def rSub : R3 := rInt (fun _ _ => True) fun i j => .int (i - j)
def rMul : R3 := rInt CMul fun i j => .int (i * j)
def rMod : R3 := rInt (fun _ j => 0 < j) fun i j => .int (i % j)
def rFdiv : R3 := rInt (fun _ j => 0 < j ∧ j < 2 ^ 62) fun i j => .int (i / j)
def rPow : R3 := rInt CPow fun i j => .int (i ^ j.toNat)
theorem o_sub : OpT X (binaryOp .Sub) rSub := opT_I0 op_sub fun _ _ _ => .int _
theorem o_mul : OpT X (binaryOp .Mult) rMul := opT_I op_mul fun _ _ _ => .int _
theorem o_mod : OpT X (binaryOp .Mod) rMod := opT_I op_mod fun _ _ _ => .int _
theorem o_pow : OpT X (binaryOp .Pow) rPow := opT_I op_pow fun _ _ _ => .int _
theorem o_fdiv : OpT X (binaryOp .FloorDiv) rFdiv := by
  intro pins s σ H x y v u Q I rx ry ⟨a, b, S, Q0, ra, rb, hs, q, im⟩
  refine opT_I (gT := fun i j => .int (i / j)) op_fdivW (fun _ _ _ => .int _) pins s σ H x y v u Q I rx ry ⟨a, b, S, Q0, ra, rb, hs, ?_, im⟩
  cases a with
  | int i =>
    cases b with
    | int j => exact ⟨wide_div (b := 62) q.1.1 (by have h1 := q.1.1; have h2 := q.1.2; omega) (by decide) (by decide), q.2⟩
    | _ => exact q.elim
  | _ => exact q.elim
/-- + : numbers, tuples, texts, lists -/
def rAdd (x : T) (y : T) (S : Sta) (Q : T → Sta → Prop) : Prop := match x, y with
  | .int i, .int j => Q (.int (i + j)) S
  | .tup a, .tup b => a.length + b.length ≤ sizeLine ∧ Q (.tup (a ++ b)) S
  | .str a, .str b => a.length + b.length ≤ sizeLine ∧ Q (.str (a ++ b)) S
  | .ref p, .ref q => ∃ xs, S p = some (.lst xs) ∧ ∃ ys, S q = some (.lst ys) ∧ xs.length + ys.length ≤ sizeLine ∧ ∀ r, S r = none → Q (.ref r) (upS S r (.lst (xs ++ ys)))
  | _, _ => False
theorem o_add : OpT X (binaryOp .Add) rAdd := by
  intro pins s σ H x y v u Q I rx ry ⟨a, b, S, Q0, ra, rb, hs, q, im⟩
  cases a with
  | int i =>
    cases b with
    | int j =>
      cases ra
      cases rb
      exact op_add pins s σ H _ _ v u Q I rx ry ⟨i, j, rfl, rfl, im _ _ q H _ (Ext.refl H) hs (.int _)⟩
    | _ => exact q.elim
  | str i =>
    cases b with
    | str j =>
      cases ra
      cases rb
      exact op_add_str pins s σ H _ _ v u Q I rx ry ⟨i, j, rfl, rfl, q.1, im _ _ q.2 H _ (Ext.refl H) hs (.str _)⟩
    | _ => exact q.elim
  | tup ts =>
    cases b with
    | tup us =>
      cases ra with
      | @tup p xs _ h1 h2 =>
        cases rb with
        | @tup p' ys _ g1 g2 =>
          have rr := Reps.append h2 g2
          refine op_catA pins s σ H _ _ v u Q I rx ry ⟨p, p', xs, ys, rfl, rfl, sqT_of h1, sqT_of g1, by rw [← h2.length, ← g2.length]; exact q.1, fun e => ?_, fun e e' => ?_, fun e e' r hr => ?_⟩
          · subst e
            cases h2
            exact im _ _ q.2 H _ (Ext.refl H) hs (.tup g1 g2)
          · subst e'
            cases g2
            have q2 := q.2
            rw [List.append_nil] at q2
            exact im _ _ q2 H _ (Ext.refl H) hs (.tup h1 h2)
          · exact im _ _ q.2 _ _ (Ext.new hr) (hs.new hr _) (.tup upd_same (Reps.mono (Ext.new hr) _ _ rr))
    | _ => exact q.elim
  | ref p =>
    cases b with
    | ref p' =>
      cases ra
      cases rb
      obtain ⟨ts, e1, us, e2, hz, q⟩ := q
      obtain ⟨xs, h1, r1⟩ := hs p _ e1
      obtain ⟨ys, h2, r2⟩ := hs p' _ e2
      refine op_cat pins s σ H _ _ v u Q I rx ry ⟨p, p', xs, ys, rfl, rfl, h1, h2, by rw [← r1.length, ← r2.length]; exact hz, fun r hr => ?_⟩
      obtain ⟨e3, s3⟩ := hs.newL hr (Reps.append r1 r2)
      exact im _ _ (q r (hs.free hr)) _ _ e3 s3 (.ref r)
    | _ => exact q.elim
  | _ => exact q.elim
/-! ### order -/
def rCmp (p : Int → Int → Bool) (ps : List Nat → List Nat → Bool) (x : T) (y : T) (S : Sta) (Q : T → Sta → Prop) : Prop := match x, y with
  | .int i, .int j => Q (.bl (p i j)) S
  | .str a, .str b => Q (.bl (ps a.cps.toList b.cps.toList)) S
  | _, _ => False
def rLt : R3 := rCmp (fun i j => decide (i < j)) fun a b => decide (a < b)
def rLe : R3 := rCmp (fun i j => decide (i ≤ j)) fun a b => !decide (b < a)
def rGtI : R3 := rInt (fun _ _ => True) fun i j => .bl (decide (j < i))
def rGeI : R3 := rInt (fun _ _ => True) fun i j => .bl (decide (j ≤ i))
theorem o_lt : OpT X (compareOp .Lt) rLt := by
  intro pins s σ H x y v u Q I rx ry ⟨a, b, S, Q0, ra, rb, hs, q, im⟩
  cases a with
  | int i =>
    cases b with
    | int j =>
      cases ra
      cases rb
      exact op_lt pins s σ H _ _ v u Q I rx ry ⟨i, j, rfl, rfl, im _ _ q H _ (Ext.refl H) hs (.bl _)⟩
    | _ => exact q.elim
  | str i =>
    cases b with
    | str j =>
      cases ra
      cases rb
      exact op_lt_str pins s σ H _ _ v u Q I rx ry ⟨i, j, rfl, rfl, im _ _ q H _ (Ext.refl H) hs (.bl _)⟩
    | _ => exact q.elim
  | _ => exact q.elim
theorem o_le : OpT X (compareOp .LtE) rLe := by
  intro pins s σ H x y v u Q I rx ry ⟨a, b, S, Q0, ra, rb, hs, q, im⟩
  cases a with
  | int i =>
    cases b with
    | int j =>
      cases ra
      cases rb
      exact op_le pins s σ H _ _ v u Q I rx ry ⟨i, j, rfl, rfl, im _ _ q H _ (Ext.refl H) hs (.bl _)⟩
    | _ => exact q.elim
  | str i =>
    cases b with
    | str j =>
      cases ra
      cases rb
      exact op_le_str pins s σ H _ _ v u Q I rx ry ⟨i, j, rfl, rfl, im _ _ q H _ (Ext.refl H) hs (.bl _)⟩
    | _ => exact q.elim
  | _ => exact q.elim
theorem o_gt : OpT X (compareOp .Gt) rGtI := opT_I0 op_gt fun _ _ _ => .bl _
theorem o_ge : OpT X (compareOp .GtE) rGeI := opT_I0 op_ge fun _ _ _ => .bl _
/-! ### is None -/
def isNon : T → Bool
  | .non => true
  | _ => false
def rIsN (neg : Bool) (x : T) (y : T) (S : Sta) (Q : T → Sta → Prop) : Prop := match y with
  | .non => Q (.bl (neg != isNon x)) S
  | _ => False
theorem isNon_rep {K : PySem.W.Frag} {H : Hp} {t : T} {v : V} (r : Rep K H t v) : decide (v = .non) = isNon t := by
  cases r <;> rfl
theorem o_isN : OpT X (compareOp .Is) (rIsN false) := by
  intro pins s σ H x y v u Q I rx ry ⟨a, b, S, Q0, ra, rb, hs, q, im⟩
  cases b with
  | non =>
    cases rb
    refine op_isN pins s σ H _ _ v u Q I rx ry ⟨rfl, ?_⟩
    rw [isNon_rep ra]
    have q : Q0 (.bl (false != isNon a)) S := q
    rw [Bool.false_bne] at q
    exact im _ _ q H _ (Ext.refl H) hs (.bl _)
  | _ => exact q.elim
theorem o_notN : OpT X (compareOp .IsNot) (rIsN true) := by
  intro pins s σ H x y v u Q I rx ry ⟨a, b, S, Q0, ra, rb, hs, q, im⟩
  cases b with
  | non =>
    cases rb
    refine op_notN pins s σ H _ _ v u Q I rx ry ⟨rfl, ?_⟩
    rw [isNon_rep ra]
    have q : Q0 (.bl (true != isNon a)) S := q
    rw [Bool.true_bne] at q
    exact im _ _ q H _ (Ext.refl H) hs (.bl _)
  | _ => exact q.elim
/-! ### == -/
mutual
def toD : T → Option PyData
  | .non => some .none
  | .bl b => some (.bool b)
  | .int i => some (.int i)
  | .str s => some (.str s)
  | .tup ts => (toDs ts).map .tuple
  | .fl ts => (toDs ts).map .list
  | .pt ts => (toDs ts).map .tuple
  | .ref _ => none
def toDs : List T → Option (List PyData)
  | [] => some []
  | t :: ts => match toD t, toDs ts with
    | some d, some ds => some (d :: ds)
    | _, _ => none
end
def dd (S : Sta) : T → Option PyData
  | .ref p => match S p with
    | some (.lst ts) => (toDs ts).map .list
    | _ => none
  | t => toD t
mutual
theorem Rep.dp {K : PySem.W.Frag} {H : Hp} : ∀ (t : T) (v : V) (d : PyData), Rep K H t v → toD t = some d → Dp K H v d
  | .non, _, _, r, e => by cases r; simp only [toD, Option.some.injEq] at e; subst e; exact .non
  | .bl b, _, _, r, e => by cases r; simp only [toD, Option.some.injEq] at e; subst e; exact .bl b
  | .int b, _, _, r, e => by cases r; simp only [toD, Option.some.injEq] at e; subst e; exact .int b
  | .str b, _, _, r, e => by cases r; simp only [toD, Option.some.injEq] at e; subst e; exact .str b
  | .ref a, _, _, r, e => by simp only [toD] at e; cases e
  | .tup ts, _, d, r, e => by
    cases r with
    | tup h1 h2 =>
      simp only [toD, Option.map_eq_some_iff] at e
      obtain ⟨ds, e1, e2⟩ := e
      subst e2
      exact .tup (sqT_of h1) (Reps.dp ts _ ds h2 e1)
  | .fl ts, _, d, r, e => by
    cases r with
    | fl h1 h2 =>
      simp only [toD, Option.map_eq_some_iff] at e
      obtain ⟨ds, e1, e2⟩ := e
      subst e2
      exact .lst h1.sq (Reps.dp ts _ ds h2 e1)
  | .pt ts, _, d, r, e => by
    cases r with
    | pt h0 h1 h2 =>
      simp only [toD, Option.map_eq_some_iff] at e
      obtain ⟨ds, e1, e2⟩ := e
      subst e2
      exact .tup (.inl (.inr ⟨_, h1⟩)) (Reps.dp ts _ ds h2 e1)
theorem Reps.dp {K : PySem.W.Frag} {H : Hp} : ∀ (ts : List T) (vs : List V) (ds : List PyData), Reps K H ts vs → toDs ts = some ds → DpAll K H vs ds
  | [], _, _, r, e => by cases r; simp only [toDs, Option.some.injEq] at e; subst e; exact .nil
  | t :: ts, _, ds, r, e => by
    cases r with
    | cons h1 h2 =>
      simp only [toDs] at e
      cases e1 : toD t with
      | none => rw [e1] at e; cases e
      | some d =>
        cases e2 : toDs ts with
        | none => rw [e1, e2] at e; cases e
        | some es =>
          rw [e1, e2] at e
          cases e
          exact .cons (Rep.dp t _ d h1 e1) (Reps.dp ts _ es h2 e2)
end
theorem dd_dp {K : PySem.W.Frag} {H : Hp} {S : Sta} {t : T} {v : V} {d : PyData} (hs : St K S H) (r : Rep K H t v) (e : dd S t = some d) : Dp K H v d := by
  cases t with
  | ref p =>
    cases r
    simp only [dd] at e
    cases q : S p with
    | none => rw [q] at e; cases e
    | some o =>
      rw [q] at e
      cases o with
      | ins C fs => cases e
      | dct kvs => cases e
      | dtt kvs => cases e
      | lst ts =>
        simp only [Option.map_eq_some_iff] at e
        obtain ⟨ds, e1, e2⟩ := e
        subst e2
        obtain ⟨xs, h1, h2⟩ := hs p _ q
        exact .lst (.inl (.inl h1)) (Reps.dp ts _ ds h2 e1)
  | non => exact Rep.dp _ _ _ r e
  | bl b => exact Rep.dp _ _ _ r e
  | int b => exact Rep.dp _ _ _ r e
  | str b => exact Rep.dp _ _ _ r e
  | tup b => exact Rep.dp _ _ _ r e
  | fl b => exact Rep.dp _ _ _ r e
  | pt b => exact Rep.dp _ _ _ r e
def rEq (neg : Bool) (x : T) (y : T) (S : Sta) (Q : T → Sta → Prop) : Prop := ∃ d, dd S x = some d ∧ ∃ e, dd S y = some e ∧ SeqAt.shaped d = true ∧ SeqAt.shaped e = true ∧ Q (.bl (neg != PyData.eqv d e)) S
theorem o_eq (hu : X.A.units + 64 < cLine) : OpT X (compareOp .Eq) (rEq false) := by
  intro pins s σ H x y v u Q I rx ry ⟨a, b, S, Q0, ra, rb, hs, ⟨d, h1, e, h2, h3, h4, q⟩, im⟩
  refine op_eqD hu pins s σ H _ _ v u Q I rx ry ⟨d, e, dd_dp hs ra h1, dd_dp hs rb h2, h3, h4, ?_⟩
  rw [Bool.false_bne] at q
  exact im _ _ q H _ (Ext.refl H) hs (.bl _)
theorem o_ne (hu : X.A.units + 64 < cLine) : OpT X (compareOp .NotEq) (rEq true) := by
  intro pins s σ H x y v u Q I rx ry ⟨a, b, S, Q0, ra, rb, hs, ⟨d, h1, e, h2, h3, h4, q⟩, im⟩
  refine op_neD hu pins s σ H _ _ v u Q I rx ry ⟨d, e, dd_dp hs ra h1, dd_dp hs rb h2, h3, h4, ?_⟩
  rw [Bool.true_bne] at q
  exact im _ _ q H _ (Ext.refl H) hs (.bl _)
/-! ### x in a list, a tuple: flat values -/
def flatT : T → Bool
  | .non => true
  | .bl _ => true
  | .int _ => true
  | .str _ => true
  | _ => false
def eqF : T → T → Bool
  | .non, .non => true
  | .bl a, .bl b => a == b
  | .bl a, .int b => (if a then 1 else 0) == b
  | .int a, .bl b => a == (if b then 1 else 0)
  | .int a, .int b => a == b
  | .str a, .str b => a == b
  | _, _ => false
def inF (x : T) (ts : List T) : Bool := ts.any fun y => eqF y x
theorem flat_rep {K : PySem.W.Frag} {H : Hp} {t : T} {v : V} (r : Rep K H t v) (f : flatT t = true) : flatV v = true := by
  cases r <;> first | rfl | cases f
theorem eqF_rep {K : PySem.W.Frag} {H : Hp} {t u : T} {v w : V} (r : Rep K H t v) (q : Rep K H u w) (f : flatT t = true) (g : flatT u = true) : eqV v w = eqF t u := by
  cases r <;> first | (cases f; done) | (cases q <;> first | (cases g; done) | rfl)
theorem flats_rep {K : PySem.W.Frag} {H : Hp} : ∀ {ts : List T} {vs : List V}, Reps K H ts vs → ts.all flatT = true → vs.all flatV = true
  | [], _, h, _ => by cases h; rfl
  | t :: ts, _, h, f => by
    cases h with
    | cons h1 h2 =>
      rw [List.all_cons, Bool.and_eq_true] at f ⊢
      exact ⟨flat_rep h1 f.1, flats_rep h2 f.2⟩
theorem inF_rep {K : PySem.W.Frag} {H : Hp} {x : T} {w : V} (r : Rep K H x w) (g : flatT x = true) : ∀ {ts : List T} {vs : List V}, Reps K H ts vs → ts.all flatT = true → inV w vs = inF x ts
  | [], _, h, _ => by cases h; rfl
  | t :: ts, _, h, f => by
    cases h with
    | cons h1 h2 =>
      rw [List.all_cons, Bool.and_eq_true] at f
      have ih := inF_rep r g h2 f.2
      unfold inV inF at ih ⊢
      rw [List.any_cons, List.any_cons, ih, eqF_rep h1 r f.1 g]
/-- the items of a list or a tuple, as they stand -/
def itemsT (S : Sta) : T → Option (List T)
  | .tup ts => some ts
  | .fl ts => some ts
  | .ref p => match S p with
    | some (.lst ts) => some ts
    | _ => none
  | _ => none
theorem items_sq {K : PySem.W.Frag} {H : Hp} {S : Sta} {t : T} {v : V} {ts : List T} (hs : St K S H) (r : Rep K H t v) (e : itemsT S t = some ts) : ∃ p xs, v = .ref p ∧ (SqL K H p xs ∨ H p = some (.tup xs)) ∧ Reps K H ts xs := by
  cases r with
  | tup h1 h2 => cases e; exact ⟨_, _, rfl, .inr h1, h2⟩
  | fl h1 h2 => cases e; exact ⟨_, _, rfl, .inl h1.sq, h2⟩
  | ref a =>
    simp only [itemsT] at e
    cases q : S a with
    | none => rw [q] at e; cases e
    | some o =>
      rw [q] at e
      cases o with
      | ins C fs => cases e
      | dct kvs => cases e
      | dtt kvs => cases e
      | lst us =>
        cases e
        obtain ⟨xs, h1, h2⟩ := hs a _ q
        exact ⟨a, xs, rfl, .inl (.inl (.inl h1)), h2⟩
  | _ => cases e
def rIn (neg : Bool) (x : T) (y : T) (S : Sta) (Q : T → Sta → Prop) : Prop := ∃ ts, itemsT S y = some ts ∧ flatT x = true ∧ ts.all flatT = true ∧ Q (.bl (neg != inF x ts)) S
theorem o_in : OpT X (compareOp .In) (rIn false) := by
  intro pins s σ H x y v u Q I rx ry ⟨a, b, S, Q0, ra, rb, hs, ⟨ts, e, f, g, q⟩, im⟩
  obtain ⟨p, xs, rfl, h, r⟩ := items_sq hs rb e
  refine op_in_seq pins s σ H _ _ v u Q I rx ry ⟨p, xs, rfl, h.imp id sqT_of, flat_rep ra f, flats_rep r g, ?_⟩
  rw [if_neg Bool.false_ne_true, inF_rep ra f r g]
  rw [Bool.false_bne] at q
  exact im _ _ q H _ (Ext.refl H) hs (.bl _)
theorem o_notIn : OpT X (compareOp .NotIn) (rIn true) := by
  intro pins s σ H x y v u Q I rx ry ⟨a, b, S, Q0, ra, rb, hs, ⟨ts, e, f, g, q⟩, im⟩
  obtain ⟨p, xs, rfl, h, r⟩ := items_sq hs rb e
  refine op_notIn_seq pins s σ H _ _ v u Q I rx ry ⟨p, xs, rfl, h.imp id sqT_of, flat_rep ra f, flats_rep r g, ?_⟩
  rw [if_pos rfl, inF_rep ra f r g]
  rw [Bool.true_bne] at q
  exact im _ _ q H _ (Ext.refl H) hs (.bl _)
end
end Wp

set_option Elab.async false
set_option linter.all false
set_option maxRecDepth 100000
/-! subscripts, slices, calls -/
namespace Wp
open PySem PySem.Spec PyProof.Rows L2
section
variable {B : Hp} {X : Cx} {a b : Expr} {ta tb : WE} {pos : Pos}
/-! ### o[i] -/
def rIx (x : T) (y : T) (S : Sta) (Q : T → Sta → Prop) : Prop := match y with
  | .int i => match x with
    | .str s => s.length ≤ sizeLine ∧ ∃ c, atI s.cps.toList i = some c ∧ Q (.str ⟨#[c]⟩) S
    | x => ∃ ts, itemsT S x = some ts ∧ ∃ t, atI ts i = some t ∧ Q t S
  | _ => False
theorem ixN_lt {n : Nat} {i : Int} {j : Nat} (h : ixN n i = some j) : j < n := (ixN_seq h).2.1
theorem atI_rep {K : PySem.W.Frag} {H : Hp} {ts : List T} {vs : List V} {i : Int} {t : T} (r : Reps K H ts vs) (h : atI ts i = some t) : ∃ v, atI vs i = some v ∧ Rep K H t v := by
  unfold atI at h ⊢
  rw [← r.length]
  cases e : ixN ts.length i with
  | none => rw [e] at h; cases h
  | some j =>
    rw [e] at h
    exact r.get h
theorem ix_T : IxR X (L3 X.K rIx) := by
  intro value slice pins s σ H x y v u Q I rx ry ⟨a, b, S, Q0, ra, rb, hs, q, im⟩ hsub
  cases b with
  | int i =>
    have go : ∀ ts t, itemsT S a = some ts → atI ts i = some t → Q0 t S → wpAny (model X.prog X.w) X.A (subscriptTail value slice v u) (EP X pins σ Q) X.xe s := fun ts t e1 e2 q => by
      obtain ⟨p, xs, rfl, h, r⟩ := items_sq hs ra e1
      obtain ⟨w, e3, rw'⟩ := atI_rep r e2
      cases rb
      have qq := im _ _ q H _ (Ext.refl H) hs rw'
      rcases h with h | h
      · exact ix_list value slice pins s σ H _ _ v u Q I rx ry ⟨p, xs, i, w, rfl, rfl, h, e3, qq⟩ hsub
      · exact ix_tup value slice pins s σ H _ _ v u Q I rx ry ⟨p, xs, i, w, rfl, rfl, sqT_of h, e3, qq⟩ hsub
    cases a with
    | str z =>
      obtain ⟨hz, c, e, q⟩ := q
      cases ra
      cases rb
      exact ix_str value slice pins s σ H _ _ v u Q I rx ry ⟨z, i, c, rfl, rfl, hz, e, im _ _ q H _ (Ext.refl H) hs (.str _)⟩ hsub
    | non => obtain ⟨ts, e1, t, e2, q⟩ := q; exact go ts t e1 e2 q
    | bl _ => obtain ⟨ts, e1, t, e2, q⟩ := q; exact go ts t e1 e2 q
    | pt _ => obtain ⟨ts, e1, t, e2, q⟩ := q; exact go ts t e1 e2 q
    | int _ => obtain ⟨ts, e1, t, e2, q⟩ := q; exact go ts t e1 e2 q
    | tup _ => obtain ⟨ts, e1, t, e2, q⟩ := q; exact go ts t e1 e2 q
    | fl _ => obtain ⟨ts, e1, t, e2, q⟩ := q; exact go ts t e1 e2 q
    | ref _ => obtain ⟨ts, e1, t, e2, q⟩ := q; exact go ts t e1 e2 q
  | _ => exact q.elim
theorem j_ix (ha : JE B X a ta) (hb : JE B X b tb) (hs : PlainIx b) : JE B X (.Subscript a b pos) (wOp rIx ta tb) := pe_imp (pe_ix ix_T ha hb hs) fun _ _ _ h => le_op h
/-! ### o[i:j] -/
abbrev WO := Sl → Sta → (Option Int → Sta → Prop) → Prop
def finO (K : PySem.W.Frag) (H : Hp) (Q : Option Int → Hp → Prop) : Option Int → Sta → Prop := fun b S => ∀ H', Ext H H' → St K S H' → Q b H'
def LO (B : Hp) (X : Cx) (t : WO) : TO := fun σ H Q => ∃ st S Q0, Ext B H ∧ SlR X.K H st σ ∧ St X.K S H ∧ t st S Q0 ∧ Im2 Q0 (finO X.K H Q)
def JO (B : Hp) (X : Cx) (e : Option Expr) (t : WO) : Prop := PO X e (LO B X t)
theorem po_imp {e : Option Expr} {t t' : TO} (h : PO X e t) (k : ∀ σ H Q, t' σ H Q → t σ H Q) : PO X e t' := ⟨fun pins s σ H Q I q => h.run pins s σ H Q I (k σ H Q q)⟩
def wNoPart (u0 : Sl) (S : Sta) (Q : Option Int → Sta → Prop) : Prop := Q none S
def wPart (t : WE) (σ : Sl) (S : Sta) (Q : Option Int → Sta → Prop) : Prop := t σ S fun x S1 => match x with
  | .int i => Q (some i) S1
  | _ => False
theorem jo_none : JO B X none wNoPart := po_imp po_none fun σ H Q ⟨st, S, Q0, he, hr, hs, h, im⟩ => im _ _ h H (Ext.refl H) hs
theorem jo_some (h : JE B X a ta) : JO B X (some a) (wPart ta) := po_imp (po_some h) fun σ H Q ⟨st, S, Q0, he, hr, hs, h, im⟩ => by
  refine ⟨st, S, _, he, hr, hs, h, fun x S1 h1 H1 v e1 s1 r1 => ?_⟩
  cases x with
  | int i =>
    cases r1
    exact ⟨i, rfl, im _ _ h1 H1 e1 s1⟩
  | _ => exact h1.elim
def cutT (xs : List T) (lo hi : Option Int) : List T := (xs.drop (HT.sIx xs.length 0 lo)).take (HT.sIx xs.length xs.length hi - HT.sIx xs.length 0 lo)
theorem cut_rep {K : PySem.W.Frag} {H : Hp} {ts : List T} {vs : List V} (r : Reps K H ts vs) (lo hi : Option Int) : Reps K H (cutT ts lo hi) (cutV vs lo hi) := by
  unfold cutT cutV
  rw [r.length]
  exact (r.drop _).take _
theorem cutT_all (xs : List T) (lo hi : Option Int) (h : HT.sIx xs.length 0 lo = 0 ∧ HT.sIx xs.length xs.length hi = xs.length) : cutT xs lo hi = xs := by
  unfold cutT
  rw [h.1, h.2]
  simp
def rSl : T → Option Int → Option Int → Sta → (T → Sta → Prop) → Prop := fun x lo hi S Q => match x with
  | .str z => z.length ≤ sizeLine ∧ Q (.str (Txt.slice z lo hi)) S
  | .tup ts => Q (.tup (cutT ts lo hi)) S
  | x => ∃ ts, itemsT S x = some ts ∧ ∀ p, S p = none → Q (.ref p) (upS S p (.lst (cutT ts lo hi)))
def L3s (K : PySem.W.Frag) (r : T → Option Int → Option Int → Sta → (T → Sta → Prop) → Prop) : V → Option Int → Option Int → Hp → VK → Prop := fun x lo hi H Q => ∃ a S Q0, Rep K H a x ∧ St K S H ∧ r a lo hi S Q0 ∧ Im2 Q0 (fin K H Q)
theorem sl_T : L2.SlR X (L3s X.K rSl) := by
  intro pins s σ H x v vl vu lo hi sl Q I rx hso pl pu ⟨a, S, Q0, ra, hs, q, im⟩
  cases a with
  | str z =>
    cases ra
    exact C8.sl_txt pins s σ H _ v vl vu lo hi sl Q I rx hso pl pu ⟨z, rfl, q.1, im _ _ q.2 H _ (Ext.refl H) hs (.str _)⟩
  | tup ts =>
    cases ra with
    | @tup p xs _ h1 h2 =>
      refine sl_tupA pins s σ H _ v vl vu lo hi sl Q I rx hso pl pu ⟨p, xs, rfl, sqT_of h1, fun hw => ?_, fun hw p' hp' => ?_⟩
      · rw [← h2.length] at hw
        have q : Q0 (.tup (cutT ts lo hi)) S := q
        rw [cutT_all ts lo hi hw] at q
        exact im _ _ q H _ (Ext.refl H) hs (.tup h1 h2)
      · exact im _ _ q _ _ (Ext.new hp') (hs.new hp' _) (.tup upd_same (Reps.mono (Ext.new hp') _ _ (cut_rep h2 lo hi)))
  | fl ts =>
    cases ra with
    | @fl p xs _ h1 h2 =>
      obtain ⟨us, e, q⟩ := q
      cases e
      refine sl_list pins s σ H _ v vl vu lo hi sl Q I rx hso pl pu ⟨p, xs, rfl, h1.sq, fun p' hp' => ?_⟩
      obtain ⟨e3, s3⟩ := hs.newL hp' (cut_rep h2 lo hi)
      exact im _ _ (q p' (hs.free hp')) _ _ e3 s3 (.ref p')
  | ref p =>
    obtain ⟨us, e, q⟩ := q
    simp only [itemsT] at e
    cases ra
    cases eS : S p with
    | none => rw [eS] at e; cases e
    | some o =>
      rw [eS] at e
      cases o with
      | ins C fs => cases e
      | dct kvs => cases e
      | dtt kvs => cases e
      | lst ws =>
        cases e
        obtain ⟨xs, h1, h2⟩ := hs p _ eS
        refine sl_list pins s σ H _ v vl vu lo hi sl Q I rx hso pl pu ⟨p, xs, rfl, .inl (.inl h1), fun p' hp' => ?_⟩
        obtain ⟨e3, s3⟩ := hs.newL hp' (cut_rep h2 lo hi)
        exact im _ _ (q p' (hs.free hp')) _ _ e3 s3 (.ref p')
  | non => obtain ⟨us, e, q⟩ := q; cases e
  | bl _ => obtain ⟨us, e, q⟩ := q; cases e
  | pt _ => obtain ⟨us, e, q⟩ := q; cases e
  | int _ => obtain ⟨us, e, q⟩ := q; cases e
def wSl (te : WE) (tl th : WO) (σ : Sl) (S : Sta) (Q : T → Sta → Prop) : Prop := te σ S fun x S1 => tl σ S1 fun l S2 => th σ S2 fun u S3 => rSl x l u S3 Q
theorem j_slice {lo hi : Option Expr} {tl th : WO} {p2 : Pos} (he : JE B X a ta) (hl : JO B X lo tl) (hu : JO B X hi th) : JE B X (.Subscript a (.Slice lo hi none p2) pos) (wSl ta tl th) :=
  pe_imp (pe_slice sl_T he hl hu) fun σ H Q ⟨st, S, Q0, he, hr, hs, h, im⟩ => by
    refine ⟨st, S, _, he, hr, hs, h, fun x S1 h1 H1 v e1 s1 r1 => ?_⟩
    refine ⟨st, S1, _, he.trans e1, hr.mono e1, s1, h1, fun l S2 h2 H2 e2 s2 => ?_⟩
    refine ⟨st, S2, _, he.trans (e1.trans e2), hr.mono (e1.trans e2), s2, h2, fun u S3 h3 H3 e3 s3 => ?_⟩
    exact ⟨x, S3, Q0, Rep.mono (e2.trans e3) _ _ r1, s3, h3, fun z S4 q => fin_ext (e1.trans (e2.trans e3)) (im z S4 q)⟩
/-! ### -x -/
def rNeg : T → Sta → (T → Sta → Prop) → Prop := fun x S Q => match x with
  | .int i => Q (.int (-i)) S
  | _ => False
def wNeg (t : WE) (σ : Sl) (S : Sta) (Q : T → Sta → Prop) : Prop := t σ S fun x S1 => rNeg x S1 Q
theorem j_neg (ha : JE B X a ta) : JE B X (.UnaryOp .USub a pos) (wNeg ta) := pe_imp (pe_un un_neg ha) fun σ H Q ⟨st, S, Q0, he, hr, hs, h, im⟩ => by
  refine ⟨st, S, _, he, hr, hs, h, fun x S1 h1 H1 v e1 s1 r1 => ?_⟩
  cases x with
  | int i =>
    cases r1
    exact ⟨i, rfl, im _ _ h1 H1 _ e1 s1 (.int _)⟩
  | _ => exact h1.elim

/-! ### calls of built-ins by values -/
abbrev RC3 := List T → Sta → (T → Sta → Prop) → Prop
def LC (K : PySem.W.Frag) (r : RC3) : List V → Hp → VK → Prop := fun xs H Q => ∃ ts S Q0, Reps K H ts xs ∧ St K S H ∧ r ts S Q0 ∧ Im2 Q0 (fin K H Q)
def wCB (r : RC3) (t : WA) (σ : Sl) (S : Sta) (Q : T → Sta → Prop) : Prop := t σ S fun xs S1 => r xs S1 Q
variable {es : List Expr} {tr : WA}
theorem le_cb {r : RC3} {σ : L2.St} {H : Hp} {Q : VK} (h : LE B X (wCB r tr) σ H Q) : tCB (LC X.K r) (LA B X tr) σ H Q := by
  obtain ⟨st, S, Q0, he, hr, hs, h, im⟩ := h
  refine ⟨st, S, _, he, hr, hs, h, fun xs S1 h1 H1 v e1 s1 r1 => ?_⟩
  exact ⟨xs, S1, Q0, r1, s1, h1, fun z S4 q => fin_ext e1 (im z S4 q)⟩
theorem j_callB {id : String} {r : RC3} {x : Str} {p : Pos} (hc : CallR X (.builtin id) (LC X.K r)) (hg : Gl X x) (hm : X.mg x = none) (hv : bootBuiltins x = some (.builtin id)) (ha : JA B X (a :: es) tr) (hn : x ≠ "__name__" := by decide) (hdb : (x == ("__debug__" : Str)) = false := by decide)
    (he : starEach (a :: es) X.env = (false, eval a X.env) :: starEach es X.env := by rfl) (hpl : (backTo pos (starEach es X.env)).any (·.1) = false := by rfl) : JE B X (.Call (.Name x p) (a :: es) [] pos) (wCB r tr) :=
  pe_imp (pe_callB hc hg hm hv ha hn hdb he hpl) fun _ _ _ h => le_cb h
theorem j_callTy {T : String} {r : RC3} {x : Str} {p : Pos} (hc : CallR X (.type T) (LC X.K r)) (hg : Gl X x) (hm : X.mg x = none) (hv : bootBuiltins x = some (.type T)) (ha : JA B X (a :: es) tr) (hn : x ≠ "__name__" := by decide) (hdb : (x == ("__debug__" : Str)) = false := by decide)
    (he : starEach (a :: es) X.env = (false, eval a X.env) :: starEach es X.env := by rfl) (hpl : (backTo pos (starEach es X.env)).any (·.1) = false := by rfl) : JE B X (.Call (.Name x p) (a :: es) [] pos) (wCB r tr) :=
  pe_imp (pe_callTy hc hg hm hv ha hn hdb he hpl) fun _ _ _ h => le_cb h
def rLen1 (x : T) (S : Sta) (Q : T → Sta → Prop) : Prop := match x with
  | .str z => z.length ≤ sizeLine ∧ Q (.int z.length) S
  | x => ∃ ts, itemsT S x = some ts ∧ Q (.int ts.length) S
def rLen (xs : List T) (S : Sta) (Q : T → Sta → Prop) : Prop := match xs with
  | [x] => rLen1 x S Q
  | _ => False
theorem Reps.one {K : PySem.W.Frag} {H : Hp} {t : T} {vs : List V} (r : Reps K H [t] vs) : ∃ v, vs = [v] ∧ Rep K H t v := by
  cases r with
  | cons h1 h2 => cases h2; exact ⟨_, rfl, h1⟩
theorem Reps.two {K : PySem.W.Frag} {H : Hp} {t u : T} {vs : List V} (r : Reps K H [t, u] vs) : ∃ v w, vs = [v, w] ∧ Rep K H t v ∧ Rep K H u w := by
  cases r with
  | cons h1 h2 =>
    obtain ⟨w, e, h3⟩ := h2.one
    subst e
    exact ⟨_, _, rfl, h1, h3⟩
theorem c_len : CallR X (.builtin "len") (LC X.K rLen) := by
  intro pins s σ H xs us Q I rx ⟨ts, S, Q0, r, hs, q, im⟩
  match ts, q with
  | [t], q =>
    obtain ⟨v, rfl, r1⟩ := r.one
    have go : ∀ us', itemsT S t = some us' → Q0 (.int us'.length) S → wpAny (model X.prog X.w) X.A (call (.builtin "len") us) (EP X pins σ Q) X.xe s := fun us' e q => by
      obtain ⟨p, ys, rfl, h, r2⟩ := items_sq hs r1 e
      refine call_len_seq pins s σ H _ us Q I rx ⟨p, ys, rfl, h.imp id sqT_of, ?_⟩
      rw [← r2.length]
      exact im _ _ q H _ (Ext.refl H) hs (.int _)
    cases t with
    | str z =>
      cases r1
      exact call_len_str pins s σ H _ us Q I rx ⟨z, rfl, q.1, im _ _ q.2 H _ (Ext.refl H) hs (.int _)⟩
    | non => obtain ⟨ts, e, q⟩ := q; exact go ts e q
    | bl _ => obtain ⟨ts, e, q⟩ := q; exact go ts e q
    | pt _ => obtain ⟨ts, e, q⟩ := q; exact go ts e q
    | int _ => obtain ⟨ts, e, q⟩ := q; exact go ts e q
    | tup _ => obtain ⟨ts, e, q⟩ := q; exact go ts e q
    | fl _ => obtain ⟨ts, e, q⟩ := q; exact go ts e q
    | ref _ => obtain ⟨ts, e, q⟩ := q; exact go ts e q
def rInt1 (xs : List T) (S : Sta) (Q : T → Sta → Prop) : Prop := match xs with
  | [.int i] => Q (.int i) S
  | [.bl b] => Q (.int (if b then 1 else 0)) S
  | _ => False
theorem c_int : CallR X (.type "int") (LC X.K rInt1) := by
  intro pins s σ H xs us Q I rx ⟨ts, S, Q0, r, hs, q, im⟩
  match ts, q with
  | [.int i], q =>
    obtain ⟨v, rfl, r1⟩ := r.one
    cases r1
    exact call_int1 pins s σ H _ us Q I rx (.inl ⟨i, rfl, im _ _ q H _ (Ext.refl H) hs (.int _)⟩)
  | [.bl i], q =>
    obtain ⟨v, rfl, r1⟩ := r.one
    cases r1
    exact call_int1 pins s σ H _ us Q I rx (.inr ⟨i, rfl, im _ _ q H _ (Ext.refl H) hs (.int _)⟩)
def rAbs (xs : List T) (S : Sta) (Q : T → Sta → Prop) : Prop := match xs with
  | [.int i] => Q (.int (if i < 0 then -i else i)) S
  | _ => False
theorem c_abs : CallR X (.builtin "abs") (LC X.K rAbs) := by
  intro pins s σ H xs us Q I rx ⟨ts, S, Q0, r, hs, q, im⟩
  match ts, q with
  | [.int i], q =>
    obtain ⟨v, rfl, r1⟩ := r.one
    cases r1
    exact call_abs pins s σ H _ us Q I rx ⟨i, rfl, im _ _ q H _ (Ext.refl H) hs (.int _)⟩
def rMax2 (xs : List T) (S : Sta) (Q : T → Sta → Prop) : Prop := match xs with
  | [.int i, .int j] => Q (.int (if j > i then j else i)) S
  | _ => False
def rMin2 (xs : List T) (S : Sta) (Q : T → Sta → Prop) : Prop := match xs with
  | [.int i, .int j] => Q (.int (if j < i then j else i)) S
  | _ => False
theorem c_max2 (hc : X.calm = true) : CallR X (.builtin "max") (LC X.K rMax2) := by
  intro pins s σ H xs us Q I rx ⟨ts, S, Q0, r, hs, q, im⟩
  match ts, q with
  | [.int i, .int j], q =>
    obtain ⟨v, w, rfl, r1, r2⟩ := r.two
    cases r1
    cases r2
    exact call_max2 hc pins s σ H _ us Q I rx ⟨i, j, rfl, im _ _ q H _ (Ext.refl H) hs (.int _)⟩
theorem c_min2 (hc : X.calm = true) : CallR X (.builtin "min") (LC X.K rMin2) := by
  intro pins s σ H xs us Q I rx ⟨ts, S, Q0, r, hs, q, im⟩
  match ts, q with
  | [.int i, .int j], q =>
    obtain ⟨v, w, rfl, r1, r2⟩ := r.two
    cases r1
    cases r2
    exact call_min2 hc pins s σ H _ us Q I rx ⟨i, j, rfl, im _ _ q H _ (Ext.refl H) hs (.int _)⟩
/-- list(xs), tuple(xs) -/
def rListOf (xs : List T) (S : Sta) (Q : T → Sta → Prop) : Prop := match xs with
  | [x] => ∃ ts, itemsT S x = some ts ∧ ∀ p, S p = none → Q (.ref p) (upS S p (.lst ts))
  | _ => False
theorem c_list : CallR X (.type "list") (LC X.K rListOf) := by
  intro pins s σ H xs us Q I rx ⟨ts, S, Q0, r, hs, q, im⟩
  match ts, q with
  | [t], ⟨us', e, q⟩ =>
    obtain ⟨v, rfl, r1⟩ := r.one
    obtain ⟨p, ys, rfl, h, r2⟩ := items_sq hs r1 e
    refine call_list_of pins s σ H _ us Q I rx ⟨p, ys, rfl, h.imp id sqT_of, fun l hl => ?_⟩
    obtain ⟨e3, s3⟩ := hs.newL hl r2
    exact im _ _ (q l (hs.free hl)) _ _ e3 s3 (.ref l)
def rTupOf (xs : List T) (S : Sta) (Q : T → Sta → Prop) : Prop := match xs with
  | [x] => ∃ ts, itemsT S x = some ts ∧ Q (.tup ts) S
  | _ => False
theorem c_tup : CallR X (.type "tuple") (LC X.K rTupOf) := by
  intro pins s σ H xs us Q I rx ⟨ts, S, Q0, r, hs, q, im⟩
  match ts, q with
  | [t], ⟨us', e, q⟩ =>
    obtain ⟨v, rfl, r1⟩ := r.one
    obtain ⟨p, ys, rfl, h, r2⟩ := items_sq hs r1 e
    rcases h with h | h
    · exact call_tuple_of pins s σ H _ us Q I rx ⟨p, ys, rfl, .inl ⟨h, fun l hl => im _ _ q _ _ (Ext.new hl) (hs.new hl _) (.tup upd_same (Reps.mono (Ext.new hl) _ _ r2))⟩⟩
    · exact call_tuple_of pins s σ H _ us Q I rx ⟨p, ys, rfl, .inr ⟨sqT_of h, im _ _ q H _ (Ext.refl H) hs (.tup h r2)⟩⟩
/-- sorted, ints -/
def rSortI (xs : List T) (S : Sta) (Q : T → Sta → Prop) : Prop := match xs with
  | [x] => ∃ ns : List Int, itemsT S x = some (ns.map T.int) ∧ ns.length < 64 ∧ (match x with | .tup _ => False | _ => True) ∧ ∀ (ms : List Int) (p : Addr), ms.Perm ns → ms.Pairwise (· ≤ ·) → S p = none → Q (.ref p) (upS S p (.lst (ms.map T.int)))
  | _ => False
theorem c_sortI : CallR X (.builtin "sorted") (LC X.K rSortI) := by
  intro pins s σ H xs us Q I rx ⟨ts, S, Q0, r, hs, q, im⟩
  match ts, q with
  | [t], ⟨ns, e, hl, hx, q⟩ =>
    obtain ⟨v, rfl, r1⟩ := r.one
    obtain ⟨p, ys, rfl, h, r2⟩ := items_sq hs r1 e
    have ey := r2.intsV
    subst ey
    have h' : SqL X.K H p (ns.map V.int) := by
      rcases h with h | h
      · exact h
      · cases t with
        | tup _ => exact hx.elim
        | fl us =>
          cases r1 with
          | @fl _ xs _ h1 h2 =>
            cases e
            rw [← h2.intsV]
            exact h1.sq
        | ref a =>
          cases r1
          simp only [itemsT] at e
          cases eS : S p with
          | none => rw [eS] at e; cases e
          | some o =>
            rw [eS] at e
            cases o with
            | ins C fs => cases e
            | dct kvs => cases e
            | dtt kvs => cases e
            | lst ws =>
              cases e
              obtain ⟨zs, g1, g2⟩ := hs p _ eS
              rw [← g2.intsV]
              exact .inl (.inl g1)
        | non => cases e
        | bl _ => cases e
        | pt _ => cases e
        | int _ => cases e
        | str _ => cases e
    refine cr_sorted pins s σ H _ us Q I rx ⟨p, ns, rfl, h', hl, fun ms l g1 g2 g3 => ?_⟩
    obtain ⟨e3, s3⟩ := hs.newL g3 (Reps.ints (K := X.K) ms)
    exact im _ _ (q ms l g1 g2 (hs.free g3)) _ _ e3 s3 (.ref l)
/-! ### isinstance of a built-in class -/
def tyT (S : Sta) : T → Option String
  | .non => some "NoneType"
  | .bl _ => some "bool"
  | .int _ => some "int"
  | .str _ => some "str"
  | .tup _ => some "tuple"
  | .fl _ => some "list"
  | .ref p => match S p with
    | some (.lst _) => some "list"
    | _ => none
  | .pt _ => none
theorem ty_rep {K : PySem.W.Frag} {H : Hp} {S : Sta} {t : T} {v : V} {n : String} (hs : St K S H) (r : Rep K H t v) (e : tyT S t = some n) : TyX K H v (.type n) := by
  cases r with
  | non => cases e; exact .base .non
  | bl b => cases e; exact .base (.bl b)
  | int i => cases e; exact .base (.int i)
  | str x => cases e; exact .base (.str x)
  | pt h0 h1 h2 => cases e
  | tup h1 h2 =>
    cases e
    exact .base (.tup h1)
  | fl h1 h2 =>
    cases e
    rcases h1 with ⟨o, h⟩ | ⟨o, its, n, h, hc, _⟩
    · exact .base (.frz h)
    · exact .kList h hc
  | ref a =>
    simp only [tyT] at e
    cases eS : S a with
    | none => rw [eS] at e; cases e
    | some o =>
      rw [eS] at e
      cases o with
      | ins C fs => cases e
      | dct kvs => cases e
      | dtt kvs => cases e
      | lst ws =>
        cases e
        obtain ⟨xs, h1, _⟩ := hs a _ eS
        exact .base (.lst h1)
/-- the answer for a class of the five -/
def isB (n c : String) : Bool := n == c || (n == "bool" && c == "int")
def kinds : List String := ["NoneType", "bool", "int", "str", "tuple", "list"]
theorem kit_all : (kinds.all fun n => ["bool", "int", "str", "tuple", "list", "dict"].all fun c => decide (kitB n c = some (isB n c))) = true := by decide +kernel
theorem kit_one {K : PySem.W.Frag} {n c : String} (hn : n ∈ kinds) (hc : c ∈ ["bool", "int", "str", "tuple", "list", "dict"]) : PySem.W.kitOne K (.type n) (.type c) = some (isB n c) := by
  have h := List.all_eq_true.mp kit_all n hn
  have h2 := List.all_eq_true.mp h c hc
  exact kit_ty (of_decide_eq_true h2)
theorem ty_kinds {S : Sta} {t : T} {n : String} (e : tyT S t = some n) : n ∈ kinds := by
  cases t with
  | ref p =>
    simp only [tyT] at e
    split at e
    · cases e; decide
    · cases e
  | pt _ => cases e
  | _ => cases e; decide
def rIsi (c : String) (xs : List T) (S : Sta) (Q : T → Sta → Prop) : Prop := match xs with
  | [x, _] => ∃ n, tyT S x = some n ∧ Q (.bl (isB n c)) S
  | _ => False
def wIsi (c : String) (t : WE) (σ : Sl) (S : Sta) (Q : T → Sta → Prop) : Prop := t σ S fun x S1 => ∃ n, tyT S1 x = some n ∧ Q (.bl (isB n c)) S1
theorem j_isi {c : Str} {cs : String} {p p2 pos : Pos} (hg : Gl X "isinstance") (hm : X.mg "isinstance" = none) (hv : bootBuiltins "isinstance" = some (.builtin "isinstance")) (ha : JE B X a ta)
    (hgc : Gl X c) (hmc : X.mg c = none) (hvc : bootBuiltins c = some (.type cs)) (hc : cs ∈ ["bool", "int", "str", "tuple", "list", "dict"]) (hnc : c ≠ "__name__" := by decide) (hdc : (c == ("__debug__" : Str)) = false := by decide)
    (hs2 : starEach [.Name c p2] X.env = (false, eval (.Name c p2) X.env) :: starEach [] X.env := by rfl)
    (he : starEach [a, .Name c p2] X.env = (false, eval a X.env) :: starEach [.Name c p2] X.env := by rfl) (hpl : (backTo pos (starEach [.Name c p2] X.env)).any (·.1) = false := by rfl) :
    JE B X (.Call (.Name "isinstance" p) [a, .Name c p2] [] pos) (wIsi cs ta) := by
  have hb : PE X (.Name c p2) (tC (.ty cs)) := pe_bltn hgc hmc hvc (show Value.type cs = Value.type cs from rfl) hnc hdc
  refine pe_imp (pe_callB call_isi hg hm hv (pa_cons ha (pa_cons hb pa_nil hs2) he) (by decide) (by decide) he hpl) fun σ H Q ⟨st, S, Q0, he, hr, hs, h, im⟩ => ?_
  refine ⟨st, S, _, he, hr, hs, h, fun x S1 h1 H1 v e1 s1 r1 => ?_⟩
  obtain ⟨n, e, q⟩ := h1
  exact ⟨v, .ty cs, .type n, .type cs, isB n cs, rfl, .ty cs, ty_rep s1 r1 e, kit_one (ty_kinds e) hc, im _ _ q H1 _ e1 s1 (.bl _)⟩
end
end Wp

set_option Elab.async false
set_option linter.all false
set_option maxRecDepth 100000
/-! statements, loops, defs -/
namespace Wp
open PySem PySem.Spec PyProof.Rows L2
theorem finS_ext {K : PySem.W.Frag} {H H1 : Hp} {Q : L2.St → Hp → Prop} {t : Sl} {S : Sta} (e : Ext H H1) (h : finS K H Q t S) : finS K H1 Q t S := fun H' v e' s r => h H' v (e.trans e') s r
theorem ImD.ext {K : PySem.W.Frag} {H H1 : Hp} {D0 : WEnds} {D : Ends} (e : Ext H H1) (h : ImD D0 (finD K H D)) : ImD D0 (finD K H1 D) :=
  ⟨fun v S q => finS_ext e (h.nx v S q), fun v S q => fin_ext e (h.rt v S q), fun v S q => finS_ext e (h.bk v S q), fun v S q => finS_ext e (h.ct v S q)⟩
section
variable {B : Hp} {X : Cx} {st : Stmt} {rest : List Stmt} {t u : WS} {e : Expr} {te : WE} {pos : Pos}
/-! ### blocks and small statements -/
def wNext (D : WEnds) (σ : Sl) (S : Sta) : Prop := goS D.nx σ S
def wSeq (t u : WS) (D : WEnds) (σ : Sl) (S : Sta) : Prop := t { D with nx := u D } σ S
theorem jss_nil : JSs B X [] wNext := pss_imp pss_nil fun D σ H ⟨st, S, D0, he, hr, hs, h, im⟩ => im.nx _ _ h H σ (Ext.refl H) hs hr
theorem jss_cons (h1 : JS B X st t) (h2 : JSs B X rest u) : JSs B X (st :: rest) (wSeq t u) := pss_imp (pss_cons h1 h2) fun D σ H ⟨st, S, D0, he, hr, hs, h, im⟩ => by
  refine ⟨st, S, _, he, hr, hs, h, fun st1 S1 h1 H1 σ1 e1 s1 r1 => ?_, im.rt, im.bk, im.ct⟩
  exact ⟨st1, S1, D0, he.trans e1, r1, s1, h1, im.ext e1⟩
theorem jss_one (h1 : JS B X st t) : JSs B X [st] t := pss_one h1
def wBreak (D : WEnds) (σ : Sl) (S : Sta) : Prop := goS D.bk σ S
def wCont (D : WEnds) (σ : Sl) (S : Sta) : Prop := goS D.ct σ S
theorem js_pass : JS B X (.Pass pos) wNext := ps_imp ps_pass fun D σ H ⟨st, S, D0, he, hr, hs, h, im⟩ => im.nx _ _ h H σ (Ext.refl H) hs hr
theorem js_break : JS B X (.Break pos) wBreak := ps_imp ps_break fun D σ H ⟨st, S, D0, he, hr, hs, h, im⟩ => im.bk _ _ h H σ (Ext.refl H) hs hr
theorem js_continue : JS B X (.Continue pos) wCont := ps_imp ps_continue fun D σ H ⟨st, S, D0, he, hr, hs, h, im⟩ => im.ct _ _ h H σ (Ext.refl H) hs hr
theorem js_doc {x j pos'} : JS B X (.Expr (.Constant (.str x) j pos) pos') wNext := ps_imp ps_doc fun D σ H ⟨st, S, D0, he, hr, hs, h, im⟩ => im.nx _ _ h H σ (Ext.refl H) hs hr
def wDrop (te : WE) (D : WEnds) (σ : Sl) (S : Sta) : Prop := te σ S fun _ S1 => goS D.nx σ S1
theorem js_expr (he : JE B X e te) (hs : swapsWith e none pos.line X.env = pure false := by rfl) : JS B X (.Expr e pos) (wDrop te) := ps_imp (ps_expr he hs) fun D σ H ⟨st, S, D0, he, hr, hs, h, im⟩ =>
  ⟨st, S, _, he, hr, hs, h, fun x S1 h1 H1 v e1 s1 r1 => im.nx _ _ h1 H1 σ e1 s1 (hr.mono e1)⟩
def wRet (te : WE) (D : WEnds) (σ : Sl) (S : Sta) : Prop := te σ S D.rt
theorem js_ret (he : JE B X e te) : JS B X (.Return (some e) pos) (wRet te) := ps_imp (ps_ret he) fun D σ H ⟨st, S, D0, he, hr, hs, h, im⟩ => ⟨st, S, _, he, hr, hs, h, im.rt⟩
def wRetN (D : WEnds) (u1 : Sl) (S : Sta) : Prop := D.rt .non S
theorem js_retN : JS B X (.Return none pos) wRetN := ps_imp ps_retN fun D σ H ⟨st, S, D0, he, hr, hs, h, im⟩ => im.rt _ _ h H _ (Ext.refl H) hs .non
def wIfS (c : WT) (t u : WS) (D : WEnds) (σ : Sl) (S : Sta) : Prop := c σ S fun b S1 => wif b (t D σ S1) (u D σ S1)
theorem js_if {c : Expr} {a b : List Stmt} {tc : WT} (hc : JT B X c tc) (ha : JSs B X a t) (hb : JSs B X b u) : JS B X (.If c a b pos) (wIfS tc t u) := ps_imp (ps_if hc ha hb) fun D σ H ⟨st, S, D0, he, hr, hs, h, im⟩ => by
  refine ⟨st, S, _, he, hr, hs, h, fun k S1 h1 H1 e1 s1 => ?_⟩
  cases k with
  | true =>
    rw [if_pos rfl]
    exact ⟨st, S1, D0, he.trans e1, hr.mono e1, s1, (wt h1), im.ext e1⟩
  | false =>
    rw [if_neg Bool.false_ne_true]
    exact ⟨st, S1, D0, he.trans e1, hr.mono e1, s1, (wff h1), im.ext e1⟩
def wNever (u0 : WEnds) (u1 : Sl) (u2 : Sta) : Prop := False
theorem js_never : JS B X st wNever := ps_imp ps_never fun D σ H ⟨st, S, D0, he, hr, hs, h, im⟩ => h
theorem jss_never {sts : List Stmt} : JSs B X sts wNever := pss_imp pss_never fun D σ H ⟨st, S, D0, he, hr, hs, h, im⟩ => h

/-! ### targets; vs: the slots that a target writes -/
abbrev WG := T → Sl → Sta → (Sl → Sta → Prop) → Prop
abbrev WGs := List T → Sl → Sta → (Sl → Sta → Prop) → Prop
def finG (K : PySem.W.Frag) (vs : List Nat) (H : Hp) (σ : L2.St) (Q : L2.St → Hp → Prop) : Sl → Sta → Prop := fun st S => ∀ H' σ', Ext H H' → St K S H' → SlR K H' st σ' → wipe σ' vs = wipe σ vs → Q σ' H'
def LG (X : Cx) (vs : List Nat) (g : WG) : TG := fun v σ H Q => ∃ t st S Q0, Rep X.K H t v ∧ SlR X.K H st σ ∧ St X.K S H ∧ g t st S Q0 ∧ Im2 Q0 (finG X.K vs H σ Q)
def LGs (X : Cx) (vs : List Nat) (g : WGs) : TGs := fun v σ H Q => ∃ t st S Q0, Reps X.K H t v ∧ SlR X.K H st σ ∧ St X.K S H ∧ g t st S Q0 ∧ Im2 Q0 (finG X.K vs H σ Q)
def JG (X : Cx) (tg : Expr) (vs : List Nat) (g : WG) : Prop := PG X tg (LG X vs g)
def JGs (X : Cx) (tg : List Expr) (vs : List Nat) (g : WGs) : Prop := PGs X tg (LGs X vs g)
theorem pg_imp {e : Expr} {t t' : TG} (h : PG X e t) (k : ∀ v σ H Q, t' v σ H Q → t v σ H Q) : PG X e t' := ⟨fun pins s σ H v u Q I r q => h.run pins s σ H v u Q I r (k v σ H Q q)⟩
theorem pgs_imp {e : List Expr} {t t' : TGs} (h : PGs X e t) (k : ∀ v σ H Q, t' v σ H Q → t v σ H Q) : PGs X e t' := ⟨fun pins s σ H v u Q I r q => h.run pins s σ H v u Q I r (k v σ H Q q)⟩
theorem wipe_set_mem {v : Option V} {i : Nat} : ∀ {vs : List Nat} {σ : L2.St}, i ∈ vs → wipe (σ.set i v) vs = wipe σ vs
  | [], _, h => by cases h
  | w :: vs, σ, h => by
    unfold wipe
    by_cases hw : i = w
    · subst hw
      by_cases hm : i ∈ vs
      · rw [wipe_set_mem hm]
      · have z : ∀ {us : List Nat} {τ : L2.St}, i ∉ us → wipe (τ.set i v) us = (wipe τ us).set i v := fun {us τ} hu => by
          induction us generalizing τ with
          | nil => rfl
          | cons u us ih =>
            unfold wipe
            rw [ih (fun q => hu (List.mem_cons_of_mem _ q)), List.set_comm _ _ (fun q => hu (by rw [q]; exact List.mem_cons_self))]
        rw [z hm, List.set_set]
    · rw [wipe_set_mem ((List.mem_cons.mp h).resolve_left hw)]
def gNm (i : Nat) (v : T) (σ : Sl) (S : Sta) (Q : Sl → Sta → Prop) : Prop := Q (σ.set i (some v)) S
theorem jg_name {x : Str} {i : Nat} {vs : List Nat} (hN : X.N.Nodup) (hi : X.N[i]? = some x) (hx : Loc X.env.scope x) (hv : i ∈ vs) (hf : X.fn x = true ∨ X.env.scope.names.lookup x = some .local := by first | exact .inl rfl | exact .inr rfl | assumption) : JG X (.Name x pos) vs (gNm i) :=
  pg_imp (pg_name hN hi hx hf) fun v σ H Q ⟨t, st, S, Q0, rv, hr, hs, h, im⟩ => im _ _ h H _ (Ext.refl H) hs (hr.set rv i) (wipe_set_mem hv)
def gN0 (vs : List T) (σ : Sl) (S : Sta) (Q : Sl → Sta → Prop) : Prop := vs = [] ∧ Q σ S
def gC (t : WG) (u : WGs) (vs : List T) (σ : Sl) (S : Sta) (Q : Sl → Sta → Prop) : Prop := match vs with
  | v :: r => t v σ S fun σ' S' => u r σ' S' Q
  | [] => False
theorem jgs_nil {vs : List Nat} : JGs X [] vs gN0 := pgs_imp pgs_nil fun v σ H Q ⟨t, st, S, Q0, rv, hr, hs, h, im⟩ => by
  obtain ⟨e, h⟩ := h
  subst e
  cases rv
  exact ⟨rfl, im _ _ h H _ (Ext.refl H) hs hr rfl⟩
theorem jgs_cons {es : List Expr} {vs : List Nat} {t : WG} {u : WGs} (h1 : JG X e vs t) (h2 : JGs X es vs u)
    (hs : (assignEach (e :: es) X.env).map (·.2) = assign e X.env :: (assignEach es X.env).map (·.2) := by rfl) : JGs X (e :: es) vs (gC t u) := pgs_imp (pgs_cons h1 h2 hs) fun v σ H Q ⟨ts, st, S, Q0, rv, hr, hs, h, im⟩ => by
  cases ts with
  | nil => exact h.elim
  | cons x ts =>
    cases rv with
    | cons r1 r2 =>
      refine ⟨_, _, rfl, x, st, S, _, r1, hr, hs, h, fun st1 S1 h1 H1 σ1 e1 s1 q1 w1 => ?_⟩
      refine ⟨ts, st1, S1, Q0, Reps.mono e1 _ _ r2, q1, s1, h1, fun st2 S2 h2 H2 σ2 e2 s2 q2 w2 => ?_⟩
      exact im _ _ h2 H2 σ2 (e1.trans e2) s2 q2 (w2.trans w1)
def gTp (n : Nat) (u : WGs) (v : T) (σ : Sl) (S : Sta) (Q : Sl → Sta → Prop) : Prop := match v with
  | .tup ts => ts.length = n ∧ u ts σ S Q
  | _ => False
theorem jg_tup {es : List Expr} {k : Nat} {n : Nat} {vs : List Nat} {u : WGs} (hc : X.calm = true) (h : JGs X es vs u)
    (hn : (assignEach es X.env).length = n := by rfl) (hst : (assignEach es X.env).findIdx? (·.1) = none := by rfl) : JG X (.Tuple es k pos) vs (gTp n u) := pg_imp (pg_tup hc h hn hst) fun v σ H Q ⟨t, st, S, Q0, rv, hr, hs, h, im⟩ => by
  cases t with
  | tup ts =>
    cases rv with
    | @tup a xs _ g10 g2 => exact (fun g1 => by exact ⟨a, xs, rfl, g1, by rw [← g2.length]; exact h.1, ts, st, S, Q0, g2, hr, hs, h.2, im⟩) (sqT_of g10)
  | _ => exact h.elim
/-- o[i] = v -/
def rSet : T → T → T → Sta → (Sta → Prop) → Prop := fun o i v S Q => match o, i with
  | .ref p, .int k => ∃ xs, S p = some (.lst xs) ∧ ∃ j, ixN xs.length k = some j ∧ Q (upS S p (.lst (xs.set j v)))
  | _, _ => False
def L3t (K : PySem.W.Frag) (r : T → T → T → Sta → (Sta → Prop) → Prop) : TSet := fun o i v H Q => ∃ a b c S Q0, Rep K H a o ∧ Rep K H b i ∧ Rep K H c v ∧ St K S H ∧ r a b c S Q0 ∧ ∀ S', Q0 S' → ∀ H', Ext H H' → St K S' H' → Q H'
theorem set_T : PSet X (L3t X.K rSet) := by
  intro pins s σ H o i v ov iv u Q I ro ri rv ⟨a, b, c, S, Q0, ra, rb, rc, hs, q, im⟩
  cases a with
  | ref p =>
    cases b with
    | int k =>
      obtain ⟨xs, e1, j, e2, q⟩ := q
      cases ra
      cases rb
      obtain ⟨ys, h1, h2⟩ := hs p _ e1
      obtain ⟨e3, s3⟩ := hs.setL h1 (h2.set rc j)
      exact set_list pins s σ H _ _ v ov iv u Q I ro ri rv ⟨p, ys, k, j, rfl, rfl, h1, by rw [← h2.length]; exact e2, im _ q _ e3 s3⟩
    | _ => exact q.elim
  | _ => exact q.elim
def gIx (to ti : WE) (v : T) (σ : Sl) (S : Sta) (Q : Sl → Sta → Prop) : Prop := to σ S fun o S1 => ti σ S1 fun i S2 => rSet o i v S2 fun S3 => Q σ S3
/-- only where the entry's Ext is at hand: a statement's target -/
def LG2 (B : Hp) (X : Cx) (g : WG) : TG := fun v σ H Q => ∃ t st S Q0, Ext B H ∧ Rep X.K H t v ∧ SlR X.K H st σ ∧ St X.K S H ∧ g t st S Q0 ∧ Im2 Q0 (finS X.K H Q)
def JG2 (B : Hp) (X : Cx) (tg : Expr) (g : WG) : Prop := PG X tg (LG2 B X g)
theorem JG.two {tg : Expr} {vs : List Nat} {g : WG} (h : JG X tg vs g) : JG2 B X tg g := pg_imp h fun v σ H Q ⟨t, st, S, Q0, he, rv, hr, hs, h, im⟩ => ⟨t, st, S, Q0, rv, hr, hs, h, fun st1 S1 h1 H1 σ1 e1 s1 r1 _ => im _ _ h1 H1 σ1 e1 s1 r1⟩
theorem jg_ix {o i : Expr} {to ti : WE} (ho : JE B X o to) (hi : JE B X i ti)
    (ha : ∀ v, assign (.Subscript o i pos) X.env v = (do
      let ov ← holding [v] (eval o X.env)
      let iv ← holding [v, ov] (eval i X.env)
      standAt pos
      holding [v, ov, iv] (setItem ov iv v)
      release [v, ov, iv] []) := by intro _; rfl) : JG2 B X (.Subscript o i pos) (gIx to ti) := pg_imp (pg_sub ho hi set_T ha) fun v σ H Q ⟨t, st, S, Q0, he, rv, hr, hs, h, im⟩ => by
  refine ⟨st, S, _, he, hr, hs, h, fun x S1 h1 H1 v1 e1 s1 r1 => ?_⟩
  refine ⟨st, S1, _, he.trans e1, hr.mono e1, s1, h1, fun y S2 h2 H2 v2 e2 s2 r2 => ?_⟩
  exact ⟨x, y, t, S2, _, Rep.mono e2 _ _ r1, r2, Rep.mono (e1.trans e2) _ _ rv, s2, h2, fun S3 q H3 e3 s3 => im _ _ q H3 σ (e1.trans (e2.trans e3)) s3 (hr.mono (e1.trans (e2.trans e3)))⟩
def wAsg (te : WE) (g : WG) (D : WEnds) (σ : Sl) (S : Sta) : Prop := te σ S fun x S1 => g x σ S1 (goS D.nx)
theorem js_asg {tg : Expr} {g : WG} (he : JE B X e te) (hg : JG2 B X tg g) (hs : swapsWithSole [tg] e pos.line X.env = pure false := by rfl) (hw : swappedStores [tg] e X.env = pure none := by rfl)
    (h1 : (assignEach [tg] X.env).map (·.2) = [assign tg X.env] := by rfl) : JS B X (.Assign [tg] e pos) (wAsg te g) := ps_imp (ps_asg he hg hs hw h1) fun D σ H ⟨st, S, D0, he, hr, hs, h, im⟩ => by
  refine ⟨st, S, _, he, hr, hs, h, fun x S1 h1 H1 v1 e1 s1 r1 => ?_⟩
  exact ⟨x, st, S1, D0.nx, he.trans e1, r1, hr.mono e1, s1, h1, fun a S2 q => finS_ext e1 (im.nx a S2 q)⟩
def wSet (i : Nat) (te : WE) (D : WEnds) (σ : Sl) (S : Sta) : Prop := te σ S fun x S1 => goS D.nx (σ.set i (some x)) S1
theorem js_set {i : Nat} {x : Str} {pos' : Pos} (hN : X.N.Nodup) (hi : X.N[i]? = some x) (hx : Loc X.env.scope x) (he : JE B X e te) (hs : swapsWith e (some (.Name x pos')) pos.line X.env = pure false := by rfl) (hf : X.fn x = true ∨ X.env.scope.names.lookup x = some .local := by first | exact .inl rfl | exact .inr rfl | assumption) :
    JS B X (.Assign [.Name x pos'] e pos) (wSet i te) := ps_imp (ps_set hN hi hx he hs hf) fun D σ H ⟨st, S, D0, he, hr, hs, h, im⟩ => by
  refine ⟨st, S, _, he, hr, hs, h, fun x S1 h1 H1 v1 e1 s1 r1 => ?_⟩
  exact im.nx _ _ h1 H1 _ e1 s1 ((hr.mono e1).set r1 i)
/-- x op= e, a name -/
def wAug (i : Nat) (r : R3) (te : WE) (D : WEnds) (σ : Sl) (S : Sta) : Prop := ∃ x, σ[i]? = some (some x) ∧ te σ S fun y S1 => r x y S1 fun z S2 => goS D.nx (σ.set i (some z)) S2
theorem js_aug {i : Nat} {x : Str} {op : Operator} {r : R3} {pos' : Pos} (hN : X.N.Nodup) (hi : X.N[i]? = some x) (hx : Loc X.env.scope x) (he : JE B X e te) (ho : OpT X (inplaceOp op) r) (hf : X.fn x = true ∨ X.env.scope.names.lookup x = some .local := by first | exact .inl rfl | exact .inr rfl | assumption) :
    JS B X (.AugAssign (.Name x pos') op e pos) (wAug i r te) := ps_imp (ps_aug (ti := L3 X.K r) hN hi hx he (fun pins s σ H x y v u Q I rx ry q => ho pins s σ H x y v u Q I rx ry q) hf) fun D σ H ⟨st, S, D0, he, hr, hs, h, im⟩ => by
  obtain ⟨y, e1, h⟩ := h
  obtain ⟨v, g1, g2⟩ := hr.2 i y e1
  refine ⟨v, g1, st, S, _, he, hr, hs, h, fun x S1 h1 H1 v1 e1 s1 r1 => ?_⟩
  exact ⟨y, x, S1, _, Rep.mono e1 _ _ g2, r1, s1, h1, fun z S2 q H2 w e2 s2 r2 => im.nx _ _ q H2 _ (e1.trans e2) s2 ((hr.mono (e1.trans e2)).set r2 i)⟩

/-! ### while -/
def wWhile (c : WT) (tb : WS) (D : WEnds) (σ : Sl) (S : Sta) : Prop := ∃ W : Nat → Sl → Sta → Prop, (∃ m, W m σ S) ∧ ∀ m σ S, W m σ S →
  c σ S fun b S1 => wif b (tb { D with nx := fun σ' S' => ∃ m', m' < m ∧ W m' σ' S', ct := fun σ' S' => ∃ m', m' < m ∧ W m' σ' S', bk := D.nx } σ S1) (D.nx σ S1)
theorem js_while {c : Expr} {body : List Stmt} {tc : WT} {tb : WS} (hp : PassesOwn (model X.prog X.w) X.A X.env X.xe) (hc : JT B X c tc) (hb : JSs B X body tb) : JS B X (.While c body [] pos) (wWhile tc tb) :=
  ps_imp (ps_while hp hc hb) fun D σ H ⟨st, S, D0, he, hr, hs, h, im⟩ => by
    obtain ⟨W, ⟨m, w0⟩, turn⟩ := h
    refine ⟨fun m σ' H' => ∃ st' S', Ext H H' ∧ SlR X.K H' st' σ' ∧ St X.K S' H' ∧ W m st' S', ⟨m, st, S, Ext.refl H, hr, hs, w0⟩, fun m σ1 H1 ⟨st1, S1, e1, r1, s1, w1⟩ => ?_⟩
    refine ⟨st1, S1, _, he.trans e1, r1, s1, turn m st1 S1 w1, fun k S2 h2 H2 e2 s2 => ?_⟩
    cases k with
    | true =>
      rw [if_pos rfl]
      have nx : ∀ st3 S3, (∃ m', m' < m ∧ W m' st3 S3) → finS X.K H2 (fun σ' H' => ∃ m', m' < m ∧ ∃ st' S', Ext H H' ∧ SlR X.K H' st' σ' ∧ St X.K S' H' ∧ W m' st' S') st3 S3 := fun st3 S3 ⟨m', hm, w3⟩ H3 σ3 e3 s3 r3 =>
        ⟨m', hm, st3, S3, e1.trans (e2.trans e3), r3, s3, w3⟩
      refine ⟨_, fun σ' H' q => q, st1, S2, _, he.trans (e1.trans e2), r1.mono e2, s2, (wt h2), ⟨nx, fun v S3 q => fin_ext (e1.trans e2) (im.rt v S3 q), fun a S3 q => finS_ext (e1.trans e2) (im.nx a S3 q), nx⟩⟩
    | false =>
      rw [if_neg Bool.false_ne_true]
      exact im.nx _ _ (wff h2) H2 _ (e1.trans e2) s2 (r1.mono e2)

/-! ### what a loop walks: its items, and what must stay true of the state -/
abbrev WI := Sl → Sta → (List T → (Sta → Prop) → Sta → Prop) → Prop
/-- the iterator yields just these -/
def Yields (K : PySem.W.Frag) (xs : List T) (stb : Sta → Prop) (H1 : Hp) (J : It) : Prop :=
  ∀ i S H, Ext H1 H → St K S H → stb S → (i < xs.length → J.go i H) ∧ (xs.length ≤ i → J.stop i H) ∧ ∀ x H', J.yld i H x H' → i < xs.length → Ext H H' ∧ St K S H' ∧ (∀ st σ, SlR K H st σ → SlR K H' st σ) ∧ ∃ t, xs[i]? = some t ∧ Rep K H' t x
def LI (B : Hp) (X : Cx) (w : WI) : TI := fun σ H R => ∃ st S Q0, Ext B H ∧ SlR X.K H st σ ∧ St X.K S H ∧ w st S Q0 ∧ ∀ xs stb S1, Q0 xs stb S1 → ∀ H1, Ext H H1 → St X.K S1 H1 → ∀ J, Yields X.K xs stb H1 J → R J H1
def JI (B : Hp) (X : Cx) (tg iter : Expr) (w : WI) : Prop := PI X tg iter (LI B X w)
theorem pi_imp {tg e : Expr} {t t' : TI} (h : PI X tg e t) (k : ∀ σ H Q, t' σ H Q → t σ H Q) : PI X tg e t' := ⟨fun pins s σ H R I q => h.run pins s σ H R I (k σ H R q)⟩
def iTupW (te : WE) (σ : Sl) (S : Sta) (R : List T → (Sta → Prop) → Sta → Prop) : Prop := te σ S fun x S1 => match x with
  | .tup ts => R ts (fun _ => True) S1
  | _ => False
theorem ji_tup {tg : Expr} (he : JE B X e te) : JI B X tg e (iTupW te) := pi_imp (pi_tup he) fun σ H R ⟨st, S, Q0, he, hr, hs, h, im⟩ => by
  refine ⟨st, S, _, he, hr, hs, h, fun x S1 h1 H1 v1 e1 s1 r1 => ?_⟩
  cases x with
  | tup ts =>
    cases r1 with
    | @tup a xs _ g10 g2 =>
      have g1 := sqT_of (K := X.K) g10
      refine ⟨a, rfl, ⟨xs, g1⟩, im _ _ _ h1 H1 e1 s1 _ fun i S2 H2 e2 s2 _ => ⟨fun hi => ?_, fun hi => ⟨xs, e2.sqT g1, by rw [← g2.length]; exact hi⟩, fun x H' y hi => ?_⟩⟩
      · obtain ⟨v, g3, _⟩ := g2.get (List.getElem?_eq_getElem hi)
        exact ⟨xs, v, e2.sqT g1, g3⟩
      · obtain ⟨eH, y⟩ := y
        subst eH
        obtain ⟨v, g3, g4⟩ := g2.get (List.getElem?_eq_getElem hi)
        have ev : x = v := Option.some.inj ((y xs (e2.sqT g1)).symm.trans g3)
        subst ev
        exact ⟨Ext.refl _, s2, fun _ _ q => q, _, List.getElem?_eq_getElem hi, Rep.mono e2 _ _ g4⟩
  | _ => exact h1.elim
/-- a list: it must stand as it is through the loop -/
def iLstW (te : WE) (σ : Sl) (S : Sta) (R : List T → (Sta → Prop) → Sta → Prop) : Prop := te σ S fun x S1 => match x with
  | .fl ts => R ts (fun _ => True) S1
  | .ref p => ∃ ts, S1 p = some (.lst ts) ∧ R ts (fun S' => S' p = some (.lst ts)) S1
  | _ => False
theorem ji_lst {tg : Expr} (he : JE B X e te) : JI B X tg e (iLstW te) := pi_imp (pi_list he) fun σ H R ⟨st, S, Q0, he, hr, hs, h, im⟩ => by
  refine ⟨st, S, _, he, hr, hs, h, fun x S1 h1 H1 v1 e1 s1 r1 => ?_⟩
  cases x with
  | fl ts =>
    cases r1 with
    | @fl a xs _ g1 g2 =>
      refine ⟨a, rfl, ⟨xs, g1.sq⟩, im _ _ _ h1 H1 e1 s1 _ fun i S2 H2 e2 s2 _ => ⟨fun hi => ?_, fun hi => ⟨xs, (e2.fzL g1).sq, by rw [← g2.length]; exact hi⟩, fun x H' y hi => ?_⟩⟩
      · obtain ⟨v, g3, _⟩ := g2.get (List.getElem?_eq_getElem hi)
        exact ⟨xs, v, (e2.fzL g1).sq, g3⟩
      · obtain ⟨eH, y⟩ := y
        subst eH
        obtain ⟨v, g3, g4⟩ := g2.get (List.getElem?_eq_getElem hi)
        have ev : x = v := Option.some.inj ((y xs ((e2.fzL g1).sq)).symm.trans g3)
        subst ev
        exact ⟨Ext.refl _, s2, fun _ _ q => q, _, List.getElem?_eq_getElem hi, Rep.mono e2 _ _ g4⟩
  | ref p =>
    obtain ⟨ts, eS, h1⟩ := h1
    cases r1
    obtain ⟨xs0, g10, g20⟩ := s1 p _ eS
    refine ⟨p, rfl, ⟨xs0, .inl (.inl g10)⟩, im _ _ _ h1 H1 e1 s1 _ fun i S2 H2 e2 s2 stb => ?_⟩
    obtain ⟨xs, g1, g2⟩ := s2 p _ stb
    refine ⟨fun hi => ?_, fun hi => ⟨xs, .inl (.inl g1), by rw [← g2.length]; exact hi⟩, fun x H' y hi => ?_⟩
    · obtain ⟨v, g3, _⟩ := g2.get (List.getElem?_eq_getElem hi)
      exact ⟨xs, v, .inl (.inl g1), g3⟩
    · obtain ⟨eH, y⟩ := y
      subst eH
      obtain ⟨v, g3, g4⟩ := g2.get (List.getElem?_eq_getElem hi)
      have ev : x = v := Option.some.inj ((y xs (.inl (.inl g1))).symm.trans g3)
      subst ev
      exact ⟨Ext.refl _, s2, fun _ _ q => q, _, List.getElem?_eq_getElem hi, g4⟩
  | _ => exact h1.elim
/-- range -/
def rangeT (lo : Int) (n : Nat) : List T := (List.range n).map fun (i : Nat) => T.int (lo + (i : Int))
theorem range_yields {K : PySem.W.Frag} {H : Hp} (lo : Int) (n : Nat) : Yields K (rangeT lo n) (fun _ => True) H (Itr lo n) := fun i S H1 e1 s1 _ => by
  have hl : (rangeT lo n).length = n := by unfold rangeT; rw [List.length_map, List.length_range]
  refine ⟨fun hi => by rw [hl] at hi; exact hi, fun hi => by rw [hl] at hi; exact hi, fun x H' y hi => ?_⟩
  obtain ⟨eH, ex⟩ := y
  subst eH ex
  rw [hl] at hi
  refine ⟨Ext.refl _, s1, fun _ _ q => q, .int (lo + (i : Int)), ?_, .int _⟩
  unfold rangeT
  rw [List.getElem?_map, List.getElem?_range hi]
  rfl
def iRg1 (ta : WA) (σ : Sl) (S : Sta) (R : List T → (Sta → Prop) → Sta → Prop) : Prop := ta σ S fun xs S1 => match xs with
  | [.int j] => -(2 ^ 62) ≤ j ∧ j < 2 ^ 62 ∧ R (rangeT 0 j.toNat) (fun _ => True) S1
  | _ => False
def iRg2 (ta : WA) (σ : Sl) (S : Sta) (R : List T → (Sta → Prop) → Sta → Prop) : Prop := ta σ S fun xs S1 => match xs with
  | [.int i, .int j] => (-(2 ^ 62) ≤ i ∧ i < 2 ^ 62 ∧ -(2 ^ 62) ≤ j ∧ j < 2 ^ 62) ∧ R (rangeT i (j - i).toNat) (fun _ => True) S1
  | _ => False
theorem ji_rg1 {tg a : Expr} {ta : WA} {p : Pos} (hg : Gl X "range") (hm : X.mg "range" = none) (ha : JA B X [a] ta) (hs : starEach [a] X.env = [(false, eval a X.env)] := by rfl) : JI B X tg (.Call (.Name "range" p) [a] [] pos) (iRg1 ta) :=
  pi_imp (pi_range1 hg hm ha hs) fun σ H R ⟨st, S, Q0, he, hr, hs, h, im⟩ => by
    refine ⟨st, S, _, he, hr, hs, h, fun xs S1 h1 H1 v1 e1 s1 r1 => ?_⟩
    match xs, h1 with
    | [.int j], h1 =>
      obtain ⟨v, rfl, r2⟩ := r1.one
      cases r2
      exact ⟨j, rfl, h1.1, h1.2.1, im _ _ _ h1.2.2 H1 e1 s1 _ (range_yields 0 j.toNat)⟩
theorem ji_rg2 {tg a b : Expr} {ta : WA} {p : Pos} (hg : Gl X "range") (hm : X.mg "range" = none) (ha : JA B X [a, b] ta) (hs : starEach [a, b] X.env = [(false, eval a X.env), (false, eval b X.env)] := by rfl) (hs2 : starEach [b] X.env = [(false, eval b X.env)] := by rfl) : JI B X tg (.Call (.Name "range" p) [a, b] [] pos) (iRg2 ta) :=
  pi_imp (pi_range2 hg hm ha hs hs2) fun σ H R ⟨st, S, Q0, he, hr, hs, h, im⟩ => by
    refine ⟨st, S, _, he, hr, hs, h, fun xs S1 h1 H1 v1 e1 s1 r1 => ?_⟩
    match xs, h1 with
    | [.int i, .int j], h1 =>
      obtain ⟨v, w, rfl, r2, r3⟩ := r1.two
      cases r2
      cases r3
      exact ⟨i, j, rfl, h1.1, im _ _ _ h1.2 H1 e1 s1 _ (range_yields i (j - i).toNat)⟩
/-- .. -/
def loopW (g : WG) (tb : WS) (stb : Sta → Prop) (D : WEnds) : List T → Sl → Sta → Prop
  | [], σ, S => stb S ∧ D.nx σ S
  | x :: xs, σ, S => stb S ∧ g x σ S fun σ2 S2 => tb { D with nx := loopW g tb stb D xs, ct := loopW g tb stb D xs, bk := D.nx } σ2 S2
def wFor (wi : WI) (g : WG) (tb : WS) (D : WEnds) (σ : Sl) (S : Sta) : Prop := wi σ S fun xs stb S1 => loopW g tb stb D xs σ S1
theorem loopW_stb {g : WG} {tb : WS} {stb : Sta → Prop} {D : WEnds} {xs : List T} {σ : Sl} {S : Sta} (h : loopW g tb stb D xs σ S) : stb S := by
  cases xs <;> exact h.1
theorem js_for {tg iter : Expr} {body : List Stmt} {wi : WI} {g : WG} {vs : List Nat} {tb : WS} (hp : PassesOwn (model X.prog X.w) X.A X.env X.xe) (hc : X.calm = true) (hi : JI B X tg iter wi) (hg : JG X tg vs g) (hb : JSs B X body tb)
    (hs : ∀ x, foldedSetIterable iter X.env x = pure x := by intro _; rfl) : JS B X (.For tg iter body [] pos) (wFor wi g tb) := ps_imp (ps_for hp hc hi hg hb hs) fun D σ H ⟨st, S, D0, he, hr, hs, h, im⟩ => by
  refine ⟨st, S, _, he, hr, hs, h, fun xs stb S1 h1 H1 e1 s1 J yl => ?_⟩
  refine ⟨fun i m σ' H' => m = xs.length - i ∧ i ≤ xs.length ∧ ∃ st' S', Ext H1 H' ∧ SlR X.K H' st' σ' ∧ St X.K S' H' ∧ loopW g tb stb D0 (xs.drop i) st' S', ⟨xs.length, by omega, Nat.zero_le _, st, S1, Ext.refl _, hr.mono e1, s1, h1⟩, fun i m σ2 H2 hW => ?_⟩
  obtain ⟨hm, hi, st2, S2, e2, r2, s2, h2⟩ := hW
  obtain ⟨y1, y2, y3⟩ := yl i S2 H2 e2 s2 (loopW_stb h2)
  by_cases hlt : i < xs.length
  · refine .inr ⟨y1 hlt, fun σ' H' => ∃ st' S', Ext H1 H' ∧ SlR X.K H' st' σ' ∧ St X.K S' H' ∧ loopW g tb stb D0 (xs.drop (i + 1)) st' S', fun σ' H' q => ⟨m - 1, by omega, by omega, by omega, q⟩, fun x H3 hy => ?_⟩
    obtain ⟨e3, s3, sl3, t, et, rt⟩ := y3 x H3 hy hlt
    have r3 := sl3 _ _ r2
    rw [List.drop_eq_getElem_cons hlt] at h2
    have et' : xs[i] = t := by rw [List.getElem?_eq_getElem hlt] at et; exact Option.some.inj et
    rw [et'] at h2
    refine ⟨t, st2, S2, _, rt, r3, s3, h2.2, fun st4 S4 h4 H4 σ4 e4 s4 r4 _ => ?_⟩
    have eb : Ext H1 H4 := e2.trans (e3.trans e4)
    have nx : ∀ st5 S5, loopW g tb stb D0 (xs.drop (i + 1)) st5 S5 → finS X.K H4 (fun σ' H' => ∃ st' S', Ext H1 H' ∧ SlR X.K H' st' σ' ∧ St X.K S' H' ∧ loopW g tb stb D0 (xs.drop (i + 1)) st' S') st5 S5 := fun st5 S5 h5 H5 σ5 e5 s5 r5 => ⟨st5, S5, eb.trans e5, r5, s5, h5⟩
    exact ⟨st4, S4, _, he.trans (e1.trans eb), r4, s4, h4, ⟨nx, fun v S5 q => fin_ext (e1.trans eb) (im.rt v S5 q), fun a S5 q => finS_ext (e1.trans eb) (im.nx a S5 q), nx⟩⟩
  · have ei : i = xs.length := by omega
    subst ei
    rw [List.drop_length] at h2
    exact .inl ⟨y2 (Nat.le_refl _), im.nx _ _ h2.2 H2 σ2 (e1.trans e2) s2 r2⟩
end
end Wp

set_option Elab.async false
set_option linter.all false
set_option maxRecDepth 100000
/-! comprehensions, calls, defs, a law's end -/
namespace Wp
open PySem PySem.Spec PyProof.Rows L2
def wipeT (σ : Sl) : List Nat → Sl
  | [] => σ
  | v :: vs => (wipeT σ vs).set v none
theorem SlR.wipe {K : PySem.W.Frag} {H : Hp} {st : Sl} {σ : L2.St} (h : SlR K H st σ) : ∀ vs : List Nat, SlR K H (wipeT st vs) (L2.wipe σ vs)
  | [] => h
  | v :: vs => by
    have ih := SlR.wipe h vs
    unfold wipeT L2.wipe
    refine ⟨by rw [List.length_set, List.length_set]; exact ih.1, fun j u q => ?_⟩
    by_cases hj : v = j
    · subst hj
      by_cases hl : v < (wipeT st vs).length
      · rw [List.getElem?_set_self hl] at q
        cases q
      · rw [List.getElem?_eq_none (by rw [List.length_set]; omega)] at q
        cases q
    · rw [List.getElem?_set_ne hj] at q
      obtain ⟨w, e1, e2⟩ := ih.2 j u q
      exact ⟨w, by rw [List.getElem?_set_ne hj]; exact e1, e2⟩
section
variable {B : Hp} {X : Cx} {pos : Pos}
def wYes (u0 : Sl) (S : Sta) (Q : Bool → Sta → Prop) : Prop := Q true S
def JTs (B : Hp) (X : Cx) (ifs : List Expr) (t : WT) : Prop := PTs X ifs (LT B X t)
theorem pts_imp {ifs : List Expr} {t t' : TT} (h : PTs X ifs t) (k : ∀ σ H Q, t' σ H Q → t σ H Q) : PTs X ifs t' := ⟨fun pins s σ H Q I q => h.run pins s σ H Q I (k σ H Q q)⟩
theorem jts_nil : JTs B X [] wYes := pts_imp pts_nil fun σ H Q ⟨st, S, Q0, he, hr, hs, h, im⟩ => im _ _ h H (Ext.refl H) hs
theorem jts_one {c : Expr} {t : WT} (h : JT B X c t) : JTs B X [c] t := pts_one h
def compW (g : WG) (tt : WT) (te : WE) (stb : Sta → Prop) (σ : Sl) (D : Addr) (Q : T → Sta → Prop) : List T → Sta → Prop
  | [], S => stb S ∧ Q (.ref D) S
  | x :: xs, S => stb S ∧ g x σ S fun σ2 S2 => tt σ2 S2 fun b S3 => wif b (te σ2 S3 fun y S4 => ∃ acc, S4 D = some (.lst acc) ∧ acc.length < sizeLine ∧ compW g tt te stb σ D Q xs (upS S4 D (.lst (acc ++ [y])))) (compW g tt te stb σ D Q xs S3)
def wLc (wi : WI) (g : WG) (tt : WT) (te : WE) (vs : List Nat) (σ : Sl) (S : Sta) (Q : T → Sta → Prop) : Prop := wi σ S fun xs stb S1 => ∀ D, S1 D = none → compW g tt te stb (wipeT σ vs) D Q xs (upS S1 D (.lst []))
theorem compW_stb {g : WG} {tt : WT} {te : WE} {stb : Sta → Prop} {σ : Sl} {D : Addr} {Q : T → Sta → Prop} {xs : List T} {S : Sta} (h : compW g tt te stb σ D Q xs S) : stb S := by
  cases xs <;> exact h.1
theorem le_lc {wi : WI} {g : WG} {tt : WT} {te : WE} {vs : List Nat} {σ : L2.St} {H : Hp} {Q : VK} (h : LE B X (wLc wi g tt te vs) σ H Q) : tLc (LI B X wi) (LG X vs g) (LT B X tt) (LE B X te) vs σ H Q := by
  obtain ⟨st, S, Q0, he, hr, hs, h, im⟩ := h
  refine ⟨st, S, _, he, hr, hs, h, fun xs stb S1 h1 H1 e1 s1 J yl => ?_⟩
  intro D hD
  obtain ⟨eD, sD⟩ := s1.newL (ts := []) hD .nil
  refine ⟨fun i m H' => m = xs.length - i ∧ i ≤ xs.length ∧ ∃ S', Ext H1 H' ∧ St X.K S' H' ∧ compW g tt te stb (wipeT st vs) D Q0 (xs.drop i) S', ⟨xs.length, by omega, Nat.zero_le _, _, eD, sD, h1 D (s1.free hD)⟩, fun i m H2 hW => ?_⟩
  obtain ⟨hm, hi, S2, e2, s2, h2⟩ := hW
  obtain ⟨y1, y2, y3⟩ := yl i S2 H2 e2 s2 (compW_stb h2)
  by_cases hlt : i < xs.length
  · refine .inr ⟨y1 hlt, fun H' => ∃ S', Ext H1 H' ∧ St X.K S' H' ∧ compW g tt te stb (wipeT st vs) D Q0 (xs.drop (i + 1)) S', fun H' q => ⟨m - 1, by omega, by omega, by omega, q⟩, fun x H3 hy => ?_⟩
    obtain ⟨e3, s3, sl3, t, et, rt⟩ := y3 x H3 hy hlt
    have r2 : SlR X.K H2 (wipeT st vs) (L2.wipe σ vs) := ((hr.mono e1).mono e2).wipe vs
    have r3 := sl3 _ _ r2
    rw [List.drop_eq_getElem_cons hlt] at h2
    have et' : xs[i] = t := by rw [List.getElem?_eq_getElem hlt] at et; exact Option.some.inj et
    rw [et'] at h2
    refine ⟨t, wipeT st vs, S2, _, rt, r3, s3, h2.2, fun st4 S4 h4 H4 σ4 e4 s4 r4 w4 => ?_⟩
    have ww : L2.wipe (L2.wipe σ vs) vs = L2.wipe σ vs := by
      have key : ∀ (us ws : List Nat) (τ : L2.St), (∀ i ∈ us, i ∈ ws) → L2.wipe (L2.wipe τ ws) us = L2.wipe τ ws := fun us => by
        induction us with
        | nil => intro ws τ _; rfl
        | cons u us ih =>
          intro ws τ hu
          show (L2.wipe (L2.wipe τ ws) us).set u none = L2.wipe τ ws
          rw [ih ws τ fun i hi => hu i (List.mem_cons_of_mem _ hi)]
          have hmem := hu u List.mem_cons_self
          have set_none : ∀ (ws : List Nat), u ∈ ws → (L2.wipe τ ws).set u none = L2.wipe τ ws := fun ws => by
            induction ws with
            | nil => intro h; cases h
            | cons w ws ih2 =>
              intro h
              show ((L2.wipe τ ws).set w none).set u none = (L2.wipe τ ws).set w none
              by_cases hw : u = w
              · subst hw; rw [List.set_set]
              · rw [List.set_comm _ _ (fun z => hw z.symm), ih2 ((List.mem_cons.mp h).resolve_left hw)]
          exact set_none ws hmem
      exact key vs vs σ fun i hi => hi
    refine ⟨w4.trans ww, ?_⟩
    have eb : Ext H1 H4 := e2.trans (e3.trans e4)
    refine ⟨st4, S4, _, he.trans (e1.trans eb), r4, s4, h4, fun b S5 h5 H5 e5 s5 => ?_⟩
    cases b with
    | true =>
      rw [if_pos rfl]
      refine ⟨st4, S5, _, he.trans (e1.trans (eb.trans e5)), r4.mono e5, s5, (wt h5), fun y S6 h6 H6 v6 e6 s6 r6 => ?_⟩
      obtain ⟨acc, ea, hl, h6⟩ := h6
      obtain ⟨ys, g1, g2⟩ := s6 D _ ea
      obtain ⟨e7, s7⟩ := s6.setL g1 (Reps.append g2 (.cons r6 .nil))
      exact ⟨ys, g1, by rw [← g2.length]; exact hl, _, (eb.trans e5).trans (e6.trans e7), s7, h6⟩
    | false =>
      rw [if_neg Bool.false_ne_true]
      exact ⟨S5, eb.trans e5, s5, (wff h5)⟩
  · have ei : i = xs.length := by omega
    subst ei
    rw [List.drop_length] at h2
    exact .inl ⟨y2 (Nat.le_refl _), im _ _ h2.2 H2 _ (e1.trans e2) s2 (.ref D)⟩
theorem j_lc {elt tg iter : Expr} {ifs : List Expr} {scope : Scope} {own : List (Str × Nat)} {wi : WI} {g : WG} {tt : WT} {te : WE} (hc : X.calm = true) (hN : X.N.Nodup) (hi : JI B X tg iter wi) (ok : BlkOk X.N X.env.scope scope own)
    (hg : ∀ (s : Shared) (H : Hp) (C : Addr) (cl : List (Str × Addr)) (fp : List Addr), JG (X.blk s H scope (compEnvC scope cl C X.env) fp) tg (own.map (·.2)) g) (ht : ∀ (s : Shared) (H : Hp) (C : Addr) (cl : List (Str × Addr)) (fp : List Addr), JTs B (X.blk s H scope (compEnvC scope cl C X.env) fp) ifs tt)
    (he : ∀ (s : Shared) (H : Hp) (C : Addr) (cl : List (Str × Addr)) (fp : List Addr), JE B (X.blk s H scope (compEnvC scope cl C X.env) fp) elt te) (hs : ∀ x, foldedSetIterable iter X.env x = pure x := by intro _; rfl) :
    JE B X (.ListComp elt [⟨tg, iter, ifs, 0⟩] scope pos) (wLc wi g tt te (own.map (·.2))) := pe_imp (pe_lc (g := LG X (own.map fun (p : Str × Nat) => p.2) g) (tt := LT B X tt) (te := LE B X te) hc hN hi ok (fun s H C cl fp => hg s H C cl fp) (fun s H C cl fp => ht s H C cl fp) (fun s H C cl fp => he s H C cl fp) hs) fun σ H Q h => le_lc h
/-- name = [..] on one line -/
theorem js_setLc {i : Nat} {y : Str} {py : Pos} {elt tg iter : Expr} {ifs : List Expr} {scope : Scope} {own : List (Str × Nat)} {spos : Pos} {wi : WI} {g : WG} {tt : WT} {te : WE} (hc : X.calm = true) (hN : X.N.Nodup) (hy : X.N[i]? = some y) (hyl : X.env.scope.names.lookup y = some .local)
    (hsw : swapsWith (.ListComp elt [⟨tg, iter, ifs, 0⟩] scope pos) (some (.Name y py)) spos.line X.env = pure true) (hi : JI B X tg iter wi) (ok : BlkOk X.N X.env.scope scope own)
    (hg : ∀ (s : Shared) (H : Hp) (C : Addr) (cl : List (Str × Addr)) (fp : List Addr), JG (X.blk s H scope (compEnvC scope cl C X.env) fp) tg (own.map (·.2)) g) (ht : ∀ (s : Shared) (H : Hp) (C : Addr) (cl : List (Str × Addr)) (fp : List Addr), JTs B (X.blk s H scope (compEnvC scope cl C X.env) fp) ifs tt)
    (he : ∀ (s : Shared) (H : Hp) (C : Addr) (cl : List (Str × Addr)) (fp : List Addr), JE B (X.blk s H scope (compEnvC scope cl C X.env) fp) elt te) (hs : ∀ x, foldedSetIterable iter X.env x = pure x := by intro _; rfl) :
    JS B X (.Assign [.Name y py] (.ListComp elt [⟨tg, iter, ifs, 0⟩] scope pos) spos) (wSet i (wLc wi g tt te (own.map (·.2)))) := ps_imp (ps_setLc (g := LG X (own.map fun (p : Str × Nat) => p.2) g) (tt := LT B X tt) (te := LE B X te) hc hN hy hyl hsw hi ok (fun s H C cl fp => hg s H C cl fp) (fun s H C cl fp => ht s H C cl fp) (fun s H C cl fp => he s H C cl fp) hs) fun D σ H ⟨st, S, D0, he, hr, hs, h, im⟩ => by
  refine le_lc (Q := fun x H1 => gName i x σ H1 D.nx) ⟨st, S, _, he, hr, hs, h, fun x S1 h1 H1 v e1 s1 r1 => ?_⟩
  exact im.nx _ _ h1 H1 _ e1 s1 ((hr.mono e1).set r1 i)

/-! ### calls of the program's own defs -/
/-- arguments, state, the end, the end by an error (its class) -/
abbrev WSp := List T → Sta → (T → Sta → Prop) → (Addr → Sta → Prop) → Prop
def Lsp (tl : List Addr) (K : PySem.W.Frag) (n : Nat) (w : WSp) : Sp := fun vs H Q E => (∀ P ∈ tl, GxR.TabG H P) ∧ ∃ ts S Q0 E0, ts.length = n ∧ Reps K H ts vs ∧ St K S H ∧ w ts S Q0 E0 ∧ Im2 Q0 (fin K H Q) ∧ ∀ C S' H', E0 C S' → Ext H H' → St K S' H' → E (.ref C) none H'
theorem lsp_len {tl : List Addr} {K : PySem.W.Frag} {n : Nat} {w : WSp} {vs : List V} {H : Hp} {Q : VK} {E : XK} (h : Lsp tl K n w vs H Q E) : vs.length = n := by
  obtain ⟨_, ts, S, Q0, E0, h1, h2, _⟩ := h
  rw [← h2.length, h1]
def wCall (n : Nat) (w : WSp) (t : WA) (σ : Sl) (S : Sta) (Q : T → Sta → Prop) : Prop := t σ S fun ts S1 => ts.length = n ∧ w ts S1 Q fun _ _ => False
variable {k : Nat} {f C : Addr} {fd : FuncData} {ps : List Str} {x m : Str} {p apos : Pos} {e o : Expr} {es : List Expr} {ta : WE} {t : WA} {n : Nat} {w : WSp} {tl : List Addr}
theorem j_call (F : FnOk X.prog X.w X.K X.mg X.base CX0 k f fd ps (Lsp tl X.K n w)) (ht : ∀ P ∈ tl, GxR.TabG B P) (hr : Room k X.A) (hg : Gl X x) (hm : X.mg x = some (.ref f)) (hk : PySem.W.keepIn X.K (.ref f) = true) (hb : Binds X.K fd ps [])
    (ha : JA B X (e :: es) t) (hdb : (x == ("__debug__" : Str)) = false := by decide) (he : starEach (e :: es) X.env = (false, eval e X.env) :: starEach es X.env := by rfl) (hpl : (backTo pos (starEach es X.env)).any (·.1) = false := by rfl) :
    JE B X (.Call (.Name x p) (e :: es) [] pos) (wCall n w t) := pe_imp (pe_call F hr hg hm hk hb .nil pass0 ha hdb he hpl) fun σ H Q ⟨st, S, Q0, he, hr, hs, h, im⟩ => by
  refine ⟨st, S, _, he, hr, hs, h, fun xs S1 h1 H1 vs e1 s1 r1 => ?_⟩
  refine ⟨fun P hP => (he.trans e1).tabs P (ht P hP), xs, S1, Q0, fun _ _ => False, h1.1, by rw [List.append_nil]; exact r1, s1, h1.2, fun z S2 q => fin_ext e1 (im z S2 q), fun C S' H' q => q.elim⟩
theorem j_call0 (F : FnOk X.prog X.w X.K X.mg X.base CX0 k f fd ps (Lsp tl X.K n w)) (ht : ∀ P ∈ tl, GxR.TabG B P) (hr : Room k X.A) (hg : Gl X x) (hm : X.mg x = some (.ref f)) (hk : PySem.W.keepIn X.K (.ref f) = true) (hb : Binds X.K fd ps [])
    (hdb : (x == ("__debug__" : Str)) = false := by decide) :
    JE B X (.Call (.Name x p) [] [] pos) (wCall n w wNil) := pe_imp (pe_call0 F hr hg hm hk hb .nil pass0 hdb) fun σ H Q ⟨st, S, Q0, he, hr, hs, h, im⟩ =>
  ⟨fun P hP => he.tabs P (ht P hP), [], S, Q0, fun _ _ => False, h.1, .nil, hs, h.2, im, fun C S' H' q => q.elim⟩
end
/-! ### a def keeps its promise -/
def startT (N : List Str) (ts : List T) : Sl := ts.map some ++ List.replicate (N.length - ts.length) none
theorem start_rep {K : PySem.W.Frag} {H : Hp} {N : List Str} {ts : List T} {vs : List V} (r : Reps K H ts vs) : SlR K H (startT N ts) (L2.start N vs) := by
  have hl := r.length
  refine ⟨by unfold startT L2.start; simp [hl], fun i t q => ?_⟩
  unfold startT at q
  by_cases hi : i < ts.length
  · rw [List.getElem?_append_left (by simpa using hi), List.getElem?_map] at q
    cases e : ts[i]? with
    | none => rw [e] at q; cases q
    | some t' =>
      rw [e] at q
      cases q
      obtain ⟨v, e1, e2⟩ := r.get e
      refine ⟨v, ?_, e2⟩
      unfold L2.start
      rw [List.getElem?_append_left (by simp; omega), List.getElem?_map, e1]
      rfl
  · rw [List.getElem?_append_right (by simpa using hi), List.getElem?_replicate] at q
    split at q <;> cases q
section
variable {P : Program} {w : World} {K : PySem.W.Frag} {mg : Str → Option Value} {base : Heap}
theorem fnT {x qual : Str} {st : Stmt} {f : Addr} {fd : FuncData} {N ps : List Str} {k : Nat} {sp : WSp} {tl : List Addr} {t : WS} (F : Fun K x qual st f fd) (S : FnScope N ps (defScope st))
    (hb : ∀ (cdv : Value) (A : Around) (outer : List Env) (s : Shared) (H : Hp) (E : XK), Room k (A.deeper (envOfC qual (defScope st) s.heap.objs.size f cdv)) → cdv = fd.code → (∀ P ∈ tl, GxR.TabG H P) → JSs H (cxOf CX0 P w K mg base N qual (defScope st) f cdv A outer s H E).nox (defBody st) t)
    (hw : ∀ ts S Q E, ts.length = ps.length → sp ts S Q E → t { nx := fun _ S' => Q .non S', rt := Q } (startT N ts) S) : FnOk P w K mg base CX0 (k + 1) f fd ps (Lsp tl K ps.length sp) := by
  obtain ⟨oc, od, kV, doc, pm, an, cdv, ct, osl, rfl, lk, hcd⟩ := F.ex
  refine fn_of lk hcd S (fun vs H Q E h => lsp_len h) fun A outer s H vs Q E hr h => ?_
  obtain ⟨hT, ts, S0, Q0, E0, h1, h2, h3, h4, im, _⟩ := h
  refine ⟨_, PSs.nox (hb cdv A outer s H E hr rfl hT), ?_⟩
  exact ⟨startT N ts, S0, _, Ext.refl H, start_rep h2, h3, hw ts S0 Q0 E0 h1 h4, ⟨fun a S1 q H1 σ1 e1 s1 r1 => im _ _ q H1 _ e1 s1 .non, im, fun _ _ q => q.elim, fun _ _ q => q.elim⟩⟩
/-- another promise, less asked -/
theorem fn_imp {k : Nat} {f : Addr} {fd : FuncData} {ps : List Str} {n : Nat} {sp sp' : WSp} {tl : List Addr} (F : FnOk P w K mg base CX0 k f fd ps (Lsp tl K n sp)) (h : ∀ ts S Q E, sp' ts S Q E → sp ts S Q E) : FnOk P w K mg base CX0 k f fd ps (Lsp tl K n sp') :=
  F.imp fun vs H Q E ⟨hT, ts, S, Q0, E0, h1, h2, h3, h4, h5⟩ => ⟨hT, ts, S, Q0, E0, h1, h2, h3, h _ _ _ _ h4, h5⟩
end
/-- a law's promise: over a list of ints of at most 63, True -/
def spLaw : WSp := fun ts S Q _ => ∃ ns : List Int, ts = [.fl (ns.map .int)] ∧ ns.length ≤ 63 ∧ (∀ a, S a = none) ∧ ∀ S', Q (.bl true) S'
theorem law_sp (K : PySem.W.Frag) (H : Hp) (a : Addr) (ns : List Int) (hl : ns.length ≤ 63) (ho : Only H) (hs : SqL K H a (ns.map V.int)) : Lsp [] K 1 spLaw [.ref a] H (fun v _ => v = .bl true) fun _ _ _ => False := by
  have hf : FzL K H a (ns.map V.int) := by
    rcases hs with (h | ⟨o, h⟩) | h
    · rcases ho a with z | ⟨ob, xs, z⟩
      · rw [h] at z; cases z
      · rw [h] at z; cases z
    · exact .inl ⟨o, h⟩
    · exact .inr h
  refine ⟨fun _ z => (by cases z), [.fl (ns.map .int)], fun _ => none, fun v _ => v = .bl true, fun _ _ => False, rfl, .cons (.fl hf (Reps.ints ns)) .nil, (fun b o q => by cases q), ⟨ns, rfl, hl, fun _ => rfl, fun _ => rfl⟩, fun v S e H' u _ _ r => ?_, fun _ _ _ q => q.elim⟩
  subst e
  cases r
  rfl
end Wp

set_option Elab.async false
set_option linter.all false
set_option maxRecDepth 100000
/-! a def of the text, called; sequences walked -/
namespace Wp
open PySem PySem.Spec PyProof.Rows L2
def DefT (K : PySem.W.Frag) (mg : Str → Option Value) (x : Str) (st : Stmt) (ps : List Str) : Prop := ∃ f fd, Fun K x x st f fd ∧ mg x = some (.ref f) ∧ Binds K fd ps []
def Cal (P : Program) (w : World) (K : PySem.W.Frag) (mg : Str → Option Value) (base : Heap) (tl : List Addr) (k : Nat) (x : Str) (ps : List Str) (s : WSp) : Prop :=
  ∃ f fd, FnOk P w K mg base CX0 k f fd ps (Lsp tl K ps.length s) ∧ mg x = some (.ref f) ∧ PySem.W.keepIn K (.ref f) = true ∧ Binds K fd ps []
section
variable {P : Program} {w : World} {K : PySem.W.Frag} {mg : Str → Option Value} {base : Heap} {k j : Nat} {x : Str} {st : Stmt} {ps : List Str} {s s' : WSp} {tl : List Addr}
theorem DefT.cal (D : DefT K mg x st ps) (h : ∀ f fd, Fun K x x st f fd → FnOk P w K mg base CX0 k f fd ps (Lsp tl K ps.length s)) : Cal P w K mg base tl k x ps s := by
  obtain ⟨f, fd, F, m, b⟩ := D
  exact ⟨f, fd, h f fd F, m, F.kp, b⟩
theorem Cal.mono (c : Cal P w K mg base tl j x ps s) (h : j ≤ k) : Cal P w K mg base tl k x ps s := by
  obtain ⟨f, fd, F, m, kp, b⟩ := c
  exact ⟨f, fd, F.mono h, m, kp, b⟩
theorem Cal.imp (c : Cal P w K mg base tl k x ps s) (h : ∀ ts S Q E, s' ts S Q E → s ts S Q E) : Cal P w K mg base tl k x ps s' := by
  obtain ⟨f, fd, F, m, kp, b⟩ := c
  exact ⟨f, fd, fn_imp F h, m, kp, b⟩
theorem defT_mk {f : Addr} {oc : Value} {od an : Option Addr} {osl : Array (Option Value)} {kV doc pm cdv ct : Value} (hm : mg x = some (.ref f)) (l : K.lookup f = some ⟨oc, od, .func (PySem.W.fnOf x x (defArgs st) (defBody st) (defScope st) .none kV doc pm an cdv ct), osl⟩)
    (c : PySem.W.codeIn K cdv x = true) (k : PySem.W.keepIn K (.ref f) = true)
    (h : ∀ (kV doc pm : Value) (an : Option Addr) (cdv ct : Value) (us : List Value), us.length = ps.length → bindArgs (PySem.W.fnOf x x (defArgs st) (defBody st) (defScope st) .none kV doc pm an cdv ct) ⟨us, []⟩ = pure (ps.zip us)) : DefT K mg x st ps :=
  ⟨f, _, fun_mk l c k, hm, (fun_mk l c k).binds h⟩
end
section
variable {B : Hp} {X : Cx} {x : Str} {p pos : Pos} {e : Expr} {es : List Expr} {t : WA} {te : WE} {k : Nat} {ps : List Str} {s : WSp} {tl : List Addr}
theorem j_c (c : Cal X.prog X.w X.K X.mg X.base tl k x ps s) (ht : ∀ P ∈ tl, GxR.TabG B P) (hr : Room k X.A) (hg : Gl X x) (ha : JA B X (e :: es) t) (hdb : (x == ("__debug__" : Str)) = false := by decide)
    (he : starEach (e :: es) X.env = (false, eval e X.env) :: starEach es X.env := by rfl) (hpl : (backTo pos (starEach es X.env)).any (·.1) = false := by rfl) : JE B X (.Call (.Name x p) (e :: es) [] pos) (wCall ps.length s t) := by
  obtain ⟨f, fd, F, m, kp, b⟩ := c
  exact j_call F ht hr hg m kp b ha hdb he hpl
theorem j_c0 (c : Cal X.prog X.w X.K X.mg X.base tl k x ps s) (ht : ∀ P ∈ tl, GxR.TabG B P) (hr : Room k X.A) (hg : Gl X x) (hdb : (x == ("__debug__" : Str)) = false := by decide) : JE B X (.Call (.Name x p) [] [] pos) (wCall ps.length s wNil) := by
  obtain ⟨f, fd, F, m, kp, b⟩ := c
  exact j_call0 F ht hr hg m kp b hdb
theorem j_cI {i : Int} (hg : Gl X x) (h : ∃ t, X.mg x = some (.int i t)) (hd : (x == ("__debug__" : Str)) = false := by decide) : JE B X (.Name x pos) (wC (.int i)) := by
  obtain ⟨t, h⟩ := h
  exact j_globI hg h hd
theorem j_cS {i : Str} (hg : Gl X x) (h : ∃ t, X.mg x = some (.str i t)) (hd : (x == ("__debug__" : Str)) = false := by decide) : JE B X (.Name x pos) (wC (.str i)) := by
  obtain ⟨t, h⟩ := h
  exact j_globS hg h hd
/-- a list or a tuple, walked -/
def iSeqW (te : WE) (σ : Sl) (S : Sta) (R : List T → (Sta → Prop) → Sta → Prop) : Prop := te σ S fun x S1 => match x with
  | .tup ts => R ts (fun _ => True) S1
  | .fl ts => R ts (fun _ => True) S1
  | .ref p => ∃ ts, S1 p = some (.lst ts) ∧ R ts (fun S' => S' p = some (.lst ts)) S1
  | _ => False
/-- the two sources told apart where the value has come -/
theorem pi_both {tg l : Expr} {tl : TE} (hl : PE X l tl) : PI X tg l fun σ H R => tl σ H fun x H1 => ∃ a, x = .ref a ∧ ((∃ xs, SqL X.K H1 a xs) ∧ R (Itl X.K a) H1 ∨ (∃ xs, SqT X.K H1 a xs) ∧ R (Itt X.K a) H1) := by
  refine ⟨fun pins s σ H R I h => ?_⟩
  refine thn (hl.run pins s σ H _ I h) fun v s1 ⟨x, H1, I1, r1, q1⟩ => ?_
  obtain ⟨a, e, q1⟩ := q1
  subst e
  cases r1
  rcases q1 with ⟨⟨xs, hq⟩, q⟩ | ⟨⟨xs, hq⟩, q⟩
  · obtain ⟨its, rv, p, hz⟩ := I1.list hq
    refine wpAny_pyIter_list p.isList ?_
    refine ⟨s1.heap.objs.size, [s1.heap.objs.size], _, _, H1, rfl, I1.kept (t' := s1.toks) fun b o e => Heap.get?_push_of_some _ e, turn_list a _, ⟨_, Heap.get?_push_size _ rfl, rfl, rfl⟩, fun b hb => ?_, q⟩
    have e : b = s1.heap.objs.size := by simpa using hb
    subst e
    exact I1.fpOk (Nat.le_refl _) (I1.hok.fresh (Nat.le_refl _))
  · obtain ⟨its, rv, p, hz⟩ := I1.tuple hq
    refine wpAny_pyIter_tuple (show s1.heap.IsTuple a its.toArray from p) ?_
    refine ⟨s1.heap.objs.size, [s1.heap.objs.size], _, _, H1, rfl, I1.kept (t' := s1.toks) fun b o e => Heap.get?_push_of_some _ e, turn_tuple a _, ⟨_, Heap.get?_push_size _ rfl, rfl, rfl⟩, fun b hb => ?_, q⟩
    have e : b = s1.heap.objs.size := by simpa using hb
    subst e
    exact I1.fpOk (Nat.le_refl _) (I1.hok.fresh (Nat.le_refl _))
theorem ji_seq {tg : Expr} (he : JE B X e te) : JI B X tg e (iSeqW te) := pi_imp (pi_both he) fun σ H R ⟨st, S, Q0, he, hr, hs, h, im⟩ => by
  refine ⟨st, S, _, he, hr, hs, h, fun x S1 h1 H1 v1 e1 s1 r1 => ?_⟩
  cases x with
  | tup ts =>
    cases r1 with
    | @tup a xs _ g10 g2 =>
      have g1 := sqT_of (K := X.K) g10
      refine ⟨a, rfl, .inr ⟨⟨xs, g1⟩, im _ _ _ h1 H1 e1 s1 _ fun i S2 H2 e2 s2 _ => ⟨fun hi => ?_, fun hi => ⟨xs, e2.sqT g1, by rw [← g2.length]; exact hi⟩, fun x H' y hi => ?_⟩⟩⟩
      · obtain ⟨v, g3, _⟩ := g2.get (List.getElem?_eq_getElem hi)
        exact ⟨xs, v, e2.sqT g1, g3⟩
      · obtain ⟨eH, y⟩ := y
        subst eH
        obtain ⟨v, g3, g4⟩ := g2.get (List.getElem?_eq_getElem hi)
        have ev : x = v := Option.some.inj ((y xs (e2.sqT g1)).symm.trans g3)
        subst ev
        exact ⟨Ext.refl _, s2, fun _ _ q => q, _, List.getElem?_eq_getElem hi, Rep.mono e2 _ _ g4⟩
  | fl ts =>
    cases r1 with
    | @fl a xs _ g1 g2 =>
      refine ⟨a, rfl, .inl ⟨⟨xs, g1.sq⟩, im _ _ _ h1 H1 e1 s1 _ fun i S2 H2 e2 s2 _ => ⟨fun hi => ?_, fun hi => ⟨xs, (e2.fzL g1).sq, by rw [← g2.length]; exact hi⟩, fun x H' y hi => ?_⟩⟩⟩
      · obtain ⟨v, g3, _⟩ := g2.get (List.getElem?_eq_getElem hi)
        exact ⟨xs, v, (e2.fzL g1).sq, g3⟩
      · obtain ⟨eH, y⟩ := y
        subst eH
        obtain ⟨v, g3, g4⟩ := g2.get (List.getElem?_eq_getElem hi)
        have ev : x = v := Option.some.inj ((y xs ((e2.fzL g1).sq)).symm.trans g3)
        subst ev
        exact ⟨Ext.refl _, s2, fun _ _ q => q, _, List.getElem?_eq_getElem hi, Rep.mono e2 _ _ g4⟩
  | ref p =>
    obtain ⟨ts, eS, h1⟩ := h1
    cases r1
    obtain ⟨xs0, g10, g20⟩ := s1 p _ eS
    refine ⟨p, rfl, .inl ⟨⟨xs0, .inl (.inl g10)⟩, im _ _ _ h1 H1 e1 s1 _ fun i S2 H2 e2 s2 stb => ?_⟩⟩
    obtain ⟨xs, g1, g2⟩ := s2 p _ stb
    refine ⟨fun hi => ?_, fun hi => ⟨xs, .inl (.inl g1), by rw [← g2.length]; exact hi⟩, fun x H' y hi => ?_⟩
    · obtain ⟨v, g3, _⟩ := g2.get (List.getElem?_eq_getElem hi)
      exact ⟨xs, v, .inl (.inl g1), g3⟩
    · obtain ⟨eH, y⟩ := y
      subst eH
      obtain ⟨v, g3, g4⟩ := g2.get (List.getElem?_eq_getElem hi)
      have ev : x = v := Option.some.inj ((y xs (.inl (.inl g1))).symm.trans g3)
      subst ev
      exact ⟨Ext.refl _, s2, fun _ _ q => q, _, List.getElem?_eq_getElem hi, g4⟩
  | _ => exact h1.elim
end
/-! ### a law's last lines -/
theorem law_walk {l : PySem.W.OpenLaw} {k : Nat} {q : Program} {loose : List Str} {XP : (Str → Option Value) → Heap → Prop} {YP : World → Heap → Prop} {d : DefRec} {K : Params → PySem.W.Frag} {x : Str}
    (hn : l.most = some 63) (hdf : d.params.defaults = []) (hr : Room k callerA)
    (hY : ∀ (w : World) (h : Heap), YP w h → (K w.params).In h)
    (F : ∀ (w : World) (mg : Str → Option Value) (fa : Addr) (h : Heap), (K w.params).In h → h.Ns mainGlobals mg → mg d.name = some (.ref fa) →
      ∃ fd : FuncData, (∀ (s : Shared) (u : Value), BindsTo s fd ⟨[u], []⟩ [(x, u)]) ∧
        ∀ base : Heap, (K w.params).In base → base.Ns mainGlobals mg → FnOk l.prog w (K w.params) mg base CX0 k fa fd [x] (Lsp [] (K w.params) 1 spLaw)) :
    PySem.W.WalkO q loose XP YP l.row.toRowW d [] (fun f vs => PySem.call f vs) :=
  L2.walk_ofK (CX := CX0) (sp := fun K => Lsp [] K 1 spLaw) hn (by decide) hdf hr hY F (fun K H a ns hl ho hs => law_sp K H a ns hl ho hs) fun H s e s' h => h
end Wp

set_option Elab.async false
set_option linter.all false
set_option maxRecDepth 100000
/-! more built-ins, methods of lists -/
namespace Wp
open PySem PySem.Spec PyProof.Rows L2
section
variable {B : Hp} {X : Cx} {a b : Expr} {ta tb : WE} {pos : Pos}
/-- list(range(n)) -/
def wLstRg (ta : WE) (σ : Sl) (S : Sta) (Q : T → Sta → Prop) : Prop := ta σ S fun x S1 => match x with
  | .int n => (n ≤ 2 ^ 24 ∧ -(2 ^ 62) ≤ n) ∧ ∀ p, S1 p = none → Q (.ref p) (upS S1 p (.lst (rangeT 0 n.toNat)))
  | _ => False
theorem rangeT_rep {K : PySem.W.Frag} {H : Hp} (lo : Int) : ∀ (l : List Nat), Reps K H (l.map fun (i : Nat) => T.int (lo + (i : Int))) (l.map fun (i : Nat) => V.int (lo + (i : Nat)))
  | [] => .nil
  | i :: l => .cons (.int _) (rangeT_rep lo l)
theorem j_listRg1 {p p2 pos2 : Pos} (hg : Gl X "list") (hm : X.mg "list" = none) (hg2 : Gl X "range") (hm2 : X.mg "range" = none) (hc : X.calm = true) (ha : JE B X a ta) (na : starEach [a] X.env = (false, eval a X.env) :: starEach [] X.env := by rfl)
    (na2 : starEach [.Call (.Name "range" p2) [a] [] pos2] X.env = (false, eval (.Call (.Name "range" p2) [a] [] pos2) X.env) :: starEach [] X.env := by rfl) : JE B X (.Call (.Name "list" p) [.Call (.Name "range" p2) [a] [] pos2] [] pos) (wLstRg ta) :=
  pe_imp (pe_listRg hc hg hm (prg_1 hg2 hm2 ha na) na2) fun σ H Q ⟨st, S, Q0, he, hr, hs, h, im⟩ => by
    refine ⟨st, S, _, he, hr, hs, h, fun x S1 h1 H1 v e1 s1 r1 => ?_⟩
    cases x with
    | int n =>
      cases r1
      refine ⟨n, rfl, ⟨by omega, by omega, by have := h1.1.2; omega, by have := h1.1.1; omega, by have := h1.1.1; omega⟩, fun q hq => ?_⟩
      have rr : Reps X.K H1 (rangeT 0 n.toNat) (rgV 0 n) := by
        unfold rangeT rgV
        rw [show (n - 0).toNat = n.toNat by rw [Int.sub_zero]]
        exact rangeT_rep 0 _
      obtain ⟨e2, s2⟩ := s1.newL hq rr
      exact im _ _ (h1.2 q (s1.free hq)) _ _ (e1.trans e2) s2 (.ref q)
    | _ => exact h1.elim
/-- is of bools -/
def rBIs (neg : Bool) (x : T) (y : T) (S : Sta) (Q : T → Sta → Prop) : Prop := match x, y with
  | .bl a, .bl b => Q (.bl (neg != (a == b))) S
  | _, _ => False
theorem o_isB : OpT X (compareOp .Is) (rBIs false) := by
  intro pins s σ H x y v u Q I rx ry ⟨a, b, S, Q0, ra, rb, hs, q, im⟩
  match a, b, q with
  | .bl a, .bl b, q =>
    cases ra
    cases rb
    refine op_isBl pins s σ H _ _ v u Q I rx ry ⟨a, b, rfl, rfl, ?_⟩
    have e : decide (a = b) = (false != (a == b)) := by cases a <;> cases b <;> rfl
    rw [e]
    exact im _ _ q H _ (Ext.refl H) hs (.bl _)
theorem o_notB : OpT X (compareOp .IsNot) (rBIs true) := by
  intro pins s σ H x y v u Q I rx ry ⟨a, b, S, Q0, ra, rb, hs, q, im⟩
  match a, b, q with
  | .bl a, .bl b, q =>
    cases ra
    cases rb
    refine op_notBl pins s σ H _ _ v u Q I rx ry ⟨a, b, rfl, rfl, ?_⟩
    have e : (!decide (a = b)) = (true != (a == b)) := by cases a <;> cases b <;> rfl
    rw [e]
    exact im _ _ q H _ (Ext.refl H) hs (.bl _)
/-! ### methods of a list that may change -/
abbrev RM3 := T → List T → Sta → (T → Sta → Prop) → Prop
def LM (K : PySem.W.Frag) (r : RM3) : V → List V → Hp → VK → Prop := fun x xs H Q => ∃ t ts S Q0, Rep K H t x ∧ Reps K H ts xs ∧ St K S H ∧ r t ts S Q0 ∧ Im2 Q0 (fin K H Q)
def wMt (r : RM3) (to : WE) (t : WA) (σ : Sl) (S : Sta) (Q : T → Sta → Prop) : Prop := to σ S fun x S1 => match x with
  | .ref p => (∃ xs, S1 p = some (.lst xs)) ∧ t σ S1 fun ts S2 => r (.ref p) ts S2 Q
  | _ => False
variable {o e : Expr} {es : List Expr} {to : WE} {t : WA} {name : Str} {apos cpos : Pos} {id : String} {r : RM3}
theorem j_mtL (slot : Slot "list" name id) (hty : typeOf (.builtin id) = pure (.type "method_descriptor")) (hm : MtR X id (LM X.K r)) (ho : JE B X o to) (ha : JA B X (e :: es) t)
    (hbase : attributeBase o name X.env (eval o X.env) = eval o X.env := by rfl)
    (hfew : ((backTo cpos (starEach (e :: es) X.env)).all (fun x => !x.1) && (backToKw cpos (keywordEach [] X.env)).all (fun x => x.1.isSome)
      && decide ((e :: es).length + ([] : List Keyword).length + (if ([] : List Keyword).isEmpty then 0 else 1) < 30)) = true := by rfl)
    (hline : (apos.endLine == cpos.line) = true := by rfl) (hs : starEach (e :: es) X.env = (false, eval e X.env) :: starEach es X.env := by rfl) (hplain : (backTo cpos (starEach es X.env)).any (·.1) = false := by rfl) :
    JE B X (.Call (.Attribute o name apos) (e :: es) [] cpos) (wMt r to t) := pe_imp (pe_bm PySem.F.plainAttrs_list slot hty hm ho ha hbase hfew hline hs hplain) fun σ H Q ⟨st, S, Q0, he, hr, hs, h, im⟩ => by
  refine ⟨st, S, _, he, hr, hs, h, fun x S1 h1 H1 v e1 s1 r1 => ?_⟩
  cases x with
  | ref p =>
   obtain ⟨⟨xs, e2⟩, h1⟩ := h1
   cases r1
   obtain ⟨ys, g1, g2⟩ := s1 p _ e2
   refine ⟨.inl ⟨rfl, ys, .inl (.inl g1)⟩, st, S1, _, he.trans e1, hr.mono e1, s1, h1, fun ts S2 h2 H2 vs e3 s3 r3 => ?_⟩
   exact ⟨_, ts, S2, Q0, .ref p, r3, s3, h2, fun z S4 q => fin_ext (e1.trans e3) (im z S4 q)⟩
  | _ => exact h1.elim
theorem j_mtL0 (slot : Slot "list" name id) (hty : typeOf (.builtin id) = pure (.type "method_descriptor")) (hm : MtR X id (LM X.K r)) (ho : JE B X o to)
    (hbase : attributeBase o name X.env (eval o X.env) = eval o X.env := by rfl) (hline : (apos.endLine == cpos.line) = true := by rfl) :
    JE B X (.Call (.Attribute o name apos) [] [] cpos) (wMt r to wNil) := pe_imp (pe_bm0 PySem.F.plainAttrs_list slot hty hm ho hbase hline) fun σ H Q ⟨st, S, Q0, he, hr, hs, h, im⟩ => by
  refine ⟨st, S, _, he, hr, hs, h, fun x S1 h1 H1 v e1 s1 r1 => ?_⟩
  cases x with
  | ref p =>
   obtain ⟨⟨xs, e2⟩, h1⟩ := h1
   cases r1
   obtain ⟨ys, g1, g2⟩ := s1 p _ e2
   refine ⟨.inl ⟨rfl, ys, .inl (.inl g1)⟩, ?_⟩
   exact ⟨_, [], S1, Q0, .ref p, .nil, s1, h1, fun z S4 q => fin_ext e1 (im z S4 q)⟩
  | _ => exact h1.elim
def rAppendT (x : Wp.T) (ts : List Wp.T) (S : Sta) (Q : Wp.T → Sta → Prop) : Prop := match x, ts with
  | .ref p, [t] => ∃ xs, S p = some (.lst xs) ∧ xs.length < sizeLine ∧ Q .non (upS S p (.lst (xs ++ [t])))
  | _, _ => False
theorem m_append : MtR X "list.append" (LM X.K rAppendT) := by
  intro pins s σ H x xs v us Q I rx rxs ⟨t, ts, S, Q0, rt, rts, hs, q, im⟩
  match t, ts, q with
  | .ref p, [y], ⟨zs, e, hl, q⟩ =>
    cases rt
    obtain ⟨w, rfl, rw'⟩ := rts.one
    obtain ⟨ys, g1, g2⟩ := hs p _ e
    obtain ⟨e2, s2⟩ := hs.setL g1 (Reps.append g2 (.cons rw' .nil))
    exact mt_append pins s σ H _ _ v us Q I rx rxs ⟨p, ys, w, rfl, rfl, g1, by rw [← g2.length]; exact hl, im _ _ q _ _ e2 s2 .non⟩
def rExtendT (x : Wp.T) (ts : List Wp.T) (S : Sta) (Q : Wp.T → Sta → Prop) : Prop := match x, ts with
  | .ref p, [.ref p2] => ∃ xs, S p = some (.lst xs) ∧ ∃ ys, S p2 = some (.lst ys) ∧ xs.length + ys.length ≤ sizeLine ∧ Q .non (upS S p (.lst (xs ++ ys)))
  | _, _ => False
theorem m_extend : MtR X "list.extend" (LM X.K rExtendT) := by
  intro pins s σ H x xs v us Q I rx rxs ⟨t, ts, S, Q0, rt, rts, hs, q, im⟩
  match t, ts, q with
  | .ref p, [.ref p2], ⟨zs, e, ws, e', hl, q⟩ =>
    cases rt
    obtain ⟨w, rfl, rw'⟩ := rts.one
    cases rw'
    obtain ⟨ys, g1, g2⟩ := hs p _ e
    obtain ⟨vs, g3, g4⟩ := hs p2 _ e'
    obtain ⟨e2, s2⟩ := hs.setL g1 (Reps.append g2 g4)
    exact mt_extend pins s σ H _ _ v us Q I rx rxs ⟨p, p2, ys, vs, rfl, rfl, g1, g3, by rw [← g2.length, ← g4.length]; exact hl, im _ _ q _ _ e2 s2 .non⟩
def rReverseT (x : Wp.T) (ts : List Wp.T) (S : Sta) (Q : Wp.T → Sta → Prop) : Prop := match x, ts with
  | .ref p, [] => ∃ xs, S p = some (.lst xs) ∧ Q .non (upS S p (.lst xs.reverse))
  | _, _ => False
theorem m_reverse : MtR X "list.reverse" (LM X.K rReverseT) := by
  intro pins s σ H x xs v us Q I rx rxs ⟨t, ts, S, Q0, rt, rts, hs, q, im⟩
  match t, ts, q with
  | .ref p, [], ⟨zs, e, q⟩ =>
    cases rt
    cases rts
    obtain ⟨ys, g1, g2⟩ := hs p _ e
    obtain ⟨e2, s2⟩ := hs.setL g1 g2.reverse
    exact mt_reverse pins s σ H _ _ v us Q I rx rxs ⟨p, ys, rfl, rfl, g1, im _ _ q _ _ e2 s2 .non⟩
/-- xs.index(x), x in it, flat -/
def rIndexT (x : Wp.T) (ts : List Wp.T) (S : Sta) (Q : Wp.T → Sta → Prop) : Prop := match x, ts with
  | .ref p, [y] => ∃ xs, S p = some (.lst xs) ∧ flatT y = true ∧ xs.all flatT = true ∧ ∃ (j : Nat) (z : Wp.T), xs[j]? = some z ∧ eqF z y = true ∧ (∀ (m : Nat) (z' : Wp.T), m < j → xs[m]? = some z' → eqF z' y = false) ∧ Q (.int (j : Nat)) S
  | _, _ => False
theorem m_index : MtR X "list.index" (LM X.K rIndexT) := by
  intro pins s σ H x xs v us Q I rx rxs ⟨t, ts, S, Q0, rt, rts, hs, q, im⟩
  match t, ts, q with
  | .ref p, [y], ⟨zs, e, f1, f2, j, z, ej, ez, hno, q⟩ =>
    cases rt
    obtain ⟨w, rfl, rw'⟩ := rts.one
    obtain ⟨ys, g1, g2⟩ := hs p _ e
    obtain ⟨zv, g3, g4⟩ := g2.get ej
    have fz : flatT z = true := List.all_eq_true.mp f2 z (List.mem_of_getElem? ej)
    refine mt_index pins s σ H _ _ v us Q I rx rxs ⟨p, ys, w, j, zv, rfl, rfl, .inl (.inl g1), flat_rep rw' f1, flats_rep g2 f2, g3, by rw [eqF_rep g4 rw' fz f1]; exact ez, fun m z' hm hz' => ?_, im _ _ q _ _ (Ext.refl H) hs (.int _)⟩
    obtain ⟨zt, g5, g6⟩ := g2.getV hz'
    rw [eqF_rep g6 rw' (List.all_eq_true.mp f2 zt (List.mem_of_getElem? g5)) f1]
    exact hno m zt hm g5
/-! ### sum of ints, ord, divmod -/
def rSumI (xs : List T) (S : Sta) (Q : T → Sta → Prop) : Prop := match xs with
  | [.ref p] => ∃ ns : List Int, S p = some (.lst (ns.map .int)) ∧ Q (.int ns.sum) S
  | _ => False
theorem c_sumI (hc : X.calm = true) : CallR X (.builtin "sum") (LC X.K rSumI) := by
  intro pins s σ H xs us Q I rx ⟨ts, S, Q0, r, hs, q, im⟩
  match ts, q with
  | [.ref p], ⟨ns, e, q⟩ =>
    obtain ⟨v, rfl, r1⟩ := r.one
    cases r1
    obtain ⟨ys, g1, g2⟩ := hs p _ e
    have ey := g2.intsV
    subst ey
    exact cr_sum hc pins s σ H _ us Q I rx ⟨p, ns, rfl, .inl (.inl g1), im _ _ q _ _ (Ext.refl H) hs (.int _)⟩
def rOrd (xs : List T) (S : Sta) (Q : T → Sta → Prop) : Prop := match xs with
  | [.str z] => z.length = 1 ∧ Q (.int (z.cps.getD 0 0 : Nat)) S
  | _ => False
theorem c_ord : CallR X (.builtin "ord") (LC X.K rOrd) := by
  intro pins s σ H xs us Q I rx ⟨ts, S, Q0, r, hs, q, im⟩
  match ts, q with
  | [.str z], q =>
    obtain ⟨v, rfl, r1⟩ := r.one
    cases r1
    exact call_ord pins s σ H _ us Q I rx ⟨z, rfl, q.1, im _ _ q.2 _ _ (Ext.refl H) hs (.int _)⟩
def rDivmod (xs : List T) (S : Sta) (Q : T → Sta → Prop) : Prop := match xs with
  | [.int i, .int j] => (0 < j ∧ j < 1073741824) ∧ Q (.tup [.int (i / j), .int (i % j)]) S
  | _ => False
theorem c_divmod : CallR X (.builtin "divmod") (LC X.K rDivmod) := by
  intro pins s σ H xs us Q I rx ⟨ts, S, Q0, r, hs, q, im⟩
  match ts, q with
  | [.int i, .int j], q =>
    obtain ⟨v, w, rfl, r1, r2⟩ := r.two
    cases r1
    cases r2
    exact call_divmod pins s σ H _ us Q I rx ⟨i, j, rfl, q.1, fun p hp => im _ _ q.2 _ _ (Ext.new hp) (hs.new hp _) (.tup upd_same (.cons (.int _) (.cons (.int _) .nil)))⟩
end
end Wp

set_option Elab.async false
set_option linter.all false
set_option maxRecDepth 100000
/-! lemmas for the reading's simplification -/
namespace Wp
open PySem PySem.Spec PyProof.Rows L2
theorem cmul_l {i j : Int} (h1 : -(2 ^ 64) < i) (h2 : i < 2 ^ 64) : CMul i j = True := eq_true (.inl ⟨h1, h2⟩)
theorem cmul_r {i j : Int} (h1 : -(2 ^ 64) < j) (h2 : j < 2 ^ 64) : CMul i j = True := eq_true (.inr ⟨h1, h2⟩)
theorem ex_some {α : Type} {a : α} {P : α → Prop} : (∃ v, some (some a) = some (some v) ∧ P v) = P a := by
  apply propext
  constructor
  · rintro ⟨v, e, h⟩; cases e; exact h
  · intro h; exact ⟨a, rfl, h⟩
theorem ex_some1 {α : Type} {a : α} {P : α → Prop} : (∃ v, some a = some v ∧ P v) = P a := by
  apply propext
  constructor
  · rintro ⟨v, e, h⟩; cases e; exact h
  · intro h; exact ⟨a, rfl, h⟩
theorem ex_eq {α : Type} {a : α} {P : α → Prop} : (∃ v, a = v ∧ P v) = P a := by
  apply propext
  constructor
  · rintro ⟨v, e, h⟩; cases e; exact h
  · intro h; exact ⟨a, rfl, h⟩
theorem cpow_lit {i j : Int} (h1 : 0 ≤ j) (h2 : j ≤ 1000000) (h3 : i.natAbs < 2 ^ 64) : CPow i j = True := eq_true ⟨h1, h2, h3⟩
theorem size_le {n : Nat} (h : n ≤ 10000000) : (n ≤ sizeLine) = True := eq_true (Nat.le_trans h (by rw [sizeLine_eq]; decide))
theorem size_lt {n : Nat} (h : n < 10000000) : (n < sizeLine) = True := eq_true (Nat.lt_of_lt_of_le h (by rw [sizeLine_eq]; decide))
theorem itemsT_ref {S : Sta} {p : Addr} {ts : List T} (h : S p = some (.lst ts)) : itemsT S (.ref p) = some ts := by simp only [itemsT, h]
theorem tyT_ref {S : Sta} {p : Addr} {ts : List T} (h : S p = some (.lst ts)) : tyT S (.ref p) = some "list" := by simp only [tyT, h]
theorem atI_zero {α : Type} {x : α} {xs : List α} : atI (x :: xs) 0 = some x := atI_nat (j := 0) rfl
theorem atI_lit {α : Type} {xs : List α} {j : Nat} : atI xs ((j : Nat) : Int) = xs[j]? := by
  unfold atI ixN
  by_cases h : j < xs.length
  · rw [if_pos (by omega), if_pos (by omega)]
    simp
  · rw [if_pos (by omega), if_neg (by omega)]
    simp
    omega
theorem atI_0 {α : Type} {xs : List α} : atI xs 0 = xs[0]? := atI_lit (j := 0)
theorem atI_1 {α : Type} {xs : List α} : atI xs 1 = xs[1]? := atI_lit (j := 1)
theorem atI_2 {α : Type} {xs : List α} : atI xs 2 = xs[2]? := atI_lit (j := 2)
theorem atI_3 {α : Type} {xs : List α} : atI xs 3 = xs[3]? := atI_lit (j := 3)
theorem atI_4 {α : Type} {xs : List α} : atI xs 4 = xs[4]? := atI_lit (j := 4)
theorem atI_5 {α : Type} {xs : List α} : atI xs 5 = xs[5]? := atI_lit (j := 5)
theorem atI_6 {α : Type} {xs : List α} : atI xs 6 = xs[6]? := atI_lit (j := 6)
/-- an item at an open place in bounds -/
theorem atI_in {α : Type} {xs : List α} {i : Int} (h0 : 0 ≤ i) (h1 : i < xs.length) : ∃ x, atI xs i = some x ∧ x ∈ xs := by
  obtain ⟨n, rfl⟩ : ∃ n : Nat, i = n := ⟨i.toNat, by omega⟩
  rw [atI_lit]
  have h : n < xs.length := by omega
  exact ⟨xs[n], List.getElem?_eq_getElem h, List.getElem_mem h⟩
theorem ixN_lit {n j : Nat} (h : j < n) : ixN n ((j : Nat) : Int) = some j := by
  unfold ixN
  rw [if_pos (by omega), if_pos (by omega)]
  simp
theorem ixN_0 {n : Nat} : ixN (n + 1) 0 = some 0 := ixN_lit (j := 0) (by omega)
theorem ixN_1 {n : Nat} : ixN (n + 2) 1 = some 1 := ixN_lit (j := 1) (by omega)
theorem ixN_2 {n : Nat} : ixN (n + 3) 2 = some 2 := ixN_lit (j := 2) (by omega)
theorem rangeT_mem {n : Nat} {t : T} (h : t ∈ rangeT 0 n) : ∃ i : Nat, i < n ∧ t = .int i := by
  unfold rangeT at h
  obtain ⟨i, hi, e⟩ := List.mem_map.mp h
  exact ⟨i, List.mem_range.mp hi, by rw [← e, Int.zero_add]⟩
theorem eqvAll_ints : ∀ (ns ms : List Int), PyData.eqvAll (ns.map PyData.int) (ms.map PyData.int) = (ns == ms)
  | [], [] => by simp only [List.map_nil, PyData.eqvAll]; rfl
  | [], m :: ms => by simp only [List.map_nil, List.map_cons, PyData.eqvAll]; rfl
  | n :: ns, [] => by simp only [List.map_nil, List.map_cons, PyData.eqvAll]; rfl
  | n :: ns, m :: ms => by
    simp only [List.map_cons, PyData.eqvAll, PyData.eqv, eqvAll_ints ns ms]
    rfl
theorem toDs_ints : ∀ ns : List Int, toDs (ns.map T.int) = some (ns.map PyData.int)
  | [] => by simp only [List.map_nil, toDs]
  | n :: ns => by simp only [List.map_cons, toDs, toD, toDs_ints ns]
theorem layAll_ints : ∀ ns : List Int, PyData.canLayAll0 (ns.map PyData.int) = true
  | [] => by simp only [List.map_nil, PyData.canLayAll0]
  | n :: ns => by simp only [List.map_cons, PyData.canLayAll0, PyData.canLay0, layAll_ints ns, Bool.and_self]
theorem depAll_ints : ∀ ns : List Int, PyData.depthAll (ns.map PyData.int) ≤ 1
  | [] => by simp only [List.map_nil, PyData.depthAll]; omega
  | n :: ns => by
    have := depAll_ints ns
    simp only [List.map_cons, PyData.depthAll, PyData.depth]
    omega
theorem shaped_ints (ns : List Int) : SeqAt.shaped (.list (ns.map PyData.int)) = true := by
  have h := depAll_ints ns
  unfold SeqAt.shaped
  rw [Bool.and_eq_true]
  refine ⟨by simp only [PyData.canLay0]; exact layAll_ints ns, decide_eq_true ?_⟩
  simp only [PyData.depth]
  omega
theorem shaped_int (i : Int) : SeqAt.shaped (.int i) = true := by
  unfold SeqAt.shaped
  rw [Bool.and_eq_true]
  refine ⟨by simp only [PyData.canLay0], decide_eq_true ?_⟩
  simp only [PyData.depth]
  omega
theorem shaped_bool (i : Bool) : SeqAt.shaped (.bool i) = true := by
  unfold SeqAt.shaped
  rw [Bool.and_eq_true]
  refine ⟨by simp only [PyData.canLay0], decide_eq_true ?_⟩
  simp only [PyData.depth]
  omega
theorem shaped_none : SeqAt.shaped .none = true := by
  unfold SeqAt.shaped
  rw [Bool.and_eq_true]
  refine ⟨by simp only [PyData.canLay0], decide_eq_true ?_⟩
  simp only [PyData.depth]
  omega
theorem shaped_str {x : Str} (h : PyData.strOk x = true) : SeqAt.shaped (.str x) = true := by
  unfold SeqAt.shaped
  rw [Bool.and_eq_true]
  refine ⟨by simp only [PyData.canLay0]; exact h, decide_eq_true ?_⟩
  simp only [PyData.depth]
  omega
/-- == of scalars -/
def scalT : T → Bool
  | .non => true
  | .bl _ => true
  | .int _ => true
  | .str x => PyData.strOk x
  | _ => false
theorem rEq_scal {neg : Bool} {x y : T} {S : Sta} {Q : T → Sta → Prop} (hx : scalT x = true) (hy : scalT y = true) (q : Q (.bl (neg != eqF x y)) S) : rEq neg x y S Q := by
  cases x with
  | non => cases y with
    | non => exact ⟨_, rfl, _, rfl, shaped_none, shaped_none, by simpa only [PyData.eqv, eqF] using q⟩
    | bl b => exact ⟨_, rfl, _, rfl, shaped_none, shaped_bool b, by simpa only [PyData.eqv, eqF] using q⟩
    | int b => exact ⟨_, rfl, _, rfl, shaped_none, shaped_int b, by simpa only [PyData.eqv, eqF] using q⟩
    | str b => exact ⟨_, rfl, _, rfl, shaped_none, shaped_str hy, by simpa only [PyData.eqv, eqF] using q⟩
    | _ => cases hy
  | bl a => cases y with
    | non => exact ⟨_, rfl, _, rfl, shaped_bool a, shaped_none, by simpa only [PyData.eqv, eqF] using q⟩
    | bl b => exact ⟨_, rfl, _, rfl, shaped_bool a, shaped_bool b, by simpa only [PyData.eqv, eqF] using q⟩
    | int b => exact ⟨_, rfl, _, rfl, shaped_bool a, shaped_int b, by simpa only [PyData.eqv, eqF] using q⟩
    | str b => exact ⟨_, rfl, _, rfl, shaped_bool a, shaped_str hy, by simpa only [PyData.eqv, eqF] using q⟩
    | _ => cases hy
  | int a => cases y with
    | non => exact ⟨_, rfl, _, rfl, shaped_int a, shaped_none, by simpa only [PyData.eqv, eqF] using q⟩
    | bl b => exact ⟨_, rfl, _, rfl, shaped_int a, shaped_bool b, by simpa only [PyData.eqv, eqF] using q⟩
    | int b => exact ⟨_, rfl, _, rfl, shaped_int a, shaped_int b, by simpa only [PyData.eqv, eqF] using q⟩
    | str b => exact ⟨_, rfl, _, rfl, shaped_int a, shaped_str hy, by simpa only [PyData.eqv, eqF] using q⟩
    | _ => cases hy
  | str a => cases y with
    | non => exact ⟨_, rfl, _, rfl, shaped_str hx, shaped_none, by simpa only [PyData.eqv, eqF] using q⟩
    | bl b => exact ⟨_, rfl, _, rfl, shaped_str hx, shaped_bool b, by simpa only [PyData.eqv, eqF] using q⟩
    | int b => exact ⟨_, rfl, _, rfl, shaped_str hx, shaped_int b, by simpa only [PyData.eqv, eqF] using q⟩
    | str b => exact ⟨_, rfl, _, rfl, shaped_str hx, shaped_str hy, by simpa only [PyData.eqv, eqF] using q⟩
    | _ => cases hy
  | _ => cases hx
theorem rEq_ints {neg : Bool} {a b : T} {S : Sta} {ns ms : List Int} {Q : T → Sta → Prop} (ha : dd S a = some (.list (ns.map .int))) (hb : dd S b = some (.list (ms.map .int))) (q : Q (.bl (neg != (ns == ms))) S) : rEq neg a b S Q :=
  ⟨_, ha, _, hb, shaped_ints ns, shaped_ints ms, by simpa only [PyData.eqv, eqvAll_ints] using q⟩
theorem dd_ints {S : Sta} {p : Addr} {ns : List Int} (h : S p = some (.lst (ns.map T.int))) : dd S (.ref p) = some (.list (ns.map .int)) := by
  simp only [dd, h, toDs_ints, Option.map_some]
theorem eqF_int {i j : Int} : eqF (.int i) (.int j) = (i == j) := rfl
theorem rEq_int {neg : Bool} {i j : Int} {S : Sta} {Q : T → Sta → Prop} : rEq neg (.int i) (.int j) S Q = Q (.bl (neg != (i == j))) S := by
  apply propext
  constructor
  · rintro ⟨d, e1, e, e2, _, _, q⟩
    cases e1
    cases e2
    simpa only [PyData.eqv] using q
  · intro q
    exact rEq_scal rfl rfl q
theorem ex_lst {a : List T} {P : List T → Prop} : (∃ v, some (O.lst a) = some (O.lst v) ∧ P v) = P a := by
  apply propext
  constructor
  · rintro ⟨v, e, h⟩; cases e; exact h
  · intro h; exact ⟨a, rfl, h⟩
theorem ex_lst0 {a : List T} : (∃ v, some (O.lst a) = some (O.lst v)) = True := eq_true ⟨a, rfl⟩
end Wp
namespace Wp
open PySem PySem.Spec PyProof.Rows L2
/-- a comprehension whose elements change nothing -/
theorem compW_pure {te : WE} {i : Nat} {σ : Sl} {D : Addr} {Q : T → Sta → Prop} {stb : Sta → Prop} (f : T → T) (hst : ∀ S, stb S) : ∀ (xs acc : List T) (S : Sta),
    (∀ x ∈ xs, ∀ (acc' : List T) (R : T → Sta → Prop), R (f x) (upS S D (.lst acc')) → te (σ.set i (some x)) (upS S D (.lst acc')) R) → acc.length + xs.length ≤ 1000000 → Q (.ref D) (upS S D (.lst (acc ++ xs.map f))) → compW (gNm i) wYes te stb σ D Q xs (upS S D (.lst acc))
  | [], acc, S, _, _, q => by
    rw [List.map_nil, List.append_nil] at q
    exact ⟨hst _, q⟩
  | x :: xs, acc, S, h, hl, q => by
    refine ⟨hst _, wif_t (h x List.mem_cons_self acc _ ?_)⟩
    refine ⟨acc, upS_same, ?_, ?_⟩
    · rw [List.length_cons] at hl
      exact Nat.lt_of_lt_of_le (show acc.length < 10000000 by omega) (by rw [sizeLine_eq]; decide)
    · rw [upS_upS]
      refine compW_pure f hst xs (acc ++ [f x]) S (fun y hy acc' R r => h y (List.mem_cons_of_mem _ hy) acc' R r) ?_ ?_
      · rw [List.length_append, List.length_cons, List.length_nil]
        rw [List.length_cons] at hl
        omega
      · rw [List.append_assoc]
        exact q
theorem rangeT_len {n : Nat} : (rangeT 0 n).length = n := by unfold rangeT; rw [List.length_map, List.length_range]
theorem rangeT_map {n : Nat} (f : T → T) : (rangeT 0 n).map f = (List.range n).map fun (j : Nat) => f (.int j) := by
  unfold rangeT
  rw [List.map_map]
  refine List.map_congr_left fun j _ => ?_
  show f (.int (0 + (j : Int))) = _
  rw [Int.zero_add]
end Wp
namespace Wp
theorem isB_0 : isB "NoneType" "bool" = false := by decide
theorem isB_1 : isB "NoneType" "int" = false := by decide
theorem isB_2 : isB "NoneType" "str" = false := by decide
theorem isB_3 : isB "NoneType" "tuple" = false := by decide
theorem isB_4 : isB "NoneType" "list" = false := by decide
theorem isB_5 : isB "NoneType" "dict" = false := by decide
theorem isB_6 : isB "bool" "bool" = true := by decide
theorem isB_7 : isB "bool" "int" = true := by decide
theorem isB_8 : isB "bool" "str" = false := by decide
theorem isB_9 : isB "bool" "tuple" = false := by decide
theorem isB_10 : isB "bool" "list" = false := by decide
theorem isB_11 : isB "bool" "dict" = false := by decide
theorem isB_12 : isB "int" "bool" = false := by decide
theorem isB_13 : isB "int" "int" = true := by decide
theorem isB_14 : isB "int" "str" = false := by decide
theorem isB_15 : isB "int" "tuple" = false := by decide
theorem isB_16 : isB "int" "list" = false := by decide
theorem isB_17 : isB "int" "dict" = false := by decide
theorem isB_18 : isB "str" "bool" = false := by decide
theorem isB_19 : isB "str" "int" = false := by decide
theorem isB_20 : isB "str" "str" = true := by decide
theorem isB_21 : isB "str" "tuple" = false := by decide
theorem isB_22 : isB "str" "list" = false := by decide
theorem isB_23 : isB "str" "dict" = false := by decide
theorem isB_24 : isB "tuple" "bool" = false := by decide
theorem isB_25 : isB "tuple" "int" = false := by decide
theorem isB_26 : isB "tuple" "str" = false := by decide
theorem isB_27 : isB "tuple" "tuple" = true := by decide
theorem isB_28 : isB "tuple" "list" = false := by decide
theorem isB_29 : isB "tuple" "dict" = false := by decide
theorem isB_30 : isB "list" "bool" = false := by decide
theorem isB_31 : isB "list" "int" = false := by decide
theorem isB_32 : isB "list" "str" = false := by decide
theorem isB_33 : isB "list" "tuple" = false := by decide
theorem isB_34 : isB "list" "list" = true := by decide
theorem isB_35 : isB "list" "dict" = false := by decide
end Wp
namespace Wp
theorem goS_i {f : Sl → Sta → Prop} {σ : Sl} {S : Sta} (h : f σ S) : goS f σ S := h
end Wp
namespace Wp
theorem rangeT_ints {n : Nat} : rangeT 0 n = ((List.range n).map fun (j : Nat) => (j : Int)).map T.int := by
  unfold rangeT
  rw [List.map_map]
  refine List.map_congr_left fun j _ => ?_
  show T.int (0 + (j : Int)) = _
  rw [Int.zero_add]
  rfl
end Wp

set_option Elab.async false
set_option linter.all false
set_option maxRecDepth 100000
set_option maxHeartbeats 1000000
/-! all, any of a generator expression whose element is any expression -/
namespace Wp
open PySem PySem.Spec PyProof.Rows L2 GxR
/-- the context of a generator expression's frame -/
abbrev gblk (X : Cx) (A : Around) (s : Shared) (H : Hp) (cenv : Env) (fp : List Addr) (pn : List (Addr × Obj)) : Cx :=
  { X with A := A, s_0 := s, H_0 := H, env := cenv, outer := X.stack, stack := cenv :: X.stack, ex := fp, fn := fun _ => false, pn := pn, xe := fun _ _ => False }
theorem ne_of_none_left {H : Hp} {a b : Addr} {u : HO} (h : H a = none) (h' : H b = some u) : a ≠ b := by
  intro e; subst e; rw [h] at h'; cases h'
section
variable {X : Cx} {pins : List (Addr × Obj)} {σ : L2.St} {H : Hp} {s : Shared}
theorem inv_same {s' : Shared} (I : Inv X pins σ H s) (h1 : s'.heap = s.heap) (h2 : s'.os = s.os) (h3 : AllBare s'.gens) : Inv X pins σ H s' := by
  obtain ⟨hh, g, d, t, o⟩ := s'
  have e1 : hh = s.heap := h1
  have e2 : o = s.os := h2
  subst e1 e2
  exact ⟨I.ok, I.os, h3, I.base, I.loc, I.cell, I.free, I.freeC, I.pin, I.hok, I.len⟩
theorem gen_start {scope : Scope} {own : List (Str × Nat)} {fp : List Addr} {code : Value} {A : Around} {a : Addr} {go : Obj} {h5 : Heap} {gens5 : Array GenState} {tk : Nat} {m : Str → Option Value} (I : Inv X pins σ H s) (ok : BlkOk X.N X.env.scope scope own) (hN : X.N.Nodup)
    (hfp : ∀ b ∈ fp, FpOk X pins H b ∧ b < s.heap.objs.size) (nc : ∀ y ∈ scope.names, y.2 ≠ .cell) (hA : A.handled = X.A.handled)
    (hF : A.frames = some (genEnv scope (cloFrom X.env.cells scope.names []) s.heap.objs.size code builtinsNs X.env :: X.stack))
    (hn : h5.Ns s.heap.objs.size m) (hk : ∀ b o, s.heap.get? b = some o → h5.get? b = some o) (ha : h5.get? a = some go) (haC : s.heap.objs.size < a) (hgo : ∀ v, go.data ≠ .cell v) (hb : AllBare gens5) :
    Inv (gblk X A s H (genEnv scope (cloFrom X.env.cells scope.names []) s.heap.objs.size code builtinsNs X.env) fp [(a, go)]) [] (L2.wipe σ (own.map (·.2))) H { s with heap := h5, gens := gens5, toks := tk } := by
  have hfree : ∀ y ∈ scope.names, y.2 = .free → ∃ c, X.env.cells.lookup y.1 = some c := fun y hy e => by
    rcases ok.free y hy e with k | k
    · exact I.ok.has _ (.inl k)
    · exact I.ok.has _ (.inr k)
  have cm : ∀ {y c}, (y, c) ∈ cloFrom X.env.cells scope.names [] → X.env.cells.lookup y = some c ∧ c < s.heap.objs.size := fun {y c} hm => by
    rcases cloFrom_mem hm with hm | ⟨h1, rfl⟩
    · cases hm
    · obtain ⟨c, hc⟩ := hfree _ h1 rfl
      rw [hc]
      obtain ⟨w, z⟩ := I.cell _ _ hc
      exact ⟨rfl, z.lt⟩
  have mem : ∀ {y c}, (cloFrom X.env.cells scope.names []).lookup y = some c → X.env.cells.lookup y = some c ∧ c < s.heap.objs.size := fun {y c} e => cm (PySem.mem_of_lookup e)
  have look : ∀ {y}, scope.names.lookup y = some .free → ∃ c, (cloFrom X.env.cells scope.names []).lookup y = some c ∧ X.env.cells.lookup y = some c := fun {y} hl => by
    have hy : (y, NameKind.free) ∈ scope.names := PySem.mem_of_lookup hl
    obtain ⟨c', e'⟩ := mem_lookup (cloFrom_has (cells := X.env.cells) (acc := []) hy)
    exact ⟨c', e', (mem e').1⟩
  have nofr : ∀ b, s.heap.objs.size ≤ b → b ∉ frs X.stack := fun b hb hm => by
    rcases List.mem_cons.mp (I.stkSub b hm) with z | z
    · have := I.lt
      rw [z] at hb
      exact absurd (Nat.lt_of_lt_of_le this hb) (Nat.lt_irrefl _)
    · exact I.nofs hb z
  refine ⟨⟨I.ok.mod, ok.kind, I.ok.glob, rfl, Nat.le_refl _, fun y z c e1 e2 => I.ok.inj y z c (mem e1).1 (mem e2).1, fun y hy => ?_, fun y c z e => (by cases z), fun h => hA.trans (I.ok.hd h), hF, .inr ⟨rfl, rfl⟩, fun b hb => ⟨Nat.ne_of_lt (hfp b hb).2, fun y c e z => ?_⟩,
      I.bs, Nat.le_trans I.ok.bsz I.sz, fun b o e hb => ?_, fun b hb z => ?_, I.stack, I.stkFree⟩,
    rfl, hb, Un.kept hk, ⟨m, hn, fun i y av e1 e2 e3 => ?_⟩, fun y c e => ?_, I.hok.fresh (Nat.le_refl _), fun y c e => I.freeC y c (mem e).1, fun p hp => ?_, I.hok.kept hk, by rw [wipe_length]; exact I.len⟩
  · rcases hy with hy | hy
    · exact absurd rfl (nc _ (PySem.mem_of_lookup (show scope.names.lookup y = some .cell from hy)))
    · obtain ⟨c, h1, _⟩ := look hy
      exact ⟨c, h1⟩
  · exact (hfp b hb).1.2.2.2.2.1 y c (mem e).1 z
  · rcases (hfp b hb).1.2.2.2.1 with z | z
    · exact I.ok.noex b o e z
    · exact absurd (Nat.lt_of_lt_of_le (Heap.lt_size e) (Nat.le_trans I.ok.bsz z)) (Nat.lt_irrefl _)
  · rcases List.mem_cons.mp (I.stkSub b z) with z | z
    · exact (hfp b hb).1.2.1 z
    · exact (hfp b hb).1.2.2.1 z
  · obtain ⟨e2, hne⟩ := wipe_some e2
    have hfr : scope.names.lookup y = some .free := by
      have no : ∀ k, scope.names.lookup y = some k → ¬ (k = .local ∨ k = .cell) := fun k hk hh => by
        rcases ok.own _ (PySem.mem_of_lookup hk) hh with e' | e'
        · obtain ⟨p, hp, hpy⟩ := List.mem_map.mp e'
          have e3 := ok.ix p hp
          have : p.1 = y := hpy
          rw [this] at e3
          exact hne (List.mem_map.mpr ⟨p, hp, nodup_ix hN e3 e1⟩)
        · exact e' (List.mem_of_getElem? e1)
      rcases (show Vis scope y from e3) with e3 | e3 | e3
      · exact absurd (.inl rfl) (no _ e3)
      · exact absurd (.inr rfl) (no _ e3)
      · exact e3
    obtain ⟨m0, _, hl⟩ := I.loc
    have hvis : Vis X.env.scope y := (ok.free _ (PySem.mem_of_lookup hfr) rfl).elim (fun k => .inr (.inl k)) (fun k => .inr (.inr k))
    obtain ⟨w, r, q⟩ := hl i y av e1 e2 hvis
    refine ⟨w, r, .inr ⟨.inr hfr, ?_⟩⟩
    obtain ⟨c, h1, h2⟩ := look hfr
    rcases q with ⟨k, _⟩ | ⟨_, c', e', z⟩
    · have k : X.env.scope.names.lookup y = some .local := k
      rcases ok.free _ (PySem.mem_of_lookup hfr) rfl with k' | k' <;> rw [show X.env.scope.names.lookup y = _ from k'] at k <;> cases k
    · rw [h2] at e'; cases e'
      exact ⟨c, h1, z.keeps hk⟩
  · obtain ⟨w, z⟩ := I.cell y c (mem e).1
    exact ⟨w, z.keeps hk⟩
  · have e : p = (a, go) := by simpa using hp
    subst e
    exact ⟨ha, I.hok.fresh (Nat.le_of_lt haC), Nat.ne_of_gt haC, nofr _ (Nat.le_of_lt haC), hgo⟩
end
/-! ### the generator's own loop -/
def gR (X : Cx) (σ : L2.St) (g : Nat) (Q : VK) (sa : Bool) : GenEnd := fun n s₀ r s₁ => r = .ok .next ∧ (g < s₁.gens.size ∧ ∃ H', Inv X [] σ H' s₁ ∧ Q (.bl (!sa)) H')
def gY (X : Cx) (g : Nat) (Q : VK) (sa : Bool) : Protocol := fun n s₀ v s kap => ∃ b : Bool, v = .bool b ∧ g < s.gens.size ∧ ∃ H' σ', Inv X [] σ' H' s ∧ (b = sa → Q (.bl sa) H') ∧
  (b ≠ sa → ∀ s'' : Shared, s''.heap = s.heap → s''.os = s.os → AllBare s''.gens → g < s''.gens.size → kap (.send .none) s'')
/-- a turn of the reading -/
def TurnG (J : It) (gT : TG) (te : TE) (vs : List Nat) (σ : L2.St) (Q : VK) (sa : Bool) (W : Nat → Nat → Hp → Prop) : Prop := ∀ i m H, W i m H →
  (J.stop i H ∧ Q (.bl (!sa)) H) ∨ (J.go i H ∧ ∃ Nx : Hp → Prop, (∀ H', Nx H' → ∃ m', m' < m ∧ W (i + 1) m' H') ∧ ∀ x H', J.yld i H x H' → gT x (L2.wipe σ vs) H' fun σ2 H2 => L2.wipe σ2 vs = L2.wipe σ vs ∧
    te σ2 H2 fun y H4 => ∃ b : Bool, y = .bl b ∧ (b = sa → Q (.bl sa) H4) ∧ (b ≠ sa → Nx H4))
theorem seg_gl {X : Cx} {A₁ : Around} {tg iter elt : Expr} {scope : Scope} {gpos : Pos} {it : Addr} {g : Nat} {fp : List Addr} {tn : Nat → Heap → Prop} {J : It} {W : Nat → Nat → Hp → Prop} {vs : List Nat} {σ : L2.St} {Q : VK} {sa : Bool} {gT : TG} {te : TE}
    (hA : X.A = A₁.over (.compLoop (.GeneratorExp elt [⟨tg, iter, [], 0⟩] scope gpos) 0 (.ref it) .none X.env) []) (hex : X.ex = fp) (hxe : X.xe = fun _ _ => False) (hc : X.calm = true) (T : Turn X.prog X.w X.K tg J fp it tn) (hco : X.env.scope.isCoroutine = false) (pg : PG X tg gT) (pe : PE X elt te)
    (nop : ∀ b ∈ fp, ∀ p ∈ X.pn, p.1 ≠ b)
    (turn : TurnG J gT te vs σ Q sa W) :
    ∀ (n m i : Nat) (s₀ s : Shared) (H' : Hp), m < n → Inv X [] (L2.wipe σ vs) H' s → tn i s.heap → (∀ b ∈ fp, H' b = none) → W i m H' → g < s.gens.size →
      Seg (model X.prog X.w) A₁ (gR X (L2.wipe σ vs) g Q sa) (gY X g Q sa) n s₀ (.compLoop (.GeneratorExp elt [⟨tg, iter, [], 0⟩] scope gpos) 0 (.ref it) .none X.env)
        ((model X.prog X.w).den (.compLoop (.GeneratorExp elt [⟨tg, iter, [], 0⟩] scope gpos) 0 (.ref it) .none X.env)) [] s := by
  have stat : ∀ {σ' : L2.St} {H' : Hp} {s' : Shared}, Inv X [] σ' H' s' → (∀ b ∈ fp, H' b = none) → ∀ b ∈ fp, FpOk X [] H' b := fun {σ' H' s'} I' hn b hb =>
    ⟨hn b hb, (I'.ok.exf b (by rw [hex]; exact hb)).1, I'.ok.exfs b (by rw [hex]; exact hb), .inl (by rw [hex]; exact hb), fun x c e => (I'.ok.exf b (by rw [hex]; exact hb)).2 x c e, fun p hp => nop b hb p (by simpa using hp)⟩
  intro n
  induction n with
  | zero => intro m i s₀ s H' hm; exact absurd hm (Nat.not_lt_zero _)
  | succ n ih =>
    intro m i s₀ s H5 hm I5 st5 n5 w5 hg
    show Seg _ A₁ _ _ (n + 1) s₀ _ ((compTurn (.GeneratorExp elt [⟨tg, iter, [], 0⟩] scope gpos) 0 (.ref it) .none X.env).onRaise (leaving X.env)) [] s
    rw [compTurn_gen, Sem.onRaise_eq_wrap]
    refine seg_bind_wrap (wpAny_standAt ?_)
    refine seg_bind_wrap ?_
    rw [← hA]
    rcases turn i m H5 w5 with ⟨stop, qq⟩ | ⟨go, Nx, hNx, step⟩
    · refine GenW.wpAny_gsz hg (thnF (T.done X rfl rfl rfl hc i [] s _ H5 (fun _ _ => False) I5 (stat I5 n5) st5 stop) fun r s6 ⟨hr, I6⟩ g6 => ?_)
      subst hr
      exact seg_end (.ok .next) ⟨rfl, g6, H5, I6, qq⟩
    · refine GenW.wpAny_gsz hg (thnF (T.item X rfl rfl rfl hc i [] s _ H5 (fun _ _ => False) I5 (stat I5 n5) st5 go) fun r s6 ⟨u, hr, h6⟩ g6 => ?_)
      subst hr
      refine seg_bind_wrap ?_
      rw [← hA]
      refine GenW.wpAny_gsz g6 (thnF h6 fun _ s7 ⟨x, H7, I7, r7, y7, st7, n7⟩ g7 => ?_)
      have I7' := I7.pinned (stat I7 n7) (T.obj _ _ st7)
      refine seg_bind_wrap ?_
      rw [← hA]
      have pg7 := pg.run _ s7 _ H7 x u _ I7' r7 (step x H7 y7)
      have pe7 := pe.run
      rw [hxe] at pg7 pe7
      refine GenW.wpAny_gsz g7 (thnF pg7 fun _ s8 ⟨σ8, H8, I8, hw8, q8⟩ g8 => ?_)
      refine seg_bind_wrap ?_
      simp only [List.forIn_nil]
      refine wpAny_pure ?_
      simp only [if_true]
      have hy : ∀ v, yieldOut X.env v = yieldValue v := fun v => by simp only [yieldOut, hco, Bool.false_eq_true, if_false]
      simp only [hy]
      rw [Sem.bind_eq_wrap', Sem.bind_eq_wrap', Sem.wrap_wrap, Sem.wrap_wrap]
      refine seg_wrap ?_
      rw [← hA]
      refine GenW.wpAny_gsz g8 (thnF (pe7 _ s8 σ8 H8 _ I8 q8) fun y s9 ⟨yv, H9, I9, r9, b, eb, q1, q2⟩ g9 => ?_)
      subst eb
      have ey : y = Value.bool b := r9
      subst ey
      refine seg_at (seg_yield rfl rfl rfl ⟨b, rfl, g9, H9, σ8, I9.unpinned, q1, fun hb s'' e1 e2 e3 e4 => ?_⟩)
      obtain ⟨m', hm', w'⟩ := hNx H9 (q2 hb)
      have pin' : ∀ b ∈ fp, ∀ o, s7.heap.get? b = some o → s9.heap.get? b = some o ∧ H9 b = none := fun b hb o e =>
        let z := I9.pin (b, o) (List.mem_append_right _ (List.mem_append_right _ (mem_pinsAt hb e)))
        ⟨z.1, z.2.1⟩
      have hl : (L2.wipe σ vs).length = σ8.length := by rw [← hw8, wipe_length]
      have I10 : Inv X [] (L2.wipe σ vs) H9 s'' := inv_same ((I9.unpinned (pins := [])).weak hl (fun j v e => by rw [← hw8] at e; exact (wipe_some e).1)) e1 e2 e3
      refine seg_again rfl (ih m' (i + 1) s'' s'' H9 (by omega) I10 (T.keep _ _ _ st7 fun b hb o e => by rw [e1]; exact (pin' b hb o e).1) (fun b hb => ?_) w' e4)
      obtain ⟨o, e, _⟩ := T.obj _ _ st7 b hb
      exact (pin' b hb o e).2
/-! ### woken by pyNext; the consumers -/
def GReady (P : Program) (w : World) (A₁ : Around) (R : GenEnd) (Y : Protocol) (a : Addr) (g n : Nat) (s : Shared) : Prop := s.heap.IsGen a g ∧ s.heap.NoLimit ∧ AllBare s.gens ∧ ∃ gs, s.gens[g]? = some gs ∧
  ∀ s'' : Shared, s''.heap = s.heap → s''.os = s.os → AllBare s''.gens → g < s''.gens.size → gs.Goes (model P w) A₁ R Y n (.send .none) s''
section
variable {X : Cx} {A : Around} {σb : L2.St} {g : Nat} {a : Addr} {go : Obj} {Q : VK} {sa : Bool}
theorem next_g {n : Nat} {s : Shared} {E : Value → Shared → Prop} {Qn : Option Value → Shared → Prop} (hh : A.handled = none) (hroom : A.depth < recursionLimit) (hpn : X.pn = [(a, go)]) (hgo : ∃ nm qn, go.cls = .type "generator" ∧ go.data = .fields #[.int g 0, nm, qn] ∧ go.slots = #[])
    (hr : GReady X.prog X.w A.in1 (gR X σb g Q sa) (gY X g Q sa) a g n s)
    (h1 : ∀ b s' n', b ≠ sa → n = n' + 1 → GReady X.prog X.w A.in1 (gR X σb g Q sa) (gY X g Q sa) a g n' s' → Qn (some (.bool b)) s')
    (h2 : ∀ s' H' σ', Inv X [] σ' H' s' → Q (.bl sa) H' → Qn (some (.bool sa)) s') (h3 : ∀ s' H' σ', Inv X [] σ' H' s' → Q (.bl (!sa)) H' → Qn none s') : wpAny (model X.prog X.w) A (pyNext (.ref a)) Qn E s := by
  obtain ⟨hg, hl, hb, gs, hgs, hgo2⟩ := hr
  have hgl : g < s.gens.size := (Array.getElem?_eq_some_iff.mp hgs).1
  refine wpAny_pyNext_genexpQ (P := fun n s₀ s₁ => g < s₁.gens.size ∧ ∃ H', Inv X [] σb H' s₁ ∧ Q (.bl (!sa)) H') hh hl hroom hg hgs (hgo2 _ rfl rfl (allBare_setGen hb rfl) (by rw [GenW.setGen_size]; exact hgl)) (fun v s₁ gs' hbare hv => ?_) (fun s₁ hp h' hk => ?_)
  · obtain ⟨b, rfl, hg1, H', σ', I, q1, q2⟩ := hv
    by_cases e : b = sa
    · subst e
      exact h2 _ H' σ' (inv_same I rfl rfl (allBare_setGen I.bare hbare)) (q1 rfl)
    · cases n with
      | zero => exact (q2 e s₁ rfl rfl I.bare hg1 : False).elim
      | succ m =>
        obtain ⟨nm, qn, z1, z2, z3⟩ := hgo
        refine h1 b _ m e rfl ⟨⟨go, nm, qn, (I.pin (a, go) (by rw [hpn]; simp)).1, z1, z2, z3⟩, I.nolimit, allBare_setGen I.bare hbare, gs', setGen_at hg1, fun s'' e1 e2 e3 e4 => q2 e s'' e1 e2 e3 e4⟩
  · obtain ⟨hg1, H', I, q⟩ := hp
    exact h3 _ H' σb (inv_same (I.kept (t' := s₁.toks) hk) rfl rfl (allBare_setGen I.bare rfl)) q
variable {R : Result → Shared → Prop}
theorem all_g (hh : A.handled = none) (hroom : A.depth < recursionLimit) (hpn : X.pn = [(a, go)]) (hgo : ∃ nm qn, go.cls = .type "generator" ∧ go.data = .fields #[.int g 0, nm, qn] ∧ go.slots = #[])
    (hR : ∀ b s' H' σ', Inv X [] σ' H' s' → Q (.bl b) H' → R (.ok (.ret (.bool b))) s') :
    ∀ (n : Nat) (s : Shared), GReady X.prog X.w A.in1.in1 (gR X σb g Q false) (gY X g Q false) a g n s → codeAny (model X.prog X.w) A (.builtin "all.loop" ⟨[.ref a], []⟩) R s := by
  intro n
  induction n with
  | zero =>
    intro s hr
    refine codeAny_builtin F.entry_all_loop ?_
    rw [Around.under_plainId F.plain_all_loop _]
    show wpAny _ A.in1 (pyNext (.ref a) >>= _) _ _ s
    refine wpAny_bind (next_g (A := A.in1) hh hroom hpn hgo hr (fun b s' n' _ z _ => (by cases z)) (fun s' H' σ' I q => ?_) fun s' H' σ' I q => ?_)
    · refine wpAny_bind (wpAny_holding (wpAny_truthy_bool ?_))
      refine wpAny_bind (wpAny_letGo ?_)
      simp only [Bool.false_eq_true, if_false]
      exact wpAny_bind (wpAny_rule (wpAny_pure (hR false _ H' σ' I q)))
    · exact wpAny_bind (wpAny_rule (wpAny_pure (hR true _ H' σ' I q)))
  | succ n ih =>
    intro s hr
    refine codeAny_builtin F.entry_all_loop ?_
    rw [Around.under_plainId F.plain_all_loop _]
    show wpAny _ A.in1 (pyNext (.ref a) >>= _) _ _ s
    refine wpAny_bind (next_g (A := A.in1) hh hroom hpn hgo hr (fun b s' n' hb z hr' => ?_) (fun s' H' σ' I q => ?_) fun s' H' σ' I q => ?_)
    · cases z
      have eb : b = true := by cases b; exact absurd rfl hb; rfl
      subst eb
      refine wpAny_bind (wpAny_holding (wpAny_truthy_bool ?_))
      refine wpAny_bind (wpAny_letGo ?_)
      simp only [if_true]
      exact wpAny_pure ⟨plainId_quiet F.plain_all_loop _, ih _ hr'⟩
    · refine wpAny_bind (wpAny_holding (wpAny_truthy_bool ?_))
      refine wpAny_bind (wpAny_letGo ?_)
      simp only [Bool.false_eq_true, if_false]
      exact wpAny_bind (wpAny_rule (wpAny_pure (hR false _ H' σ' I q)))
    · exact wpAny_bind (wpAny_rule (wpAny_pure (hR true _ H' σ' I q)))
theorem any_g (hh : A.handled = none) (hroom : A.depth < recursionLimit) (hpn : X.pn = [(a, go)]) (hgo : ∃ nm qn, go.cls = .type "generator" ∧ go.data = .fields #[.int g 0, nm, qn] ∧ go.slots = #[])
    (hR : ∀ b s' H' σ', Inv X [] σ' H' s' → Q (.bl b) H' → R (.ok (.ret (.bool b))) s') :
    ∀ (n : Nat) (s : Shared), GReady X.prog X.w A.in1.in1 (gR X σb g Q true) (gY X g Q true) a g n s → codeAny (model X.prog X.w) A (.builtin "any.loop" ⟨[.ref a], []⟩) R s := by
  intro n
  induction n with
  | zero =>
    intro s hr
    refine codeAny_builtin F.entry_any_loop ?_
    rw [Around.under_plainId F.plain_any_loop _]
    show wpAny _ A.in1 (pyNext (.ref a) >>= _) _ _ s
    refine wpAny_bind (next_g (A := A.in1) hh hroom hpn hgo hr (fun b s' n' _ z _ => (by cases z)) (fun s' H' σ' I q => ?_) fun s' H' σ' I q => ?_)
    · refine wpAny_bind (wpAny_holding (wpAny_truthy_bool ?_))
      refine wpAny_bind (wpAny_letGo ?_)
      simp only [if_true]
      exact wpAny_bind (wpAny_rule (wpAny_pure (hR true _ H' σ' I q)))
    · exact wpAny_bind (wpAny_rule (wpAny_pure (hR false _ H' σ' I q)))
  | succ n ih =>
    intro s hr
    refine codeAny_builtin F.entry_any_loop ?_
    rw [Around.under_plainId F.plain_any_loop _]
    show wpAny _ A.in1 (pyNext (.ref a) >>= _) _ _ s
    refine wpAny_bind (next_g (A := A.in1) hh hroom hpn hgo hr (fun b s' n' hb z hr' => ?_) (fun s' H' σ' I q => ?_) fun s' H' σ' I q => ?_)
    · cases z
      have eb : b = false := by cases b; rfl; exact absurd rfl hb
      subst eb
      refine wpAny_bind (wpAny_holding (wpAny_truthy_bool ?_))
      refine wpAny_bind (wpAny_letGo ?_)
      simp only [Bool.false_eq_true, if_false]
      exact wpAny_pure ⟨plainId_quiet F.plain_any_loop _, ih _ hr'⟩
    · refine wpAny_bind (wpAny_holding (wpAny_truthy_bool ?_))
      refine wpAny_bind (wpAny_letGo ?_)
      simp only [if_true]
      exact wpAny_bind (wpAny_rule (wpAny_pure (hR true _ H' σ' I q)))
    · exact wpAny_bind (wpAny_rule (wpAny_pure (hR false _ H' σ' I q)))
end
/-! ### made -/
theorem over_gen {A : Around} {elt : Expr} {gs : List Comprehension} {sc : Scope} {p : Pos} {v u : Value} {env : Env} : A.over (.compLoop (.GeneratorExp elt gs sc p) 0 v u env) [] = A.deeper env := by
  first
    | rfl
    | (obtain ⟨hd, d, fr, gs, u⟩ := A; simp [Around.over, Around.deeper, marksOver, frameCount, unitsOf, envsOf, guardsOf, pushEnvs, pushGuards, Code.envs, Code.env?, Code.isFrame, Code.guards, Code.isGuard, Code.weight, Code.frames, Code.isCreation, Code.isCaller, Code.cUnits])
theorem seg_gs {X : Cx} {A₁ : Around} {tg iter elt : Expr} {scope : Scope} {gpos : Pos} {it : Addr} {g : Nat} {fp : List Addr} {tn : Nat → Heap → Prop} {J : It} {W : Nat → Nat → Hp → Prop} {vs : List Nat} {σ : L2.St} {Q : VK} {sa : Bool} {gT : TG} {te : TE}
    (hA : X.A = A₁.over (.compLoop (.GeneratorExp elt [⟨tg, iter, [], 0⟩] scope gpos) 0 (.ref it) .none X.env) []) (hex : X.ex = fp) (hxe : X.xe = fun _ _ => False) (hc : X.calm = true) (T : Turn X.prog X.w X.K tg J fp it tn) (hco : X.env.scope.isCoroutine = false) (pg : PG X tg gT) (pe : PE X elt te)
    (nop : ∀ b ∈ fp, ∀ p ∈ X.pn, p.1 ≠ b)
    (turn : TurnG J gT te vs σ Q sa W) (n m : Nat) (s : Shared) (H' : Hp) (hm : m < n) (I : Inv X [] (L2.wipe σ vs) H' s) (st : tn 0 s.heap) (hn : ∀ b ∈ fp, H' b = none) (w : W 0 m H') (hg : g < s.gens.size) :
      Seg (model X.prog X.w) A₁ (gR X (L2.wipe σ vs) g Q sa) (gY X g Q sa) n s (.compStart (.GeneratorExp elt [⟨tg, iter, [], 0⟩] scope gpos) 0 (.ref it) .none X.env)
        ((model X.prog X.w).den (.compStart (.GeneratorExp elt [⟨tg, iter, [], 0⟩] scope gpos) 0 (.ref it) .none X.env)) [] s := by
  have loop := seg_gl hA hex hxe hc T hco pg pe nop turn n m 0 s s H' hm I st hn w hg
  show Seg _ A₁ _ _ _ s _ ((compStart (.GeneratorExp elt [⟨tg, iter, [], 0⟩] scope gpos) 0 (.ref it) .none X.env).onRaise (leaving X.env)) [] s
  unfold compStart
  rw [Sem.onRaise_eq_wrap]
  show Seg _ A₁ _ _ _ s _ ((ask >>= _).wrap _ _ _ _) [] s
  refine seg_bind_wrap (wpAny_askSetting ?_)
  split
  · exact seg_again rfl loop
  · first
      | exact seg_bind_wrap (wpAny_rule (seg_bind_wrap (wpAny_standAt (seg_bind_wrap (T.self _ 0 s _ _ st (seg_again rfl loop))))))
      | (refine seg_bind_wrap (wpAny_rule ?_); show Seg _ A₁ _ _ _ s _ ((standAt iter.pos >>= _).wrap _ _ _ _) [] s; exact seg_bind_wrap (wpAny_standAt (seg_bind_wrap (T.self _ 0 s _ _ st (seg_again rfl loop)))))

def tAG (P : Addr) (sa : Bool) (wi : TI) (gT : TG) (te : TE) (vs : List Nat) : TE := fun σ H Q => wi σ H fun J H1 => TabG H1 P ∧ ∀ H2, Tabbed P H1 H2 → ∃ W : Nat → Nat → Hp → Prop, (∃ m, W 0 m H2) ∧ TurnG J gT te vs σ Q sa W
section
variable {X : Cx} {pins : List (Addr × Obj)} {σ : L2.St} {H : Hp} {s : Shared}
theorem gen_core {c P : Addr} {elt tg iter : Expr} {gpos : Pos} {scope : Scope} {own : List (Str × Nat)} {sa : Bool} {wi : TI} {gT : TG} {te : TE} {k : Nat} {Q : VK} {Q' : Value → Shared → Prop}
    (hr : Room (k + 1) X.A) (hc : X.calm = true) (hN : X.N.Nodup) (TB : TabB X.base X.mg c P) (hcode : X.env.code = .ref c) (ok : BlkOk X.N X.env.scope scope own) (nc : ∀ y ∈ scope.names, y.2 ≠ .cell) (hco : scope.isCoroutine = false) (dot : scope.names.lookup (".0" : Str) = some NameKind.local)
    (hi : PI X tg iter wi) (hs : ∀ v, genFold iter X.env v = pure v)
    (hg : ∀ (A : Around) (s : Shared) (H : Hp) (C : Addr) (code : Value) (fp : List Addr) (pn : List (Addr × Obj)), Room k A → PG (gblk X A s H (genEnv scope (cloFrom X.env.cells scope.names []) C code builtinsNs X.env) fp pn) tg gT)
    (he : ∀ (A : Around) (s : Shared) (H : Hp) (C : Addr) (code : Value) (fp : List Addr) (pn : List (Addr × Obj)), Room k A → PE (gblk X A s H (genEnv scope (cloFrom X.env.cells scope.names []) C code builtinsNs X.env) fp pn) elt te)
    (I : Inv X pins σ H s) (h : tAG P sa wi gT te (own.map (·.2)) σ H Q)
    (hQ : ∀ (Xb : Cx) (σb : L2.St) (a : Addr) (g : Nat) (go : Obj) (n : Nat) (s5 : Shared), Xb.prog = X.prog → Xb.w = X.w → Xb.pn = [(a, go)] → (∃ nm qn, go.cls = .type "generator" ∧ go.data = .fields #[.int g 0, nm, qn] ∧ go.slots = #[]) →
      GReady X.prog X.w X.A.in1.in1 (gR Xb σb g Q sa) (gY Xb g Q sa) a g n s5 → (∀ s' H' σ', Inv Xb [] σ' H' s' → Inv X pins σ H' s') → Q' (.ref a) s5) :
    wpAny (model X.prog X.w) X.A (eval (.GeneratorExp elt [⟨tg, iter, [], 0⟩] scope gpos) X.env) Q' X.xe s := by
  have hfree : ∀ y ∈ scope.names, y.2 = .free → ∃ c, X.env.cells.lookup y.1 = some c := fun y hy e => by
    rcases ok.free y hy e with k | k
    · exact I.ok.has _ (.inl k)
    · exact I.ok.has _ (.inr k)
  refine wpAny_GeneratorExp_make hco (closure_ok hfree) nc dot ok.kind (by have := hr.dp; omega) (thn (hi.run pins s σ H _ I h) fun xv s1 hx => thn hx fun itv s2 h2 => ?_) hs
  obtain ⟨it, fp, tn, J, H2, e, I2, T, st2, f2, hTab, q⟩ := h2
  subst e
  obtain ⟨ps, hP, ht⟩ := hTab
  have hPs : s2.heap.get? P = some { cls := .none, data := .fields ps } := I2.hok P _ hP
  have cd : PySem.W.CodeHd s2.heap c P := TB.code.keeps fun b u e => I2.bk b u e
  refine ⟨I2.nolimit, ?_⟩
  have cont : ∀ (code : Value) (h3 : Heap) (tk : Nat) (ps' : Array Value), Heap.ExtBut P s2.heap h3 → s2.heap.objs.size ≤ h3.objs.size → h3.get? P = some { cls := .none, data := .fields ps' } → (∃ more, ps' = ps ++ more) → TriplesOk ps'.toList →
      wpAny (model X.prog X.w) X.A (builtinsFor X.env.globals X.env.builtins) (fun bi s₄ =>
        ∀ h', h'.Ns s₄.heap.objs.size (fun y => if y = ".0" then some (.ref it) else none) → Heap.SameBut s₄.heap.objs.size (s₄.heap.push { cls := .type "frame", data := .dict #[] }) h' →
          Q' (.ref h'.objs.size) { s₄ with
            gens := s₄.gens.push (.fresh (.compStart (.GeneratorExp elt [⟨tg, iter, [], 0⟩] scope gpos) 0 (.ref it) .none (genEnv scope (cloFrom X.env.cells scope.names []) s₄.heap.objs.size code bi X.env))),
            toks := s₄.toks + 1 + 1 + 1,
            heap := h'.push { cls := .type "generator", data := .fields #[.int s₄.gens.size 0, .str "<genexpr>" (s₄.toks + 1), .str (X.env.qual ++ "<genexpr>") (s₄.toks + 1 + 1)] } }) X.xe { s2 with heap := h3, toks := tk } := by
    intro code h3 tk ps' hx hsz hP3 hmore ht3
    obtain ⟨bm, ob, e1, e2, e3, e4, e5, e6, e7, e8⟩ := TB.bm
    have keep3 : ∀ b u, b ≠ P → s2.heap.get? b = some u → h3.get? b = some u := fun b u hb e => hx b u hb e
    refine wpAny_builtinsFor (m := X.mg) (by rw [I2.ok.glob]; exact (I2.mod.glob.keeps I2.bk).extBut hx TB.gP) e1 e2 (keep3 _ _ e4 (I2.bk _ _ e5)) e6 e7 e8 ?_
    intro h' hn' hs'
    obtain ⟨more, em⟩ := hmore
    have I3 := inv_tab (more := more) (h' := h3) (g' := s2.gens) (d' := s2.drawn) (t' := tk) I2 hP keep3 (by rw [← em]; exact hP3) I2.bare
    have hT3 : Tabbed P H2 (upd H2 P (.tbl (ps ++ more))) := ⟨⟨ps ++ more, upd_same, by rw [← em]; exact ht3⟩, fun b hb => upd_ne hb⟩
    obtain ⟨W, ⟨m0, w0⟩, turn⟩ := q _ hT3
    generalize hH3 : upd H2 P (.tbl (ps ++ more)) = H3 at I3 w0 hT3
    have szf : ∀ b ∈ fp, b < s2.heap.objs.size := fun b hb => by
      obtain ⟨o, e, _⟩ := T.obj _ _ st2 b hb
      exact Heap.lt_size e
    have fneP : ∀ b ∈ fp, b ≠ P := fun b hb => ne_of_none_left (f2 b hb).1 hP
    have f3 : ∀ b ∈ fp, FpOk X pins H3 b ∧ b < h3.objs.size := fun b hb => by
      refine ⟨⟨?_, (f2 b hb).2⟩, Nat.lt_of_lt_of_le (szf b hb) hsz⟩
      rw [← hH3, upd_ne (fneP b hb)]
      exact (f2 b hb).1
    have hsz' : h'.objs.size = h3.objs.size + 1 := by rw [hs'.1, Heap.size_push]
    have keep5 : ∀ (o5 : Obj) b o, h3.get? b = some o → (h'.push o5).get? b = some o := fun o5 b o e => Heap.get?_push_of_some _ (hs'.extBut b o (Nat.ne_of_lt (Heap.lt_size e)) (Heap.get?_push_of_some _ e))
    have st5 : ∀ (o5 : Obj), tn 0 (h'.push o5) := fun o5 => T.keep _ _ _ st2 fun b hb o e => keep5 o5 b o (keep3 b o (fneP b hb) e)
    have hroom : Room k (X.A.in1.in1.deeper (genEnv scope (cloFrom X.env.cells scope.names []) h3.objs.size code builtinsNs X.env)) := ⟨hr.hd, by have := hr.dp; show X.A.depth + 1 + 3 * k + 5 < _; omega, by have := hr.un; show X.A.units + 1 + 1 + 3 + 16 * k + 200 < _; omega⟩
    generalize hgo : ({ cls := .type "generator", data := .fields #[.int s2.gens.size 0, .str "<genexpr>" (tk + 1), .str (X.env.qual ++ "<genexpr>") (tk + 1 + 1)] } : Obj) = go
    have hfr : go.isFreed = false := by rw [← hgo]; rfl
    have hgd : ∃ nm qn, go.cls = .type "generator" ∧ go.data = .fields #[.int s2.gens.size 0, nm, qn] ∧ go.slots = #[] := by rw [← hgo]; exact ⟨_, _, rfl, rfl, rfl⟩
    have I5 := gen_start (A := X.A.in1.in1.deeper (genEnv scope (cloFrom X.env.cells scope.names []) h3.objs.size code builtinsNs X.env)) (code := code) (a := h'.objs.size) (go := go) (h5 := h'.push go) (tk := tk + 1 + 1 + 1)
      (gens5 := s2.gens.push (.fresh (.compStart (.GeneratorExp elt [⟨tg, iter, [], 0⟩] scope gpos) 0 (.ref it) .none (genEnv scope (cloFrom X.env.cells scope.names []) h3.objs.size code builtinsNs X.env))))
      I3 ok hN f3 nc rfl (Around.frames_deeper (A := X.A.in1.in1) I.ok.frames) (hn'.push _) (keep5 go) (Heap.get?_push_size _ hfr) (show h3.objs.size < h'.objs.size by rw [hsz']; exact Nat.lt_succ_self _) (fun v e => by obtain ⟨_, _, _, z, _⟩ := hgd; rw [z] at e; cases e) (I2.bare.push rfl)
    refine hQ (gblk X (X.A.in1.in1.deeper (genEnv scope (cloFrom X.env.cells scope.names []) h3.objs.size code builtinsNs X.env)) { s2 with heap := h3, toks := tk } H3 (genEnv scope (cloFrom X.env.cells scope.names []) h3.objs.size code builtinsNs X.env) fp [(h'.objs.size, go)])
      (L2.wipe σ (own.map (·.2))) h'.objs.size s2.gens.size go (m0 + 1) _ rfl rfl rfl hgd ⟨?_, I5.nolimit, I5.bare, _, Array.getElem?_push_size .., fun s'' z1 z2 z3 z4 => ⟨rfl, ?_⟩⟩ fun s' H' σ' I6 => ?_
    · obtain ⟨nm, qn, z1, z2, z3⟩ := hgd
      exact ⟨go, nm, qn, Heap.get?_push_size _ hfr, z1, z2, z3⟩
    · refine seg_gs (X := gblk X (X.A.in1.in1.deeper (genEnv scope (cloFrom X.env.cells scope.names []) h3.objs.size code builtinsNs X.env)) { s2 with heap := h3, toks := tk } H3 (genEnv scope (cloFrom X.env.cells scope.names []) h3.objs.size code builtinsNs X.env) fp [(h'.objs.size, go)]) (tn := tn) (J := J) (W := W) (gT := gT) (te := te) over_gen.symm rfl rfl hc T hco (hg _ _ _ _ _ _ _ hroom) (he _ _ _ _ _ _ _ hroom) (fun b hb p hp => ?_) turn (m0 + 1) m0 s'' H3 (Nat.lt_succ_self _) (inv_same I5 z1 z2 z3) (by rw [z1]; exact st5 go) (fun b hb => (f3 b hb).1.1) w0 z4
      have e : p = (h'.objs.size, go) := by simpa using hp
      subst e
      have h1 : b < h'.objs.size := by rw [hsz']; exact Nat.lt_succ_of_lt (f3 b hb).2
      exact Nat.ne_of_gt h1
    · exact I3.call' (ch := fp) I6.os I6.base I6.hok I6.bare fun b hb => ⟨(f3 b hb).1.2.2.2.1, (f3 b hb).1.2.1, (f3 b hb).1.2.2.2.2.1, (f3 b hb).1.2.2.2.2.2⟩
  cases hf : codeAmong gpos ps.toList with
  | none =>
    refine wpAny_genexprCodeX hcode (cd.code hPs ht) (cd.tab hPs) hf fun c' h' tk hx hge hlt hco' _ htab' _ => ?_
    obtain ⟨o1, vs, f1, tf, fl, tg, inF, tx, tt, op, _, _, _, _, _, _, _, _, _, htr, _⟩ := hco'
    exact cont _ h' tk _ hx (Nat.le_trans hge (Nat.le_of_lt hlt)) htab'.2 ⟨_, rfl⟩ htr
  | some cv =>
    refine wpAny_genexprCode_hit hcode (cd.code hPs ht) hf ?_
    exact cont cv s2.heap s2.toks ps (Heap.ExtBut.refl _ _) (Nat.le_refl _) hPs ⟨#[], by simp⟩ ht
theorem pe_ag {nm : Str} {c P : Addr} {elt tg iter : Expr} {p pos gpos : Pos} {scope : Scope} {own : List (Str × Nat)} {sa : Bool} {wi : TI} {gT : TG} {te : TE} {k : Nat}
    (hr : Room (k + 1) X.A) (hc : X.calm = true) (hN : X.N.Nodup) (TB : TabB X.base X.mg c P) (hcode : X.env.code = .ref c) (ok : BlkOk X.N X.env.scope scope own) (nc : ∀ y ∈ scope.names, y.2 ≠ .cell) (hco : scope.isCoroutine = false) (dot : scope.names.lookup (".0" : Str) = some NameKind.local)
    (hi : PI X tg iter wi) (hs : ∀ v, genFold iter X.env v = pure v)
    (hg : ∀ (A : Around) (s : Shared) (H : Hp) (C : Addr) (code : Value) (fp : List Addr) (pn : List (Addr × Obj)), Room k A → PG (gblk X A s H (genEnv scope (cloFrom X.env.cells scope.names []) C code builtinsNs X.env) fp pn) tg gT)
    (he : ∀ (A : Around) (s : Shared) (H : Hp) (C : Addr) (code : Value) (fp : List Addr) (pn : List (Addr × Obj)), Room k A → PE (gblk X A s H (genEnv scope (cloFrom X.env.cells scope.names []) C code builtinsNs X.env) fp pn) elt te)
    (hx : Gl X nm) (hm : X.mg nm = none) (hw : (nm = "all" ∧ sa = false) ∨ (nm = "any" ∧ sa = true))
    (hst : starEach [.GeneratorExp elt [⟨tg, iter, [], 0⟩] scope gpos] X.env = (false, eval (.GeneratorExp elt [⟨tg, iter, [], 0⟩] scope gpos) X.env) :: starEach [] X.env := by rfl) :
    PE X (.Call (.Name nm p) [.GeneratorExp elt [⟨tg, iter, [], 0⟩] scope gpos] [] pos) (tAG P sa wi gT te (own.map (·.2))) := by
  refine ⟨fun pins s σ H Q I h => ?_⟩
  rcases hw with ⟨rfl, rfl⟩ | ⟨rfl, rfl⟩
  · refine wpAny_Call_Name_kw (ld_blt I hx hm boot_all ?_)
    refine PyProof.Rows.callWith_builtin1 ?_ hst (by rfl)
    rw [hst]
    show wpAny _ _ (spliced ((false, eval (.GeneratorExp elt [⟨tg, iter, [], 0⟩] scope gpos) X.env) :: backTo pos (starEach [] X.env))) _ _ s
    refine Calls.spliced_cons (gen_core hr hc hN TB hcode ok nc hco dot hi hs hg he I h fun Xb σb a g go n s5 q1 q2 hpn hgo hG hI => ?_)
    refine Calls.spliced_nil ?_
    refine call_function_tree F.kind_all F.plain_all F.entry_all (F.args_all1 _) ?_
    unfold Builtin.«all»
    refine wpAny_bind (m := oneArg "all" _) (wpAny_pure ?_)
    refine wpAny_bind (wpAny_pyIter_gen hG.1 ?_)
    rw [← q1, ← q2] at hG ⊢
    exact wpAny_pure ⟨plainId_quiet F.plain_all_loop _, all_g (X := Xb) hr.hd (by have := hr.dp; omega) hpn hgo (fun b s' H' σ' I' q => ⟨.bl b, H', hI s' H' σ' I', rfl, q⟩) n s5 hG⟩
  · refine wpAny_Call_Name_kw (ld_blt I hx hm boot_any ?_)
    refine PyProof.Rows.callWith_builtin1 ?_ hst (by rfl)
    rw [hst]
    show wpAny _ _ (spliced ((false, eval (.GeneratorExp elt [⟨tg, iter, [], 0⟩] scope gpos) X.env) :: backTo pos (starEach [] X.env))) _ _ s
    refine Calls.spliced_cons (gen_core hr hc hN TB hcode ok nc hco dot hi hs hg he I h fun Xb σb a g go n s5 q1 q2 hpn hgo hG hI => ?_)
    refine Calls.spliced_nil ?_
    refine call_function_tree F.kind_any F.plain_any F.entry_any (F.args_any1 _) ?_
    unfold Builtin.«any»
    refine wpAny_bind (m := oneArg "any" _) (wpAny_pure ?_)
    refine wpAny_bind (wpAny_pyIter_gen hG.1 ?_)
    rw [← q1, ← q2] at hG ⊢
    exact wpAny_pure ⟨plainId_quiet F.plain_any_loop _, any_g (X := Xb) hr.hd (by have := hr.dp; omega) hpn hgo (fun b s' H' σ' I' q => ⟨.bl b, H', hI s' H' σ' I', rfl, q⟩) n s5 hG⟩
end
end Wp

set_option Elab.async false
set_option linter.all false
set_option maxRecDepth 100000
set_option maxHeartbeats 1000000
/-! all, any over trees; the end of a law whose defs hold generator expressions -/
namespace Wp
open PySem PySem.Spec PyProof.Rows L2 GxR
theorem tabbed_ext {P : Addr} {H1 H2 : Hp} (h : TabG H1 P) (t : Tabbed P H1 H2) : Ext H1 H2 := by
  obtain ⟨ps, e, ht⟩ := h
  refine ⟨fun b xs q => ?_, fun b o u q => ?_, fun b ⟨qs, q, z⟩ => ?_⟩
  · rw [t.2 b (fun z => by rw [z, e] at q; cases q)]; exact q
  · rw [t.2 b (fun z => by rw [z, e] at q; cases q)]; exact q
  · by_cases hb : b = P
    · rw [hb]; exact t.1
    · exact ⟨qs, by rw [t.2 b hb]; exact q, z⟩
theorem tabbed_st {K : PySem.W.Frag} {S : Sta} {P : Addr} {H1 H2 : Hp} (h : TabG H1 P) (t : Tabbed P H1 H2) (s : St K S H1) : St K S H2 :=
  s.keep (tabbed_ext h t) fun a o q => t.2 a fun z => by
    obtain ⟨ps, e, _⟩ := h
    obtain ⟨u, hu, hs⟩ := s.has q
    rw [z, e] at hu
    cases hu
    exact hs
section
variable {B : Hp} {X : Cx}
def allW (g : WG) (te : WE) (stb : Sta → Prop) (σ : Sl) (Q : T → Sta → Prop) : List T → Sta → Prop
  | [], S => stb S ∧ Q (.bl true) S
  | x :: xs, S => stb S ∧ g x σ S fun σ2 S2 => te σ2 S2 fun y S3 => match y with
    | .bl b => wif b (allW g te stb σ Q xs S3) (Q (.bl false) S3)
    | _ => False
def anyW (g : WG) (te : WE) (stb : Sta → Prop) (σ : Sl) (Q : T → Sta → Prop) : List T → Sta → Prop
  | [], S => stb S ∧ Q (.bl false) S
  | x :: xs, S => stb S ∧ g x σ S fun σ2 S2 => te σ2 S2 fun y S3 => match y with
    | .bl b => wif b (Q (.bl true) S3) (anyW g te stb σ Q xs S3)
    | _ => False
def agW (sa : Bool) : WG → WE → (Sta → Prop) → Sl → (T → Sta → Prop) → List T → Sta → Prop := match sa with
  | false => allW
  | true => anyW
def wAll (wi : WI) (g : WG) (te : WE) (vs : List Nat) (σ : Sl) (S : Sta) (Q : T → Sta → Prop) : Prop := wi σ S fun xs stb S1 => allW g te stb (wipeT σ vs) Q xs S1
def wAny (wi : WI) (g : WG) (te : WE) (vs : List Nat) (σ : Sl) (S : Sta) (Q : T → Sta → Prop) : Prop := wi σ S fun xs stb S1 => anyW g te stb (wipeT σ vs) Q xs S1
def wAg (sa : Bool) (wi : WI) (g : WG) (te : WE) (vs : List Nat) (σ : Sl) (S : Sta) (Q : T → Sta → Prop) : Prop := wi σ S fun xs stb S1 => agW sa g te stb (wipeT σ vs) Q xs S1
theorem agW_stb {sa : Bool} {g : WG} {te : WE} {stb : Sta → Prop} {σ : Sl} {Q : T → Sta → Prop} {xs : List T} {S : Sta} (h : agW sa g te stb σ Q xs S) : stb S := by
  cases sa <;> cases xs <;> exact h.1
theorem agW_nil {sa : Bool} {g : WG} {te : WE} {stb : Sta → Prop} {σ : Sl} {Q : T → Sta → Prop} {S : Sta} (h : agW sa g te stb σ Q [] S) : Q (.bl (!sa)) S := by
  cases sa <;> exact h.2
theorem agW_cons {sa : Bool} {g : WG} {te : WE} {stb : Sta → Prop} {σ : Sl} {Q : T → Sta → Prop} {x : T} {xs : List T} {S : Sta} (h : agW sa g te stb σ Q (x :: xs) S) :
    ∃ F : Bool → Sta → Prop, (∀ b S3, F b S3 → (b = sa → Q (.bl sa) S3) ∧ (b ≠ sa → agW sa g te stb σ Q xs S3)) ∧ g x σ S fun σ2 S2 => te σ2 S2 fun y S3 => match y with
      | .bl b => F b S3
      | _ => False := by
  cases sa with
  | false => exact ⟨fun b S3 => wif b (allW g te stb σ Q xs S3) (Q (.bl false) S3), fun b S3 z => by cases b <;> exact ⟨fun e => (by first | exact wt z | exact wff z | cases e), fun e => (by first | exact wt z | exact wff z | exact absurd rfl e)⟩, h.2⟩
  | true => exact ⟨fun b S3 => wif b (Q (.bl true) S3) (anyW g te stb σ Q xs S3), fun b S3 z => by cases b <;> exact ⟨fun e => (by first | exact wt z | exact wff z | cases e), fun e => (by first | exact wt z | exact wff z | exact absurd rfl e)⟩, h.2⟩
theorem wipe_wipe (σ : L2.St) (vs : List Nat) : L2.wipe (L2.wipe σ vs) vs = L2.wipe σ vs := by
  have key : ∀ (us ws : List Nat) (τ : L2.St), (∀ i ∈ us, i ∈ ws) → L2.wipe (L2.wipe τ ws) us = L2.wipe τ ws := fun us => by
    induction us with
    | nil => intro ws τ _; rfl
    | cons u us ih =>
      intro ws τ hu
      show (L2.wipe (L2.wipe τ ws) us).set u none = L2.wipe τ ws
      rw [ih ws τ fun i hi => hu i (List.mem_cons_of_mem _ hi)]
      have hmem := hu u List.mem_cons_self
      have set_none : ∀ (ws : List Nat), u ∈ ws → (L2.wipe τ ws).set u none = L2.wipe τ ws := fun ws => by
        induction ws with
        | nil => intro h; cases h
        | cons w ws ih2 =>
          intro h
          show ((L2.wipe τ ws).set w none).set u none = (L2.wipe τ ws).set w none
          by_cases hw : u = w
          · subst hw; rw [List.set_set]
          · rw [List.set_comm _ _ (fun z => hw z.symm), ih2 ((List.mem_cons.mp h).resolve_left hw)]
      exact set_none ws hmem
  exact key vs vs σ fun i hi => hi
theorem le_ag {P : Addr} {sa : Bool} {wi : WI} {g : WG} {te : WE} {vs : List Nat} {σ : L2.St} {H : Hp} {Q : VK} (hB : TabG B P) (h : LE B X (wAg sa wi g te vs) σ H Q) : tAG P sa (LI B X wi) (LG X vs g) (LE B X te) vs σ H Q := by
  obtain ⟨st, S, Q0, he, hr, hs, h, im⟩ := h
  refine ⟨st, S, _, he, hr, hs, h, fun xs stb S1 h1 H1 e1 s1 J yl => ?_⟩
  have hP1 : TabG H1 P := (he.trans e1).tabs P hB
  refine ⟨hP1, fun HT hT => ?_⟩
  have eT := tabbed_ext hP1 hT
  refine ⟨fun i m H' => m = xs.length - i ∧ i ≤ xs.length ∧ ∃ S', Ext H1 H' ∧ St X.K S' H' ∧ agW sa g te stb (wipeT st vs) Q0 (xs.drop i) S', ⟨xs.length, by omega, Nat.zero_le _, _, eT, tabbed_st hP1 hT s1, h1⟩, fun i m H2 hW => ?_⟩
  obtain ⟨hm, hi, S2, e2, s2, h2⟩ := hW
  obtain ⟨y1, y2, y3⟩ := yl i S2 H2 e2 s2 (agW_stb h2)
  by_cases hlt : i < xs.length
  · refine .inr ⟨y1 hlt, fun H' => ∃ S', Ext H1 H' ∧ St X.K S' H' ∧ agW sa g te stb (wipeT st vs) Q0 (xs.drop (i + 1)) S', fun H' q => ⟨m - 1, by omega, by omega, by omega, q⟩, fun x H3 hy => ?_⟩
    obtain ⟨e3, s3, sl3, t, et, rt⟩ := y3 x H3 hy hlt
    have r3 := sl3 _ _ (((hr.mono e1).mono e2).wipe vs)
    rw [List.drop_eq_getElem_cons hlt] at h2
    have et' : xs[i] = t := by rw [List.getElem?_eq_getElem hlt] at et; exact Option.some.inj et
    rw [et'] at h2
    obtain ⟨F, hF, h2⟩ := agW_cons h2
    refine ⟨t, wipeT st vs, S2, _, rt, r3, s3, h2, fun st4 S4 h4 H4 σ4 e4 s4 r4 w4 => ⟨w4.trans (wipe_wipe σ vs), ?_⟩⟩
    have eb : Ext H1 H4 := e2.trans (e3.trans e4)
    refine ⟨st4, S4, _, he.trans (e1.trans eb), r4, s4, h4, fun y S6 h6 H6 v6 e6 s6 r6 => ?_⟩
    cases y with
    | bl b =>
      cases r6
      have z := hF b S6 h6
      exact ⟨b, rfl, fun hb => im _ _ (z.1 hb) H6 _ (e1.trans (eb.trans e6)) s6 (.bl _), fun hb => ⟨S6, eb.trans e6, s6, z.2 hb⟩⟩
    | _ => exact h6.elim
  · have ei : i = xs.length := by omega
    subst ei
    rw [List.drop_length] at h2
    exact .inl ⟨y2 (Nat.le_refl _), im _ _ (agW_nil h2) H2 _ (e1.trans e2) s2 (.bl _)⟩
/-- the table of a def with a generator expression -/
structure Tab1 (base : Heap) (mg : Str → Option Value) (tl : List Addr) (fd : FuncData) (c P : Addr) : Prop where
  code : fd.code = .ref c
  tab : TabB base mg c P
  mem : P ∈ tl
theorem j_ag {nm : Str} {c P : Addr} {elt tg iter : Expr} {p pos gpos : Pos} {scope : Scope} {own : List (Str × Nat)} {sa : Bool} {wi : WI} {g : WG} {te : WE} {k : Nat}
    (hr : Room (k + 1) X.A) (hc : X.calm = true) (hN : X.N.Nodup) (TB : TabB X.base X.mg c P) (hcode : X.env.code = .ref c) (hB : TabG B P) (ok : BlkOk X.N X.env.scope scope own) (nc : ∀ y ∈ scope.names, y.2 ≠ .cell) (hco : scope.isCoroutine = false) (dot : scope.names.lookup (".0" : Str) = some NameKind.local)
    (hi : JI B X tg iter wi) (hs : ∀ v, genFold iter X.env v = pure v)
    (hg : ∀ (A : Around) (s : Shared) (H : Hp) (C : Addr) (code : Value) (fp : List Addr) (pn : List (Addr × Obj)), Room k A → JG (gblk X A s H (genEnv scope (cloFrom X.env.cells scope.names []) C code builtinsNs X.env) fp pn) tg (own.map (·.2)) g)
    (he : ∀ (A : Around) (s : Shared) (H : Hp) (C : Addr) (code : Value) (fp : List Addr) (pn : List (Addr × Obj)), Room k A → JE B (gblk X A s H (genEnv scope (cloFrom X.env.cells scope.names []) C code builtinsNs X.env) fp pn) elt te)
    (hx : Gl X nm) (hm : X.mg nm = none) (hw : (nm = "all" ∧ sa = false) ∨ (nm = "any" ∧ sa = true))
    (hst : starEach [.GeneratorExp elt [⟨tg, iter, [], 0⟩] scope gpos] X.env = (false, eval (.GeneratorExp elt [⟨tg, iter, [], 0⟩] scope gpos) X.env) :: starEach [] X.env := by rfl) :
    JE B X (.Call (.Name nm p) [.GeneratorExp elt [⟨tg, iter, [], 0⟩] scope gpos] [] pos) (wAg sa wi g te (own.map (·.2))) :=
  pe_imp (pe_ag (gT := LG X (own.map fun (p : Str × Nat) => p.2) g) (te := LE B X te) hr hc hN TB hcode ok nc hco dot hi hs (fun A s H C code fp pn h => hg A s H C code fp pn h) (fun A s H C code fp pn h => he A s H C code fp pn h) hx hm hw hst) fun σ H Q h => le_ag hB h
theorem j_all {c P : Addr} {fd : FuncData} {tl : List Addr} {elt tg iter : Expr} {p pos gpos : Pos} {scope : Scope} {own : List (Str × Nat)} {wi : WI} {g : WG} {te : WE} {k : Nat}
    (hr : Room (k + 1) X.A) (t1 : Tab1 X.base X.mg tl fd c P) (hcd : X.env.code = fd.code) (ht : ∀ P ∈ tl, TabG B P) (hc : X.calm = true) (hN : X.N.Nodup) (ok : BlkOk X.N X.env.scope scope own) (nc : ∀ y ∈ scope.names, y.2 ≠ .cell)
    (hi : JI B X tg iter wi) (hs : ∀ v, genFold iter X.env v = pure v)
    (hg : ∀ (A : Around) (s : Shared) (H : Hp) (C : Addr) (code : Value) (fp : List Addr) (pn : List (Addr × Obj)), Room k A → JG (gblk X A s H (genEnv scope (cloFrom X.env.cells scope.names []) C code builtinsNs X.env) fp pn) tg (own.map (·.2)) g)
    (he : ∀ (A : Around) (s : Shared) (H : Hp) (C : Addr) (code : Value) (fp : List Addr) (pn : List (Addr × Obj)), Room k A → JE B (gblk X A s H (genEnv scope (cloFrom X.env.cells scope.names []) C code builtinsNs X.env) fp pn) elt te)
    (hx : Gl X "all") (hm : X.mg "all" = none) (hco : scope.isCoroutine = false := by rfl) (dot : scope.names.lookup (".0" : Str) = some NameKind.local := by rfl) :
    JE B X (.Call (.Name "all" p) [.GeneratorExp elt [⟨tg, iter, [], 0⟩] scope gpos] [] pos) (wAll wi g te (own.map (·.2))) :=
  j_ag (sa := false) hr hc hN t1.tab (hcd.trans t1.code) (ht P t1.mem) ok nc hco dot hi hs hg he hx hm (.inl ⟨rfl, rfl⟩)
theorem j_any {c P : Addr} {fd : FuncData} {tl : List Addr} {elt tg iter : Expr} {p pos gpos : Pos} {scope : Scope} {own : List (Str × Nat)} {wi : WI} {g : WG} {te : WE} {k : Nat}
    (hr : Room (k + 1) X.A) (t1 : Tab1 X.base X.mg tl fd c P) (hcd : X.env.code = fd.code) (ht : ∀ P ∈ tl, TabG B P) (hc : X.calm = true) (hN : X.N.Nodup) (ok : BlkOk X.N X.env.scope scope own) (nc : ∀ y ∈ scope.names, y.2 ≠ .cell)
    (hi : JI B X tg iter wi) (hs : ∀ v, genFold iter X.env v = pure v)
    (hg : ∀ (A : Around) (s : Shared) (H : Hp) (C : Addr) (code : Value) (fp : List Addr) (pn : List (Addr × Obj)), Room k A → JG (gblk X A s H (genEnv scope (cloFrom X.env.cells scope.names []) C code builtinsNs X.env) fp pn) tg (own.map (·.2)) g)
    (he : ∀ (A : Around) (s : Shared) (H : Hp) (C : Addr) (code : Value) (fp : List Addr) (pn : List (Addr × Obj)), Room k A → JE B (gblk X A s H (genEnv scope (cloFrom X.env.cells scope.names []) C code builtinsNs X.env) fp pn) elt te)
    (hx : Gl X "any") (hm : X.mg "any" = none) (hco : scope.isCoroutine = false := by rfl) (dot : scope.names.lookup (".0" : Str) = some NameKind.local := by rfl) :
    JE B X (.Call (.Name "any" p) [.GeneratorExp elt [⟨tg, iter, [], 0⟩] scope gpos] [] pos) (wAny wi g te (own.map (·.2))) :=
  j_ag (sa := true) hr hc hN t1.tab (hcd.trans t1.code) (ht P t1.mem) ok nc hco dot hi hs hg he hx hm (.inr ⟨rfl, rfl⟩)
end
end Wp
namespace Wp
open PySem PySem.Spec PyProof.Rows L2 GxR
/-! ### the end -/
/-- a def's code and its table, in what is known -/
structure TabK (K : PySem.W.Frag) (fd : FuncData) (c P : Addr) : Prop where
  code : fd.code = .ref c
  at_ : ∃ (e : Value) (dd : Option Addr) (vs : Array Value) (sl : Array (Option Value)), K.lookup c = some ⟨e, dd, .fields vs, sl⟩ ∧ vs[11]? = some (.ref P)
  no : K.lookup P = none
def DefG (K : PySem.W.Frag) (mg : Str → Option Value) (x : Str) (st : Stmt) (ps : List Str) : Prop := ∃ f fd c P, Fun K x x st f fd ∧ mg x = some (.ref f) ∧ Binds K fd ps [] ∧ TabK K fd c P
theorem defG_mk {K : PySem.W.Frag} {mg : Str → Option Value} {x : Str} {st : Stmt} {ps : List Str} {f cc PP : Addr} {oc : Value} {od an : Option Addr} {osl : Array (Option Value)} {kV doc pm cdv ct : Value} {e : Value} {dd : Option Addr} {vs : Array Value} {sl : Array (Option Value)}
    (hm : mg x = some (.ref f)) (l : K.lookup f = some ⟨oc, od, .func (PySem.W.fnOf x x (defArgs st) (defBody st) (defScope st) .none kV doc pm an cdv ct), osl⟩)
    (c : PySem.W.codeIn K cdv x = true) (k : PySem.W.keepIn K (.ref f) = true) (x1 : cdv = .ref cc) (x2 : K.lookup cc = some ⟨e, dd, .fields vs, sl⟩) (x3 : vs[11]? = some (.ref PP)) (x4 : (K.lookup PP).isNone = true)
    (h : ∀ (kV doc pm : Value) (an : Option Addr) (cdv ct : Value) (us : List Value), us.length = ps.length → bindArgs (PySem.W.fnOf x x (defArgs st) (defBody st) (defScope st) .none kV doc pm an cdv ct) ⟨us, []⟩ = pure (ps.zip us)) : DefG K mg x st ps :=
  ⟨f, _, cc, PP, fun_mk l c k, hm, (fun_mk l c k).binds h, x1, ⟨e, dd, vs, sl, x2, x3⟩, by simpa using x4⟩
/-- the empty tables at the head -/
def TabsE (K : PySem.W.Frag) (mg : Str → Option Value) (h : Heap) (names : List Str) : Prop := ∀ x ∈ names, ∀ f fd c P, mg x = some (.ref f) → (∃ oc od osl, K.lookup f = some ⟨oc, od, .func fd, osl⟩) → TabK K fd c P → h.get? P = some { cls := .none, data := .fields #[] } ∧ PySem.W.CodeHd h c P
theorem fn_frz {P : Program} {w : World} {K : PySem.W.Frag} {mg : Str → Option Value} {base : Heap} {k : Nat} {f : Addr} {fd : FuncData} {ps : List Str} {sp : Sp} (F : FnOk P w K mg base CX0 k f fd ps sp) :
    FnOk P w K mg base CX0 k f fd ps (fun vs H Q E => sp vs H Q E ∨ ∃ a xs, H a = some (.lst xs) ∧ ∀ o, sp vs (upd H a (.frz o (.lst xs))) Q E) := by
  refine ⟨fun vs H Q E h => ?_, fun A outer s H args us vs Q E hr e0 hb hv h => ?_⟩
  · rcases h with h | ⟨a, xs, _, h⟩
    · exact F.len _ _ _ _ h
    · exact F.len _ _ _ _ (h { cls := .none, data := .fields #[] })
  · rcases h with h | ⟨a, xs, ha, h⟩
    · exact F.run A outer s H args us vs Q E hr e0 hb hv h
    · obtain ⟨hz, its, n, rv, ho⟩ := e0.hok a _ ha
      generalize hob : ({ cls := .type "list", data := .seq its.toArray n } : Obj) = ob at ho
      have ne : ∀ {b : Addr} {u : HO}, H b = some u → u ≠ .lst xs → b ≠ a := fun {b u} e d z => by
        rw [z, ha] at e
        exact d (Option.some.inj e).symm
      have nn : ∀ {b : Addr}, H b = none → b ≠ a := fun {b} e z => by rw [z, ha] at e; cases e
      have at_ : ∀ {b : Addr}, b ≠ a → upd H a (.frz ob (.lst xs)) b = H b := fun {b} hb => upd_ne hb
      have hok' : HOk P w (upd H a (.frz ob (.lst xs))) s.heap := fun b u e => by
        by_cases hb : b = a
        · subst hb
          rw [upd_same] at e
          cases e
          exact ⟨ho, hz, its, n, rv, by rw [hob]; exact ho⟩
        · rw [at_ hb] at e
          exact (e0.hok b u e).stay (fun c v _ q => q) (fun c q => by rw [at_ (ne q (fun z => by cases z))]; exact q) fun c ys q => by rw [at_ (ne q (fun z => by cases z))]; exact q
      have e0' : Env0 P w K mg base A outer s (upd H a (.frz ob (.lst xs))) := ⟨e0.frames, e0.mod, fun b o e => ⟨(e0.bs b o e).1, by rw [at_ (nn (e0.bs b o e).2)]; exact (e0.bs b o e).2⟩, e0.bsz, e0.funs, fun b hb => by rw [at_ (nn (e0.frf b hb))]; exact e0.frf b hb, hok', e0.bare⟩
      refine codeAny_mono (F.run A outer s _ args us vs Q E hr e0' hb hv (h ob)) fun r s' hR => ?_
      cases r with
      | error e => exact hR
      | ok fl =>
        cases fl with
        | next => exact hR
        | brk => exact hR
        | cont => exact hR
        | ret u =>
          obtain ⟨v, H2, os, bare, un, hok2, rl, q⟩ := hR
          refine ⟨v, H2, os, bare, ⟨fun b o e n hb hx => un.keep b o e (by rw [at_ (nn n)]; exact n) hb hx, fun b o e n hb hx => un.slot b o e (by rw [at_ (nn n)]; exact n) hb hx, fun b o e n hx => un.free b o e (by rw [at_ (nn n)]; exact n) hx, un.there,
            fun b ys e => un.tups b ys (by rw [at_ (ne e (fun z => by cases z))]; exact e), fun b o ys e => un.frzs b o ys (by rw [at_ (ne e (fun z => by cases z))]; exact e), fun b qs e => un.tbls b qs (by rw [at_ (ne e (fun z => by cases z))]; exact e)⟩, hok2, rl, q⟩
theorem law_spT {tl : List Addr} (K : PySem.W.Frag) (H : Hp) (a : Addr) (ns : List Int) (hl : ns.length ≤ 63) (hT : ∀ P ∈ tl, TabG H P) (hf : FzL K H a (ns.map V.int)) : Lsp tl K 1 spLaw [.ref a] H (fun v _ => v = .bl true) fun _ _ _ => False := by
  refine ⟨hT, [.fl (ns.map .int)], fun _ => none, fun v _ => v = .bl true, fun _ _ => False, rfl, .cons (.fl hf (Reps.ints ns)) .nil, (fun b o q => by cases q), ⟨ns, rfl, hl, fun _ => rfl, fun _ => rfl⟩, fun v S e H' u _ _ r => ?_, fun _ _ _ q => q.elim⟩
  subst e
  cases r
  rfl
theorem law_spF {cs : List (Addr × Addr)} (K : PySem.W.Frag) (H : Hp) (a : Addr) (ns : List Int) (hl : ns.length ≤ 63) (hT : ∀ p ∈ cs, H p.2 = some (.tbl #[])) (hs : SqL K H a (ns.map V.int)) :
    (fun vs H Q E => Lsp (cs.map (·.2)) K 1 spLaw vs H Q E ∨ ∃ a xs, H a = some (.lst xs) ∧ ∀ o, Lsp (cs.map (·.2)) K 1 spLaw vs (upd H a (.frz o (.lst xs))) Q E) [.ref a] H (fun v _ => v = .bl true) fun _ _ _ => False := by
  have tg : ∀ P ∈ cs.map (·.2), TabG H P := fun P hP => by
    obtain ⟨p, hp, e⟩ := List.mem_map.mp hP
    subst e
    exact ⟨#[], hT p hp, by first | trivial | simp [TriplesOk]⟩
  rcases hs with (h | ⟨o, h⟩) | h
  · refine .inr ⟨a, _, h, fun o => law_spT K _ a ns hl (fun P hP => ?_) (.inl ⟨o, upd_same⟩)⟩
    obtain ⟨ps, e, t⟩ := tg P hP
    exact ⟨ps, by rw [upd_ne (fun z => by rw [z, h] at e; cases e)]; exact e, t⟩
  · exact .inl (law_spT K H a ns hl tg (.inl ⟨o, h⟩))
  · exact .inl (law_spT K H a ns hl tg (.inr h))
/-- the end: cs, the codes and tables of the defs that hold generator expressions -/
theorem law_walkT {l : PySem.W.OpenLaw} {k : Nat} {q : Program} {loose : List Str} {XP : (Str → Option Value) → Heap → Prop} {YP : World → Heap → Prop} {d : DefRec} {K : Params → PySem.W.Frag} {x : Str} (names : List Str)
    (hn : l.most = some 63) (hdf : d.params.defaults = []) (hr : Room k callerA) (hrec : (names.all fun x => (recsOf q).any fun e => e.name == x) = true)
    (hY : ∀ (w : World) (h : Heap), YP w h → (K w.params).In h)
    (F : ∀ (w : World) (mg : Str → Option Value) (fa : Addr) (h : Heap), (K w.params).In h → h.Ns mainGlobals mg → mg d.name = some (.ref fa) → TabsE (K w.params) mg h names →
      ∃ (fd : FuncData) (cs : List (Addr × Addr)), (∀ (s : Shared) (u : Value), BindsTo s fd ⟨[u], []⟩ [(x, u)]) ∧ (∀ p ∈ cs, h.get? p.2 = some { cls := .none, data := .fields #[] }) ∧ (∀ p ∈ cs, (K w.params).lookup p.2 = none) ∧ (∀ p ∈ cs, PySem.W.CodeHd h p.1 p.2) ∧
        ∀ base : Heap, (K w.params).In base → base.Ns mainGlobals mg → (∀ p ∈ cs, TabB base mg p.1 p.2) → FnOk l.prog w (K w.params) mg base CX0 k fa fd [x] (Lsp (cs.map (·.2)) (K w.params) 1 spLaw)) :
    PySem.W.WalkO q loose XP YP l.row.toRowW d [] (fun f vs => PySem.call f vs) := by
  refine Att.attach_callB hn hdf fun w s₀ s₁ mg mb fa o pm cd doc a vs ns G Y ho hd hcd hmg hobj hints hlen hbits hg => ?_
  have KX := hY w _ Y
  have tabs : TabsE (K w.params) mg s₁.heap names := fun x hx f fd c P k1 ⟨oc, od, osl, k2⟩ t => by
    obtain ⟨dL, hm, hn1⟩ := List.any_eq_true.mp (List.all_eq_true.mp hrec x hx)
    have hn2 : dL.name = x := beq_iff_eq.mp hn1
    obtain ⟨a', o', fd', c', P', h1, h2, h3, h4, h5, h6⟩ := G.T.tab dL hm
    rw [hn2, k1] at h1
    cases h1
    have g1 := KX _ _ k2
    rw [g1] at h2
    cases h2
    cases h3
    rw [t.code] at h4
    cases h4
    obtain ⟨e, dd, vs, sl, q1, q2⟩ := t.at_
    have hP := h6.2
    have hcd := PySem.W.CodeHd.of h5 h6
    obtain ⟨⟨oc2, vc, e1, _, e3, e4⟩, _⟩ := h6
    have g2 := KX _ _ q1
    rw [g2] at e1
    cases e1
    cases e3
    rw [q2] at e4
    cases e4
    exact ⟨hP, hcd⟩
  obtain ⟨fd, cs, hb, hT, nT, C, hF⟩ := F w mg fa _ KX G.T.g hmg tabs
  exact LamX.law_callTs KX G.T.g G.T.b G.T.builtins G.T.nolimit hg hT nT C G.T.bmain hobj hints (Nat.le_trans hlen (by decide)) hr (fun base hb hg2 hTB => fn_frz (hF base hb hg2 fun p hp => let z := hTB p hp; ⟨z.1, z.2, z.3⟩)) hb (fun H hH hS => law_spF (K w.params) H a ns hlen hH hS) fun H e s' h => h
end Wp

set_option Elab.async false
set_option linter.all false
set_option maxRecDepth 100000
set_option maxHeartbeats 1000000
/-! texts walked; sep.join of a list of texts -/
namespace Wp
open PySem PySem.Spec PyProof.Rows L2
section
variable {B : Hp} {X : Cx} {te : WE} {e : Expr}
/-- a text, sign by sign -/
def signsT (x : Str) : List T := x.cps.toList.map fun c => T.str ⟨#[c]⟩
def iStrW (te : WE) (σ : Sl) (S : Sta) (R : List T → (Sta → Prop) → Sta → Prop) : Prop := te σ S fun x S1 => match x with
  | .str x => R (signsT x) (fun _ => True) S1
  | _ => False
theorem ji_str {tg : Expr} (he : JE B X e te) : JI B X tg e (iStrW te) := pi_imp (pi_str he) fun σ H R ⟨st, S, Q0, he, hr, hs, h, im⟩ => by
  refine ⟨st, S, _, he, hr, hs, h, fun x S1 h1 H1 v1 e1 s1 r1 => ?_⟩
  cases x with
  | str x =>
    cases r1
    have hl : (signsT x).length = x.cps.size := by unfold signsT; rw [List.length_map, Array.length_toList]
    refine ⟨x, rfl, im _ _ _ h1 H1 e1 s1 _ fun i S2 H2 e2 s2 _ => ⟨fun hi => by rw [hl] at hi; exact hi, fun hi => by rw [hl] at hi; exact hi, fun y H' hy hi => ?_⟩⟩
    obtain ⟨eH, c, ec, ev⟩ := hy
    subst eH ev
    refine ⟨Ext.refl _, s2, fun _ _ q => q, .str ⟨#[c]⟩, ?_, .str _⟩
    unfold signsT
    rw [List.getElem?_map, Array.getElem?_toList, ec]
    rfl
  | _ => exact h1.elim
/-- the three sources told apart where the value has come -/
theorem pi_three {tg l : Expr} {tl : TE} (hl : PE X l tl) : PI X tg l fun σ H R => tl σ H fun x H1 => (∃ a, x = .ref a ∧ ((∃ xs, SqL X.K H1 a xs) ∧ R (Itl X.K a) H1 ∨ (∃ xs, SqT X.K H1 a xs) ∧ R (Itt X.K a) H1)) ∨ ∃ z, x = .str z ∧ R (Its z) H1 := by
  refine ⟨fun pins s σ H R I h => ?_⟩
  refine thn (hl.run pins s σ H _ I h) fun v s1 ⟨x, H1, I1, r1, q1⟩ => ?_
  rcases q1 with ⟨a, e, q1⟩ | ⟨z, e, q⟩
  · subst e
    cases r1
    rcases q1 with ⟨⟨xs, hq⟩, q⟩ | ⟨⟨xs, hq⟩, q⟩
    · obtain ⟨its, rv, p, hz⟩ := I1.list hq
      refine wpAny_pyIter_list p.isList ?_
      refine ⟨s1.heap.objs.size, [s1.heap.objs.size], _, _, H1, rfl, I1.kept (t' := s1.toks) fun b o e => Heap.get?_push_of_some _ e, turn_list a _, ⟨_, Heap.get?_push_size _ rfl, rfl, rfl⟩, fun b hb => ?_, q⟩
      have e : b = s1.heap.objs.size := by simpa using hb
      subst e
      exact I1.fpOk (Nat.le_refl _) (I1.hok.fresh (Nat.le_refl _))
    · obtain ⟨its, rv, p, hz⟩ := I1.tuple hq
      refine wpAny_pyIter_tuple (show s1.heap.IsTuple a its.toArray from p) ?_
      refine ⟨s1.heap.objs.size, [s1.heap.objs.size], _, _, H1, rfl, I1.kept (t' := s1.toks) fun b o e => Heap.get?_push_of_some _ e, turn_tuple a _, ⟨_, Heap.get?_push_size _ rfl, rfl, rfl⟩, fun b hb => ?_, q⟩
      have e : b = s1.heap.objs.size := by simpa using hb
      subst e
      exact I1.fpOk (Nat.le_refl _) (I1.hok.fresh (Nat.le_refl _))
  · subst e
    obtain ⟨t, rfl⟩ := r1
    cases ha : z.cps.all (· < 128)
    · exact wpAny_pyIter_wide ha (pi_one (tk := s1.toks) I1 _ (turn_str _ z t "str_iterator" (.inr rfl)) ⟨_, Heap.get?_push_size _ rfl, rfl, rfl⟩ q)
    · exact wpAny_pyIter_ascii ha (pi_one (tk := s1.toks) I1 _ (turn_str _ z t "str_ascii_iterator" (.inl rfl)) ⟨_, Heap.get?_push_size _ rfl, rfl, rfl⟩ q)
def iAnyW (te : WE) (σ : Sl) (S : Sta) (R : List T → (Sta → Prop) → Sta → Prop) : Prop := te σ S fun x S1 => match x with
  | .tup ts => R ts (fun _ => True) S1
  | .fl ts => R ts (fun _ => True) S1
  | .ref p => ∃ ts, S1 p = some (.lst ts) ∧ R ts (fun S' => S' p = some (.lst ts)) S1
  | .str z => R (signsT z) (fun _ => True) S1
  | _ => False
theorem ji_any {tg : Expr} (he : JE B X e te) : JI B X tg e (iAnyW te) := pi_imp (pi_three he) fun σ H R ⟨st, S, Q0, he, hr, hs, h, im⟩ => by
  refine ⟨st, S, _, he, hr, hs, h, fun x S1 h1 H1 v1 e1 s1 r1 => ?_⟩
  cases x with
  | tup ts =>
    cases r1 with
    | @tup a xs _ g10 g2 =>
      have g1 := sqT_of (K := X.K) g10
      refine .inl ⟨a, rfl, .inr ⟨⟨xs, g1⟩, im _ _ _ h1 H1 e1 s1 _ fun i S2 H2 e2 s2 _ => ⟨fun hi => ?_, fun hi => ⟨xs, e2.sqT g1, by rw [← g2.length]; exact hi⟩, fun x H' y hi => ?_⟩⟩⟩
      · obtain ⟨v, g3, _⟩ := g2.get (List.getElem?_eq_getElem hi)
        exact ⟨xs, v, e2.sqT g1, g3⟩
      · obtain ⟨eH, y⟩ := y
        subst eH
        obtain ⟨v, g3, g4⟩ := g2.get (List.getElem?_eq_getElem hi)
        have ev : x = v := Option.some.inj ((y xs (e2.sqT g1)).symm.trans g3)
        subst ev
        exact ⟨Ext.refl _, s2, fun _ _ q => q, _, List.getElem?_eq_getElem hi, Rep.mono e2 _ _ g4⟩
  | fl ts =>
    cases r1 with
    | @fl a xs _ g1 g2 =>
      refine .inl ⟨a, rfl, .inl ⟨⟨xs, g1.sq⟩, im _ _ _ h1 H1 e1 s1 _ fun i S2 H2 e2 s2 _ => ⟨fun hi => ?_, fun hi => ⟨xs, (e2.fzL g1).sq, by rw [← g2.length]; exact hi⟩, fun x H' y hi => ?_⟩⟩⟩
      · obtain ⟨v, g3, _⟩ := g2.get (List.getElem?_eq_getElem hi)
        exact ⟨xs, v, (e2.fzL g1).sq, g3⟩
      · obtain ⟨eH, y⟩ := y
        subst eH
        obtain ⟨v, g3, g4⟩ := g2.get (List.getElem?_eq_getElem hi)
        have ev : x = v := Option.some.inj ((y xs ((e2.fzL g1).sq)).symm.trans g3)
        subst ev
        exact ⟨Ext.refl _, s2, fun _ _ q => q, _, List.getElem?_eq_getElem hi, Rep.mono e2 _ _ g4⟩
  | ref p =>
    obtain ⟨ts, eS, h1⟩ := h1
    cases r1
    obtain ⟨xs0, g10, g20⟩ := s1 p _ eS
    refine .inl ⟨p, rfl, .inl ⟨⟨xs0, .inl (.inl g10)⟩, im _ _ _ h1 H1 e1 s1 _ fun i S2 H2 e2 s2 stb => ?_⟩⟩
    obtain ⟨xs, g1, g2⟩ := s2 p _ stb
    refine ⟨fun hi => ?_, fun hi => ⟨xs, .inl (.inl g1), by rw [← g2.length]; exact hi⟩, fun x H' y hi => ?_⟩
    · obtain ⟨v, g3, _⟩ := g2.get (List.getElem?_eq_getElem hi)
      exact ⟨xs, v, .inl (.inl g1), g3⟩
    · obtain ⟨eH, y⟩ := y
      subst eH
      obtain ⟨v, g3, g4⟩ := g2.get (List.getElem?_eq_getElem hi)
      have ev : x = v := Option.some.inj ((y xs (.inl (.inl g1))).symm.trans g3)
      subst ev
      exact ⟨Ext.refl _, s2, fun _ _ q => q, _, List.getElem?_eq_getElem hi, g4⟩
  | str x =>
    cases r1
    have hl : (signsT x).length = x.cps.size := by unfold signsT; rw [List.length_map, Array.length_toList]
    refine .inr ⟨x, rfl, im _ _ _ h1 H1 e1 s1 _ fun i S2 H2 e2 s2 _ => ⟨fun hi => by rw [hl] at hi; exact hi, fun hi => by rw [hl] at hi; exact hi, fun y H' hy hi => ?_⟩⟩
    obtain ⟨eH, c, ec, ev⟩ := hy
    subst eH ev
    refine ⟨Ext.refl _, s2, fun _ _ q => q, .str ⟨#[c]⟩, ?_, .str _⟩
    unfold signsT
    rw [List.getElem?_map, Array.getElem?_toList, ec]
    rfl
  | _ => exact h1.elim
/-- sep.join(..) of a list or a tuple of texts -/
def wJoin (to te : WE) (σ : Sl) (S : Sta) (Q : T → Sta → Prop) : Prop := to σ S fun x S1 => match x with
  | .str a => te σ S1 fun y S2 => ∃ ys : List Str, itemsT S2 y = some (ys.map T.str) ∧ (ys.map (·.length)).sum + ys.length * a.length ≤ 16777216 ∧ Q (.str (Txt.join a ys)) S2
  | _ => False
theorem j_join {o : Expr} {to : WE} {apos pos : Pos} (ho : JE B X o to) (he : JE B X e te) (hs : starEach [e] X.env = [(false, eval e X.env)] := by rfl) (hbase : attributeBase o "join" X.env (eval o X.env) = eval o X.env := by rfl) (hline : (apos.endLine == pos.line) = true := by rfl) :
    JE B X (.Call (.Attribute o "join" apos) [e] [] pos) (wJoin to te) := pe_imp (pe_join ho he hs hbase hline) fun σ H Q ⟨st, S, Q0, he, hr, hs, h, im⟩ => by
  refine ⟨st, S, _, he, hr, hs, h, fun x S1 h1 H1 v1 e1 s1 r1 => ?_⟩
  cases x with
  | str a =>
    cases r1
    refine ⟨⟨a, rfl⟩, st, S1, _, he.trans e1, hr.mono e1, s1, h1, fun y S2 h2 H2 v2 e2 s2 r2 => ?_⟩
    obtain ⟨ys, hy, hz, q⟩ := h2
    obtain ⟨p, xs, rfl, hp, r3⟩ := items_sq s2 r2 hy
    have ex := r3.strsV
    subst ex
    exact ⟨a, p, ys, rfl, rfl, hp.imp id sqT_of, hz, im _ _ q H2 _ (e1.trans e2) s2 (.str _)⟩
  | _ => exact h1.elim
end
end Wp

set_option Elab.async false
set_option linter.all false
set_option maxRecDepth 100000
set_option maxHeartbeats 1000000
/-! enumerate(list or tuple, start=k) -/
namespace Wp
open PySem PySem.Spec PyProof.Rows L2
section
variable {M : Model} {A : Around} {E : Value → Shared → Prop} {s : Shared} {env : Env}
theorem callWith_typeKw {pos : Pos} {T : String} {e : Expr} {rest : List Expr} {kws : List Keyword} {Q : Value → Shared → Prop}
    (h : wpAny M A (spliced (backTo pos (starEach (e :: rest) env))) (fun vs s₁ => wpAny M A (evalAll ((backToKw pos (keywordEach kws env)).map (·.2)))
      (fun kvs s₂ => wpAny M A (call (.type T) vs (((backToKw pos (keywordEach kws env)).filterMap (·.1)).zip kvs)) Q E s₂) E s₁) E s)
    (he : backTo pos (starEach (e :: rest) env) = (false, eval e env) :: backTo pos (starEach rest env) := by rfl)
    (hplain : (backTo pos (starEach (e :: rest) env)).any (·.1) = false := by rfl)
    (hall : (backToKw pos (keywordEach kws env)).all (·.1.isSome) = true := by rfl)
    (hkw : (backToKw pos (keywordEach kws env)).any (·.1.isNone) = false := by rfl) :
    wpAny M A (callWith pos (.type T) [] (backTo pos (starEach (e :: rest) env)) (backToKw pos (keywordEach kws env))) Q E s := by
  have hev : wpAny M A (evalArgs (.type T) true (backTo pos (starEach (e :: rest) env)) (backToKw pos (keywordEach kws env))) (fun a s₁ => wpAny M A (call (.type T) ([] ++ a.pos) a.kw) Q E s₁) E s := by
    rw [he] at h ⊢
    exact evalArgs_kwB hall h
  unfold callWith
  refine wpAny_bind (wpAny_holding (wpAny_mono hev (fun a s₁ h₁ => wpAny_bind (wpAny_standAt ?_)) fun _ _ x => x))
  simp only [hplain, hkw, Bool.or_false]
  refine wpAny_bind (wpAny_pure ?_)
  exact wpAny_bind (wpAny_mono h₁ (fun r s₂ hr => wpAny_bind (wpAny_holding (wpAny_point (wpAny_pure hr)))) fun _ _ x => x)
end
/-- the n items in new pairs, counted from k -/
def IteS (Sq : Hp → List V → Prop) (k : Int) (n : Nat) : It :=
  ⟨fun i H => ∃ (xs : List V) (x : V), Sq H xs ∧ xs.length = n ∧ xs[i]? = some x, fun i H v H' => ∃ T x, v = .ref T ∧ H T = none ∧ H' = upd H T (.tup [.int (k + (i : Nat)), x]) ∧ ∀ xs, Sq H xs → xs[i]? = some x, fun i H => ∃ xs : List V, Sq H xs ∧ xs.length = n ∧ n ≤ i⟩
/-- what the counting asks of the walked thing -/
structure Src (P : Program) (w : World) (K : PySem.W.Frag) (Sq : Hp → List V → Prop) (it : Addr) (St : Nat → Heap → Prop) : Prop where
  obj : ∀ i h, St i h → ∃ o : Obj, h.get? it = some o ∧ ∀ v, o.data ≠ .cell v
  keep : ∀ i (h h' : Heap), St i h → (∀ o, h.get? it = some o → h'.get? it = some o) → St i h'
  inj : ∀ (X : Cx) pins σ H s xs ys, X.prog = P → X.w = w → X.K = K → Inv X pins σ H s → Sq H xs → Sq H ys → xs = ys
  draws : ∀ (X : Cx) pins σ H s xs, X.prog = P → X.w = w → X.K = K → Inv X pins σ H s → Sq H xs → X.A.handled = none → (∃ i, St i s.heap) →
    ∃ (its : List Value) (a : Addr) (St2 : Nat → Heap → Prop), Vals xs its ∧ Draws P w X.A.in1 it [it, a] its.length (fun i v => its[i]? = some v) St2 ∧ (∃ o : Obj, s.heap.get? a = some o ∧ o.cls ≠ .type "enumerate") ∧
      (∀ i, St i s.heap → St2 i s.heap) ∧ ∀ i h, St2 i h → St i h
theorem turn_enumS {P : Program} {w : World} {K : PySem.W.Frag} {Sq : Hp → List V → Prop} {St : Nat → Heap → Prop} {elts : List Expr} {kk : Nat} {tpos : Pos} (e it : Addr) (k : Int) (n : Nat) (D : Src P w K Sq it St) :
    Turn P w K (.Tuple elts kk tpos) (IteS Sq k n) [e, it] e (fun i h => (∃ old, IsEnum h e it (k + ((i : Nat) : Int)) old) ∧ St i h ∧ e ≠ it ∧ i ≤ n) where
  mem := by simp
  obj := fun i h st b hb => by
    obtain ⟨⟨old, he⟩, hit, _⟩ := st
    have e' : b = e ∨ b = it := by simpa using hb
    rcases e' with z | z
    · rw [z]; exact ⟨_, he, fun v q => nomatch q⟩
    · rw [z]; exact D.obj i h hit
  keep := fun i h h' st k => let ⟨⟨old, he⟩, hi, hne⟩ := st; ⟨⟨old, k e (by simp) _ he⟩, D.keep i h h' hi fun o q => k it (by simp) o q, hne⟩
  item := by
    intro X hP hw hK hc i pins s σ H E I hf st hg
    obtain ⟨⟨old, he⟩, hit, hne, hin⟩ := st
    obtain ⟨xs, x, hq, hn, hx⟩ := hg
    obtain ⟨its, a, St2, rv, DD, ⟨oa, hoa, hna⟩, s1, s2⟩ := D.draws X pins σ H s xs hP hw hK I hq (I.ok.hd hc) ⟨i, hit⟩
    subst hP hw hK
    obtain ⟨u, hu, ru⟩ := rv.get hx
    have hel : e < s.heap.objs.size := Heap.lt_size he
    have hil : it < s.heap.objs.size := by obtain ⟨_, q, _⟩ := D.obj i _ hit; exact Heap.lt_size q
    have hea : e ≠ a := fun z => by
      have he' : s.heap.get? e = some _ := he
      rw [z, hoa] at he'
      exact hna (congrArg Obj.cls (Option.some.inj he'))
    have hil2 : i < its.length := (List.getElem?_eq_some_iff.mp hu).1
    have hlen := rv.length
    refine wpAny_pyNext_enum_itemC DD he (s1 i hit) hil2 hne (by simp [hne, hea]) fun x' h' tk px ho hit' hT hsz hk => ?_
    have ex : x' = u := Option.some.inj (px.symm.trans hu)
    subst ex
    refine ⟨_, rfl, wpAny_letOwnedTupleGo_enum (s := { s with heap := h', toks := tk + 1 }) ho fun h'' he' sb => ?_⟩
    have hT2 : h''.get? s.heap.objs.size = some { cls := .type "tuple", data := .seq #[.int (k + (i : Nat)) tk, x'] } := (sb.2 _ (Nat.ne_of_gt hel)).trans hT
    have new : ObjOk X.prog X.w (upd H s.heap.objs.size (.tup [.int (k + (i : Nat)), x])) h'' s.heap.objs.size (.tup [.int (k + (i : Nat)), x]) :=
      ⟨by show 2 ≤ sizeLine; decide, [.int (k + (i : Nat)) tk, x'], .cons ⟨_, rfl⟩ (.cons ru .nil), ⟨_, hT2, rfl, _, rfl⟩⟩
    have I1 : Inv X pins σ (upd H s.heap.objs.size (.tup [.int (k + (i : Nat)), x])) { s with heap := h'', toks := tk + 1 } :=
      I.turnedNew (ch := [e, it]) (fun b ob hb q => (sb.2 b (fun z => hb (by simp [z]))).trans (hk b ob (fun z => hb (by simp [z])) (fun z => hb (by simp [z])) q)) hf (Nat.le_refl _) new
    refine ⟨.ref s.heap.objs.size, _, I1, rfl, ⟨_, x, rfl, I.hok.fresh (Nat.le_refl _), rfl, fun ys hy => by rw [D.inj X pins σ H s _ _ rfl rfl rfl I hy hq]; exact hx⟩, ⟨⟨x', ?_⟩, D.keep _ _ _ (s2 _ _ hit') (fun o q => (sb.2 it (Ne.symm hne)).trans q), hne, by omega⟩, fun b hb => ?_⟩
    · have e1 : k + ((i + 1 : Nat) : Int) = k + (i : Int) + 1 := by omega
      rw [e1]; exact he'
    · have hb' : b < s.heap.objs.size := by
        have e' : b = e ∨ b = it := by simpa using hb
        rcases e' with z | z
        · rw [z]; exact hel
        · rw [z]; exact hil
      rw [upd_ne (Nat.ne_of_lt hb')]
      exact (hf b hb).1
  done := by
    intro X hP hw hK hc i pins s σ H E I hf st hg
    obtain ⟨⟨old, he⟩, hit, hne, hin⟩ := st
    obtain ⟨xs, hq, hn, hx⟩ := hg
    obtain ⟨its, a, St2, rv, DD, ⟨oa, hoa, hna⟩, s1, s2⟩ := D.draws X pins σ H s xs hP hw hK I hq (I.ok.hd hc) ⟨i, hit⟩
    subst hP hw hK
    obtain ⟨f0, f1, f2, f3, f4, f5⟩ := hf it (by simp)
    have hlen := rv.length
    have ei : i = its.length := by omega
    exact wpAny_pyNext_enum_endD DD he (by rw [← ei]; exact s1 i hit) fun h' eb => ⟨rfl, I.turned (t' := s.toks) (fun b o hb q => eb b o hb q) f0 f1 f3 f4 f5⟩
  self := fun A i s Q E st h => let ⟨⟨_, he⟩, _⟩ := st; wpAny_pyIter_enum he h
theorem src_list {P : Program} {w : World} {K : PySem.W.Frag} (a it : Addr) (hne : a ≠ it) : Src P w K (fun H xs => SqL K H a xs) it (fun i h => h.IsListIter it a i) where
  obj := fun i h st => by
    obtain ⟨o, ho, hc, hd⟩ := st
    exact ⟨o, ho, fun v q => by rw [hd] at q; cases q⟩
  keep := fun i h h' st k => st.at k
  inj := fun X pins σ H s xs ys hP hw hK I h1 h2 => by
    subst hK
    exact I.list_inj h1 h2
  draws := fun X pins σ H s xs hP hw hK I hq hh _ => by
    subst hP hw hK
    obtain ⟨its, rv, p, hz⟩ := I.list hq
    have D := Draws.list (prog := X.prog) (w := X.w) (A := X.A.in1) hh it a hne its.toArray
    refine ⟨its, a, fun i h => h.IsListIter it a i ∧ h.IsList a its.toArray, rv, by simpa using D, ?_, fun i st => ⟨st, p.isList⟩, fun i h st => st.1⟩
    obtain ⟨o, n, e, c, _⟩ := p
    exact ⟨o, e, by rw [c]; decide⟩
theorem src_tup {P : Program} {w : World} {K : PySem.W.Frag} (a it : Addr) (hne : a ≠ it) : Src P w K (fun H xs => SqT K H a xs) it (fun i h => h.IsTupleIter it a i) where
  obj := fun i h st => by
    obtain ⟨o, ho, hc, hd⟩ := st
    exact ⟨o, ho, fun v q => by rw [hd] at q; cases q⟩
  keep := fun i h h' st k => st.at k
  inj := fun X pins σ H s xs ys hP hw hK I h1 h2 => by
    subst hK
    exact I.tuple_inj h1 h2
  draws := fun X pins σ H s xs hP hw hK I hq hh _ => by
    subst hP hw hK
    obtain ⟨its, rv, p, hz⟩ := I.tuple hq
    have D := Draws.tuple (prog := X.prog) (w := X.w) (A := X.A.in1) hh it a hne its.toArray
    refine ⟨its, a, fun i h => h.IsTupleIter it a i ∧ h.IsTuple a its.toArray, rv, by simpa using D, ?_, fun i st => ⟨st, p⟩, fun i h st => st.1⟩
    obtain ⟨o, e, c, _⟩ := p
    exact ⟨o, e, by rw [c]; decide⟩
section
variable {B : Hp} {X : Cx} {te tk : WE} {e ke : Expr}
theorem pi_enumS {te : TE} {tk : TE} {p pos tpos kp : Pos} {elts : List Expr} {kk : Nat} (hg : Gl X "enumerate") (hm : X.mg "enumerate" = none) (ha : PE X e te) (hk : PE X ke tk)
    (hs : starEach [e] X.env = (false, eval e X.env) :: starEach [] X.env := by rfl) (he : backTo pos (starEach [e] X.env) = (false, eval e X.env) :: backTo pos (starEach [] X.env) := by rfl) :
    PI X (.Tuple elts kk tpos) (.Call (.Name "enumerate" p) [e] [⟨some "start", ke, kp⟩] pos) fun σ H R => te σ H fun x H1 => tk σ H1 fun z H2 => ∃ a k, x = .ref a ∧ z = .int k ∧ (-(2 ^ 63) ≤ k ∧ k < 2 ^ 63) ∧
      ((∃ xs : List V, SqL X.K H2 a xs ∧ R (IteS (fun H xs => SqL X.K H a xs) k xs.length) H2) ∨ ∃ xs : List V, SqT X.K H2 a xs ∧ R (IteS (fun H xs => SqT X.K H a xs) k xs.length) H2) := by
  refine ⟨fun pins s σ H R I h => ?_⟩
  refine wpAny_Call_Name_kw (ld_blt I hg hm boot_enumerate ?_)
  have pa := pa_cons ha pa_nil hs
  have pk := pk_cons (nm := some "start") (kpos := kp) hk (pk_nil (X := X))
  let G : V → V → Hp → Prop := fun x z H2 => ∃ a k, x = .ref a ∧ z = .int k ∧ (-(2 ^ 63) ≤ k ∧ k < 2 ^ 63) ∧
      ((∃ xs : List V, SqL X.K H2 a xs ∧ R (IteS (fun H xs => SqL X.K H a xs) k xs.length) H2) ∨ ∃ xs : List V, SqT X.K H2 a xs ∧ R (IteS (fun H xs => SqT X.K H a xs) k xs.length) H2)
  have h1 : tCons te tNil σ H (fun vs H1 => match vs with
      | [x] => tk σ H1 fun z H2 => G x z H2
      | _ => False) := h
  refine callWith_typeKw (T := "enumerate") (thn (pa.run pos pins s σ H _ I h1) fun us s1 ⟨vs, H1, I1, r1, q1⟩ => ?_) he (by rw [he]; rfl)
  match vs, r1, q1 with
  | [x], r1, q1 =>
  have h2 : tCons tk tNil σ H1 (fun zs H2 => match zs with
      | [z] => G x z H2
      | _ => False) := q1
  refine thn (pk.run pos pins s1 σ H1 _ I1 h2) fun ws s2 ⟨zs, H2, I2, r2, q2⟩ => ?_
  match zs, r2, q2 with
  | [z], r2, q2 =>
    obtain ⟨a, k, rfl, rfl, ⟨hk0, hk1⟩, q⟩ := q2
    cases r1 with
    | cons r rr =>
    cases rr
    cases r
    cases r2 with
    | cons r rr =>
    cases rr
    obtain ⟨t, rfl⟩ := r
    rcases q with ⟨xs, hq, q⟩ | ⟨xs, hq, q⟩
    · obtain ⟨its, rv, p', hz⟩ := I2.list hq
      have lt_a : a < s2.heap.objs.size := by obtain ⟨o, n, e, _⟩ := p'; exact Heap.lt_size e
      refine enum_begins_start (begins_list a its.toArray) p'.isList hk0 hk1 fun h' he hit hsz hkp => wpAny_pyIter_enum he ?_
      have I3 : Inv X pins σ H2 { s2 with heap := h' } := I2.kept (t' := s2.toks) hkp
      refine ⟨s2.heap.objs.size + 1, [s2.heap.objs.size + 1, s2.heap.objs.size], _, _, H2, rfl, I3, turn_enumS (s2.heap.objs.size + 1) s2.heap.objs.size k xs.length (src_list a _ (Nat.ne_of_lt lt_a)), ⟨⟨.none, by simpa using he⟩, ⟨_, hit, rfl, rfl⟩, Nat.succ_ne_self _, Nat.zero_le _⟩, fun b hb => ?_, q⟩
      have e' : b = s2.heap.objs.size + 1 ∨ b = s2.heap.objs.size := by simpa using hb
      have hle : s2.heap.objs.size ≤ b := by
        rcases e' with z | z
        · rw [z]; exact Nat.le_add_right _ _
        · rw [z]; exact Nat.le_refl _
      exact I2.fpOk hle (I2.hok.fresh hle)
    · obtain ⟨its, rv, p', hz⟩ := I2.tuple hq
      have lt_a : a < s2.heap.objs.size := by obtain ⟨o, e, _⟩ := p'; exact Heap.lt_size e
      refine enum_begins_start (begins_tuple a its.toArray) p' hk0 hk1 fun h' he hit hsz hkp => wpAny_pyIter_enum he ?_
      have I3 : Inv X pins σ H2 { s2 with heap := h' } := I2.kept (t' := s2.toks) hkp
      refine ⟨s2.heap.objs.size + 1, [s2.heap.objs.size + 1, s2.heap.objs.size], _, _, H2, rfl, I3, turn_enumS (s2.heap.objs.size + 1) s2.heap.objs.size k xs.length (src_tup a _ (Nat.ne_of_lt lt_a)), ⟨⟨.none, by simpa using he⟩, ⟨_, hit, rfl, rfl⟩, Nat.succ_ne_self _, Nat.zero_le _⟩, fun b hb => ?_, q⟩
      have e' : b = s2.heap.objs.size + 1 ∨ b = s2.heap.objs.size := by simpa using hb
      have hle : s2.heap.objs.size ≤ b := by
        rcases e' with z | z
        · rw [z]; exact Nat.le_add_right _ _
        · rw [z]; exact Nat.le_refl _
      exact I2.fpOk hle (I2.hok.fresh hle)
/-- enumerate(.., start=k) of a list that stands, or a tuple -/
def pairsT (k : Int) (ts : List T) : List T := ts.mapIdx fun i t => T.tup [.int (k + (i : Int)), t]
def iEnuW (te tk : WE) (σ : Sl) (S : Sta) (R : List T → (Sta → Prop) → Sta → Prop) : Prop := te σ S fun x S1 => tk σ S1 fun z S2 => match z with
  | .int k => (-(2 ^ 63) ≤ k ∧ k < 2 ^ 63) ∧ match x with
    | .tup ts => R (pairsT k ts) (fun _ => True) S2
    | .fl ts => R (pairsT k ts) (fun _ => True) S2
    | .ref p => ∃ ts, S2 p = some (.lst ts) ∧ R (pairsT k ts) (fun S' => S' p = some (.lst ts)) S2
    | _ => False
  | _ => False
theorem pairs_at {k : Int} {ts : List T} {i : Nat} {t : T} (h : ts[i]? = some t) : (pairsT k ts)[i]? = some (T.tup [.int (k + (i : Int)), t]) := by
  unfold pairsT
  rw [List.getElem?_mapIdx, h]
  rfl
theorem pairs_len {k : Int} {ts : List T} : (pairsT k ts).length = ts.length := by unfold pairsT; rw [List.length_mapIdx]
theorem yields_enu {K : PySem.W.Frag} {H1 : Hp} {Sq : Hp → List V → Prop} {k : Int} {ts : List T} {n : Nat} {stb : Sta → Prop} (hn : n = ts.length)
    (hq : ∀ S H, Ext H1 H → St K S H → stb S → ∃ xs, Sq H xs ∧ Reps K H ts xs) : Yields K (pairsT k ts) stb H1 (IteS Sq k n) := fun i S H2 e2 s2 sb => by
  obtain ⟨xs, hs, r⟩ := hq S H2 e2 s2 sb
  rw [pairs_len]
  refine ⟨fun hi => ?_, fun hi => ⟨xs, hs, by rw [hn]; exact r.length.symm, by rw [hn]; exact hi⟩, fun x H' hy hi => ?_⟩
  · obtain ⟨v, g3, _⟩ := r.get (List.getElem?_eq_getElem hi)
    exact ⟨xs, v, hs, by rw [hn]; exact r.length.symm, g3⟩
  · obtain ⟨p, v, rfl, hp, rfl, hv⟩ := hy
    have ev := hv xs hs
    obtain ⟨t, et, rt⟩ := r.getV ev
    have ex : Ext H2 (upd H2 p (.tup [.int (k + (i : Nat)), v])) := Ext.new hp
    exact ⟨ex, s2.new hp _, fun st σ q => q.mono ex, _, pairs_at et, .tup upd_same (.cons (.int _) (.cons (Rep.mono ex _ _ rt) .nil))⟩
theorem ji_enu {p pos tpos kp : Pos} {elts : List Expr} {kk : Nat} (hg : Gl X "enumerate") (hm : X.mg "enumerate" = none) (ha : JE B X e te) (hk : JE B X ke tk)
    (hs : starEach [e] X.env = (false, eval e X.env) :: starEach [] X.env := by rfl) (he : backTo pos (starEach [e] X.env) = (false, eval e X.env) :: backTo pos (starEach [] X.env) := by rfl) :
    JI B X (.Tuple elts kk tpos) (.Call (.Name "enumerate" p) [e] [⟨some "start", ke, kp⟩] pos) (iEnuW te tk) := pi_imp (pi_enumS hg hm ha hk hs he) fun σ H R ⟨st, S, Q0, he, hr, hs, h, im⟩ => by
  refine ⟨st, S, _, he, hr, hs, h, fun x S1 h1 H1 v1 e1 s1 r1 => ?_⟩
  refine ⟨st, S1, _, he.trans e1, hr.mono e1, s1, h1, fun z S2 h2 H2 v2 e2 s2 r2 => ?_⟩
  cases z with
  | int k =>
    cases r2
    obtain ⟨hk, h2⟩ := h2
    cases x with
    | tup ts =>
      cases r1 with
      | @tup a xs _ g10 g2 =>
        have g1 := sqT_of (K := X.K) g10
        exact ⟨a, k, rfl, rfl, hk, .inr ⟨xs, e2.sqT g1, im _ _ _ h2 H2 (e1.trans e2) s2 _ (yields_enu g2.length.symm fun S H e s _ => ⟨xs, (e2.trans e).sqT g1, Reps.mono (e2.trans e) _ _ g2⟩)⟩⟩
    | fl ts =>
      cases r1 with
      | @fl a xs _ g1 g2 =>
        exact ⟨a, k, rfl, rfl, hk, .inl ⟨xs, (e2.fzL g1).sq, im _ _ _ h2 H2 (e1.trans e2) s2 _ (yields_enu g2.length.symm fun S H e s _ => ⟨xs, ((e2.trans e).fzL g1).sq, Reps.mono (e2.trans e) _ _ g2⟩)⟩⟩
    | ref p =>
      cases r1
      obtain ⟨ts, eS, h2⟩ := h2
      obtain ⟨xs, g1, g2⟩ := s2 p _ eS
      refine ⟨p, k, rfl, rfl, hk, .inl ⟨xs, .inl (.inl g1), im _ _ _ h2 H2 (e1.trans e2) s2 _ (yields_enu g2.length.symm fun S H e s sb => ?_)⟩⟩
      obtain ⟨ys, g3, g4⟩ := s p _ sb
      exact ⟨ys, .inl (.inl g3), g4⟩
    | _ => exact h2.elim
  | _ => exact h2.elim
end
end Wp

set_option Elab.async false
set_option linter.all false
set_option maxRecDepth 100000
/-! bags, draws, what stays: for all laws -/
namespace Wp
open PySem PySem.Spec PyProof.Rows L2
local macro_rules | `(tactic| walk_at "go") => `(tactic| (with_reducible refine goS_i ?_))
local macro_rules | `(tactic| walk_at "wp") => `(tactic| simp (disch := omega) only [wSeq, wNext, wSet, wVar, wC, wOp, wRet, wIfS, wTest, wCall, wCons, wNil, wTup, wLst, wAsg, gTp, gC, gNm, gN0, gIx, rSet, Wp.rAdd, rMul, rMod, Wp.rSub, rFdiv, rPow, rInt, Wp.rIx, rLt, rLe, rCmp, rGeI, rGtI, wCB, rLen, rLen1, rInt1, rMax2, rMin2, rTupOf, rListOf,
  wIsi, rBIs, rIsN, isNon, wMt, rAppendT, rExtendT, rReverseT, wNot, wOr, wAnd, wAndV, wOrV, wNotV, wFor, iRg1, iRg2, iAnyW, wAll, wChain, wSl, wNoPart, wPart, rSl, wNeg, rNeg, wLc, wYes, wDrop, wipeT, wAug, List.map, List.set_cons_zero, List.set_cons_succ, List.getElem?_cons_zero, List.getElem?_cons_succ, List.length_cons, List.length_nil, List.cons_append, List.nil_append, List.replicate, Wp.startT,
  true_and, and_true, wif_true, wif_false, ex_some, ex_some1, ex_eq, ex_lst, ex_lst0, rEq_int, Bool.false_bne, Bool.true_bne, Int.reduceLT, Int.reduceLE, Int.reduceAdd, Nat.reduceAdd, eq_self, ite_true, ite_false, beq_self_eq_true, Bool.not_true, Bool.not_false, isB_0, isB_1, isB_2, isB_3, isB_4, isB_5, isB_6, isB_7, isB_8, isB_9, isB_10, isB_11, isB_12, isB_13, isB_14, isB_15, isB_16, isB_17, isB_18, isB_19, isB_20, isB_21, isB_22, isB_23, isB_24, isB_25, isB_26, isB_27, isB_28, isB_29, isB_30, isB_31, isB_32, isB_33, isB_34, isB_35, cmul_l, cmul_r, cpow_lit, size_le, size_lt, atI_0, atI_1, atI_2, atI_3, atI_4, atI_5, atI_6, ixN_0, ixN_1, ixN_2, itemsT, tyT, reduceIte, upS, upS_upS, *])
local macro_rules | `(tactic| walk_at "run") => `(tactic| repeat (first | walk_at "wp" | walk_at "go"))
local macro_rules | `(tactic| walk_at "wq") => `(tactic| simp (disch := omega) only [wSeq, wNext, wSet, wVar, wC, wOp, wRet, wIfS, wTest, wCall, wCons, wNil, wTup, wLst, wAsg, gTp, gC, gNm, gN0, gIx, rSet, Wp.rAdd, rMul, rMod, Wp.rSub, rFdiv, rPow, rInt, Wp.rIx, rLt, rLe, rCmp, rGeI, rGtI, wCB, rLen, rLen1, rInt1, rMax2, rMin2, rTupOf, rListOf,
  wIsi, rBIs, rIsN, isNon, wMt, rAppendT, rExtendT, rReverseT, wNot, wOr, wAnd, wAndV, wOrV, wNotV, wFor, iRg1, iRg2, iAnyW, wAll, wChain, wSl, wNoPart, wPart, rSl, wNeg, rNeg, wLc, wYes, wDrop, wipeT, wAug, List.map, List.set_cons_zero, List.set_cons_succ, List.getElem?_cons_zero, List.getElem?_cons_succ, List.length_cons, List.length_nil, List.cons_append, List.nil_append, List.replicate, Wp.startT,
  true_and, and_true, wif_true, wif_false, ex_some, ex_some1, ex_eq, ex_lst, ex_lst0, rEq_int, Bool.false_bne, Bool.true_bne, Int.reduceLT, Int.reduceLE, Int.reduceAdd, Nat.reduceAdd, eq_self, ite_true, ite_false, beq_self_eq_true, Bool.not_true, Bool.not_false, isB_0, isB_1, isB_2, isB_3, isB_4, isB_5, isB_6, isB_7, isB_8, isB_9, isB_10, isB_11, isB_12, isB_13, isB_14, isB_15, isB_16, isB_17, isB_18, isB_19, isB_20, isB_21, isB_22, isB_23, isB_24, isB_25, isB_26, isB_27, isB_28, isB_29, isB_30, isB_31, isB_32, isB_33, isB_34, isB_35, cmul_l, cmul_r, cpow_lit, size_le, size_lt, atI_0, atI_1, atI_2, atI_3, atI_4, atI_5, atI_6, ixN_0, ixN_1, ixN_2, itemsT, tyT, reduceIte, *])
local macro_rules | `(tactic| walk_at "r2") => `(tactic| repeat (first | walk_at "wq" | walk_at "go"))
local macro_rules | `(tactic| walk_at "w0") => `(tactic| simp (disch := omega) only [wSeq, wNext, wSet, wVar, wC, wOp, wRet, wIfS, wTest, wCall, wCons, wNil, wTup, wLst, wAsg, gTp, gC, gNm, gN0, gIx, rSet, Wp.rAdd, rMul, rMod, Wp.rSub, rFdiv, rPow, rInt, Wp.rIx, rLt, rLe, rCmp, rGeI, rGtI, wCB, rLen, rLen1, rInt1, rMax2, rMin2, rTupOf, rListOf,
  wIsi, rBIs, rIsN, isNon, wMt, rAppendT, rExtendT, rReverseT, wNot, wOr, wAnd, wAndV, wOrV, wNotV, wFor, iRg1, iRg2, iAnyW, wAll, wChain, wSl, wNoPart, wPart, rSl, wNeg, rNeg, wLc, wYes, wDrop, wipeT, wAug, List.map, List.set_cons_zero, List.set_cons_succ, List.getElem?_cons_zero, List.getElem?_cons_succ, List.length_cons, List.length_nil, List.cons_append, List.nil_append, List.replicate, Wp.startT,
  true_and, and_true, wif_true, wif_false, ex_some, ex_some1, ex_eq, ex_lst, ex_lst0, rEq_int, Bool.false_bne, Bool.true_bne, Int.reduceLT, Int.reduceLE, Int.reduceAdd, Nat.reduceAdd, eq_self, ite_true, ite_false, beq_self_eq_true, Bool.not_true, Bool.not_false, isB_0, isB_1, isB_2, isB_3, isB_4, isB_5, isB_6, isB_7, isB_8, isB_9, isB_10, isB_11, isB_12, isB_13, isB_14, isB_15, isB_16, isB_17, isB_18, isB_19, isB_20, isB_21, isB_22, isB_23, isB_24, isB_25, isB_26, isB_27, isB_28, isB_29, isB_30, isB_31, isB_32, isB_33, isB_34, isB_35, cmul_l, cmul_r, cpow_lit, size_le, size_lt, atI_0, atI_1, atI_2, atI_3, atI_4, atI_5, atI_6, ixN_0, ixN_1, ixN_2, itemsT, tyT, reduceIte])
local macro_rules | `(tactic| walk_at "r0") => `(tactic| repeat (first | walk_at "w0" | walk_at "go"))
def Gr (S S' : Sta) : Prop := ∀ a o, S a = some o → S' a = some o
theorem Gr.refl (S : Sta) : Gr S S := fun _ _ h => h
theorem Gr.trans {S S1 S2 : Sta} (a : Gr S S1) (b : Gr S1 S2) : Gr S S2 := fun x o h => b x o (a x o h)
theorem gr_new {S : Sta} {q : Addr} {o : O} (h : S q = none) : Gr S (upS S q o) := fun a u e => by
  rw [upS_ne (fun z => by rw [z, h] at e; cases e)]; exact e
theorem al_ {S : Sta} {q : Addr} {o : O} (h : S q = none) : ∃ S1 : Sta, upS S q o = S1 ∧ Gr S S1 ∧ S1 q = some o := ⟨_, rfl, gr_new h, upS_same⟩
/-- the two kinds of a law's bag -/
def IsBag : Option Addr → Sta → Addr → Prop
  | none, S, p => ∃ a b c : Int, S p = some (.lst [.int a, .int b, .int c])
  | some q, S, p => ∃ (a b c d : Int) (ns : List Int), S p = some (.lst [.int a, .int b, .int c, .int d, .ref q]) ∧ q ≠ p ∧ S q = some (.lst (ns.map T.int)) ∧ 0 ≤ c
theorem IsBag.has {k : Option Addr} {S : Sta} {p : Addr} (h : IsBag k S p) : ∃ xs, S p = some (.lst xs) := by
  cases k with
  | none => obtain ⟨a, b, c, e⟩ := h; exact ⟨_, e⟩
  | some q => obtain ⟨a, b, c, d, ns, e, _⟩ := h; exact ⟨_, e⟩
/-- all stays but the bag at p -/
structure Grb (k : Option Addr) (p : Addr) (S S' : Sta) : Prop where
  keep : ∀ a o, S a = some o → a ≠ p → S' a = some o
  bag : IsBag k S' p
theorem IsBag.gr {k : Option Addr} {p : Addr} {S S' : Sta} (h : IsBag k S p) (g : Gr S S') : IsBag k S' p := by
  cases k with
  | none => obtain ⟨a, b, c, e⟩ := h; exact ⟨a, b, c, g _ _ e⟩
  | some q => obtain ⟨a, b, c, d, ns, e, n, e2, z⟩ := h; exact ⟨a, b, c, d, ns, g _ _ e, n, g _ _ e2, z⟩
theorem Grb.trans {k : Option Addr} {p : Addr} {S S1 S2 : Sta} (a : Grb k p S S1) (b : Grb k p S1 S2) : Grb k p S S2 := ⟨fun x o h n => b.keep x o (a.keep x o h n) n, b.bag⟩
theorem Grb.refl {k : Option Addr} {p : Addr} {S : Sta} (h : IsBag k S p) : Grb k p S S := ⟨fun _ _ h _ => h, h⟩
theorem Grb.gr {k : Option Addr} {p : Addr} {S S1 S2 : Sta} (a : Grb k p S S1) (g : Gr S1 S2) : Grb k p S S2 := ⟨fun x o h n => g _ _ (a.keep x o h n), a.bag.gr g⟩
theorem Gr.grb {k : Option Addr} {p : Addr} {S S1 : Sta} (h : IsBag k S p) (g : Gr S S1) : Grb k p S S1 := ⟨fun x o e _ => g _ _ e, h.gr g⟩
theorem new_ne {k : Option Addr} {S : Sta} {p q : Addr} (h : IsBag k S p) (hq : S q = none) : q ≠ p := fun e => by
  obtain ⟨xs, z⟩ := h.has
  rw [e, z] at hq; cases hq
theorem Grb.new {k : Option Addr} {p q : Addr} {S S1 S2 : Sta} {o : O} (h : IsBag k S p) (hq : S q = none) (e : S1 q = some o) (g : Grb k p S1 S2) : S2 q = some o := g.keep q o e (new_ne h hq)
/-- not of the bag -/
def Off (k : Option Addr) (p D : Addr) : Prop := D ≠ p ∧ ∀ q, k = some q → D ≠ q
theorem IsBag.free {k : Option Addr} {S : Sta} {p D : Addr} (h : IsBag k S p) (e : S D = none) : Off k p D := by
  refine ⟨new_ne h e, fun q hq => ?_⟩
  subst hq
  obtain ⟨a, b, c, d, ns, h1, h2, h3, h4⟩ := h
  intro z
  rw [z, h3] at e
  cases e
theorem IsBag.up {k : Option Addr} {S : Sta} {p D : Addr} {o : O} (h : IsBag k S p) (n : Off k p D) : IsBag k (upS S D o) p := by
  cases k with
  | none =>
    obtain ⟨a, b, c, e⟩ := h
    exact ⟨a, b, c, by rw [upS_ne n.1.symm]; exact e⟩
  | some q =>
    obtain ⟨a, b, c, d, ns, h1, h2, h3, h4⟩ := h
    exact ⟨a, b, c, d, ns, by rw [upS_ne n.1.symm]; exact h1, h2, by rw [upS_ne (n.2 q rfl).symm]; exact h3, h4⟩
/-- what was made since may be written -/
theorem Grb.up {k : Option Addr} {p D : Addr} {S S' : Sta} {o : O} (g : Grb k p S S') (hb : IsBag k S p) (hD : S D = none) : Grb k p S (upS S' D o) :=
  ⟨fun a u e n => by rw [upS_ne (fun z => by rw [z, hD] at e; cases e)]; exact g.keep a u e n, g.bag.up (hb.free hD)⟩
theorem le_sz {n : Nat} (h : n ≤ 1000000) : n ≤ sizeLine := Nat.le_trans h (by rw [sizeLine_eq]; decide)
theorem lt_sz {n : Nat} (h : n ≤ 1000000) : n < sizeLine := Nat.lt_of_le_of_lt h (by rw [sizeLine_eq]; decide)
def b_bag3 : WS :=
  (wSeq (wSet 2 (wC (.int 0)))
    (wSeq (wIfS (wTest (wOp rLt (wVar 1) (wCB rLen (wCons (wVar 0) wNil)))) (wSet 2 (wCB rInt1 (wCons (wOp rIx (wVar 0) (wVar 1)) wNil))) wNext)
    (wSeq (wIfS (wTest (wOp rGeI (wVar 2) (wOp rPow (wC (.int 10)) (wC (.int 18))))) (wRet (wLst (wCons (wVar 2) (wCons (wVar 2) (wCons (wVar 1) wNil))))) wNext)
    (wRet (wLst (wCons (wC (.int 0)) (wCons (wVar 2) (wCons (wVar 1) wNil))))))))
def b_draw3 : WS :=
  (wSeq (wIfS (wTest (wOp (rEq false) (wOp rIx (wVar 0) (wC (.int 0))) (wC (.int 0)))) (wSeq (wSet 2 (wOp rMod (wCB rInt1 (wCons (wOp rAdd (wOp rAdd (wOp rMul (wOp rIx (wVar 0) (wC (.int 1))) (wC (.int 48271))) (wOp rMul (wOp rIx (wVar 0) (wC (.int 2))) (wC (.int 69621)))) (wC (.int 11))) wNil)) (wC (.int 2147483647))))
    (wSeq (wAsg (wOp rAdd (wOp rMul (wVar 2) (wC (.int 2147483629))) (wOp rMod (wCB rInt1 (wCons (wOp rAdd (wOp rMul (wVar 2) (wVar 2)) (wOp rMul (wOp rIx (wVar 0) (wC (.int 2))) (wC (.int 16807)))) wNil)) (wC (.int 2147483629)))) (gIx (wVar 0) (wC (.int 0))))
    (wAsg (wVar 2) (gIx (wVar 0) (wC (.int 1)))))) wNext)
    (wSeq (wSet 3 (wOp rIx (wVar 0) (wC (.int 0))))
    (wSeq (wAsg (wOp rFdiv (wVar 3) (wVar 1)) (gIx (wVar 0) (wC (.int 0))))
    (wRet (wOp rMod (wCB rInt1 (wCons (wVar 3) wNil)) (wVar 1))))))
def b_bag5 : WS :=
  (wRet (wLst (wCons (wC (.int 0)) (wCons (wC (.int 7)) (wCons (wC (.int 0)) (wCons (wC (.int 0)) (wCons (wCB rListOf (wCons (wVar 0) wNil)) wNil)))))))
def b_draw5 : WS :=
  (wSeq (wIfS (wTest (wOp (rEq false) (wOp rIx (wVar 0) (wC (.int 0))) (wC (.int 0)))) (wSeq (wSet 2 (wCB rInt1 (wCons (wOp rIx (wVar 0) (wC (.int 3))) wNil)))
    (wSeq (wSet 3 (wOp rIx (wVar 0) (wC (.int 4))))
    (wSeq (wIfS (wTest (wOp rLt (wOp rIx (wVar 0) (wC (.int 2))) (wCB rLen (wCons (wVar 3) wNil)))) (wSet 2 (wCB rInt1 (wCons (wOp rIx (wVar 3) (wOp rIx (wVar 0) (wC (.int 2)))) wNil))) wNext)
    (wSeq (wAsg (wOp rAdd (wOp rIx (wVar 0) (wC (.int 2))) (wC (.int 1))) (gIx (wVar 0) (wC (.int 2))))
    (wSeq (wSet 4 (wOp rMod (wCB rInt1 (wCons (wOp rAdd (wOp rAdd (wOp rAdd (wOp rMul (wOp rIx (wVar 0) (wC (.int 1))) (wC (.int 48271))) (wOp rMul (wVar 2) (wC (.int 69621)))) (wOp rMul (wOp rIx (wVar 0) (wC (.int 2))) (wC (.int 16807)))) (wC (.int 11))) wNil)) (wC (.int 2147483647))))
    (wSeq (wAsg (wOp rAdd (wOp rMul (wVar 4) (wC (.int 2147483629))) (wOp rMod (wCB rInt1 (wCons (wOp rAdd (wOp rMul (wVar 4) (wVar 4)) (wVar 2)) wNil)) (wC (.int 2147483629)))) (gIx (wVar 0) (wC (.int 0))))
    (wSeq (wIfS (wTest (wOp rGeI (wVar 2) (wOp rPow (wC (.int 10)) (wC (.int 18))))) (wAsg (wVar 2) (gIx (wVar 0) (wC (.int 0)))) wNext)
    (wAsg (wVar 4) (gIx (wVar 0) (wC (.int 1))))))))))) wNext)
    (wSeq (wSet 5 (wOp rIx (wVar 0) (wC (.int 0))))
    (wSeq (wAsg (wOp rFdiv (wVar 5) (wVar 1)) (gIx (wVar 0) (wC (.int 0))))
    (wRet (wOp rMod (wCB rInt1 (wCons (wVar 5) wNil)) (wVar 1))))))
def spBag3 : WSp := fun ts S Q _ => match ts with
  | [.fl us, .int k] => ∃ ns : List Int, us = ns.map T.int ∧ 0 ≤ k ∧ ns.length ≤ 1000 ∧ ∀ (p : Addr) S', S p = none → Gr S S' → IsBag none S' p → Q (.ref p) S'
  | _ => False
theorem hw_bag3 : ∀ ts S Q E, ts.length = 2 → spBag3 ts S Q E → b_bag3 { nx := fun _ S' => Q .non S', rt := Q } (Wp.startT ["script", "k", "cell"] ts) S := by
  intro ts S Q E _ h
  match ts, h with
  | [.fl us, .int k], ⟨ns, e, h0, hl, h⟩ =>
    subst e
    have fin : ∀ (a b c : Int) (p : Addr), S p = none → Q (.ref p) (upS S p (.lst [.int a, .int b, .int c])) := fun a b c p hp => h p _ hp (gr_new hp) ⟨a, b, c, upS_same⟩
    clear h
    unfold b_bag3
    walk_at "r0"
    refine if_dec (fun hk => ?_) (fun hk => ?_)
    · obtain ⟨x, hx, hm⟩ := atI_in (xs := ns.map T.int) h0 hk
      obtain ⟨n, _, rfl⟩ := List.mem_map.mp hm
      walk_at "r0"
      simp only [hx]
      walk_at "r0"
      refine if_dec (fun _ => ?_) (fun _ => ?_)
      · walk_at "r0"
        exact fun p hp => fin _ _ _ p hp
      · walk_at "r0"
        exact fun p hp => fin _ _ _ p hp
    · walk_at "r0"
      refine if_dec (fun _ => ?_) (fun _ => ?_)
      · walk_at "r0"
        exact fun p hp => fin _ _ _ p hp
      · walk_at "r0"
        exact fun p hp => fin _ _ _ p hp
def spDraw (f : Bool) : WSp := fun ts S Q _ => match ts with
  | [.ref p, .int m] => ∃ k, k.isSome = f ∧ IsBag k S p ∧ 0 < m ∧ m < 2 ^ 62 ∧ ∀ (r : Int) (S' : Sta), 0 ≤ r → r < m → Grb k p S S' → Q (.int r) S'
  | _ => False
theorem hw_draw3 : ∀ ts S Q E, ts.length = 2 → spDraw false ts S Q E → b_draw3 { nx := fun _ S' => Q .non S', rt := Q } (Wp.startT ["bag", "many", "seed", "rest"] ts) S := by
  intro ts S Q E _ h
  match ts, h with
  | [.ref p, .int m], ⟨none, _, ⟨a, b, c, hS⟩, h0, h1, h⟩ =>
    have fin : ∀ (r a b c : Int), 0 ≤ r → r < m → Q (.int r) (upS S p (.lst [.int a, .int b, .int c])) := fun r a b c g1 g2 => h r _ g1 g2 ⟨fun x o e n => by rw [upS_ne n]; exact e, _, _, _, upS_same⟩
    clear h
    unfold b_draw3
    walk_at "run"
    refine if_bool (fun _ => ?_) (fun _ => ?_)
    · walk_at "run"
      exact fin _ _ _ _ (Int.emod_nonneg _ (by omega)) (Int.emod_lt_of_pos _ h0)
    · walk_at "run"
      exact fin _ _ _ _ (Int.emod_nonneg _ (by omega)) (Int.emod_lt_of_pos _ h0)
def spBag5 : WSp := fun ts S Q _ => match ts with
  | [.fl us] => ∃ ns : List Int, us = ns.map T.int ∧ ∀ (p : Addr) S', S p = none → Gr S S' → (∃ q, IsBag (some q) S' p) → Q (.ref p) S'
  | _ => False
theorem hw_bag5 : ∀ ts S Q E, ts.length = 1 → spBag5 ts S Q E → b_bag5 { nx := fun _ S' => Q .non S', rt := Q } (Wp.startT ["script"] ts) S := by
  intro ts S Q E _ h
  match ts, h with
  | [.fl us], ⟨ns, e, h⟩ =>
    subst e
    unfold b_bag5
    walk_at "r0"
    intro q hq p hp
    have hqp : q ≠ p := fun e => by rw [e, upS_same] at hp; cases hp
    rw [upS_ne hqp.symm] at hp
    refine h p _ hp ((gr_new hq).trans (gr_new (by rw [upS_ne hqp.symm]; exact hp))) ⟨q, 0, 7, 0, 0, ns, upS_same, hqp, by rw [upS_ne hqp, upS_same], by omega⟩
theorem hw_draw5 : ∀ ts S Q E, ts.length = 2 → spDraw true ts S Q E → b_draw5 { nx := fun _ S' => Q .non S', rt := Q } (Wp.startT ["bag", "many", "cell", "cells", "seed", "rest"] ts) S := by
  intro ts S Q E _ h
  match ts, h with
  | [.ref p, .int m], ⟨some q, _, ⟨a, b, c, d, ns, hS, hqp, hq, hc⟩, h0, h1, h⟩ =>
    have fin : ∀ (r a b c d : Int), 0 ≤ r → r < m → 0 ≤ c → Q (.int r) (upS S p (.lst [.int a, .int b, .int c, .int d, .ref q])) := fun r a b c d g1 g2 g3 => h r _ g1 g2 ⟨fun x o e n => by rw [upS_ne n]; exact e, _, _, _, _, ns, upS_same, hqp, by rw [upS_ne hqp]; exact hq, g3⟩
    clear h
    have at3 : atI [T.int a, T.int b, T.int c, T.int d, T.ref q] 3 = some (.int d) := by rw [atI_3]; rfl
    unfold b_draw5
    have it : ∀ o, itemsT (upS S p o) (.ref q) = some (ns.map T.int) := fun o => itemsT_ref (by rw [upS_ne hqp]; exact hq)
    have it0 : itemsT S (.ref q) = some (ns.map T.int) := itemsT_ref hq
    walk_at "run"
    refine if_bool (fun _ => ?_) (fun _ => ?_)
    · walk_at "run"
      refine if_dec (fun hk => ?_) (fun hk => ?_)
      · obtain ⟨x, hx, hm⟩ := atI_in (xs := ns.map T.int) hc hk
        obtain ⟨n, _, rfl⟩ := List.mem_map.mp hm
        walk_at "run"
        refine if_dec (fun _ => ?_) (fun _ => ?_)
        · walk_at "run"
          exact fin _ _ _ _ _ (Int.emod_nonneg _ (by omega)) (Int.emod_lt_of_pos _ h0) (by omega)
        · walk_at "run"
          exact fin _ _ _ _ _ (Int.emod_nonneg _ (by omega)) (Int.emod_lt_of_pos _ h0) (by omega)
      · walk_at "run"
        refine if_dec (fun _ => ?_) (fun _ => ?_)
        · walk_at "run"
          exact fin _ _ _ _ _ (Int.emod_nonneg _ (by omega)) (Int.emod_lt_of_pos _ h0) (by omega)
        · walk_at "run"
          exact fin _ _ _ _ _ (Int.emod_nonneg _ (by omega)) (Int.emod_lt_of_pos _ h0) (by omega)
    · walk_at "run"
      exact fin _ _ _ _ _ (Int.emod_nonneg _ (by omega)) (Int.emod_lt_of_pos _ h0) (by omega)
end Wp

set_option Elab.async false
set_option linter.all false
set_option maxRecDepth 100000
/-! loops and comprehensions by an invariant over the turn -/
namespace Wp
open PySem PySem.Spec PyProof.Rows L2
theorem loop_inv_at {g : WG} {tb : WS} {stb : Sta → Prop} {D : WEnds} (xs : List T) (Inv : Nat → Sl → Sta → Prop) (hstb : ∀ i σ S, Inv i σ S → stb S)
    (step : ∀ i x σ S (LP : Sl → Sta → Prop), xs[i]? = some x → Inv i σ S → (∀ σ' S', Inv (i + 1) σ' S' → LP σ' S') → g x σ S fun σ2 S2 => tb { D with nx := LP, ct := LP, bk := D.nx } σ2 S2)
    (done : ∀ σ S, Inv xs.length σ S → D.nx σ S) : ∀ (n i : Nat), n + i = xs.length → ∀ σ S, Inv i σ S → loopW g tb stb D (xs.drop i) σ S
  | 0, i, hn, σ, S, h => by
    rw [show xs.drop i = [] by rw [List.drop_eq_nil_iff]; omega]
    exact ⟨hstb _ _ _ h, done σ S (by rw [← hn, Nat.zero_add]; exact h)⟩
  | n + 1, i, hn, σ, S, h => by
    have hi : i < xs.length := by omega
    rw [List.drop_eq_getElem_cons hi]
    exact ⟨hstb _ _ _ h, step i xs[i] σ S _ (List.getElem?_eq_getElem hi) h fun σ' S' h' => loop_inv_at xs Inv hstb step done n (i + 1) (by omega) σ' S' h'⟩
theorem loop_inv {g : WG} {tb : WS} {stb : Sta → Prop} {D : WEnds} {xs : List T} {σ : Sl} {S : Sta} (Inv : Nat → Sl → Sta → Prop) (h0 : Inv 0 σ S) (hstb : ∀ i σ S, Inv i σ S → stb S)
    (step : ∀ i x σ S (LP : Sl → Sta → Prop), xs[i]? = some x → Inv i σ S → (∀ σ' S', Inv (i + 1) σ' S' → LP σ' S') → g x σ S fun σ2 S2 => tb { D with nx := LP, ct := LP, bk := D.nx } σ2 S2)
    (done : ∀ σ S, Inv xs.length σ S → D.nx σ S) : loopW g tb stb D xs σ S := by
  have := loop_inv_at xs Inv hstb step done xs.length 0 (by omega) σ S h0
  rwa [List.drop_zero] at this
theorem comp_inv_at {g : WG} {tt : WT} {te : WE} {stb : Sta → Prop} {σ : Sl} {D : Addr} {Q : T → Sta → Prop} (xs : List T) (Inv : Nat → Sta → Prop) (hstb : ∀ i S, Inv i S → stb S)
    (step : ∀ i x S (LP : Sta → Prop), xs[i]? = some x → Inv i S → (∀ S', Inv (i + 1) S' → LP S') → g x σ S fun σ2 S2 => tt σ2 S2 fun b S3 => wif b (te σ2 S3 fun y S4 => ∃ acc, S4 D = some (.lst acc) ∧ acc.length < sizeLine ∧ LP (upS S4 D (.lst (acc ++ [y])))) (LP S3))
    (done : ∀ S, Inv xs.length S → Q (.ref D) S) : ∀ (n i : Nat), n + i = xs.length → ∀ S, Inv i S → compW g tt te stb σ D Q (xs.drop i) S
  | 0, i, hn, S, h => by
    rw [show xs.drop i = [] by rw [List.drop_eq_nil_iff]; omega]
    exact ⟨hstb _ _ h, done S (by rw [← hn, Nat.zero_add]; exact h)⟩
  | n + 1, i, hn, S, h => by
    have hi : i < xs.length := by omega
    rw [List.drop_eq_getElem_cons hi]
    exact ⟨hstb _ _ h, step i xs[i] S _ (List.getElem?_eq_getElem hi) h fun S' h' => comp_inv_at xs Inv hstb step done n (i + 1) (by omega) S' h'⟩
theorem comp_inv {g : WG} {tt : WT} {te : WE} {stb : Sta → Prop} {σ : Sl} {D : Addr} {Q : T → Sta → Prop} {xs : List T} {S : Sta} (Inv : Nat → Sta → Prop) (h0 : Inv 0 S) (hstb : ∀ i S, Inv i S → stb S)
    (step : ∀ i x S (LP : Sta → Prop), xs[i]? = some x → Inv i S → (∀ S', Inv (i + 1) S' → LP S') → g x σ S fun σ2 S2 => tt σ2 S2 fun b S3 => wif b (te σ2 S3 fun y S4 => ∃ acc, S4 D = some (.lst acc) ∧ acc.length < sizeLine ∧ LP (upS S4 D (.lst (acc ++ [y])))) (LP S3))
    (done : ∀ S, Inv xs.length S → Q (.ref D) S) : compW g tt te stb σ D Q xs S := by
  have := comp_inv_at xs Inv hstb step done xs.length 0 (by omega) S h0
  rwa [List.drop_zero] at this
/-- a comprehension without a test whose element is f of the item; what stands stays, a bag may change -/
theorem comp_map {g : WG} {te : WE} {stb : Sta → Prop} {σ : Sl} {D : Addr} {Q : T → Sta → Prop} {xs : List T} {S0 : Sta} (Rel : Sta → Sta → Prop) (f : Nat → T) (hS0 : S0 D = some (.lst [])) (hl : xs.length ≤ 1000000)
    (r0 : Rel S0 S0) (hstb : ∀ S, Rel S0 S → stb S)
    (up : ∀ S acc o, Rel S0 S → S D = some (.lst acc) → Rel S0 (upS S D o))
    (step : ∀ i x S acc (R : T → Sta → Prop), xs[i]? = some x → Rel S0 S → S D = some (.lst acc) → (∀ S', Rel S0 S' → S' D = some (.lst acc) → R (f i) S') → g x σ S fun σ2 S2 => te σ2 S2 R)
    (done : ∀ S, Rel S0 S → S D = some (.lst ((List.range xs.length).map f)) → Q (.ref D) S) : compW g wYes te stb σ D Q xs S0 :=
  comp_inv (fun i S => Rel S0 S ∧ S D = some (.lst ((List.range i).map f))) ⟨r0, hS0⟩ (fun i S h => hstb S h.1) (fun i x S LP hx h nx => by
    have hi : i < xs.length := (List.getElem?_eq_some_iff.mp hx).1
    have hh := step i x S _ (fun y S4 => ∃ acc, S4 D = some (.lst acc) ∧ acc.length < sizeLine ∧ LP (upS S4 D (.lst (acc ++ [y])))) hx h.1 h.2 fun S' r e => by
      refine ⟨_, e, ?_, nx _ ⟨up S' _ _ r e, ?_⟩⟩
      · rw [List.length_map, List.length_range]; exact lt_sz (by omega)
      · rw [upS_same, List.range_succ, List.map_append]; rfl
    exact (by
      show g x σ S fun σ2 S2 => wif true (te σ2 S2 _) _
      simp only [wif_true]
      exact hh)) fun S h => done S h.1 h.2
theorem all_inv_at {g : WG} {te : WE} {stb : Sta → Prop} {σ : Sl} {Q : T → Sta → Prop} (xs : List T) (f : T → Bool) (S : Sta) (hstb : stb S) (q : Q (.bl (xs.all f)) S)
    (step : ∀ x (R : T → Sta → Prop), x ∈ xs → R (.bl (f x)) S → g x σ S fun σ2 S2 => te σ2 S2 R) : allW g te stb σ Q xs S := by
  induction xs with
  | nil => exact ⟨hstb, q⟩
  | cons x xs ih =>
    refine ⟨hstb, step x _ List.mem_cons_self ?_⟩
    rw [List.all_cons] at q
    show wif (f x) _ _
    refine if_bool (fun h => ?_) (fun h => ?_)
    · rw [h, Bool.true_and] at q
      exact ih q fun y R hy => step y R (List.mem_cons_of_mem _ hy)
    · rw [h, Bool.false_and] at q
      exact q
theorem range_at {lo : Int} {n i : Nat} {x : T} (h : (rangeT lo n)[i]? = some x) : i < n ∧ x = .int (lo + (i : Int)) := by
  unfold rangeT at h
  rw [List.getElem?_map] at h
  cases e : (List.range n)[i]? with
  | none => rw [e] at h; cases h
  | some j =>
    obtain ⟨hi, ej⟩ := List.getElem?_eq_some_iff.mp e
    rw [List.length_range] at hi
    rw [List.getElem_range] at ej
    subst ej
    rw [e] at h
    cases h
    exact ⟨hi, rfl⟩
theorem rangeT_length {lo : Int} {n : Nat} : (rangeT lo n).length = n := by unfold rangeT; rw [List.length_map, List.length_range]
theorem map_at {α β : Type} {f : α → β} {xs : List α} {i : Nat} {y : β} (h : (xs.map f)[i]? = some y) : ∃ x, xs[i]? = some x ∧ y = f x := by
  rw [List.getElem?_map] at h
  cases e : xs[i]? with
  | none => rw [e] at h; cases h
  | some x => rw [e] at h; cases h; exact ⟨x, rfl, rfl⟩
end Wp

set_option Elab.async false
set_option linter.all false
set_option maxRecDepth 100000
/-! == over data without bools -/
namespace Wp
open PySem PySem.Spec PyProof.Rows L2
mutual
/-- data: no bools, no things that change -/
def nbT : T → Bool
  | .non => true
  | .bl _ => false
  | .int _ => true
  | .str x => PyData.strOk x
  | .tup ts => nbTs ts
  | .fl ts => nbTs ts
  | .ref _ => false
  | .pt _ => false
def nbTs : List T → Bool
  | [] => true
  | t :: ts => nbT t && nbTs ts
end
mutual
def dpT : T → Nat
  | .tup ts => dpTs ts + 1
  | .fl ts => dpTs ts + 1
  | _ => 0
def dpTs : List T → Nat
  | [] => 0
  | t :: ts => max (dpT t) (dpTs ts)
end
mutual
theorem nb_toD : ∀ t : T, nbT t = true → ∃ d, toD t = some d ∧ d.canLay0 = true ∧ d.depth ≤ dpT t + 1
  | .non, _ => ⟨.none, by simp only [toD], by simp only [PyData.canLay0], by simp only [PyData.depth]; omega⟩
  | .bl _, h => by simp [nbT] at h
  | .int i, _ => ⟨.int i, by simp only [toD], by simp only [PyData.canLay0], by simp only [PyData.depth]; omega⟩
  | .str x, h => ⟨.str x, by simp only [toD], by simp only [PyData.canLay0]; simpa only [nbT] using h, by simp only [PyData.depth]; omega⟩
  | .tup ts, h => by
    obtain ⟨ds, e1, e2, e3⟩ := nb_toDs ts (by simpa only [nbT] using h)
    exact ⟨.tuple ds, by simp only [toD, e1, Option.map_some], by simpa only [PyData.canLay0] using e2, by simp only [PyData.depth, dpT]; omega⟩
  | .fl ts, h => by
    obtain ⟨ds, e1, e2, e3⟩ := nb_toDs ts (by simpa only [nbT] using h)
    exact ⟨.list ds, by simp only [toD, e1, Option.map_some], by simpa only [PyData.canLay0] using e2, by simp only [PyData.depth, dpT]; omega⟩
  | .ref _, h => by simp [nbT] at h
  | .pt _, h => by simp [nbT] at h
theorem nb_toDs : ∀ ts : List T, nbTs ts = true → ∃ ds, toDs ts = some ds ∧ PyData.canLayAll0 ds = true ∧ PyData.depthAll ds ≤ dpTs ts + 1
  | [], _ => ⟨[], by simp only [toDs], by simp only [PyData.canLayAll0], by simp only [PyData.depthAll]; omega⟩
  | t :: ts, h => by
    simp only [nbTs, Bool.and_eq_true] at h
    obtain ⟨d, e1, e2, e3⟩ := nb_toD t h.1
    obtain ⟨ds, g1, g2, g3⟩ := nb_toDs ts h.2
    exact ⟨d :: ds, by simp only [toDs, e1, g1], by simp only [PyData.canLayAll0, e2, g2, Bool.and_self], by simp only [PyData.depthAll, dpTs]; omega⟩
end
mutual
theorem nb_eqv : ∀ (x y : T) (d e : PyData), nbT x = true → nbT y = true → toD x = some d → toD y = some e → (PyData.eqv d e = true ↔ x = y)
  | .non, y, d, e, hx, hy, ex, ey => by
    simp only [toD, Option.some.injEq] at ex; subst ex
    cases y <;> simp only [nbT] at hy <;> simp only [toD, Option.some.injEq, Option.map_eq_some_iff, reduceCtorEq] at ey <;> first
      | (subst ey; simp [PyData.eqv]; done)
      | (obtain ⟨es, _, rfl⟩ := ey; simp [PyData.eqv]; done)
      | (simp at hy; done)
  | .bl _, y, d, e, hx, hy, ex, ey => by simp [nbT] at hx
  | .int i, y, d, e, hx, hy, ex, ey => by
    simp only [toD, Option.some.injEq] at ex; subst ex
    cases y <;> simp only [nbT] at hy <;> simp only [toD, Option.some.injEq, Option.map_eq_some_iff, reduceCtorEq] at ey <;> first
      | (subst ey; simp [PyData.eqv]; done)
      | (obtain ⟨es, _, rfl⟩ := ey; simp [PyData.eqv]; done)
      | (simp at hy; done)
  | .str z, y, d, e, hx, hy, ex, ey => by
    simp only [toD, Option.some.injEq] at ex; subst ex
    cases y <;> simp only [nbT] at hy <;> simp only [toD, Option.some.injEq, Option.map_eq_some_iff, reduceCtorEq] at ey <;> first
      | (subst ey; simp [PyData.eqv]; done)
      | (obtain ⟨es, _, rfl⟩ := ey; simp [PyData.eqv]; done)
      | (simp at hy; done)
  | .tup ts, y, d, e, hx, hy, ex, ey => by
    simp only [toD, Option.map_eq_some_iff] at ex
    obtain ⟨ds, e1, rfl⟩ := ex
    cases y <;> simp only [nbT] at hy <;> simp only [toD, Option.some.injEq, Option.map_eq_some_iff, reduceCtorEq] at ey <;> first
      | (subst ey; simp [PyData.eqv]; done)
      | (obtain ⟨es, e2, rfl⟩ := ey; simp only [PyData.eqv, nb_eqvs ts _ ds es (by simpa only [nbT] using hx) (by simpa only [nbT] using hy) e1 e2, T.tup.injEq]; done)
      | (obtain ⟨es, _, rfl⟩ := ey; simp [PyData.eqv]; done)
      | (simp at hy; done)
  | .fl ts, y, d, e, hx, hy, ex, ey => by
    simp only [toD, Option.map_eq_some_iff] at ex
    obtain ⟨ds, e1, rfl⟩ := ex
    cases y <;> simp only [nbT] at hy <;> simp only [toD, Option.some.injEq, Option.map_eq_some_iff, reduceCtorEq] at ey <;> first
      | (subst ey; simp [PyData.eqv]; done)
      | (obtain ⟨es, e2, rfl⟩ := ey; simp only [PyData.eqv, nb_eqvs ts _ ds es (by simpa only [nbT] using hx) (by simpa only [nbT] using hy) e1 e2, T.fl.injEq]; done)
      | (obtain ⟨es, _, rfl⟩ := ey; simp [PyData.eqv]; done)
      | (simp at hy; done)
  | .ref _, y, d, e, hx, hy, ex, ey => by simp [nbT] at hx
  | .pt _, y, d, e, hx, hy, ex, ey => by simp [nbT] at hx
theorem nb_eqvs : ∀ (xs ys : List T) (ds es : List PyData), nbTs xs = true → nbTs ys = true → toDs xs = some ds → toDs ys = some es → (PyData.eqvAll ds es = true ↔ xs = ys)
  | [], [], ds, es, _, _, e1, e2 => by simp only [toDs, Option.some.injEq] at e1 e2; subst e1 e2; simp [PyData.eqvAll]
  | [], y :: ys, ds, es, _, hy, e1, e2 => by
    obtain ⟨es', g1, _, _⟩ := nb_toDs (y :: ys) hy
    simp only [toDs, Option.some.injEq] at e1
    subst e1
    cases es with
    | nil => simp only [toDs] at e2; split at e2 <;> cases e2
    | cons _ _ => simp [PyData.eqvAll]
  | x :: xs, [], ds, es, hx, _, e1, e2 => by
    simp only [toDs, Option.some.injEq] at e2
    subst e2
    cases ds with
    | nil => simp only [toDs] at e1; split at e1 <;> cases e1
    | cons _ _ => simp [PyData.eqvAll]
  | x :: xs, y :: ys, ds, es, hx, hy, e1, e2 => by
    simp only [nbTs, Bool.and_eq_true] at hx hy
    obtain ⟨d, a1, _, _⟩ := nb_toD x hx.1
    obtain ⟨ds', a2, _, _⟩ := nb_toDs xs hx.2
    obtain ⟨e, b1, _, _⟩ := nb_toD y hy.1
    obtain ⟨es', b2, _, _⟩ := nb_toDs ys hy.2
    simp only [toDs, a1, a2, Option.some.injEq] at e1
    simp only [toDs, b1, b2, Option.some.injEq] at e2
    subst e1 e2
    rw [PyData.eqvAll, Bool.and_eq_true, nb_eqv x y d e hx.1 hy.1 a1 b1, nb_eqvs xs ys ds' es' hx.2 hy.2 a2 b2, List.cons.injEq]
end
/-- a value as it stands: a list by its items -/
def see (S : Sta) : T → T
  | .ref p => match S p with
    | some (.lst ts) => .fl ts
    | _ => .ref p
  | t => t
theorem see_ref {S : Sta} {p : Addr} {ts : List T} (h : S p = some (.lst ts)) : see S (.ref p) = .fl ts := by simp only [see, h]
theorem dd_see {S : Sta} {t : T} : dd S t = toD (see S t) := by
  cases t with
  | ref p =>
    simp only [dd, see]
    cases e : S p with
    | none => simp only [toD]
    | some o => cases o <;> simp only [toD]
  | _ => rfl
/-- == -/
theorem rEq_nb {neg : Bool} {x y : T} {S : Sta} {Q : T → Sta → Prop} {x' y' : T} (ex : see S x = x') (ey : see S y = y') (hx : nbT x' = true) (hy : nbT y' = true) (dx : dpT x' ≤ 60) (dy : dpT y' ≤ 60) (h1 : x' = y' → Q (.bl (!neg)) S) (h2 : x' ≠ y' → Q (.bl neg) S) : Wp.rEq neg x y S Q := by
  subst ex ey
  obtain ⟨d, a1, a2, a3⟩ := nb_toD _ hx
  obtain ⟨e, b1, b2, b3⟩ := nb_toD _ hy
  refine ⟨d, by rw [dd_see]; exact a1, e, by rw [dd_see]; exact b1, ?_, ?_, ?_⟩
  · unfold SeqAt.shaped; rw [a2, Bool.true_and]; exact decide_eq_true (by omega)
  · unfold SeqAt.shaped; rw [b2, Bool.true_and]; exact decide_eq_true (by omega)
  · have k := nb_eqv _ _ d e hx hy a1 b1
    by_cases h : see S x = see S y
    · rw [k.mpr h]
      have := h1 h
      cases neg <;> exact this
    · have z : PyData.eqv d e = false := by
        cases q : PyData.eqv d e with
        | false => rfl
        | true => exact absurd (k.mp q) h
      rw [z]
      have := h2 h
      cases neg <;> exact this
theorem nb_ints (ns : List Int) : nbTs (ns.map T.int) = true := by
  induction ns with
  | nil => rfl
  | cons n ns ih => simp only [List.map_cons, nbTs, nbT, ih, Bool.and_self]
theorem dp_ints (ns : List Int) : dpTs (ns.map T.int) = 0 := by
  induction ns with
  | nil => rfl
  | cons n ns ih => simp only [List.map_cons, dpTs, dpT, ih, Nat.max_self]
theorem ints_inj {ns ms : List Int} : ns.map T.int = ms.map T.int ↔ ns = ms := by
  constructor
  · intro h
    induction ns generalizing ms with
    | nil => cases ms with
      | nil => rfl
      | cons m ms => simp at h
    | cons n ns ih => cases ms with
      | nil => simp at h
      | cons m ms =>
        simp only [List.map_cons, List.cons.injEq, T.int.injEq] at h
        rw [h.1, ih h.2]
  · intro h; rw [h]
end Wp
namespace Wp
open PySem PySem.Spec PyProof.Rows L2
theorem sIx_nat {n d : Nat} (i : Nat) : HT.sIx n d (some (i : Int)) = min i n := by
  unfold HT.sIx
  simp
  omega
theorem sIx_none {n d : Nat} : HT.sIx n d none = d := rfl
theorem cutT_to (xs : List T) (i : Nat) : cutT xs none (some (i : Int)) = xs.take i := by
  unfold cutT
  rw [sIx_nat, sIx_none, List.drop_zero, Nat.sub_zero]
  by_cases h : i ≤ xs.length
  · rw [Nat.min_eq_left h]
  · rw [Nat.min_eq_right (by omega), List.take_of_length_le (Nat.le_refl _), List.take_of_length_le (by omega)]
theorem cutT_from (xs : List T) (i : Nat) : cutT xs (some (i : Int)) none = xs.drop i := by
  unfold cutT
  rw [sIx_nat, sIx_none]
  by_cases h : i ≤ xs.length
  · rw [Nat.min_eq_left h, List.take_of_length_le (by rw [List.length_drop]; omega)]
  · rw [Nat.min_eq_right (by omega), Nat.sub_self, List.take_zero, List.drop_eq_nil_of_le (by omega)]
theorem cutT_both (xs : List T) (i j : Nat) : cutT xs (some (i : Int)) (some (j : Int)) = (xs.drop i).take (j - i) := by
  unfold cutT
  rw [sIx_nat, sIx_nat]
  by_cases h : i ≤ xs.length
  · rw [Nat.min_eq_left h]
    by_cases h2 : j ≤ xs.length
    · rw [Nat.min_eq_left h2]
    · rw [Nat.min_eq_right (by omega), List.take_of_length_le (by rw [List.length_drop]; omega), List.take_of_length_le (by rw [List.length_drop]; omega)]
  · rw [Nat.min_eq_right (show xs.length ≤ i by omega), List.drop_eq_nil_of_le (show xs.length ≤ i by omega), List.drop_length]
    simp
theorem ex_map_ints {ns : List Int} {P : List Int → Prop} : (∃ ds, ns.map T.int = ds.map T.int ∧ P ds) = P ns := by
  apply propext
  constructor
  · rintro ⟨ds, e, h⟩; rw [ints_inj.mp e]; exact h
  · intro h; exact ⟨ns, rfl, h⟩
end Wp

set_option Elab.async false
set_option linter.all false
set_option maxRecDepth 100000
set_option maxHeartbeats 1000000
/-! objects: attributes, methods, new instances; errors -/
namespace Wp
open PySem PySem.Spec PyProof.Rows L2
def putFT (f : Str) (v : T) : List (Str × T) → List (Str × T)
  | [] => [(f, v)]
  | (g, x) :: r => if g = f then (g, v) :: r else (g, x) :: putFT f v r
theorem KRep.put {K : PySem.W.Frag} {H : Hp} {f : Str} {t : T} {v : V} (r : Rep K H t v) : ∀ {fs : List (Str × T)} {gs : List (Str × V)}, FRep K H fs gs → FRep K H (putFT f t fs) (putF f v gs)
  | _, _, .nil => .cons r .nil
  | _, _, .cons (f := g) h1 h2 => by
    unfold putFT putF
    split
    · exact .cons r h2
    · exact .cons h1 (KRep.put r h2)
theorem KRep.look {K : PySem.W.Frag} {H : Hp} {f : Str} {t : T} : ∀ {fs : List (Str × T)} {gs : List (Str × V)}, FRep K H fs gs → fs.lookup f = some t → ∃ v, gs.lookup f = some v ∧ Rep K H t v
  | _, _, .nil, e => by cases e
  | _, _, .cons (f := g) h1 h2, e => by
    rw [List.lookup_cons] at e ⊢
    split at e
    · cases e; exact ⟨_, rfl, h1⟩
    · exact KRep.look h2 e
theorem KRep.lookN {K : PySem.W.Frag} {H : Hp} {f : Str} : ∀ {fs : List (Str × T)} {gs : List (Str × V)}, FRep K H fs gs → fs.lookup f = none → gs.lookup f = none
  | _, _, .nil, e => rfl
  | _, _, .cons (f := g) h1 h2, e => by
    rw [List.lookup_cons] at e ⊢
    split at e
    · cases e
    · exact KRep.lookN h2 e
section
variable {B : Hp} {X : Cx} {C : Addr} {f : Str} {o e value : Expr} {to te : WE} {pos pos' tpos : Pos}
/-- o.f -/
def wFld (C : Addr) (f : Str) (to : WE) (σ : Sl) (S : Sta) (Q : T → Sta → Prop) : Prop := to σ S fun x S1 => match x with
  | .ref p => ∃ fs, S1 p = some (.ins C fs) ∧ ∃ v, fs.lookup f = some v ∧ Q v S1
  | _ => False
theorem j_fld (c : Cls X.K C) (n : NoAttr X.K C f) (ho : JE B X o to) (hb : attributeBase o f X.env (eval o X.env) = eval o X.env := by rfl) : JE B X (.Attribute o f pos) (wFld C f to) :=
  pe_imp (pe_fld ho hb) fun σ H Q ⟨st, S, Q0, he, hr, hs, h, im⟩ => by
    refine ⟨st, S, _, he, hr, hs, h, fun x S1 h1 H1 v e1 s1 r1 => ?_⟩
    cases x with
    | ref p =>
      obtain ⟨fs, e2, y, e3, q⟩ := h1
      cases r1
      obtain ⟨dx, gs, e4, r4⟩ := s1 p _ e2
      obtain ⟨w, e5, r5⟩ := r4.look e3
      exact ⟨p, C, dx, gs, w, rfl, e4, c, n, e5, im _ _ q H1 w e1 s1 r5⟩
    | _ => exact h1.elim
/-- o.f = e -/
def wFSet (C : Addr) (f : Str) (to te : WE) (D : WEnds) (σ : Sl) (S : Sta) : Prop := te σ S fun y S1 => to σ S1 fun x S2 => match x with
  | .ref p => ∃ fs, S2 p = some (.ins C fs) ∧ fs.length < 1000 ∧ goS D.nx σ (upS S2 p (.ins C (putFT f y fs)))
  | _ => False
theorem insW {K : PySem.W.Frag} {S : Sta} {H : Hp} {p C dx : Addr} {fs : List (Str × T)} {gs : List (Str × V)} {f : Str} {y : T} {v : V} (hs : St K S H) (e : H p = some (.ins C dx gs)) (r : FRep K H fs gs) (ry : Rep K H y v) :
    Ext H (upd H p (.ins C dx (putF f v gs))) ∧ St K (upS S p (.ins C (putFT f y fs))) (upd H p (.ins C dx (putF f v gs))) :=
  hs.setO e trivial fun ex => ⟨dx, _, upd_same, (r.put ry).mono ex⟩
theorem js_fset (c : Cls X.K C) (n : NoAttr X.K C f) (ho : JE B X o to) (hv : JE B X value te) (hs : swapsWith value (some (.Attribute o f pos')) pos.line X.env = pure false := by rfl) : JS B X (.Assign [.Attribute o f pos'] value pos) (wFSet C f to te) :=
  ps_imp (ps_fld ho hv hs) fun D σ H ⟨st, S, D0, he, hr, hs, h, im⟩ => by
    refine ⟨st, S, _, he, hr, hs, h, fun y S1 h1 H1 v e1 s1 r1 => ?_⟩
    refine ⟨st, S1, _, he.trans e1, hr.mono e1, s1, h1, fun x S2 h2 H2 u e2 s2 r2 => ?_⟩
    cases x with
    | ref p =>
      obtain ⟨fs, e3, hl, q⟩ := h2
      cases r2
      obtain ⟨dx, gs, e4, r4⟩ := s2 p _ e3
      have ry := Rep.mono e2 _ _ r1
      obtain ⟨e5, s5⟩ := insW (f := f) s2 e4 r4 ry
      refine ⟨p, C, dx, gs, rfl, e4, c, n, by rw [← r4.length]; exact hl, ?_⟩
      exact im.nx _ _ q _ σ ((e1.trans e2).trans e5) s5 (hr.mono ((e1.trans e2).trans e5))
    | _ => exact h2.elim
/-- o.f op= e -/
def wFAug (C : Addr) (f : Str) (r : R3) (to te : WE) (D : WEnds) (σ : Sl) (S : Sta) : Prop := to σ S fun x S1 => match x with
  | .ref p => ∃ fs, S1 p = some (.ins C fs) ∧ ∃ v, fs.lookup f = some v ∧ te σ S1 fun y S2 => r v y S2 fun z S3 => ∃ fs', S3 p = some (.ins C fs') ∧ fs'.length < 1000 ∧ goS D.nx σ (upS S3 p (.ins C (putFT f z fs')))
  | _ => False
theorem js_faug {op : Operator} {r : R3} (c : Cls X.K C) (n : NoAttr X.K C f) (ho : JE B X o to) (hv : JE B X value te) (hop : OpT X (inplaceOp op) r) : JS B X (.AugAssign (.Attribute o f tpos) op value pos) (wFAug C f r to te) :=
  ps_imp (ps_fldaug (rd := L3 X.K r) ho hv (fun pins s σ H x y u v Q I ru rv h => hop pins s σ H x y u v Q I ru rv h)) fun D σ H ⟨st, S, D0, he, hr, hs, h, im⟩ => by
    refine ⟨st, S, _, he, hr, hs, h, fun x S1 h1 H1 v e1 s1 r1 => ?_⟩
    cases x with
    | ref p =>
      obtain ⟨fs, e2, y, e3, q⟩ := h1
      cases r1
      obtain ⟨dx, gs, e4, r4⟩ := s1 p _ e2
      obtain ⟨w, e5, r5⟩ := r4.look e3
      refine ⟨p, C, dx, gs, w, rfl, e4, c, n, e5, st, S1, _, he.trans e1, hr.mono e1, s1, q, fun z S2 q2 H2 u e6 s6 r6 => ?_⟩
      refine ⟨y, z, S2, _, Rep.mono e6 _ _ r5, r6, s6, q2, fun z2 S3 q3 H3 u3 e7 s7 r7 => ?_⟩
      obtain ⟨fs', e8, hl, q4⟩ := q3
      obtain ⟨dx', gs', e9, r9⟩ := s7 p _ e8
      obtain ⟨e10, s10⟩ := insW (f := f) s7 e9 r9 r7
      refine ⟨dx', gs', e9, by rw [← r9.length]; exact hl, ?_⟩
      have ee := e1.trans (e6.trans (e7.trans e10))
      exact im.nx _ _ q4 _ σ ee s10 (hr.mono ee)
    | _ => exact h1.elim
end
/-! ### methods, new instances -/
section
variable {B : Hp} {X : Cx} {C : Addr} {m x : Str} {o e : Expr} {es : List Expr} {to : WE} {t : WA} {p pos apos : Pos} {k : Nat} {ps : List Str} {s : WSp} {tl : List Addr}
/-- a class's method -/
def CalM (P : Program) (w : World) (K : PySem.W.Frag) (mg : Str → Option Value) (base : Heap) (tl : List Addr) (k : Nat) (C : Addr) (m : Str) (ps : List Str) (s : WSp) : Prop :=
  ∃ f fd, FnOk P w K mg base CX0 k f fd ps (Lsp tl K ps.length s) ∧ Meth K C m f ∧ Binds K fd ps []
theorem CalM.mono {P : Program} {w : World} {K : PySem.W.Frag} {mg : Str → Option Value} {base : Heap} {j : Nat} (c : CalM P w K mg base tl j C m ps s) (h : j ≤ k) : CalM P w K mg base tl k C m ps s := by
  obtain ⟨f, fd, F, m, b⟩ := c
  exact ⟨f, fd, F.mono h, m, b⟩
theorem CalM.imp {P : Program} {w : World} {K : PySem.W.Frag} {mg : Str → Option Value} {base : Heap} {s' : WSp} (c : CalM P w K mg base tl k C m ps s) (h : ∀ ts S Q E, s' ts S Q E → s ts S Q E) : CalM P w K mg base tl k C m ps s' := by
  obtain ⟨f, fd, F, m, b⟩ := c
  exact ⟨f, fd, fn_imp F h, m, b⟩
def wMeth (C : Addr) (m : Str) (n : Nat) (w : WSp) (to : WE) (t : WA) (σ : Sl) (S : Sta) (Q : T → Sta → Prop) : Prop := to σ S fun x S1 => match x with
  | .ref p => ∃ fs, S1 p = some (.ins C fs) ∧ fs.lookup m = none ∧ t σ S1 fun ts S2 => ts.length + 1 = n ∧ w (.ref p :: ts) S2 Q fun _ _ => False
  | _ => False
theorem j_meth (c : CalM X.prog X.w X.K X.mg X.base tl k C m ps s) (cl : Cls X.K C) (ht : ∀ P ∈ tl, GxR.TabG B P) (hr : Room k X.A) (ho : JE B X o to) (ha : JA B X (e :: es) t)
    (hst : starEach (e :: es) X.env = (false, eval e X.env) :: starEach es X.env := by rfl) (hpl : (backTo pos (starEach es X.env)).any (·.1) = false := by rfl) {pl : Sem Bool}
    (hte : eval (.Call (.Attribute o m apos) (e :: es) [] pos) X.env = (do
      let ov ← eval o X.env
      standAt apos.atName
      let (f, first) ← holding [ov] (getMethod ov m pl)
      callWith pos f first (backTo pos (starEach (e :: es) X.env)) (backToKw pos (keywordEach [] X.env))) := by rfl) :
    JE B X (.Call (.Attribute o m apos) (e :: es) [] pos) (wMeth C m ps.length s to t) := by
  obtain ⟨f, fd, F, hm, b⟩ := c
  refine pe_imp (pe_meth (pl := pl) ho cl hm F hr b .nil pass0 ha hst hpl hte) fun σ H Q ⟨st, S, Q0, he, hr, hs, h, im⟩ => ?_
  refine ⟨st, S, _, he, hr, hs, h, fun x S1 h1 H1 v e1 s1 r1 => ?_⟩
  cases x with
  | ref p =>
    obtain ⟨fs, e2, hl, q⟩ := h1
    cases r1
    obtain ⟨dx, gs, e4, r4⟩ := s1 p _ e2
    refine ⟨p, dx, gs, rfl, e4, r4.lookN hl, st, S1, _, he.trans e1, hr.mono e1, s1, q, fun ts S2 h2 H2 vs e6 s6 r6 => ?_⟩
    refine ⟨fun P hP => (he.trans (e1.trans e6)).tabs P (ht P hP), .ref p :: ts, S2, Q0, fun _ _ => False, by rw [List.length_cons]; exact h2.1, by rw [List.append_nil]; exact .cons (.ref p) r6, s6, h2.2, fun z S3 q => fin_ext (e1.trans e6) (im z S3 q), fun C S' H' q => q.elim⟩
  | _ => exact h1.elim
theorem j_meth0 (c : CalM X.prog X.w X.K X.mg X.base tl k C m ps s) (cl : Cls X.K C) (ht : ∀ P ∈ tl, GxR.TabG B P) (hr : Room k X.A) (ho : JE B X o to) {pl : Sem Bool}
    (hte : eval (.Call (.Attribute o m apos) [] [] pos) X.env = (do
      let ov ← eval o X.env
      standAt apos.atName
      let (f, first) ← holding [ov] (getMethod ov m pl)
      callWith pos f first (backTo pos (starEach [] X.env)) (backToKw pos (keywordEach [] X.env))) := by rfl) :
    JE B X (.Call (.Attribute o m apos) [] [] pos) (wMeth C m ps.length s to wNil) := by
  obtain ⟨f, fd, F, hm, b⟩ := c
  refine pe_imp (pe_meth0 (pl := pl) ho cl hm F hr b .nil pass0 hte) fun σ H Q ⟨st, S, Q0, he, hr, hs, h, im⟩ => ?_
  refine ⟨st, S, _, he, hr, hs, h, fun x S1 h1 H1 v e1 s1 r1 => ?_⟩
  cases x with
  | ref p =>
    obtain ⟨fs, e2, hl, h2⟩ := h1
    cases r1
    obtain ⟨dx, gs, e4, r4⟩ := s1 p _ e2
    refine ⟨p, dx, gs, rfl, e4, r4.lookN hl, fun P hP => (he.trans e1).tabs P (ht P hP), [.ref p], S1, Q0, fun _ _ => False, h2.1, .cons (.ref p) .nil, s1, h2.2, fun z S3 q => fin_ext e1 (im z S3 q), fun C S' H' q => q.elim⟩
  | _ => exact h1.elim
/-- a class and its __init__ -/
def CalI (P : Program) (w : World) (K : PySem.W.Frag) (mg : Str → Option Value) (base : Heap) (tl : List Addr) (k : Nat) (C : Addr) (x : Str) (ps : List Str) (s : WSp) : Prop :=
  ∃ f fd, FnOk P w K mg base CX0 k f fd ps (Lsp tl K ps.length s) ∧ Mk K C f ∧ mg x = some (.ref C) ∧ Binds K fd ps []
theorem CalI.mono {P : Program} {w : World} {K : PySem.W.Frag} {mg : Str → Option Value} {base : Heap} {j : Nat} (c : CalI P w K mg base tl j C x ps s) (h : j ≤ k) : CalI P w K mg base tl k C x ps s := by
  obtain ⟨f, fd, F, m, b⟩ := c
  exact ⟨f, fd, F.mono h, m, b⟩
def wMake (C : Addr) (n : Nat) (w : WSp) (t : WA) (σ : Sl) (S : Sta) (Q : T → Sta → Prop) : Prop := t σ S fun ts S1 => ts.length + 1 = n ∧ ∀ p, S1 p = none → w (.ref p :: ts) (upS S1 p (.ins C [])) (fun v S2 => v = .non ∧ Q (.ref p) S2) fun _ _ => False
theorem make_le {B H1 : Hp} {n : Nat} {S1 : Sta} {ts : List T} {vs : List V} {Q0 : T → Sta → Prop} {Q : VK} (he : Ext B H1) (hs : St X.K S1 H1) (r : Reps X.K H1 ts vs) (ht : ∀ P ∈ tl, GxR.TabG B P) (im : Im2 Q0 (fin X.K H1 Q))
    (h : ts.length + 1 = n ∧ ∀ p, S1 p = none → s (.ref p :: ts) (upS S1 p (.ins C [])) (fun v S2 => v = .non ∧ Q0 (.ref p) S2) fun _ _ => False) : ∀ x dx, H1 x = none → H1 dx = none → dx ≠ x →
      Lsp tl X.K n s (.ref x :: (vs ++ [])) (upd (upd H1 dx (.own x)) x (.ins C dx [])) (fun v H2 => v = .non ∧ Q (.ref x) H2) E0 := fun x dx hx hd hne => by
  have e1 := Ext.new (o := HO.own x) hd
  have s1 := hs.new hd (.own x)
  have hx1 : upd H1 dx (.own x) x = none := by rw [upd_ne hne.symm]; exact hx
  obtain ⟨e2, s2⟩ := s1.newO (u' := .ins C dx []) (o' := .ins C []) hx1 fun ex => ⟨dx, [], upd_same, .nil⟩
  have ee := e1.trans e2
  refine ⟨fun P hP => (he.trans ee).tabs P (ht P hP), .ref x :: ts, _, _, fun _ _ => False, by rw [List.length_cons]; exact h.1, by rw [List.append_nil]; exact .cons (.ref x) (Reps.mono ee _ _ r), s2, h.2 x (s1.free hx1), fun z S3 q H3 v e3 s3 r3 => ?_, fun C S' H' q => q.elim⟩
  obtain ⟨ez, q⟩ := q
  subst ez
  cases r3
  exact ⟨rfl, im _ _ q H3 _ (ee.trans e3) s3 (.ref x)⟩
theorem j_make (c : CalI X.prog X.w X.K X.mg X.base tl k C x ps s) (ht : ∀ P ∈ tl, GxR.TabG B P) (hr : Room (k + 1) X.A) (hg : Gl X x) (ha : JA B X (e :: es) t) (hdb : (x == ("__debug__" : Str)) = false := by decide)
    (he : starEach (e :: es) X.env = (false, eval e X.env) :: starEach es X.env := by rfl) (hpl : (backTo pos (starEach es X.env)).any (·.1) = false := by rfl) : JE B X (.Call (.Name x p) (e :: es) [] pos) (wMake C ps.length s t) := by
  obtain ⟨f, fd, F, M, hm, b⟩ := c
  refine pe_imp (pe_make M F hr hg hm b .nil pass0 ha hdb he hpl) fun σ H Q ⟨st, S, Q0, he, hr, hs, h, im⟩ => ?_
  refine ⟨st, S, _, he, hr, hs, h, fun ts S1 h1 H1 vs e1 s1 r1 => ?_⟩
  exact make_le (he.trans e1) s1 r1 ht (fun z S3 q => fin_ext e1 (im z S3 q)) h1
theorem j_make0 (c : CalI X.prog X.w X.K X.mg X.base tl k C x ps s) (ht : ∀ P ∈ tl, GxR.TabG B P) (hr : Room (k + 1) X.A) (hg : Gl X x) (hdb : (x == ("__debug__" : Str)) = false := by decide) : JE B X (.Call (.Name x p) [] [] pos) (wMake C ps.length s wNil) := by
  obtain ⟨f, fd, F, M, hm, b⟩ := c
  refine pe_imp (pe_make0 M F hr hg hm b .nil pass0 hdb) fun σ H Q ⟨st, S, Q0, he, hr, hs, h, im⟩ => ?_
  exact make_le (vs := []) he hs .nil ht im h
end
/-- a method of the text -/
def DefM (K : PySem.W.Frag) (C : Addr) (m qual : Str) (st : Stmt) (ps : List Str) : Prop := ∃ f fd, Fun K m qual st f fd ∧ Meth K C m f ∧ Binds K fd ps []
def DefI (K : PySem.W.Frag) (mg : Str → Option Value) (C : Addr) (x qual : Str) (st : Stmt) (ps : List Str) : Prop := ∃ f fd, Fun K "__init__" qual st f fd ∧ Mk K C f ∧ mg x = some (.ref C) ∧ Binds K fd ps []
section
variable {P : Program} {w : World} {K : PySem.W.Frag} {mg : Str → Option Value} {base : Heap} {k : Nat} {C : Addr} {m x qual : Str} {st : Stmt} {ps : List Str} {s : WSp} {tl : List Addr}
theorem DefM.cal (D : DefM K C m qual st ps) (h : ∀ f fd, Fun K m qual st f fd → FnOk P w K mg base CX0 k f fd ps (Lsp tl K ps.length s)) : CalM P w K mg base tl k C m ps s := by
  obtain ⟨f, fd, F, m, b⟩ := D
  exact ⟨f, fd, h f fd F, m, b⟩
theorem DefI.cal (D : DefI K mg C x qual st ps) (h : ∀ f fd, Fun K "__init__" qual st f fd → FnOk P w K mg base CX0 k f fd ps (Lsp tl K ps.length s)) : CalI P w K mg base tl k C x ps s := by
  obtain ⟨f, fd, F, M, m, b⟩ := D
  exact ⟨f, fd, h f fd F, M, m, b⟩
theorem defM_mk {f : Addr} {oc : Value} {od an : Option Addr} {osl : Array (Option Value)} {kV doc pm cdv ct : Value} (a : PySem.W.findIn K (.ref C) m = some (some (.ref f))) (i : PySem.W.isFn K (.ref f) = true)
    (l : K.lookup f = some ⟨oc, od, .func (PySem.W.fnOf m qual (defArgs st) (defBody st) (defScope st) .none kV doc pm an cdv ct), osl⟩) (c : PySem.W.codeIn K cdv qual = true) (k : PySem.W.keepIn K (.ref f) = true)
    (h : ∀ (kV doc pm : Value) (an : Option Addr) (cdv ct : Value) (us : List Value), us.length = ps.length → bindArgs (PySem.W.fnOf m qual (defArgs st) (defBody st) (defScope st) .none kV doc pm an cdv ct) ⟨us, []⟩ = pure (ps.zip us)) : DefM K C m qual st ps :=
  ⟨f, _, fun_mk l c k, ⟨a, i, k⟩, (fun_mk l c k).binds h⟩
theorem defI_mk {f : Addr} {oc : Value} {od an : Option Addr} {osl : Array (Option Value)} {kV doc pm cdv ct : Value} (a : PySem.W.findIn K (.ref C) "__init__" = some (some (.ref f))) (i : PySem.W.isFn K (.ref f) = true) (mk : PySem.W.makesIn K C = true) (kc : PySem.W.keepIn K (.ref C) = true) (hm : mg x = some (.ref C))
    (l : K.lookup f = some ⟨oc, od, .func (PySem.W.fnOf "__init__" qual (defArgs st) (defBody st) (defScope st) .none kV doc pm an cdv ct), osl⟩) (c : PySem.W.codeIn K cdv qual = true) (k : PySem.W.keepIn K (.ref f) = true)
    (h : ∀ (kV doc pm : Value) (an : Option Addr) (cdv ct : Value) (us : List Value), us.length = ps.length → bindArgs (PySem.W.fnOf "__init__" qual (defArgs st) (defBody st) (defScope st) .none kV doc pm an cdv ct) ⟨us, []⟩ = pure (ps.zip us)) : DefI K mg C x qual st ps :=
  ⟨f, _, fun_mk l c k, ⟨mk, a, i, kc⟩, hm, (fun_mk l c k).binds h⟩
end
end Wp

set_option Elab.async false
set_option linter.all false
set_option maxRecDepth 100000
set_option maxHeartbeats 1000000
/-! dicts -/
namespace Wp
open PySem PySem.Spec PyProof.Rows L2
section
variable {κ : Type} [DecidableEq κ]
def valT (kvs : List (κ × T)) (k : κ) : Option T := (kvs.find? fun kv => decide (kv.1 = k)).map (·.2)
def putT (kvs : List (κ × T)) (k : κ) (v : T) : List (κ × T) :=
  if (kvs.any fun kv => decide (kv.1 = k)) = true then kvs.map (fun kv => if kv.1 = k then (kv.1, v) else kv) else kvs ++ [(k, v)]
def dropT (kvs : List (κ × T)) (k : κ) : List (κ × T) := kvs.filter fun kv => decide (kv.1 ≠ k)
/-- two options that stand for each other -/
def RepO (K : PySem.W.Frag) (H : Hp) : Option T → Option V → Prop
  | some t, some v => Rep K H t v
  | none, none => True
  | _, _ => False
theorem KRep.val {K : PySem.W.Frag} {H : Hp} (k : κ) : ∀ {kvs : List (κ × T)} {vs : List (κ × V)}, KRep K H kvs vs → RepO K H (valT kvs k) (valV vs k)
  | _, _, .nil => trivial
  | _, _, .cons (f := g) (t := t) (v := v) (fs := fs) (gs := gs) h1 h2 => by
    unfold valT valV
    rw [List.find?_cons, List.find?_cons]
    by_cases e : g = k
    · have e1 : decide (((g, t) : κ × T).1 = k) = true := decide_eq_true e
      have e2 : decide (((g, v) : κ × V).1 = k) = true := decide_eq_true e
      rw [e1]
      exact h1
    · have e1 : decide (((g, t) : κ × T).1 = k) = false := decide_eq_false e
      have e2 : decide (((g, v) : κ × V).1 = k) = false := decide_eq_false e
      rw [e1]
      exact KRep.val k h2
theorem KRep.any {K : PySem.W.Frag} {H : Hp} (k : κ) : ∀ {kvs : List (κ × T)} {vs : List (κ × V)}, KRep K H kvs vs → (kvs.any fun kv => decide (kv.1 = k)) = vs.any fun kv => decide (kv.1 = k)
  | _, _, .nil => rfl
  | _, _, .cons h1 h2 => by rw [List.any_cons, List.any_cons, KRep.any k h2]
theorem KRep.repl {K : PySem.W.Frag} {H : Hp} (k : κ) {t : T} {v : V} (r : Rep K H t v) : ∀ {kvs : List (κ × T)} {vs : List (κ × V)}, KRep K H kvs vs → KRep K H (kvs.map fun kv => if kv.1 = k then (kv.1, t) else kv) (vs.map fun kv => if kv.1 = k then (kv.1, v) else kv)
  | _, _, .nil => .nil
  | _, _, .cons (f := g) h1 h2 => by
    rw [List.map_cons, List.map_cons]
    by_cases e : g = k
    · simp only [e, if_true]; exact .cons r (KRep.repl k r h2)
    · simp only [e, if_false]; exact .cons h1 (KRep.repl k r h2)
theorem KRep.app {K : PySem.W.Frag} {H : Hp} : ∀ {a b : List (κ × T)} {c d : List (κ × V)}, KRep K H a c → KRep K H b d → KRep K H (a ++ b) (c ++ d)
  | _, _, _, _, .nil, h => h
  | _, _, _, _, .cons h1 h2, h => .cons h1 (KRep.app h2 h)
theorem KRep.putd {K : PySem.W.Frag} {H : Hp} (k : κ) {t : T} {v : V} (r : Rep K H t v) {kvs : List (κ × T)} {vs : List (κ × V)} (h : KRep K H kvs vs) : KRep K H (putT kvs k t) (putK vs k v) := by
  unfold putT putK
  rw [h.any k]
  split
  · exact h.repl k r
  · exact h.app (.cons r .nil)
theorem KRep.drop {K : PySem.W.Frag} {H : Hp} (k : κ) : ∀ {kvs : List (κ × T)} {vs : List (κ × V)}, KRep K H kvs vs → KRep K H (dropT kvs k) (dropK vs k)
  | _, _, .nil => .nil
  | _, _, .cons (f := g) (t := t) (v := v) (fs := fs) (gs := gs) h1 h2 => by
    have ih := KRep.drop k h2
    unfold dropT dropK at ih ⊢
    rw [List.filter_cons, List.filter_cons]
    by_cases e : g ≠ k
    · have e1 : decide (((g, t) : κ × T).1 ≠ k) = true := decide_eq_true e
      have e2 : decide (((g, v) : κ × V).1 ≠ k) = true := decide_eq_true e
      rw [if_pos e1, if_pos e2]
      exact .cons h1 ih
    · have e1 : ¬ decide (((g, t) : κ × T).1 ≠ k) = true := by simpa using e
      have e2 : ¬ decide (((g, v) : κ × V).1 ≠ k) = true := by simpa using e
      rw [if_neg e1, if_neg e2]
      exact ih
theorem KRep.keys {K : PySem.W.Frag} {H : Hp} : ∀ {kvs : List (κ × T)} {vs : List (κ × V)}, KRep K H kvs vs → kvs.map (·.1) = vs.map (·.1)
  | _, _, .nil => rfl
  | _, _, .cons h1 h2 => by rw [List.map_cons, List.map_cons, KRep.keys h2]
/-! what a dict holds -/
theorem valT_nil {k : κ} : valT ([] : List (κ × T)) k = none := rfl
theorem valT_cons {k j : κ} {v : T} {r : List (κ × T)} : valT ((j, v) :: r) k = if j = k then some v else valT r k := by
  unfold valT
  rw [List.find?_cons]
  by_cases e : j = k
  · rw [if_pos e, show decide (((j, v) : κ × T).1 = k) = true from decide_eq_true e]; rfl
  · rw [if_neg e, show decide (((j, v) : κ × T).1 = k) = false from decide_eq_false e]
theorem valT_any (k : κ) : ∀ kvs : List (κ × T), (kvs.any fun kv => decide (kv.1 = k)) = (valT kvs k).isSome
  | [] => rfl
  | (j, v) :: r => by
    rw [List.any_cons, valT_cons, valT_any k r]
    by_cases e : j = k
    · rw [if_pos e, show decide (((j, v) : κ × T).1 = k) = true from decide_eq_true e]; rfl
    · rw [if_neg e, show decide (((j, v) : κ × T).1 = k) = false from decide_eq_false e, Bool.false_or]
theorem valT_map (k j : κ) (y : T) : ∀ kvs : List (κ × T), valT (kvs.map fun kv => if kv.1 = k then (kv.1, y) else kv) j = (valT kvs j).map fun x => if j = k then y else x
  | [] => rfl
  | (i, v) :: r => by
    rw [List.map_cons]
    by_cases e : i = k
    · simp only [e, if_true]
      rw [valT_cons, valT_cons, valT_map k j y r]
      by_cases e2 : k = j
      · simp [e2]
      · rw [if_neg e2, if_neg e2]
    · simp only [e, if_false]
      rw [valT_cons, valT_cons, valT_map k j y r]
      by_cases e2 : i = j
      · rw [if_pos e2, if_pos e2, Option.map_some, if_neg (fun z => e (e2.trans z))]
      · rw [if_neg e2, if_neg e2]
theorem valT_snoc (k j : κ) (y : T) : ∀ kvs : List (κ × T), valT kvs k = none → valT (kvs ++ [(k, y)]) j = if j = k then some y else valT kvs j
  | [], _ => by
    rw [List.nil_append, valT_cons, valT_nil]
    by_cases e : k = j
    · rw [if_pos e, if_pos e.symm]
    · rw [if_neg e, if_neg (fun z => e z.symm)]
  | (i, v) :: r, h => by
    rw [valT_cons] at h
    by_cases e : i = k
    · rw [if_pos e] at h; cases h
    · rw [if_neg e] at h
      rw [List.cons_append, valT_cons, valT_cons, valT_snoc k j y r h]
      by_cases e2 : i = j
      · rw [if_pos e2, if_pos e2, if_neg (fun z => e (e2.trans z))]
      · rw [if_neg e2, if_neg e2]
theorem valT_put (kvs : List (κ × T)) (k j : κ) (y : T) : valT (putT kvs k y) j = if j = k then some y else valT kvs j := by
  unfold putT
  rw [valT_any]
  split
  · rename_i h
    rw [valT_map]
    by_cases e : j = k
    · subst e
      obtain ⟨x, hx⟩ := Option.isSome_iff_exists.mp h
      rw [hx, if_pos rfl, Option.map_some, if_pos rfl]
    · rw [if_neg e]
      cases valT kvs j <;> simp [e]
  · rename_i h
    exact valT_snoc k j y kvs (by simpa using h)
theorem valT_drop (k j : κ) : ∀ kvs : List (κ × T), valT (dropT kvs k) j = if j = k then none else valT kvs j
  | [] => by simp [dropT, valT_nil]
  | (i, v) :: r => by
    have ih := valT_drop k j r
    unfold dropT at ih ⊢
    rw [List.filter_cons]
    by_cases e : i = k
    · rw [if_neg (by simp [e]), ih, valT_cons]
      by_cases e2 : j = k
      · rw [if_pos e2, if_pos e2]
      · rw [if_neg e2, if_neg e2, if_neg (fun z => e2 (z.symm.trans e))]
    · rw [if_pos (by simp [e]), valT_cons, valT_cons, ih]
      by_cases e2 : i = j
      · rw [if_pos e2, if_pos e2, if_neg (fun z => e (e2.trans z))]
      · rw [if_neg e2, if_neg e2]
theorem length_putT (kvs : List (κ × T)) (k : κ) (v : T) : (putT kvs k v).length ≤ kvs.length + 1 := by
  unfold putT
  split
  · rw [List.length_map]; omega
  · rw [List.length_append]; exact Nat.le_refl _
theorem length_dropT (kvs : List (κ × T)) (k : κ) : (dropT kvs k).length ≤ kvs.length := List.length_filter_le _ _
theorem keys_putT (kvs : List (κ × T)) (k : κ) (v : T) : (putT kvs k v).map (·.1) = if (valT kvs k).isSome = true then kvs.map (·.1) else kvs.map (·.1) ++ [k] := by
  unfold putT
  rw [valT_any]
  split
  · rw [List.map_map]
    refine List.map_congr_left fun p _ => ?_
    simp only [Function.comp]
    split <;> rfl
  · rw [List.map_append]; rfl
theorem valT_mem {kvs : List (κ × T)} {k : κ} : (valT kvs k).isSome = true ↔ k ∈ kvs.map (·.1) := by
  rw [← valT_any]
  simp only [List.any_eq_true, decide_eq_true_eq, List.mem_map]
theorem nodup_putT {kvs : List (κ × T)} {k : κ} {v : T} (h : (kvs.map (·.1)).Nodup) : ((putT kvs k v).map (·.1)).Nodup := by
  rw [keys_putT]
  split
  · exact h
  · rename_i hn
    rw [valT_mem] at hn
    rw [List.nodup_append]
    exact ⟨h, List.nodup_cons.mpr ⟨(by simp), List.nodup_nil⟩, fun a ha b hb => by rw [List.mem_singleton.mp hb]; intro e; subst e; exact hn ha⟩
theorem nodup_dropT {kvs : List (κ × T)} {k : κ} (h : (kvs.map (·.1)).Nodup) : ((dropT kvs k).map (·.1)).Nodup := by
  unfold dropT
  exact (List.filter_sublist.map _).nodup h
end
/-! ### keys -/
def keyT : T → Option Key
  | .int i => some (.inl i)
  | .str x => some (.inr x)
  | _ => none
def keysL : List T → Option (List Key)
  | [] => some []
  | t :: ts => match keyT t, keysL ts with
    | some k, some ks => some (k :: ks)
    | _, _ => none
def keysT : T → Option (List Key)
  | .tup ts => keysL ts
  | _ => none
theorem keyT_rep {K : PySem.W.Frag} {H : Hp} {t : T} {v : V} {k : Key} (r : Rep K H t v) (e : keyT t = some k) : v = kV k := by
  cases t <;> simp only [keyT, Option.some.injEq, reduceCtorEq] at e <;> subst e <;> cases r <;> rfl
theorem keysL_rep {K : PySem.W.Frag} {H : Hp} : ∀ {ts : List T} {vs : List V} {ks : List Key}, Reps K H ts vs → keysL ts = some ks → vs = ks.map kV
  | [], _, _, r, e => by cases r; simp only [keysL, Option.some.injEq] at e; subst e; rfl
  | t :: ts, _, ks, r, e => by
    cases r with
    | cons h1 h2 =>
      simp only [keysL] at e
      cases e1 : keyT t with
      | none => rw [e1] at e; cases e
      | some k =>
        cases e2 : keysL ts with
        | none => rw [e1, e2] at e; cases e
        | some ks' =>
          rw [e1, e2] at e
          cases e
          rw [keyT_rep h1 e1, keysL_rep h2 e2]
          rfl
theorem keysT_rep {K : PySem.W.Frag} {H : Hp} {t : T} {v : V} {ks : List Key} (r : Rep K H t v) (e : keysT t = some ks) : ∃ b, v = .ref b ∧ H b = some (.tup (ks.map kV)) := by
  cases t with
  | tup ts =>
    cases r with
    | @tup a xs _ g1 g2 => exact ⟨a, rfl, by rw [← keysL_rep g2 e]; exact g1⟩
  | _ => cases e
/-- what the dict at p holds at y -/
def getD (S : Sta) (p : Addr) (y : T) : Option (Option T) := match S p with
  | some (.dct kvs) => (keyT y).map (valT kvs)
  | some (.dtt kvs) => (keysT y).map (valT kvs)
  | _ => none
/-- the state behind d[y] = v -/
def putD (S : Sta) (p : Addr) (y v : T) : Option O := match S p with
  | some (.dct kvs) => if kvs.length < sizeLine then (keyT y).map fun k => .dct (putT kvs k v) else none
  | some (.dtt kvs) => if kvs.length < sizeLine then (keysT y).map fun k => .dtt (putT kvs k v) else none
  | _ => none
theorem getD_rep {K : PySem.W.Frag} {S : Sta} {H : Hp} {p : Addr} {y : T} {w : V} {o : Option T} (hs : St K S H) (r : Rep K H y w) (e : getD S p y = some o) : ∃ o', DGet H p w o' ∧ RepO K H o o' := by
  unfold getD at e
  cases eS : S p with
  | none => rw [eS] at e; cases e
  | some u =>
    rw [eS] at e
    cases u with
    | lst _ => cases e
    | ins _ _ => cases e
    | dct kvs =>
      obtain ⟨vs, h1, h2⟩ := hs p _ eS
      simp only [Option.map_eq_some_iff] at e
      obtain ⟨k, ek, rfl⟩ := e
      rw [keyT_rep r ek]
      exact ⟨_, .k h1, h2.val k⟩
    | dtt kvs =>
      obtain ⟨vs, h1, h2⟩ := hs p _ eS
      simp only [Option.map_eq_some_iff] at e
      obtain ⟨k, ek, rfl⟩ := e
      obtain ⟨b, rfl, hb⟩ := keysT_rep r ek
      exact ⟨_, .t h1 hb, h2.val k⟩
theorem putD_rep {K : PySem.W.Frag} {S : Sta} {H : Hp} {p : Addr} {y v : T} {w z : V} {o : O} (hs : St K S H) (r : Rep K H y w) (rv : Rep K H v z) (e : putD S p y v = some o) : ∃ H', DPut H p w z H' ∧ Ext H H' ∧ St K (upS S p o) H' := by
  unfold putD at e
  cases eS : S p with
  | none => rw [eS] at e; cases e
  | some u =>
    rw [eS] at e
    cases u with
    | lst _ => cases e
    | ins _ _ => cases e
    | dct kvs =>
      obtain ⟨vs, h1, h2⟩ := hs p _ eS
      simp only at e
      split at e
      · rename_i hl
        simp only [Option.map_eq_some_iff] at e
        obtain ⟨k, ek, rfl⟩ := e
        rw [keyT_rep r ek]
        obtain ⟨e3, s3⟩ := hs.setO (u' := .dK (putK vs k z)) (o' := .dct (putT kvs k v)) h1 trivial fun ex => ⟨_, upd_same, (h2.putd k rv).mono ex⟩
        exact ⟨_, .k h1 (by rw [← h2.length]; exact hl), e3, s3⟩
      · cases e
    | dtt kvs =>
      obtain ⟨vs, h1, h2⟩ := hs p _ eS
      simp only at e
      split at e
      · rename_i hl
        simp only [Option.map_eq_some_iff] at e
        obtain ⟨k, ek, rfl⟩ := e
        obtain ⟨b, rfl, hb⟩ := keysT_rep r ek
        obtain ⟨e3, s3⟩ := hs.setO (u' := .dT (putK vs k z)) (o' := .dtt (putT kvs k v)) h1 trivial fun ex => ⟨_, upd_same, (h2.putd k rv).mono ex⟩
        exact ⟨_, .t h1 hb (by rw [← h2.length]; exact hl), e3, s3⟩
      · cases e
theorem itemsT_ref' {S : Sta} {p : Addr} {ts : List T} (h : S p = some (.lst ts)) : itemsT S (.ref p) = some ts := by simp only [itemsT, h]
def isDT (S : Sta) (p : Addr) : Prop := match S p with
  | some (.dct _) => True
  | some (.dtt _) => True
  | _ => False
theorem isDT_rep {K : PySem.W.Frag} {S : Sta} {H : Hp} {p : Addr} (hs : St K S H) (e : isDT S p) : IsD H p := by
  unfold isDT at e
  cases eS : S p with
  | none => rw [eS] at e; cases e
  | some u =>
    rw [eS] at e
    cases u with
    | lst _ => cases e
    | ins _ _ => cases e
    | dct kvs => obtain ⟨vs, h1, h2⟩ := hs p _ eS; exact .inl ⟨vs, .inl h1⟩
    | dtt kvs => obtain ⟨vs, h1, h2⟩ := hs p _ eS; exact .inr ⟨vs, .inl h1⟩
/-! ### o[i], in, o[i] = v, len: of dicts, too -/
section
variable {B : Hp} {X : Cx} {a b o i e value : Expr} {ta tb to te : WE} {pos pos' tpos cpos apos : Pos}
theorem ix_D (hu : X.A.units + 1 < cLine) : IxR X (fun x y H Q => ∃ a v, x = .ref a ∧ DGet H a y (some v) ∧ Q v H) := by
  intro value slice pins s σ H x y v u Q I rx ry ⟨a, z, ex, g, q⟩ hs
  subst ex
  obtain rfl : v = Value.ref a := rx
  have hT := dict_typeIs I g
  unfold subscriptTail
  refine wpAny_bind ?_
  rw [getitemInPython_of_ne hT.not_modules]
  refine wpAny_bind (wpAny_specialOf hT PySem.F.slot_dict_getitem.lookup ?_)
  have h₂ : wpAny (model X.prog X.w) X.A (getItem (.ref a) u) (EP X pins σ Q) X.xe s := d_getItem hu I g ry fun w' s3 I3 rw' => ⟨z, H, I3, rw', q⟩
  have fin : wpAny (model X.prog X.w) X.A (subscripted slice false (.ref a) u) (fun r s₃ => wpAny (model X.prog X.w) X.A (letTemporaryGo value (.ref a) r >>= fun _ => pure r) (EP X pins σ Q) X.xe s₃) X.xe s := by
    rw [hs]
    exact wpAny_operating (wpAny_mono h₂ (fun r s₃ h₃ => wpAny_bind (wpAny_letTemporaryGo (wpAny_pure h₃))) fun _ _ x => x)
  first
    | exact wpAny_pure (wpAny_bind fin)
    | exact wpAny_bind (wpAny_pure (wpAny_bind fin))
    | exact wpAny_bind fin
def isD (S : Sta) (p : Addr) : Bool := match S p with
  | some (.dct _) => true
  | some (.dtt _) => true
  | _ => false
def rIxM (x : T) (y : T) (S : Sta) (Q : T → Sta → Prop) : Prop := match x with
  | .ref p => match S p with
    | some (.dct kvs) => ∃ k, keyT y = some k ∧ ∃ v, valT kvs k = some v ∧ Q v S
    | some (.dtt kvs) => ∃ k, keysT y = some k ∧ ∃ v, valT kvs k = some v ∧ Q v S
    | _ => Wp.rIx (.ref p) y S Q
  | x => Wp.rIx x y S Q
theorem ix_M (hu : X.A.units + 1 < cLine) : IxR X (L3 X.K rIxM) := by
  intro value slice pins s σ H x y v u Q I rx ry ⟨a, b, S, Q0, ra, rb, hs, q, im⟩ hsub
  have go : rIx a b S Q0 → _ := fun q => ix_T value slice pins s σ H x y v u Q I rx ry ⟨a, b, S, Q0, ra, rb, hs, q, im⟩ hsub
  have gd : ∀ p z, a = .ref p → getD S p b = some (some z) → Q0 z S → wpAny (model X.prog X.w) X.A (subscriptTail value slice v u) (EP X pins σ Q) X.xe s := fun p z ea eg q0 => by
    subst ea
    cases ra
    obtain ⟨o', g, r⟩ := getD_rep hs rb eg
    cases o' with
    | none => exact r.elim
    | some w => exact ix_D hu value slice pins s σ H _ y v u Q I rx ry ⟨p, w, rfl, g, im _ _ q0 H w (Ext.refl H) hs r⟩ hsub
  cases a with
  | ref p =>
    unfold rIxM at q
    cases eS : S p with
    | none => simp only [eS] at q; exact go q
    | some u =>
      cases u with
      | lst ts => simp only [eS] at q; exact go q
      | ins C fs => simp only [eS] at q; exact go q
      | dct kvs =>
        simp only [eS] at q
        obtain ⟨k, ek, z, ez, q⟩ := q
        exact gd p z rfl (by unfold getD; rw [eS, ek]; simp only [Option.map_some, ez]) q
      | dtt kvs =>
        simp only [eS] at q
        obtain ⟨k, ek, z, ez, q⟩ := q
        exact gd p z rfl (by unfold getD; rw [eS, ek]; simp only [Option.map_some, ez]) q
  | non => exact go q
  | bl _ => exact go q
  | int _ => exact go q
  | str _ => exact go q
  | tup _ => exact go q
  | fl _ => exact go q
  | pt _ => exact go q
/-- what o[i] is -/
def ixA (S : Sta) (x y : T) : Option T := match x with
  | .ref p => match S p with
    | some (.lst ts) => match y with
      | .int i => atI ts i
      | _ => none
    | some (.dct kvs) => (keyT y).bind (valT kvs)
    | some (.dtt kvs) => (keysT y).bind (valT kvs)
    | _ => none
  | .tup ts => match y with
    | .int i => atI ts i
    | _ => none
  | .fl ts => match y with
    | .int i => atI ts i
    | _ => none
  | .str s => match y with
    | .int i => if s.length ≤ sizeLine then (atI s.cps.toList i).map fun c => .str ⟨#[c]⟩ else none
    | _ => none
  | _ => none
def rIxA (x : T) (y : T) (S : Sta) (Q : T → Sta → Prop) : Prop := ∃ v, ixA S x y = some v ∧ Q v S
theorem rIxA_M {x y : T} {S : Sta} {Q : T → Sta → Prop} (h : rIxA x y S Q) : rIxM x y S Q := by
  obtain ⟨v, e, q⟩ := h
  unfold ixA at e
  cases x with
  | ref p =>
    unfold rIxM
    simp only at e ⊢
    cases eS : S p with
    | none => rw [eS] at e; cases e
    | some u =>
      rw [eS] at e
      cases u with
      | lst ts =>
        cases y with
        | int i => exact ⟨ts, itemsT_ref' eS, v, e, q⟩
        | _ => cases e
      | ins C fs => cases e
      | dct kvs =>
        obtain ⟨k, ek, ev⟩ := Option.bind_eq_some_iff.mp e
        exact ⟨k, ek, v, ev, q⟩
      | dtt kvs =>
        obtain ⟨k, ek, ev⟩ := Option.bind_eq_some_iff.mp e
        exact ⟨k, ek, v, ev, q⟩
  | tup ts => cases y with
    | int i => exact ⟨ts, rfl, v, e, q⟩
    | _ => cases e
  | fl ts => cases y with
    | int i => exact ⟨ts, rfl, v, e, q⟩
    | _ => cases e
  | str s => cases y with
    | int i =>
      simp only at e
      split at e
      · rename_i hl
        simp only [Option.map_eq_some_iff] at e
        obtain ⟨c, ec, rfl⟩ := e
        exact ⟨hl, c, ec, q⟩
      · cases e
    | _ => cases e
  | _ => cases e
theorem L3_mono {K : PySem.W.Frag} {r r' : R3} (h : ∀ x y S Q, r x y S Q → r' x y S Q) {x y : V} {H : Hp} {Q : VK} : L3 K r x y H Q → L3 K r' x y H Q := fun ⟨a, b, S, Q0, ra, rb, hs, q, im⟩ => ⟨a, b, S, Q0, ra, rb, hs, h _ _ _ _ q, im⟩
theorem ix_A (hu : X.A.units + 1 < cLine) : IxR X (L3 X.K rIxA) := fun value slice pins s σ H x y v u Q I rx ry q hs => ix_M hu value slice pins s σ H x y v u Q I rx ry (L3_mono (fun _ _ _ _ => rIxA_M) q) hs
theorem j_ixA (hu : X.A.units + 1 < cLine) (ha : JE B X a ta) (hb : JE B X b tb) (hs : PlainIx b) : JE B X (.Subscript a b pos) (wOp rIxA ta tb) := pe_imp (pe_ix (ix_A hu) ha hb hs) fun _ _ _ h => le_op h
/-- in, not in -/
def rInM (neg : Bool) (x : T) (y : T) (S : Sta) (Q : T → Sta → Prop) : Prop := match y with
  | .ref p => match S p with
    | some (.dct kvs) => ∃ k, keyT x = some k ∧ Q (.bl (neg != (valT kvs k).isSome)) S
    | some (.dtt kvs) => ∃ k, keysT x = some k ∧ Q (.bl (neg != (valT kvs k).isSome)) S
    | _ => Wp.rIn neg x (.ref p) S Q
  | y => Wp.rIn neg x y S Q
theorem RepO.some {K : PySem.W.Frag} {H : Hp} {o : Option T} {o' : Option V} (r : RepO K H o o') : o'.isSome = o.isSome := by
  cases o <;> cases o' <;> first | rfl | exact r.elim
theorem o_inM (hu : X.A.units + 1 < cLine) : OpT X (compareOp .In) (rInM false) := by
  intro pins s σ H x y v u Q I rx ry ⟨a, b, S, Q0, ra, rb, hs, q, im⟩
  have go : rIn false a b S Q0 → _ := fun q => o_in pins s σ H x y v u Q I rx ry ⟨a, b, S, Q0, ra, rb, hs, q, im⟩
  have gd : ∀ p z, b = .ref p → getD S p a = some z → Q0 (.bl (false != z.isSome)) S → wpAny (model X.prog X.w) X.A (compareOp .In v u) (EP X pins σ Q) X.xe s := fun p z eb eg q0 => by
    subst eb
    cases rb
    obtain ⟨o', g, r⟩ := getD_rep hs ra eg
    obtain rfl : u = Value.ref p := ry
    refine d_in hu I g rx fun s3 I3 => ⟨.bl o'.isSome, H, I3, rfl, ?_⟩
    rw [r.some]
    rw [Bool.false_bne] at q0
    exact im _ _ q0 H _ (Ext.refl H) hs (.bl _)
  cases b with
  | ref p =>
    unfold rInM at q
    cases eS : S p with
    | none => simp only [eS] at q; exact go q
    | some u =>
      cases u with
      | lst ts => simp only [eS] at q; exact go q
      | ins C fs => simp only [eS] at q; exact go q
      | dct kvs =>
        simp only [eS] at q
        obtain ⟨k, ek, q⟩ := q
        exact gd p _ rfl (by unfold getD; rw [eS, ek]; rfl) q
      | dtt kvs =>
        simp only [eS] at q
        obtain ⟨k, ek, q⟩ := q
        exact gd p _ rfl (by unfold getD; rw [eS, ek]; rfl) q
  | non => exact go q
  | bl _ => exact go q
  | int _ => exact go q
  | str _ => exact go q
  | tup _ => exact go q
  | fl _ => exact go q
  | pt _ => exact go q
theorem o_notInM (hu : X.A.units + 1 < cLine) : OpT X (compareOp .NotIn) (rInM true) := by
  intro pins s σ H x y v u Q I rx ry ⟨a, b, S, Q0, ra, rb, hs, q, im⟩
  have go : rIn true a b S Q0 → _ := fun q => o_notIn pins s σ H x y v u Q I rx ry ⟨a, b, S, Q0, ra, rb, hs, q, im⟩
  have gd : ∀ p z, b = .ref p → getD S p a = some z → Q0 (.bl (true != z.isSome)) S → wpAny (model X.prog X.w) X.A (compareOp .NotIn v u) (EP X pins σ Q) X.xe s := fun p z eb eg q0 => by
    subst eb
    cases rb
    obtain ⟨o', g, r⟩ := getD_rep hs ra eg
    obtain rfl : u = Value.ref p := ry
    refine d_notIn hu I g rx fun s3 I3 => ⟨.bl (!o'.isSome), H, I3, rfl, ?_⟩
    rw [r.some]
    rw [Bool.true_bne] at q0
    exact im _ _ q0 H _ (Ext.refl H) hs (.bl _)
  cases b with
  | ref p =>
    unfold rInM at q
    cases eS : S p with
    | none => simp only [eS] at q; exact go q
    | some u =>
      cases u with
      | lst ts => simp only [eS] at q; exact go q
      | ins C fs => simp only [eS] at q; exact go q
      | dct kvs =>
        simp only [eS] at q
        obtain ⟨k, ek, q⟩ := q
        exact gd p _ rfl (by unfold getD; rw [eS, ek]; rfl) q
      | dtt kvs =>
        simp only [eS] at q
        obtain ⟨k, ek, q⟩ := q
        exact gd p _ rfl (by unfold getD; rw [eS, ek]; rfl) q
  | non => exact go q
  | bl _ => exact go q
  | int _ => exact go q
  | str _ => exact go q
  | tup _ => exact go q
  | fl _ => exact go q
  | pt _ => exact go q
/-- is x in y -/
def inA (S : Sta) (x y : T) : Option Bool := match y with
  | .ref p => match S p with
    | some (.lst ts) => if flatT x && ts.all flatT then some (inF x ts) else none
    | some (.dct kvs) => (keyT x).map fun k => (valT kvs k).isSome
    | some (.dtt kvs) => (keysT x).map fun k => (valT kvs k).isSome
    | _ => none
  | .tup ts => if flatT x && ts.all flatT then some (inF x ts) else none
  | .fl ts => if flatT x && ts.all flatT then some (inF x ts) else none
  | _ => none
def rInA (neg : Bool) (x : T) (y : T) (S : Sta) (Q : T → Sta → Prop) : Prop := ∃ b, inA S x y = some b ∧ Q (.bl (neg != b)) S
theorem rInA_M {neg : Bool} {x y : T} {S : Sta} {Q : T → Sta → Prop} (h : rInA neg x y S Q) : rInM neg x y S Q := by
  obtain ⟨b, e, q⟩ := h
  have seq : ∀ ts : List T, itemsT S y = some ts → (if flatT x && ts.all flatT then some (inF x ts) else none) = some b → Wp.rIn neg x y S Q := fun ts ei e => by
    split at e
    · rename_i h
      rw [Bool.and_eq_true] at h
      cases e
      exact ⟨ts, ei, h.1, h.2, q⟩
    · cases e
  unfold inA at e
  cases y with
  | ref p =>
    unfold rInM
    simp only at e ⊢
    cases eS : S p with
    | none => rw [eS] at e; cases e
    | some u =>
      rw [eS] at e
      cases u with
      | lst ts => exact seq ts (itemsT_ref' eS) e
      | ins C fs => cases e
      | dct kvs =>
        simp only [Option.map_eq_some_iff] at e
        obtain ⟨k, ek, rfl⟩ := e
        exact ⟨k, ek, q⟩
      | dtt kvs =>
        simp only [Option.map_eq_some_iff] at e
        obtain ⟨k, ek, rfl⟩ := e
        exact ⟨k, ek, q⟩
  | tup ts => exact seq ts rfl e
  | fl ts => exact seq ts rfl e
  | _ => cases e
theorem o_inA (hu : X.A.units + 1 < cLine) : OpT X (compareOp .In) (rInA false) := fun pins s σ H x y v u Q I rx ry q => o_inM hu pins s σ H x y v u Q I rx ry (L3_mono (fun _ _ _ _ => rInA_M) q)
theorem o_notInA (hu : X.A.units + 1 < cLine) : OpT X (compareOp .NotIn) (rInA true) := fun pins s σ H x y v u Q I rx ry q => o_notInM hu pins s σ H x y v u Q I rx ry (L3_mono (fun _ _ _ _ => rInA_M) q)
/-- o[i] = v -/
def rSetM : T → T → T → Sta → (Sta → Prop) → Prop := fun o i v S Q => match o with
  | .ref p => match S p with
    | some (.dct kvs) => ∃ k, keyT i = some k ∧ kvs.length < sizeLine ∧ Q (upS S p (.dct (putT kvs k v)))
    | some (.dtt kvs) => ∃ k, keysT i = some k ∧ kvs.length < sizeLine ∧ Q (upS S p (.dtt (putT kvs k v)))
    | _ => rSet (.ref p) i v S Q
  | _ => False
theorem set_M (hu : X.A.units + 1 < cLine) : PSet X (L3t X.K rSetM) := by
  intro pins s σ H o i v ov iv u Q I ro ri rv ⟨a, b, c, S, Q0, ra, rb, rc, hs, q, im⟩
  cases a with
  | ref p =>
    have go : rSet (.ref p) b c S Q0 → _ := fun q => set_T pins s σ H o i v ov iv u Q I ro ri rv ⟨.ref p, b, c, S, Q0, ra, rb, rc, hs, q, im⟩
    have gd : ∀ z, putD S p b c = some z → Q0 (upS S p z) → wpAny (model X.prog X.w) X.A (setItem ov iv u) (fun _ s' => ∃ H', Inv X pins σ H' s' ∧ Q H') X.xe s := fun z eg q0 => by
      cases ra
      obtain ⟨H', g, e, s3⟩ := putD_rep hs rb rc eg
      obtain rfl : ov = Value.ref p := ro
      exact d_setItem hu I g ri rv fun s4 I4 => ⟨H', I4, im _ q0 H' e s3⟩
    unfold rSetM at q
    cases eS : S p with
    | none => simp only [eS] at q; exact go q
    | some u =>
      cases u with
      | lst ts => simp only [eS] at q; exact go q
      | ins C fs => simp only [eS] at q; exact go q
      | dct kvs =>
        simp only [eS] at q
        obtain ⟨k, ek, hl, q⟩ := q
        exact gd _ (by unfold putD; simp only [eS, ek, if_pos hl]; rfl) q
      | dtt kvs =>
        simp only [eS] at q
        obtain ⟨k, ek, hl, q⟩ := q
        exact gd _ (by unfold putD; simp only [eS, ek, if_pos hl]; rfl) q
  | _ => exact q.elim
/-- the thing at o behind o[i] = v -/
def setA (S : Sta) (p : Addr) (i v : T) : Option O := match S p with
  | some (.lst ts) => match i with
    | .int k => (ixN ts.length k).map fun j => .lst (ts.set j v)
    | _ => none
  | some (.dct kvs) => if kvs.length < sizeLine then (keyT i).map fun k => .dct (putT kvs k v) else none
  | some (.dtt kvs) => if kvs.length < sizeLine then (keysT i).map fun k => .dtt (putT kvs k v) else none
  | _ => none
def rSetA : T → T → T → Sta → (Sta → Prop) → Prop := fun o i v S Q => match o with
  | .ref p => ∃ u, setA S p i v = some u ∧ Q (upS S p u)
  | _ => False
theorem rSetA_M {o i v : T} {S : Sta} {Q : Sta → Prop} (h : rSetA o i v S Q) : rSetM o i v S Q := by
  unfold rSetA at h
  cases o with
  | ref p =>
    obtain ⟨u, e, q⟩ := h
    unfold setA at e
    unfold rSetM
    simp only
    cases eS : S p with
    | none => rw [eS] at e; cases e
    | some w =>
      rw [eS] at e
      cases w with
      | lst ts =>
        cases i with
        | int k =>
          simp only [Option.map_eq_some_iff] at e
          obtain ⟨j, ej, rfl⟩ := e
          exact ⟨ts, eS, j, ej, q⟩
        | _ => cases e
      | ins C fs => cases e
      | dct kvs =>
        simp only at e
        split at e
        · rename_i hl
          simp only [Option.map_eq_some_iff] at e
          obtain ⟨k, ek, rfl⟩ := e
          exact ⟨k, ek, hl, q⟩
        · cases e
      | dtt kvs =>
        simp only at e
        split at e
        · rename_i hl
          simp only [Option.map_eq_some_iff] at e
          obtain ⟨k, ek, rfl⟩ := e
          exact ⟨k, ek, hl, q⟩
        · cases e
  | _ => exact h.elim
theorem set_A (hu : X.A.units + 1 < cLine) : PSet X (L3t X.K rSetA) := fun pins s σ H o i v ov iv u Q I ro ri rv ⟨a, b, c, S, Q0, ra, rb, rc, hs, q, im⟩ => set_M hu pins s σ H o i v ov iv u Q I ro ri rv ⟨a, b, c, S, Q0, ra, rb, rc, hs, rSetA_M q, im⟩
def gIxA (to ti : WE) (v : T) (σ : Sl) (S : Sta) (Q : Sl → Sta → Prop) : Prop := to σ S fun o S1 => ti σ S1 fun i S2 => rSetA o i v S2 fun S3 => Q σ S3
theorem jg_ixA {ti : WE} (hu : X.A.units + 1 < cLine) (ho : JE B X o to) (hi : JE B X i ti)
    (ha : ∀ v, assign (.Subscript o i pos) X.env v = (do
      let ov ← holding [v] (eval o X.env)
      let iv ← holding [v, ov] (eval i X.env)
      standAt pos
      holding [v, ov, iv] (setItem ov iv v)
      release [v, ov, iv] []) := by intro _; rfl) : JG2 B X (.Subscript o i pos) (gIxA to ti) := pg_imp (pg_sub ho hi (set_A hu) ha) fun v σ H Q ⟨t, st, S, Q0, he, rv, hr, hs, h, im⟩ => by
  refine ⟨st, S, _, he, hr, hs, h, fun x S1 h1 H1 v1 e1 s1 r1 => ?_⟩
  refine ⟨st, S1, _, he.trans e1, hr.mono e1, s1, h1, fun y S2 h2 H2 v2 e2 s2 r2 => ?_⟩
  exact ⟨x, y, t, S2, _, Rep.mono e2 _ _ r1, r2, Rep.mono (e1.trans e2) _ _ rv, s2, h2, fun S3 q H3 e3 s3 => im _ _ q H3 σ (e1.trans (e2.trans e3)) s3 (hr.mono (e1.trans (e2.trans e3)))⟩
/-- {} -/
def wDNew (u0 : Sl) (S : Sta) (Q : T → Sta → Prop) : Prop := ∀ p, S p = none → Q (.ref p) (upS S p (.dct []))
def wDNewT (u0 : Sl) (S : Sta) (Q : T → Sta → Prop) : Prop := ∀ p, S p = none → Q (.ref p) (upS S p (.dtt []))
theorem j_dnew : JE B X (.Dict [] [] pos) wDNew := pe_imp pe_dnewK fun σ H Q ⟨st, S, Q0, he, hr, hs, h, im⟩ => fun p hp => by
  obtain ⟨e1, s1⟩ := hs.newO (u' := .dK []) (o' := .dct []) hp fun ex => ⟨[], upd_same, .nil⟩
  exact im _ _ (h p (hs.free hp)) _ _ e1 s1 (.ref p)
theorem j_dnewT : JE B X (.Dict [] [] pos) wDNewT := pe_imp pe_dnewT fun σ H Q ⟨st, S, Q0, he, hr, hs, h, im⟩ => fun p hp => by
  obtain ⟨e1, s1⟩ := hs.newO (u' := .dT []) (o' := .dtt []) hp fun ex => ⟨[], upd_same, .nil⟩
  exact im _ _ (h p (hs.free hp)) _ _ e1 s1 (.ref p)
/-- d.get(y), d.get(y, x) -/
def rGet1 (p : Addr) (y : T) (S : Sta) (Q : T → Sta → Prop) : Prop := ∃ o, Wp.getD S p y = some o ∧ Q (o.getD .non) S
def rGet2 (p : Addr) (y z : T) (S : Sta) (Q : T → Sta → Prop) : Prop := ∃ o, Wp.getD S p y = some o ∧ Q (o.getD z) S
theorem RepO.getD {K : PySem.W.Frag} {H : Hp} {o : Option T} {o' : Option V} {t : T} {v : V} (r : RepO K H o o') (rt : Rep K H t v) : Rep K H (o.getD t) (o'.getD v) := by
  cases o <;> cases o' <;> first | exact rt | exact r | exact r.elim
def wGet1 (to te : WE) (σ : Sl) (S : Sta) (Q : T → Sta → Prop) : Prop := to σ S fun x S1 => match x with
  | .ref p => isDT S1 p ∧ te σ S1 fun y S2 => rGet1 p y S2 Q
  | _ => False
def wGet2 (to te tz : WE) (σ : Sl) (S : Sta) (Q : T → Sta → Prop) : Prop := to σ S fun x S1 => match x with
  | .ref p => isDT S1 p ∧ te σ S1 fun y S2 => tz σ S2 fun z S3 => rGet2 p y z S3 Q
  | _ => False
theorem j_get1 (hu : X.A.units + 1 < cLine) (ho : JE B X o to) (he : JE B X e te) (m : M1 X o "get" apos e cpos := by exact ⟨rfl, rfl, rfl, rfl⟩) : JE B X (.Call (.Attribute o "get" apos) [e] [] cpos) (wGet1 to te) :=
  pe_imp (pe_dget1 hu ho he m) fun σ H Q ⟨st, S, Q0, he, hr, hs, h, im⟩ => by
    refine ⟨st, S, _, he, hr, hs, h, fun x S1 h1 H1 v e1 s1 r1 => ?_⟩
    cases x with
    | ref p =>
      obtain ⟨hd, h1⟩ := h1
      cases r1
      refine ⟨p, rfl, isDT_rep s1 hd, st, S1, _, he.trans e1, hr.mono e1, s1, h1, fun y S2 h2 H2 w e2 s2 r2 => ?_⟩
      obtain ⟨o, eo, q⟩ := h2
      obtain ⟨o', g, r⟩ := getD_rep s2 r2 eo
      exact ⟨o', g, im _ _ q H2 _ (e1.trans e2) s2 (r.getD .non)⟩
    | _ => exact h1.elim
theorem j_get2 {f : Expr} {tf : WE} (hu : X.A.units + 1 < cLine) (ho : JE B X o to) (he : JE B X e te) (hf : JE B X f tf) (m : M2 X o "get" apos e f cpos := by exact ⟨rfl, rfl, rfl, rfl⟩) : JE B X (.Call (.Attribute o "get" apos) [e, f] [] cpos) (wGet2 to te tf) :=
  pe_imp (pe_dget2 hu ho he hf m) fun σ H Q ⟨st, S, Q0, he, hr, hs, h, im⟩ => by
    refine ⟨st, S, _, he, hr, hs, h, fun x S1 h1 H1 v e1 s1 r1 => ?_⟩
    cases x with
    | ref p =>
      obtain ⟨hd, h1⟩ := h1
      cases r1
      refine ⟨p, rfl, isDT_rep s1 hd, st, S1, _, he.trans e1, hr.mono e1, s1, h1, fun y S2 h2 H2 w e2 s2 r2 => ?_⟩
      refine ⟨st, S2, _, he.trans (e1.trans e2), hr.mono (e1.trans e2), s2, h2, fun z S3 h3 H3 w3 e3 s3 r3 => ?_⟩
      obtain ⟨o, eo, q⟩ := h3
      obtain ⟨o', g, r⟩ := getD_rep s3 (Rep.mono e3 _ _ r2) eo
      exact ⟨o', g, im _ _ q H3 _ (e1.trans (e2.trans e3)) s3 (r.getD r3)⟩
    | _ => exact h1.elim
/-- d.pop(k), there; d.pop(k, x): keys that are ints and texts -/
def wPop1 (to te : WE) (σ : Sl) (S : Sta) (Q : T → Sta → Prop) : Prop := to σ S fun x S1 => match x with
  | .ref p => isDT S1 p ∧ te σ S1 fun y S2 => match S2 p with
    | some (.dct kvs) => ∃ k, keyT y = some k ∧ ∃ v, valT kvs k = some v ∧ Q v (upS S2 p (.dct (dropT kvs k)))
    | _ => False
  | _ => False
def wPop2 (to te tz : WE) (σ : Sl) (S : Sta) (Q : T → Sta → Prop) : Prop := to σ S fun x S1 => match x with
  | .ref p => isDT S1 p ∧ te σ S1 fun y S2 => tz σ S2 fun z S3 => match S3 p with
    | some (.dct kvs) => ∃ k, keyT y = some k ∧ match valT kvs k with
      | some v => Q v (upS S3 p (.dct (dropT kvs k)))
      | none => Q z S3
    | _ => False
  | _ => False
theorem dropW {K : PySem.W.Frag} {S : Sta} {H : Hp} {p : Addr} {kvs : List (Key × T)} {vs : List (Key × V)} (hs : St K S H) (h1 : H p = some (.dK vs)) (h2 : KRep K H kvs vs) (k : Key) :
    Ext H (upd H p (.dK (dropK vs k))) ∧ St K (upS S p (.dct (dropT kvs k))) (upd H p (.dK (dropK vs k))) := hs.setO h1 trivial fun ex => ⟨_, upd_same, (h2.drop k).mono ex⟩
theorem j_pop1 (ho : JE B X o to) (he : JE B X e te) (m : M1 X o "pop" apos e cpos := by exact ⟨rfl, rfl, rfl, rfl⟩) : JE B X (.Call (.Attribute o "pop" apos) [e] [] cpos) (wPop1 to te) :=
  pe_imp (pe_dpop1 ho he m) fun σ H Q ⟨st, S, Q0, he, hr, hs, h, im⟩ => by
    refine ⟨st, S, _, he, hr, hs, h, fun x S1 h1 H1 v e1 s1 r1 => ?_⟩
    cases x with
    | ref p =>
      obtain ⟨hd, h1⟩ := h1
      cases r1
      refine ⟨p, rfl, isDT_rep s1 hd, st, S1, _, he.trans e1, hr.mono e1, s1, h1, fun y S2 h2 H2 w e2 s2 r2 => ?_⟩
      cases eS : S2 p with
      | none => simp only [eS] at h2
      | some u =>
        cases u with
        | lst ts => simp only [eS] at h2
        | ins C fs => simp only [eS] at h2
        | dtt kvs => simp only [eS] at h2
        | dct kvs =>
          simp only [eS] at h2
          obtain ⟨k, ek, z, ez, q⟩ := h2
          obtain ⟨vs, g1, g2⟩ := s2 p _ eS
          have rv := g2.val k
          rw [ez] at rv
          cases ev : valV vs k with
          | none => rw [ev] at rv; exact rv.elim
          | some w3 =>
            rw [ev] at rv
            obtain ⟨e3, s3⟩ := dropW s2 g1 g2 k
            exact ⟨vs, k, w3, g1, keyT_rep r2 ek, ev, im _ _ q _ w3 (e1.trans (e2.trans e3)) s3 (Rep.mono e3 _ _ rv)⟩
    | _ => exact h1.elim
theorem j_pop2 {f : Expr} {tf : WE} (ho : JE B X o to) (he : JE B X e te) (hf : JE B X f tf) (m : M2 X o "pop" apos e f cpos := by exact ⟨rfl, rfl, rfl, rfl⟩) : JE B X (.Call (.Attribute o "pop" apos) [e, f] [] cpos) (wPop2 to te tf) :=
  pe_imp (pe_dpop2 ho he hf m) fun σ H Q ⟨st, S, Q0, he, hr, hs, h, im⟩ => by
    refine ⟨st, S, _, he, hr, hs, h, fun x S1 h1 H1 v e1 s1 r1 => ?_⟩
    cases x with
    | ref p =>
      obtain ⟨hd, h1⟩ := h1
      cases r1
      refine ⟨p, rfl, isDT_rep s1 hd, st, S1, _, he.trans e1, hr.mono e1, s1, h1, fun y S2 h2 H2 w e2 s2 r2 => ?_⟩
      refine ⟨st, S2, _, he.trans (e1.trans e2), hr.mono (e1.trans e2), s2, h2, fun z S3 h3 H3 w3 e3 s3 r3 => ?_⟩
      cases eS : S3 p with
      | none => simp only [eS] at h3
      | some u =>
        cases u with
        | lst ts => simp only [eS] at h3
        | ins C fs => simp only [eS] at h3
        | dtt kvs => simp only [eS] at h3
        | dct kvs =>
          simp only [eS] at h3
          obtain ⟨k, ek, q⟩ := h3
          obtain ⟨vs, g1, g2⟩ := s3 p _ eS
          have rv := g2.val k
          refine ⟨vs, k, g1, keyT_rep (Rep.mono e3 _ _ r2) ek, fun v3 ev => ?_, fun ev => ?_⟩
          · rw [ev] at rv
            cases ez : valT kvs k with
            | none => rw [ez] at rv; exact rv.elim
            | some t3 =>
              rw [ez] at rv
              simp only [ez] at q
              obtain ⟨e4, s4⟩ := dropW s3 g1 g2 k
              exact im _ _ q _ v3 (e1.trans (e2.trans (e3.trans e4))) s4 (Rep.mono e4 _ _ rv)
          · rw [ev] at rv
            cases ez : valT kvs k with
            | some t3 => rw [ez] at rv; exact rv.elim
            | none =>
              simp only [ez] at q
              exact im _ _ q _ w3 (e1.trans (e2.trans e3)) s3 r3
    | _ => exact h1.elim
/-- del d[k] -/
def wDel (to ti : WE) (D : WEnds) (σ : Sl) (S : Sta) : Prop := to σ S fun x S1 => ti σ S1 fun y S2 => match x with
  | .ref p => match S2 p with
    | some (.dct kvs) => ∃ k, keyT y = some k ∧ (valT kvs k).isSome = true ∧ goS D.nx σ (upS S2 p (.dct (dropT kvs k)))
    | _ => False
  | _ => False
theorem js_del {ti : WE} (ho : JE B X o to) (hi : JE B X i ti) : JS B X (.Delete [.Subscript o i tpos] pos) (wDel to ti) := ps_imp (ps_ddel ho hi) fun D σ H ⟨st, S, D0, he, hr, hs, h, im⟩ => by
  refine ⟨st, S, _, he, hr, hs, h, fun x S1 h1 H1 v1 e1 s1 r1 => ?_⟩
  refine ⟨st, S1, _, he.trans e1, hr.mono e1, s1, h1, fun y S2 h2 H2 v2 e2 s2 r2 => ?_⟩
  cases x with
  | ref p =>
    cases r1
    simp only at h2
    cases eS : S2 p with
    | none => simp only [eS] at h2
    | some u =>
      cases u with
      | lst ts => simp only [eS] at h2
      | ins C fs => simp only [eS] at h2
      | dtt kvs => simp only [eS] at h2
      | dct kvs =>
        simp only [eS] at h2
        obtain ⟨k, ek, hk, q⟩ := h2
        obtain ⟨vs, g1, g2⟩ := s2 p _ eS
        obtain ⟨e3, s3⟩ := dropW s2 g1 g2 k
        have rv := g2.val k
        refine ⟨p, vs, k, rfl, g1, keyT_rep r2 ek, by rw [rv.some]; exact hk, ?_⟩
        exact im.nx _ _ q _ σ (e1.trans (e2.trans e3)) s3 (hr.mono (e1.trans (e2.trans e3)))
  | _ => exact h2.elim
/-- sorted(d), keys that are ints, below 64 -/
def rSortD (xs : List T) (S : Sta) (Q : T → Sta → Prop) : Prop := match xs with
  | [.ref p] => ∃ (kvs : List (Key × T)) (ks : List Int), S p = some (.dct kvs) ∧ kvs.map (·.1) = ks.map Sum.inl ∧ ks.length < 64 ∧ ∀ (ys : List Int) (q : Addr), ys.Perm ks → ys.Pairwise (· ≤ ·) → S q = none → Q (.ref q) (upS S q (.lst (ys.map T.int)))
  | _ => False
theorem c_sortD (hc : X.calm = true) : CallR X (.builtin "sorted") (LC X.K rSortD) := by
  intro pins s σ H xs us Q I rx ⟨ts, S, Q0, r, hs, q, im⟩
  match ts, q with
  | [.ref p], ⟨kvs, ks, e, ek, hl, q⟩ =>
    obtain ⟨v, rfl, r1⟩ := r.one
    cases r1
    obtain ⟨vs, g1, g2⟩ := hs p _ e
    refine call_sortedDI hc pins s σ H _ us Q I rx ⟨p, vs, ks, rfl, .inl g1, by rw [← g2.keys]; exact ek, hl, fun ys l h1 h2 h3 => ?_⟩
    obtain ⟨e3, s3⟩ := hs.newL h3 (Reps.ints (K := X.K) ys)
    exact im _ _ (q ys l h1 h2 (hs.free h3)) _ _ e3 s3 (.ref l)
/-- max(xs), a list of ints -/
def rMaxL (xs : List T) (S : Sta) (Q : T → Sta → Prop) : Prop := match xs with
  | [.ref p] => ∃ ns : List Int, S p = some (.lst (ns.map T.int)) ∧ 0 < ns.length ∧ ∀ m, m ∈ ns → (∀ y, y ∈ ns → y ≤ m) → Q (.int m) S
  | _ => False
theorem c_maxL (hc : X.calm = true) : CallR X (.builtin "max") (LC X.K rMaxL) := by
  intro pins s σ H xs us Q I rx ⟨ts, S, Q0, r, hs, q, im⟩
  match ts, q with
  | [.ref p], ⟨ns, e, hl, q⟩ =>
    obtain ⟨v, rfl, r1⟩ := r.one
    cases r1
    obtain ⟨ys, g1, g2⟩ := hs p _ e
    have ey := g2.intsV
    subst ey
    exact cr_max hc pins s σ H _ us Q I rx ⟨p, ns, rfl, .inl (.inl g1), hl, fun m h1 h2 => im _ _ (q m h1 h2) _ _ (Ext.refl H) hs (.int _)⟩
/-- xs.pop(i) -/
def rPopL (x : T) (ts : List T) (S : Sta) (Q : T → Sta → Prop) : Prop := match x, ts with
  | .ref p, [.int i] => ∃ xs, S p = some (.lst xs) ∧ 0 ≤ i ∧ i < 2 ^ 62 ∧ ∃ y, xs[i.toNat]? = some y ∧ Q y (upS S p (.lst (xs.eraseIdx i.toNat)))
  | _, _ => False
theorem Reps.eraseIdx {K : PySem.W.Frag} {H : Hp} : ∀ {ts : List T} {vs : List V} (i : Nat), Reps K H ts vs → Reps K H (ts.eraseIdx i) (vs.eraseIdx i)
  | [], _, _, h => by cases h; exact .nil
  | t :: ts, _, 0, h => by
    cases h with
    | cons h1 h2 => exact h2
  | t :: ts, _, i + 1, h => by
    cases h with
    | cons h1 h2 => exact .cons h1 (Reps.eraseIdx i h2)
theorem m_popL : MtR X "list.pop" (LM X.K rPopL) := by
  intro pins s σ H x xs v us Q I rx rxs ⟨t, ts, S, Q0, rt, rts, hs, q, im⟩
  match t, ts, q with
  | .ref p, [.int i], ⟨zs, e, h0, h1, y, ey, q⟩ =>
    cases rt
    obtain ⟨w, rfl, rw'⟩ := rts.one
    cases rw'
    obtain ⟨ys, g1, g2⟩ := hs p _ e
    obtain ⟨z, g3, g4⟩ := g2.get ey
    obtain ⟨e2, s2⟩ := hs.setL g1 (g2.eraseIdx i.toNat)
    have hl : i.toNat < ys.length := (List.getElem?_eq_some_iff.mp g3).1
    exact mt_popAt pins s σ H _ _ v us Q I rx rxs ⟨p, ys, i, i.toNat, z, rfl, rfl, g1, by omega, by omega, seqIndex_of h0 (by omega), g3, im _ _ q _ _ e2 s2 (Rep.mono e2 _ _ g4)⟩
/-- len(d) -/
def rLenM (xs : List T) (S : Sta) (Q : T → Sta → Prop) : Prop := match xs with
  | [.ref p] => match S p with
    | some (.dct kvs) => Q (.int kvs.length) S
    | _ => rLen [.ref p] S Q
  | xs => rLen xs S Q
theorem c_lenM : CallR X (.builtin "len") (LC X.K rLenM) := by
  intro pins s σ H xs us Q I rx ⟨ts, S, Q0, r, hs, q, im⟩
  have go : rLen ts S Q0 → _ := fun q => c_len pins s σ H xs us Q I rx ⟨ts, S, Q0, r, hs, q, im⟩
  match ts, q with
  | [.ref p], q =>
    unfold rLenM at q
    cases eS : S p with
    | none => simp only [eS] at q; exact go q
    | some u =>
      cases u with
      | lst ts => simp only [eS] at q; exact go q
      | ins C fs => simp only [eS] at q; exact go q
      | dtt kvs => simp only [eS] at q; exact go q
      | dct kvs =>
        simp only [eS] at q
        obtain ⟨v, rfl, r1⟩ := r.one
        cases r1
        obtain ⟨vs, g1, g2⟩ := hs p _ eS
        refine call_lenD pins s σ H _ us Q I rx ?_
        first
          | exact ⟨p, vs, rfl, g1, by rw [← g2.length]; exact im _ _ q H _ (Ext.refl H) hs (.int _)⟩
          | exact ⟨p, vs, rfl, .inl g1, by rw [← g2.length]; exact im _ _ q H _ (Ext.refl H) hs (.int _)⟩
  | [], q => exact go q
  | [.non], q => exact go q
  | [.bl _], q => exact go q
  | [.int _], q => exact go q
  | [.str _], q => exact go q
  | [.tup _], q => exact go q
  | [.fl _], q => exact go q
  | [.pt _], q => exact go q
  | a :: b :: c, q => exact go (by cases a <;> exact q)
def lenA (S : Sta) (x : T) : Option Int := match x with
  | .ref p => match S p with
    | some (.lst ts) => some ts.length
    | some (.dct kvs) => some kvs.length
    | _ => none
  | .tup ts => some ts.length
  | .fl ts => some ts.length
  | .str z => if z.length ≤ sizeLine then some z.length else none
  | _ => none
def rLenA (xs : List T) (S : Sta) (Q : T → Sta → Prop) : Prop := match xs with
  | [x] => ∃ n, lenA S x = some n ∧ Q (.int n) S
  | _ => False
theorem rLenA_M {xs : List T} {S : Sta} {Q : T → Sta → Prop} (h : rLenA xs S Q) : rLenM xs S Q := by
  match xs, h with
  | [x], ⟨n, e, q⟩ =>
    unfold lenA at e
    cases x with
    | ref p =>
      unfold rLenM
      simp only at e ⊢
      cases eS : S p with
      | none => rw [eS] at e; cases e
      | some w =>
        rw [eS] at e
        cases w with
        | lst ts => cases e; exact ⟨ts, itemsT_ref' eS, q⟩
        | ins C fs => cases e
        | dct kvs => cases e; exact q
        | dtt kvs => cases e
    | tup ts => cases e; exact ⟨ts, rfl, q⟩
    | fl ts => cases e; exact ⟨ts, rfl, q⟩
    | str z =>
      simp only at e
      split at e
      · rename_i hl; cases e; exact ⟨hl, q⟩
      · cases e
    | _ => cases e
theorem c_lenA : CallR X (.builtin "len") (LC X.K rLenA) := fun pins s σ H xs us Q I rx ⟨ts, S, Q0, r, hs, q, im⟩ => c_lenM pins s σ H xs us Q I rx ⟨ts, S, Q0, r, hs, rLenA_M q, im⟩
end
end Wp

set_option Elab.async false
set_option linter.all false
set_option maxRecDepth 100000
/-! the bags again, over the readings that know dicts -/
namespace Wp
open PySem PySem.Spec PyProof.Rows L2
theorem nodup_filter {α : Type} [DecidableEq α] (k : α) : ∀ ks : List α, ks.Nodup → ks.length ≤ (ks.filter fun x => decide (x ≠ k)).length + 1
  | [], _ => Nat.zero_le _
  | x :: ks, h => by
    obtain ⟨h1, h2⟩ := List.nodup_cons.mp h
    rw [List.filter_cons]
    by_cases e : x = k
    · subst e
      have e2 : ks.filter (fun y => decide (y ≠ x)) = ks := List.filter_eq_self.mpr fun y hy => decide_eq_true fun (e : y = x) => h1 (by rw [← e]; exact hy)
      rw [if_neg (by simp), e2]
      exact Nat.le_refl _
    · rw [if_pos (by simpa using e), List.length_cons, List.length_cons]
      have := nodup_filter k ks h2
      omega
/-- distinct keys of a range -/
theorem nodup_keys : ∀ (n : Nat) (ks : List Key), ks.Nodup → (∀ k ∈ ks, ∃ b : Int, k = .inl b ∧ 0 ≤ b ∧ b < (n : Int)) → ks.length ≤ n
  | 0, ks, _, h => by
    cases ks with
    | nil => exact Nat.le_refl _
    | cons k ks => obtain ⟨b, _, h0, h1⟩ := h k List.mem_cons_self; omega
  | n + 1, ks, hn, h => by
    refine Nat.le_trans (nodup_filter (Sum.inl (n : Int) : Key) ks hn) (Nat.succ_le_succ (nodup_keys n _ (hn.filter _) fun k hk => ?_))
    rw [List.mem_filter, decide_eq_true_eq] at hk
    obtain ⟨b, rfl, h0, h1⟩ := h k hk.1
    refine ⟨b, rfl, h0, ?_⟩
    have : b ≠ (n : Int) := fun e => hk.2 (by rw [e])
    omega
theorem ex_ins {C : Addr} {a : List (Str × T)} {P : List (Str × T) → Prop} : (∃ v, some (O.ins C a) = some (O.ins C v) ∧ P v) = P a := by
  apply propext
  constructor
  · rintro ⟨v, e, h⟩; cases e; exact h
  · intro h; exact ⟨a, rfl, h⟩
theorem ex_dct {a : List (Key × T)} {P : List (Key × T) → Prop} : (∃ v, some (O.dct a) = some (O.dct v) ∧ P v) = P a := by
  apply propext
  constructor
  · rintro ⟨v, e, h⟩; cases e; exact h
  · intro h; exact ⟨a, rfl, h⟩
local macro_rules | `(tactic| walk_at "go") => `(tactic| (with_reducible refine goS_i ?_))
local macro_rules | `(tactic| walk_at "wp") => `(tactic| simp (disch := omega) only [Wp.wSeq, Wp.wNext, Wp.wSet, Wp.wVar, Wp.wC, Wp.wOp, Wp.wRet, Wp.wIfS, Wp.wTest, Wp.wCall, Wp.wCons, Wp.wNil, Wp.wTup, Wp.wLst, Wp.wAsg, Wp.gTp, Wp.gC, Wp.gNm, Wp.gN0, Wp.gIx, Wp.rSet, Wp.rAdd, Wp.rMul, Wp.rMod, Wp.rSub, Wp.rFdiv, Wp.rPow, Wp.rInt, Wp.rIx, Wp.rLt, Wp.rLe, Wp.rCmp, Wp.rGeI, Wp.rGtI, Wp.wCB, Wp.rLen, Wp.rLen1, Wp.rInt1, Wp.rMax2, Wp.rMin2, Wp.rTupOf, Wp.rListOf,
  Wp.wIsi, Wp.rBIs, Wp.rIsN, Wp.isNon, Wp.wMt, Wp.rAppendT, Wp.rExtendT, Wp.rReverseT, Wp.wNot, Wp.wOr, Wp.wAnd, Wp.wAndV, Wp.wOrV, Wp.wNotV, Wp.wFor, Wp.iRg1, Wp.iRg2, Wp.iAnyW, Wp.wAll, Wp.wChain, Wp.wSl, Wp.wNoPart, Wp.wPart, Wp.rSl, Wp.wNeg, Wp.rNeg, Wp.wLc, Wp.wYes, Wp.wDrop, Wp.wipeT, Wp.wAug, List.map, List.set_cons_zero, List.set_cons_succ, List.getElem?_cons_zero, List.getElem?_cons_succ, List.length_cons, List.length_nil, List.cons_append, List.nil_append, List.replicate, Wp.startT,
  true_and, and_true, Wp.wif_true, Wp.wif_false, Wp.ex_some, Wp.ex_some1, Wp.ex_eq, Wp.ex_lst, Wp.ex_lst0, Wp.rEq_int, Bool.false_bne, Bool.true_bne, Int.reduceLT, Int.reduceLE, Int.reduceAdd, Nat.reduceAdd, Nat.reduceSub, eq_self, ite_true, ite_false, beq_self_eq_true, Bool.not_true, Bool.not_false, Wp.isB_0, Wp.isB_1, Wp.isB_2, Wp.isB_3, Wp.isB_4, Wp.isB_5, Wp.isB_6, Wp.isB_7, Wp.isB_8, Wp.isB_9, Wp.isB_10, Wp.isB_11, Wp.isB_12, Wp.isB_13, Wp.isB_14, Wp.isB_15, Wp.isB_16, Wp.isB_17, Wp.isB_18, Wp.isB_19, Wp.isB_20, Wp.isB_21, Wp.isB_22, Wp.isB_23, Wp.isB_24, Wp.isB_25, Wp.isB_26, Wp.isB_27, Wp.isB_28, Wp.isB_29, Wp.isB_30, Wp.isB_31, Wp.isB_32, Wp.isB_33, Wp.isB_34, Wp.isB_35, Wp.cmul_l, Wp.cmul_r, Wp.cpow_lit, Wp.size_le, Wp.size_lt, Wp.atI_0, Wp.atI_1, Wp.atI_2, Wp.atI_3, Wp.atI_4, Wp.atI_5, Wp.atI_6, Wp.ixN_0, Wp.ixN_1, Wp.ixN_2, Wp.itemsT, Wp.tyT, reduceIte, Wp.wFld, Wp.wFSet, Wp.wFAug, Wp.wMeth, Wp.wMake, Wp.rIxA, Wp.rInA, Wp.rSetA, Wp.ixA, Wp.inA, Wp.setA, Wp.lenA, Wp.getD, Option.map_some, Option.bind_some, Option.getD_some,  Wp.gIxA, Wp.wDNew, Wp.wDNewT, Wp.rLenA, Wp.rSortD, Wp.rMaxL, Wp.rPopL, Wp.rGet1, Wp.rGet2, Wp.wGet1, Wp.wGet2, Wp.wPop1, Wp.wPop2, Wp.wDel, Wp.isDT, Wp.keyT, Wp.keysT, Wp.keysL, Wp.ex_ins, Wp.ex_dct, Wp.upS, Wp.upS_upS, *])
local macro_rules | `(tactic| walk_at "run") => `(tactic| repeat (first | walk_at "wp" | walk_at "go"))
local macro_rules | `(tactic| walk_at "wq") => `(tactic| simp (disch := omega) only [Wp.wSeq, Wp.wNext, Wp.wSet, Wp.wVar, Wp.wC, Wp.wOp, Wp.wRet, Wp.wIfS, Wp.wTest, Wp.wCall, Wp.wCons, Wp.wNil, Wp.wTup, Wp.wLst, Wp.wAsg, Wp.gTp, Wp.gC, Wp.gNm, Wp.gN0, Wp.gIx, Wp.rSet, Wp.rAdd, Wp.rMul, Wp.rMod, Wp.rSub, Wp.rFdiv, Wp.rPow, Wp.rInt, Wp.rIx, Wp.rLt, Wp.rLe, Wp.rCmp, Wp.rGeI, Wp.rGtI, Wp.wCB, Wp.rLen, Wp.rLen1, Wp.rInt1, Wp.rMax2, Wp.rMin2, Wp.rTupOf, Wp.rListOf,
  Wp.wIsi, Wp.rBIs, Wp.rIsN, Wp.isNon, Wp.wMt, Wp.rAppendT, Wp.rExtendT, Wp.rReverseT, Wp.wNot, Wp.wOr, Wp.wAnd, Wp.wAndV, Wp.wOrV, Wp.wNotV, Wp.wFor, Wp.iRg1, Wp.iRg2, Wp.iAnyW, Wp.wAll, Wp.wChain, Wp.wSl, Wp.wNoPart, Wp.wPart, Wp.rSl, Wp.wNeg, Wp.rNeg, Wp.wLc, Wp.wYes, Wp.wDrop, Wp.wipeT, Wp.wAug, List.map, List.set_cons_zero, List.set_cons_succ, List.getElem?_cons_zero, List.getElem?_cons_succ, List.length_cons, List.length_nil, List.cons_append, List.nil_append, List.replicate, Wp.startT,
  true_and, and_true, Wp.wif_true, Wp.wif_false, Wp.ex_some, Wp.ex_some1, Wp.ex_eq, Wp.ex_lst, Wp.ex_lst0, Wp.rEq_int, Bool.false_bne, Bool.true_bne, Int.reduceLT, Int.reduceLE, Int.reduceAdd, Nat.reduceAdd, Nat.reduceSub, eq_self, ite_true, ite_false, beq_self_eq_true, Bool.not_true, Bool.not_false, Wp.isB_0, Wp.isB_1, Wp.isB_2, Wp.isB_3, Wp.isB_4, Wp.isB_5, Wp.isB_6, Wp.isB_7, Wp.isB_8, Wp.isB_9, Wp.isB_10, Wp.isB_11, Wp.isB_12, Wp.isB_13, Wp.isB_14, Wp.isB_15, Wp.isB_16, Wp.isB_17, Wp.isB_18, Wp.isB_19, Wp.isB_20, Wp.isB_21, Wp.isB_22, Wp.isB_23, Wp.isB_24, Wp.isB_25, Wp.isB_26, Wp.isB_27, Wp.isB_28, Wp.isB_29, Wp.isB_30, Wp.isB_31, Wp.isB_32, Wp.isB_33, Wp.isB_34, Wp.isB_35, Wp.cmul_l, Wp.cmul_r, Wp.cpow_lit, Wp.size_le, Wp.size_lt, Wp.atI_0, Wp.atI_1, Wp.atI_2, Wp.atI_3, Wp.atI_4, Wp.atI_5, Wp.atI_6, Wp.ixN_0, Wp.ixN_1, Wp.ixN_2, Wp.itemsT, Wp.tyT, reduceIte, Wp.wFld, Wp.wFSet, Wp.wFAug, Wp.wMeth, Wp.wMake, Wp.rIxA, Wp.rInA, Wp.rSetA, Wp.ixA, Wp.inA, Wp.setA, Wp.lenA, Wp.getD, Option.map_some, Option.bind_some, Option.getD_some,  Wp.gIxA, Wp.wDNew, Wp.wDNewT, Wp.rLenA, Wp.rSortD, Wp.rMaxL, Wp.rPopL, Wp.rGet1, Wp.rGet2, Wp.wGet1, Wp.wGet2, Wp.wPop1, Wp.wPop2, Wp.wDel, Wp.isDT, Wp.keyT, Wp.keysT, Wp.keysL, Wp.ex_ins, Wp.ex_dct, *])
local macro_rules | `(tactic| walk_at "r2") => `(tactic| repeat (first | walk_at "wq" | walk_at "go"))
local macro_rules | `(tactic| walk_at "w0") => `(tactic| simp (disch := omega) only [Wp.wSeq, Wp.wNext, Wp.wSet, Wp.wVar, Wp.wC, Wp.wOp, Wp.wRet, Wp.wIfS, Wp.wTest, Wp.wCall, Wp.wCons, Wp.wNil, Wp.wTup, Wp.wLst, Wp.wAsg, Wp.gTp, Wp.gC, Wp.gNm, Wp.gN0, Wp.gIx, Wp.rSet, Wp.rAdd, Wp.rMul, Wp.rMod, Wp.rSub, Wp.rFdiv, Wp.rPow, Wp.rInt, Wp.rIx, Wp.rLt, Wp.rLe, Wp.rCmp, Wp.rGeI, Wp.rGtI, Wp.wCB, Wp.rLen, Wp.rLen1, Wp.rInt1, Wp.rMax2, Wp.rMin2, Wp.rTupOf, Wp.rListOf,
  Wp.wIsi, Wp.rBIs, Wp.rIsN, Wp.isNon, Wp.wMt, Wp.rAppendT, Wp.rExtendT, Wp.rReverseT, Wp.wNot, Wp.wOr, Wp.wAnd, Wp.wAndV, Wp.wOrV, Wp.wNotV, Wp.wFor, Wp.iRg1, Wp.iRg2, Wp.iAnyW, Wp.wAll, Wp.wChain, Wp.wSl, Wp.wNoPart, Wp.wPart, Wp.rSl, Wp.wNeg, Wp.rNeg, Wp.wLc, Wp.wYes, Wp.wDrop, Wp.wipeT, Wp.wAug, List.map, List.set_cons_zero, List.set_cons_succ, List.getElem?_cons_zero, List.getElem?_cons_succ, List.length_cons, List.length_nil, List.cons_append, List.nil_append, List.replicate, Wp.startT,
  true_and, and_true, Wp.wif_true, Wp.wif_false, Wp.ex_some, Wp.ex_some1, Wp.ex_eq, Wp.ex_lst, Wp.ex_lst0, Wp.rEq_int, Bool.false_bne, Bool.true_bne, Int.reduceLT, Int.reduceLE, Int.reduceAdd, Nat.reduceAdd, Nat.reduceSub, eq_self, ite_true, ite_false, beq_self_eq_true, Bool.not_true, Bool.not_false, Wp.isB_0, Wp.isB_1, Wp.isB_2, Wp.isB_3, Wp.isB_4, Wp.isB_5, Wp.isB_6, Wp.isB_7, Wp.isB_8, Wp.isB_9, Wp.isB_10, Wp.isB_11, Wp.isB_12, Wp.isB_13, Wp.isB_14, Wp.isB_15, Wp.isB_16, Wp.isB_17, Wp.isB_18, Wp.isB_19, Wp.isB_20, Wp.isB_21, Wp.isB_22, Wp.isB_23, Wp.isB_24, Wp.isB_25, Wp.isB_26, Wp.isB_27, Wp.isB_28, Wp.isB_29, Wp.isB_30, Wp.isB_31, Wp.isB_32, Wp.isB_33, Wp.isB_34, Wp.isB_35, Wp.cmul_l, Wp.cmul_r, Wp.cpow_lit, Wp.size_le, Wp.size_lt, Wp.atI_0, Wp.atI_1, Wp.atI_2, Wp.atI_3, Wp.atI_4, Wp.atI_5, Wp.atI_6, Wp.ixN_0, Wp.ixN_1, Wp.ixN_2, Wp.itemsT, Wp.tyT, reduceIte, Wp.wFld, Wp.wFSet, Wp.wFAug, Wp.wMeth, Wp.wMake, Wp.rIxA, Wp.rInA, Wp.rSetA, Wp.ixA, Wp.inA, Wp.setA, Wp.lenA, Wp.getD, Option.map_some, Option.bind_some, Option.getD_some,  Wp.gIxA, Wp.wDNew, Wp.wDNewT, Wp.rLenA, Wp.rSortD, Wp.rMaxL, Wp.rPopL, Wp.rGet1, Wp.rGet2, Wp.wGet1, Wp.wGet2, Wp.wPop1, Wp.wPop2, Wp.wDel, Wp.isDT, Wp.keyT, Wp.keysT, Wp.keysL, Wp.ex_ins, Wp.ex_dct])
local macro_rules | `(tactic| walk_at "r0") => `(tactic| repeat (first | walk_at "w0" | walk_at "go"))
def b_bag3A : WS :=
  (wSeq (wSet 2 (wC (.int 0)))
    (wSeq (wIfS (wTest (wOp rLt (wVar 1) (wCB rLenA (wCons (wVar 0) wNil)))) (wSet 2 (wCB rInt1 (wCons (wOp rIxA (wVar 0) (wVar 1)) wNil))) wNext)
    (wSeq (wIfS (wTest (wOp rGeI (wVar 2) (wOp rPow (wC (.int 10)) (wC (.int 18))))) (wRet (wLst (wCons (wVar 2) (wCons (wVar 2) (wCons (wVar 1) wNil))))) wNext)
    (wRet (wLst (wCons (wC (.int 0)) (wCons (wVar 2) (wCons (wVar 1) wNil))))))))
def b_draw3A : WS :=
  (wSeq (wIfS (wTest (wOp (rEq false) (wOp rIxA (wVar 0) (wC (.int 0))) (wC (.int 0)))) (wSeq (wSet 2 (wOp rMod (wCB rInt1 (wCons (wOp rAdd (wOp rAdd (wOp rMul (wOp rIxA (wVar 0) (wC (.int 1))) (wC (.int 48271))) (wOp rMul (wOp rIxA (wVar 0) (wC (.int 2))) (wC (.int 69621)))) (wC (.int 11))) wNil)) (wC (.int 2147483647))))
    (wSeq (wAsg (wOp rAdd (wOp rMul (wVar 2) (wC (.int 2147483629))) (wOp rMod (wCB rInt1 (wCons (wOp rAdd (wOp rMul (wVar 2) (wVar 2)) (wOp rMul (wOp rIxA (wVar 0) (wC (.int 2))) (wC (.int 16807)))) wNil)) (wC (.int 2147483629)))) (gIxA (wVar 0) (wC (.int 0))))
    (wAsg (wVar 2) (gIxA (wVar 0) (wC (.int 1)))))) wNext)
    (wSeq (wSet 3 (wOp rIxA (wVar 0) (wC (.int 0))))
    (wSeq (wAsg (wOp rFdiv (wVar 3) (wVar 1)) (gIxA (wVar 0) (wC (.int 0))))
    (wRet (wOp rMod (wCB rInt1 (wCons (wVar 3) wNil)) (wVar 1))))))
def b_bag5A : WS :=
  (wRet (wLst (wCons (wC (.int 0)) (wCons (wC (.int 7)) (wCons (wC (.int 0)) (wCons (wC (.int 0)) (wCons (wCB rListOf (wCons (wVar 0) wNil)) wNil)))))))
def b_draw5A : WS :=
  (wSeq (wIfS (wTest (wOp (rEq false) (wOp rIxA (wVar 0) (wC (.int 0))) (wC (.int 0)))) (wSeq (wSet 2 (wCB rInt1 (wCons (wOp rIxA (wVar 0) (wC (.int 3))) wNil)))
    (wSeq (wSet 3 (wOp rIxA (wVar 0) (wC (.int 4))))
    (wSeq (wIfS (wTest (wOp rLt (wOp rIxA (wVar 0) (wC (.int 2))) (wCB rLenA (wCons (wVar 3) wNil)))) (wSet 2 (wCB rInt1 (wCons (wOp rIxA (wVar 3) (wOp rIxA (wVar 0) (wC (.int 2)))) wNil))) wNext)
    (wSeq (wAsg (wOp rAdd (wOp rIxA (wVar 0) (wC (.int 2))) (wC (.int 1))) (gIxA (wVar 0) (wC (.int 2))))
    (wSeq (wSet 4 (wOp rMod (wCB rInt1 (wCons (wOp rAdd (wOp rAdd (wOp rAdd (wOp rMul (wOp rIxA (wVar 0) (wC (.int 1))) (wC (.int 48271))) (wOp rMul (wVar 2) (wC (.int 69621)))) (wOp rMul (wOp rIxA (wVar 0) (wC (.int 2))) (wC (.int 16807)))) (wC (.int 11))) wNil)) (wC (.int 2147483647))))
    (wSeq (wAsg (wOp rAdd (wOp rMul (wVar 4) (wC (.int 2147483629))) (wOp rMod (wCB rInt1 (wCons (wOp rAdd (wOp rMul (wVar 4) (wVar 4)) (wVar 2)) wNil)) (wC (.int 2147483629)))) (gIxA (wVar 0) (wC (.int 0))))
    (wSeq (wIfS (wTest (wOp rGeI (wVar 2) (wOp rPow (wC (.int 10)) (wC (.int 18))))) (wAsg (wVar 2) (gIxA (wVar 0) (wC (.int 0)))) wNext)
    (wAsg (wVar 4) (gIxA (wVar 0) (wC (.int 1))))))))))) wNext)
    (wSeq (wSet 5 (wOp rIxA (wVar 0) (wC (.int 0))))
    (wSeq (wAsg (wOp rFdiv (wVar 5) (wVar 1)) (gIxA (wVar 0) (wC (.int 0))))
    (wRet (wOp rMod (wCB rInt1 (wCons (wVar 5) wNil)) (wVar 1))))))
theorem hw_bag3A : ∀ ts S Q E, ts.length = 2 → spBag3 ts S Q E → b_bag3A { nx := fun _ S' => Q .non S', rt := Q } (Wp.startT ["script", "k", "cell"] ts) S := by
  intro ts S Q E _ h
  match ts, h with
  | [.fl us, .int k], ⟨ns, e, h0, hl, h⟩ =>
    subst e
    have fin : ∀ (a b c : Int) (p : Addr), S p = none → Q (.ref p) (upS S p (.lst [.int a, .int b, .int c])) := fun a b c p hp => h p _ hp (gr_new hp) ⟨a, b, c, upS_same⟩
    clear h
    unfold b_bag3A
    walk_at "r0"
    refine if_dec (fun hk => ?_) (fun hk => ?_)
    · obtain ⟨x, hx, hm⟩ := atI_in (xs := ns.map T.int) h0 hk
      obtain ⟨n, _, rfl⟩ := List.mem_map.mp hm
      walk_at "r0"
      simp only [hx]
      walk_at "r0"
      refine if_dec (fun _ => ?_) (fun _ => ?_)
      · walk_at "r0"
        exact fun p hp => fin _ _ _ p hp
      · walk_at "r0"
        exact fun p hp => fin _ _ _ p hp
    · walk_at "r0"
      refine if_dec (fun _ => ?_) (fun _ => ?_)
      · walk_at "r0"
        exact fun p hp => fin _ _ _ p hp
      · walk_at "r0"
        exact fun p hp => fin _ _ _ p hp
theorem hw_draw3A : ∀ ts S Q E, ts.length = 2 → spDraw false ts S Q E → b_draw3A { nx := fun _ S' => Q .non S', rt := Q } (Wp.startT ["bag", "many", "seed", "rest"] ts) S := by
  intro ts S Q E _ h
  match ts, h with
  | [.ref p, .int m], ⟨none, _, ⟨a, b, c, hS⟩, h0, h1, h⟩ =>
    have fin : ∀ (r a b c : Int), 0 ≤ r → r < m → Q (.int r) (upS S p (.lst [.int a, .int b, .int c])) := fun r a b c g1 g2 => h r _ g1 g2 ⟨fun x o e n => by rw [upS_ne n]; exact e, _, _, _, upS_same⟩
    clear h
    unfold b_draw3A
    walk_at "run"
    refine if_bool (fun _ => ?_) (fun _ => ?_)
    · walk_at "run"
      exact fin _ _ _ _ (Int.emod_nonneg _ (by omega)) (Int.emod_lt_of_pos _ h0)
    · walk_at "run"
      exact fin _ _ _ _ (Int.emod_nonneg _ (by omega)) (Int.emod_lt_of_pos _ h0)
theorem hw_bag5A : ∀ ts S Q E, ts.length = 1 → spBag5 ts S Q E → b_bag5A { nx := fun _ S' => Q .non S', rt := Q } (Wp.startT ["script"] ts) S := by
  intro ts S Q E _ h
  match ts, h with
  | [.fl us], ⟨ns, e, h⟩ =>
    subst e
    unfold b_bag5A
    walk_at "r0"
    intro q hq p hp
    have hqp : q ≠ p := fun e => by rw [e, upS_same] at hp; cases hp
    rw [upS_ne hqp.symm] at hp
    refine h p _ hp ((gr_new hq).trans (gr_new (by rw [upS_ne hqp.symm]; exact hp))) ⟨q, 0, 7, 0, 0, ns, upS_same, hqp, by rw [upS_ne hqp, upS_same], by omega⟩
theorem hw_draw5A : ∀ ts S Q E, ts.length = 2 → spDraw true ts S Q E → b_draw5A { nx := fun _ S' => Q .non S', rt := Q } (Wp.startT ["bag", "many", "cell", "cells", "seed", "rest"] ts) S := by
  intro ts S Q E _ h
  match ts, h with
  | [.ref p, .int m], ⟨some q, _, ⟨a, b, c, d, ns, hS, hqp, hq, hc⟩, h0, h1, h⟩ =>
    have fin : ∀ (r a b c d : Int), 0 ≤ r → r < m → 0 ≤ c → Q (.int r) (upS S p (.lst [.int a, .int b, .int c, .int d, .ref q])) := fun r a b c d g1 g2 g3 => h r _ g1 g2 ⟨fun x o e n => by rw [upS_ne n]; exact e, _, _, _, _, ns, upS_same, hqp, by rw [upS_ne hqp]; exact hq, g3⟩
    clear h
    have at3 : atI [T.int a, T.int b, T.int c, T.int d, T.ref q] 3 = some (.int d) := by rw [atI_3]; rfl
    unfold b_draw5A
    have it : ∀ o, itemsT (upS S p o) (.ref q) = some (ns.map T.int) := fun o => itemsT_ref (by rw [upS_ne hqp]; exact hq)
    have it0 : itemsT S (.ref q) = some (ns.map T.int) := itemsT_ref hq
    walk_at "run"
    refine if_bool (fun _ => ?_) (fun _ => ?_)
    · walk_at "run"
      refine if_dec (fun hk => ?_) (fun hk => ?_)
      · obtain ⟨x, hx, hm⟩ := atI_in (xs := ns.map T.int) hc hk
        obtain ⟨n, _, rfl⟩ := List.mem_map.mp hm
        walk_at "run"
        refine if_dec (fun _ => ?_) (fun _ => ?_)
        · walk_at "run"
          exact fin _ _ _ _ _ (Int.emod_nonneg _ (by omega)) (Int.emod_lt_of_pos _ h0) (by omega)
        · walk_at "run"
          exact fin _ _ _ _ _ (Int.emod_nonneg _ (by omega)) (Int.emod_lt_of_pos _ h0) (by omega)
      · walk_at "run"
        refine if_dec (fun _ => ?_) (fun _ => ?_)
        · walk_at "run"
          exact fin _ _ _ _ _ (Int.emod_nonneg _ (by omega)) (Int.emod_lt_of_pos _ h0) (by omega)
        · walk_at "run"
          exact fin _ _ _ _ _ (Int.emod_nonneg _ (by omega)) (Int.emod_lt_of_pos _ h0) (by omega)
    · walk_at "run"
      exact fin _ _ _ _ _ (Int.emod_nonneg _ (by omega)) (Int.emod_lt_of_pos _ h0) (by omega)
end Wp

set_option Elab.async false
set_option linter.all false
set_option maxRecDepth 100000
/-! comprehensions with a test; lists without repetition -/
namespace Wp
open PySem PySem.Spec PyProof.Rows L2
theorem comp_filt_at {α : Type} {g : WG} {tt : WT} {te : WE} {stb : Sta → Prop} {σ : Sl} {D : Addr} {Q : T → Sta → Prop} {S0 : Sta} (tr : α → T) (p : α → Bool) (f : α → T) (hstb : ∀ acc, stb (upS S0 D (.lst acc))) : ∀ (xs : List α) (acc : List T), acc.length + xs.length ≤ 1000000 →
    (∀ x ∈ xs, ∀ (acc : List T) (A : Sta → Prop) (R : T → Sta → Prop), (p x = true → R (f x) (upS S0 D (.lst acc))) → (p x = false → A (upS S0 D (.lst acc))) → g (tr x) σ (upS S0 D (.lst acc)) fun σ2 S2 => tt σ2 S2 fun b S3 => wif b (te σ2 S3 R) (A S3)) →
    Q (.ref D) (upS S0 D (.lst (acc ++ (xs.filter p).map f))) → compW g tt te stb σ D Q (xs.map tr) (upS S0 D (.lst acc))
  | [], acc, _, _, q => ⟨hstb acc, by simpa using q⟩
  | x :: xs, acc, hl, step, q => by
    rw [List.length_cons] at hl
    refine ⟨hstb acc, step x List.mem_cons_self acc _ _ (fun hp => ⟨acc, upS_same, lt_sz (by omega), ?_⟩) (fun hp => ?_)⟩
    · rw [upS_upS]
      refine comp_filt_at tr p f hstb xs (acc ++ [f x]) (by rw [List.length_append, List.length_cons, List.length_nil]; omega) (fun y hy => step y (List.mem_cons_of_mem _ hy)) ?_
      rw [List.filter_cons, if_pos hp, List.map_cons] at q
      rw [List.append_assoc]
      exact q
    · refine comp_filt_at tr p f hstb xs acc (by omega) (fun y hy => step y (List.mem_cons_of_mem _ hy)) ?_
      rw [List.filter_cons, if_neg (by rw [hp]; exact Bool.false_ne_true)] at q
      exact q
theorem comp_filt {α : Type} {g : WG} {tt : WT} {te : WE} {stb : Sta → Prop} {σ : Sl} {D : Addr} {Q : T → Sta → Prop} {S0 : Sta} {xs : List α} (tr : α → T) (p : α → Bool) (f : α → T) (hl : xs.length ≤ 1000000) (hstb : ∀ acc, stb (upS S0 D (.lst acc)))
    (step : ∀ x ∈ xs, ∀ (acc : List T) (A : Sta → Prop) (R : T → Sta → Prop), (p x = true → R (f x) (upS S0 D (.lst acc))) → (p x = false → A (upS S0 D (.lst acc))) → g (tr x) σ (upS S0 D (.lst acc)) fun σ2 S2 => tt σ2 S2 fun b S3 => wif b (te σ2 S3 R) (A S3))
    (q : Q (.ref D) (upS S0 D (.lst ((xs.filter p).map f)))) : compW g tt te stb σ D Q (xs.map tr) (upS S0 D (.lst [])) :=
  comp_filt_at tr p f hstb xs [] (by simpa using hl) step (by rw [List.nil_append]; exact q)
/-- without a test -/
theorem comp_each {α : Type} {g : WG} {te : WE} {stb : Sta → Prop} {σ : Sl} {D : Addr} {Q : T → Sta → Prop} {S0 : Sta} {xs : List α} (tr : α → T) (f : α → T) (hl : xs.length ≤ 1000000) (hstb : ∀ acc, stb (upS S0 D (.lst acc)))
    (step : ∀ x ∈ xs, ∀ (acc : List T) (R : T → Sta → Prop), R (f x) (upS S0 D (.lst acc)) → g (tr x) σ (upS S0 D (.lst acc)) fun σ2 S2 => te σ2 S2 R)
    (q : Q (.ref D) (upS S0 D (.lst (xs.map f)))) : compW g wYes te stb σ D Q (xs.map tr) (upS S0 D (.lst [])) :=
  comp_filt tr (fun _ => true) f hl hstb (fun x hx acc A R h1 _ => by
    have := step x hx acc R (h1 rfl)
    show g (tr x) σ _ fun σ2 S2 => wif true (te σ2 S2 R) _
    simp only [wif_true]
    exact this) (by rw [List.filter_eq_self.mpr (fun _ _ => rfl)]; exact q)
@[elab_as_elim] theorem snoc_ind {α : Type} {motive : List α → Prop} (nil : motive []) (app : ∀ xs x, motive xs → motive (xs ++ [x])) (l : List α) : motive l := by
  rw [← List.reverse_reverse l]
  induction l.reverse with
  | nil => exact nil
  | cons x xs ih => rw [List.reverse_cons]; exact app _ _ ih
theorem nodup_of_map {α β : Type} (f : α → β) {xs : List α} (h : (xs.map f).Nodup) : xs.Nodup := List.Pairwise.of_map f (fun a b h e => h (by rw [e])) h
theorem perm_of_nodup {α : Type} [BEq α] [LawfulBEq α] {xs ys : List α} (hx : xs.Nodup) (hy : ys.Nodup) (h : ∀ a, a ∈ xs ↔ a ∈ ys) : xs.Perm ys := by
  rw [List.perm_iff_count]
  intro a
  have h1 := List.nodup_iff_count.mp hx a
  have h2 := List.nodup_iff_count.mp hy a
  by_cases m : a ∈ xs
  · have m2 := (h a).mp m
    have p1 := List.count_pos_iff.mpr m
    have p2 := List.count_pos_iff.mpr m2
    omega
  · have m2 := fun z => m ((h a).mpr z)
    rw [List.count_eq_zero.mpr m, List.count_eq_zero.mpr m2]
/-- a list that is sorted and has just these items -/
theorem sorted_is {xs ys : List Int} (hp : ys.Perm xs) (hs : ys.Pairwise (· ≤ ·)) {zs : List Int} (hn : xs.Nodup) (hz : zs.Pairwise (· < ·)) (h : ∀ a, a ∈ xs ↔ a ∈ zs) : ys = zs := by
  have hzn : zs.Nodup := hz.imp fun h => by omega
  exact PySem.W.ksm_same (hp.trans (perm_of_nodup hn hzn h)) hs (hz.imp fun h => by omega)
end Wp

set_option Elab.async false
set_option linter.all false
set_option maxRecDepth 100000
/-! written dicts of tuples of texts; zip of such a tuple and a tuple; displays of dicts; > of texts -/
namespace Wp
open PySem PySem.Spec PyProof.Rows L2
/-- a written tuple of texts -/
def KTup (K : PySem.W.Frag) (a : Addr) (zs : List Str) : Prop :=
  ∃ (o : Obj) (its : Array Value) (n : Nat), K.lookup a = some o ∧ o.cls = .type "tuple" ∧ o.data = .seq its n ∧ its.size ≤ sizeLine ∧ Vals (zs.map V.str) its.toList
theorem KTup.sqT {K : PySem.W.Frag} {H : Hp} {a : Addr} {zs : List Str} (h : KTup K a zs) : SqT K H a (zs.map V.str) := .inr h
def tblGet : List (Str × List Str) → Str → Option (List Str)
  | [], _ => none
  | (z, zs) :: r, x => if z = x then some zs else tblGet r x
def TblOk (K : PySem.W.Frag) (P : Params) : List DictEntry → List (Str × List Str) → Prop
  | [], [] => True
  | e :: r, (z, zs) :: t => (∃ tk, e.key = .str z tk ∧ e.hash = PyData.keyHash P z) ∧ (∃ a, e.val = .ref a ∧ KTup K a zs) ∧ TblOk K P r t
  | _, _ => False
/-- a written dict at d -/
structure WDict (K : PySem.W.Frag) (P : Params) (d : Addr) (tbl : List (Str × List Str)) : Prop where
  ex : ∃ es n, K.lookup d = some ⟨.type "dict", none, .dict es n, #[]⟩ ∧ TblOk K P es.toList tbl
  low : (d == sysModules) = false
theorem tbl_find {K : PySem.W.Frag} {P : Params} (x : Str) : ∀ {l : List DictEntry} {t : List (Str × List Str)}, TblOk K P l t →
    match tblGet t x with
    | none => (l.find? fun e => nkIs (some (.inr x)) e.key) = none
    | some zs => ∃ e a, (l.find? fun e => nkIs (some (.inr x)) e.key) = some e ∧ e.val = .ref a ∧ KTup K a zs
  | [], [], _ => rfl
  | e :: r, (z, zs) :: t, ⟨⟨tk, ek, _⟩, ⟨a, ev, kt⟩, h⟩ => by
    have ih := tbl_find x h
    have hk : nkIs (some (.inr x)) e.key = decide (z = x) := by
      rw [ek]
      show Value.isStrOf x (.str z tk) = decide (z = x)
      unfold Value.isStrOf
      by_cases c : z = x
      · subst c; simp
      · simp only [c, decide_false]
        first | exact beq_eq_false_iff_ne.mpr c | exact beq_eq_false_iff_ne.mpr (fun y => c y.symm)
    unfold tblGet
    by_cases c : z = x
    · rw [if_pos c]
      exact ⟨e, a, by rw [List.find?_cons, hk, decide_eq_true c], ev, kt⟩
    · rw [if_neg c, List.find?_cons, hk, decide_eq_false c]
      exact ih
theorem tbl_none {K : PySem.W.Frag} {P : Params} : ∀ {l : List DictEntry} {t : List (Str × List Str)}, TblOk K P l t → (l.find? fun e => nkIs none e.key) = none
  | [], [], _ => rfl
  | e :: r, (z, zs) :: t, ⟨⟨tk, ek, _⟩, _, h⟩ => by
    have hk : nkIs none e.key = false := by rw [ek]; rfl
    rw [List.find?_cons, hk]
    exact tbl_none h
theorem tbl_keys {K : PySem.W.Frag} {P : Params} : ∀ {l : List DictEntry} {t : List (Str × List Str)}, TblOk K P l t → ∀ e ∈ l, ∃ z tk, e.key = .str z tk ∧ e.hash = PyData.keyHash P z
  | e :: r, (z, zs) :: t, ⟨⟨tk, ek, eh⟩, _, h⟩, f, hf => by
    rcases List.mem_cons.mp hf with q | q
    · rw [q]; exact ⟨z, tk, ek, eh⟩
    · exact tbl_keys h f q
section
variable {X : Cx} {B : Hp} {pins : List (Addr × Obj)} {σ : L2.St} {H : Hp} {s : Shared} {d : Addr} {tbl : List (Str × List Str)}
theorem wd_map (D : WDict X.K X.w.params d tbl) (I : Inv X pins σ H s) : ∃ (es : Array DictEntry) (n : Nat), s.heap.get? d = some ⟨.type "dict", none, .dict es n, #[]⟩ ∧ TblOk X.K X.w.params es.toList tbl ∧
    s.heap.MapOf (noneKind X.prog X.w) d (fun k => findBy (noneKind X.prog X.w).is es k) := by
  obtain ⟨es, n, hl, ht⟩ := D.ex
  have hg := I.kIn _ _ hl
  refine ⟨es, n, hg, ht, ⟨_, es, n, hg, ⟨rfl, rfl, rfl⟩, rfl, fun e he => ?_, fun _ => rfl⟩⟩
  obtain ⟨z, tk, e1, e2⟩ := tbl_keys ht e (Array.mem_toList_iff.mpr he)
  exact ⟨some (.inr z), by rw [e1]; exact keyIs_str z tk, by rw [e2]; rfl⟩
theorem wd_find (es : Array DictEntry) (k : Option Key) : findBy (noneKind X.prog X.w).is es k = (es.toList.find? fun e => nkIs k e.key).map (·.val) := by
  unfold findBy
  rw [← Array.find?_toList]
  rfl
end
/-- TABLE.get(e), TABLE written -/
def wKGet (K : PySem.W.Frag) (tbl : List (Str × List Str)) (te : WE) (σ : Sl) (S : Sta) (Q : T → Sta → Prop) : Prop := te σ S fun y S1 => match y with
  | .str z => match tblGet tbl z with
    | none => Q .non S1
    | some zs => ∀ a, KTup K a zs → Q (.ref a) S1
  | .non => Q .non S1
  | _ => False
/-- TABLE[e], TABLE written -/
def wKIx (K : PySem.W.Frag) (tbl : List (Str × List Str)) (te : WE) (σ : Sl) (S : Sta) (Q : T → Sta → Prop) : Prop := te σ S fun y S1 => match y with
  | .str z => ∃ zs, tblGet tbl z = some zs ∧ ∀ a, KTup K a zs → Q (.ref a) S1
  | _ => False
section
variable {X : Cx} {B : Hp} {e : Expr} {te : WE} {tbl : List (Str × List Str)} {x : Str} {p apos pos cpos : Pos}
/-- the name of a written dict -/
def GWD (K : PySem.W.Frag) (P : Params) (mg : Str → Option Value) (x : Str) (tbl : List (Str × List Str)) : Prop := ∃ d, mg x = some (.ref d) ∧ WDict K P d tbl
theorem pe_gref {d : Addr} (hg : Gl X x) (hm : X.mg x = some (.ref d)) (hd : (x == ("__debug__" : Str)) = false := by decide) : PE X (.Name x p) (tC (.ref d)) := pe_glob (v := .ref d) hg hm rfl hd
theorem j_kget (g : GWD X.K X.w.params X.mg x tbl) (hg : Gl X x) (he : JE B X e te) (hd : (x == ("__debug__" : Str)) = false := by decide) (m : M1 X (.Name x p) "get" apos e cpos := by exact ⟨rfl, rfl, rfl, rfl⟩) :
    JE B X (.Call (.Attribute (.Name x p) "get" apos) [e] [] cpos) (wKGet X.K tbl te) := by
  obtain ⟨d, hm, D⟩ := g
  refine ⟨fun pins s σ H Q I ⟨st, S, Q0, hb, hr, hs, h, im⟩ => ?_⟩
  refine wpAny_Call_method m.base m.few m.line PySem.F.plainAttrs_dict PySem.F.slot_dict_get PySem.F.type_dict_get (thn ((pe_gref hg hm hd).run pins s σ H (fun v H' => v = .ref d ∧ H' = H) I ⟨rfl, rfl⟩) fun u s1 ⟨x', H1, I1, rx, ex, eH⟩ => ?_)
  subst ex eH
  obtain rfl : u = Value.ref d := rx
  obtain ⟨es, n, hget, ht, hmap⟩ := wd_map D I1
  refine ⟨hmap.typeIs, fun b q => ?_, ?_⟩
  · cases q
    exact ⟨_, hget, rfl⟩
  rw [m.trees]
  refine Calls.callWith_builtin rfl (Calls.evalArgs_plain (Calls.spliced_cons (thn (he.run pins s1 σ H1 (fun v H2 => ∃ t S2, Ext H1 H2 ∧ St X.K S2 H2 ∧ Rep X.K H2 t v ∧ (match t with
    | .str z => match tblGet tbl z with
      | none => Q0 .non S2
      | some zs => ∀ a, KTup X.K a zs → Q0 (.ref a) S2
    | .non => Q0 .non S2
    | _ => False)) I1 ⟨st, S, _, hb, hr, hs, h, fun y S2 h2 H2 v e2 s2 r2 => ⟨y, S2, e2, s2, r2, h2⟩⟩) fun iv s2 ⟨y, H2, I2, ry, t, S2, e2, s2', rt, q2⟩ => Calls.spliced_nil ?_)))
  obtain ⟨es, n, hget, ht, hmap⟩ := wd_map D I2
  have go : ∀ (k : Option Key) (v : V) (t' : T), (noneKind X.prog X.w).is k iv = true → RelV v ((findBy (noneKind X.prog X.w).is es k).getD .none) → Rep X.K H2 t' v → Q0 t' S2 → wpAny (model X.prog X.w) X.A (call (.builtin "dict.get") [.ref d, iv]) (EP X pins σ Q) X.xe s2 := fun k v t' hk rv rt' q => by
    refine call_meetsIn PySem.F.slot_dict_get hmap.typeIs PySem.F.entry_dict_get (PySem.F.args_dict_get_2 _ _) (meets_dict_get (noneKind X.prog X.w) d hk D.low) ⟨_, hmap, ?_⟩
    exact ⟨v, H2, I2.tok _, rv, im _ _ q H2 _ e2 s2' rt'⟩
  cases t with
  | str z =>
    cases rt
    obtain ⟨tk, rfl⟩ := (show ∃ t, iv = Value.str z t from ry)
    have hf := tbl_find z ht
    cases hz : tblGet tbl z with
    | none =>
      simp only [hz] at hf q2
      refine go (some (.inr z)) .non .non (keyIs_str z tk) ?_ .non q2
      rw [wd_find, hf]
      rfl
    | some zs =>
      simp only [hz] at hf q2
      obtain ⟨en, a, e1, e3, kt⟩ := hf
      refine go (some (.inr z)) (.ref a) (.ref a) (keyIs_str z tk) ?_ (.ref a) (q2 a kt)
      rw [wd_find, e1]
      simp only [Option.map_some, Option.getD_some, e3]
      rfl
  | non =>
    cases rt
    obtain rfl : iv = Value.none := ry
    refine go none .non .non rfl ?_ .non q2
    rw [wd_find, tbl_none ht]
    rfl
  | _ => exact q2.elim
end

section
variable {X : Cx} {B : Hp} {e : Expr} {te : WE} {tbl : List (Str × List Str)} {x : Str} {p apos pos cpos : Pos}
theorem j_kix (g : GWD X.K X.w.params X.mg x tbl) (hg : Gl X x) (he : JE B X e te) (hs0 : PlainIx e) (hd : (x == ("__debug__" : Str)) = false := by decide) :
    JE B X (.Subscript (.Name x p) e pos) (wKIx X.K tbl te) := by
  obtain ⟨d, hm, D⟩ := g
  refine ⟨fun pins s σ H Q I ⟨st, S, Q0, hb, hr, hs, h, im⟩ => ?_⟩
  refine Subscript_ (binT (pe_gref hg hm hd) he I (R := fun x y H2 => x = V.ref d ∧ ∃ t S2, Ext H H2 ∧ St X.K S2 H2 ∧ Rep X.K H2 t y ∧ (match t with
    | .str z => ∃ zs, tblGet tbl z = some zs ∧ ∀ a, KTup X.K a zs → Q0 (.ref a) S2
    | _ => False)) (show LE B X te σ H _ from ⟨st, S, _, hb, hr, hs, h, fun y S2 h2 H2 v e2 s2 r2 => ⟨rfl, y, S2, e2, s2, r2, h2⟩⟩) fun v u s2 x y H2 I2 rx ry q => ?_)
  obtain ⟨ex, t, S2, e2, s2', rt, q2⟩ := q
  subst ex
  obtain rfl : v = Value.ref d := rx
  obtain ⟨es, n, hget, ht, hmap⟩ := wd_map D I2
  cases t with
  | str z =>
    cases rt
    obtain ⟨tk, rfl⟩ := (show ∃ t, u = Value.str z t from ry)
    obtain ⟨zs, hz, q2⟩ := q2
    have hf := tbl_find z ht
    simp only [hz] at hf
    obtain ⟨en, a, e1, e3, kt⟩ := hf
    refine tail_any hmap.typeIs slot_dict_getitem.lookup (wpAny_getItem_of (knd := noneKind X.prog X.w) (k := some (.inr z)) (keyIs_str z tk) hmap (v := .ref a) ?_ ⟨.ref a, H2, I2.tok _, rfl, im _ _ (q2 a kt) H2 _ e2 s2' (.ref a)⟩) (hs0 _ _)
    rw [wd_find, e1]
    simp only [Option.map_some, e3]
  | _ => exact q2.elim
/-- len of a written tuple -/
def rLenK (K : PySem.W.Frag) (xs : List T) (S : Sta) (Q : T → Sta → Prop) : Prop := match xs with
  | [.ref a] => ∃ zs, KTup K a zs ∧ Q (.int zs.length) S
  | _ => False
theorem c_lenK : CallR X (.builtin "len") (LC X.K (rLenK X.K)) := by
  intro pins s σ H xs us Q I rx ⟨ts, S, Q0, r, hs, q, im⟩
  match ts, q with
  | [.ref a], ⟨zs, kt, q⟩ =>
    obtain ⟨v, rfl, r1⟩ := r.one
    cases r1
    refine call_len_seq pins s σ H _ us Q I rx ⟨a, zs.map V.str, rfl, .inr kt.sqT, ?_⟩
    rw [List.length_map]
    exact im _ _ q H _ (Ext.refl H) hs (.int _)
/-- zip(TUPLE, tuple), the first written -/
def zipT (zs : List Str) (ps : List T) : List T := List.zipWith (fun z p => T.tup [.str z, p]) zs ps
def iZipK (K : PySem.W.Frag) (ta : WA) (σ : Sl) (S : Sta) (R : List T → (Sta → Prop) → Sta → Prop) : Prop := ta σ S fun xs S1 => match xs with
  | [.ref a, .tup ps] => ∃ zs, KTup K a zs ∧ R (zipT zs ps) (fun _ => True) S1
  | _ => False
theorem zip_at {zs : List Str} {ps : List T} {i : Nat} {z : Str} {p : T} (h1 : zs[i]? = some z) (h2 : ps[i]? = some p) : (zipT zs ps)[i]? = some (T.tup [.str z, p]) := by
  unfold zipT
  rw [List.getElem?_zipWith, h1, h2]
theorem yields_zip {K : PySem.W.Frag} {H1 : Hp} {zs : List Str} {ps : List T} {ys : List V} {a b : Addr} (hn : True) (kt : KTup K a zs) (hq : ∀ H, Ext H1 H → SqT K H b ys ∧ Reps K H ps ys) : Yields K (zipT zs ps) (fun _ => True) H1 (RZ.ItzT K a b) := fun i S H2 e2 s2 _ => by
  obtain ⟨hb, r⟩ := hq H2 e2
  have hl : (zipT zs ps).length = min zs.length ps.length := by unfold zipT; rw [List.length_zipWith]
  have hlr := r.length
  rw [hl]
  refine ⟨fun hi => ?_, fun hi => ⟨zs.map V.str, ys, kt.sqT, hb, by rw [List.length_map]; omega⟩, fun x H' hy hi => ?_⟩
  · obtain ⟨v, g3, _⟩ := r.get (List.getElem?_eq_getElem (show i < ps.length by omega))
    refine ⟨zs.map V.str, ys, V.str (zs[i]'(by omega)), v, kt.sqT, hb, ?_, g3⟩
    rw [List.getElem?_map, List.getElem?_eq_getElem (show i < zs.length by omega)] <;> rfl
  · obtain ⟨T0, x0, y0, rfl, hp, rfl, h1, h2⟩ := hy
    have ev := h2 ys hb
    obtain ⟨t, et, rt⟩ := r.getV ev
    have ex0 := h1 _ kt.sqT
    rw [List.getElem?_map, List.getElem?_eq_getElem (show i < zs.length by omega)] at ex0
    cases ex0
    have ex : Ext H2 (upd H2 T0 (.tup [V.str (zs[i]'(by omega)), y0])) := Ext.new hp
    exact ⟨ex, s2.new hp _, fun st σ q => q.mono ex, _, zip_at (List.getElem?_eq_getElem (by omega)) et, .tup upd_same (.cons (.str _) (.cons (Rep.mono ex _ _ rt) .nil))⟩
theorem ji_zipK {e2 : Expr} {ta : WA} {tpos : Pos} {elts : List Expr} {kk : Nat} (hg : Gl X "zip") (hm : X.mg "zip" = none) (ha : JA B X [e, e2] ta)
    (hs : starEach [e, e2] X.env = (false, eval e X.env) :: starEach [e2] X.env := by rfl) (hpl : (backTo pos (starEach [e2] X.env)).any (·.1) = false := by rfl) :
    JI B X (.Tuple elts kk tpos) (.Call (.Name "zip" p) [e, e2] [] pos) (iZipK X.K ta) := pi_imp (RZ.pi_zipA hg hm ha hs hpl) fun σ H R ⟨st, S, Q0, he, hr, hs, h, im⟩ => by
  refine ⟨st, S, _, he, hr, hs, h, fun xs S1 h1 H1 vs e1 s1 r1 => ?_⟩
  match xs, h1 with
  | [.ref a, .tup ps], ⟨zs, kt, h1⟩ =>
    obtain ⟨v, w, rfl, ra, rb⟩ := r1.two
    cases ra
    cases rb with
    | @tup b ys _ g10 g2 =>
      refine ⟨a, b, zs.map V.str, ys, rfl, .inr ⟨kt.sqT, sqT_of g10, im _ _ _ h1 H1 e1 s1 _ (yields_zip trivial kt fun H3 e3 => ⟨e3.sqT (sqT_of g10), Reps.mono e3 _ _ g2⟩)⟩⟩
end
/-! ### displays of dicts -/
abbrev WP := Sl → Sta → (List (T × T) → Sta → Prop) → Prop
def wPNil (u0 : Sl) (S : Sta) (Q : List (T × T) → Sta → Prop) : Prop := Q [] S
def wPCons (tk tv : WE) (tr : WP) (σ : Sl) (S : Sta) (Q : List (T × T) → Sta → Prop) : Prop := tk σ S fun x S1 => tv σ S1 fun y S2 => tr σ S2 fun ps S3 => Q ((x, y) :: ps) S3
def PRep (K : PySem.W.Frag) (H : Hp) : List (T × T) → List (V × V) → Prop
  | [], [] => True
  | (a, b) :: r, (x, y) :: t => Rep K H a x ∧ Rep K H b y ∧ PRep K H r t
  | _, _ => False
theorem PRep.mono {K : PySem.W.Frag} {H H' : Hp} (e : Ext H H') : ∀ {ps : List (T × T)} {vs : List (V × V)}, PRep K H ps vs → PRep K H' ps vs
  | [], [], _ => trivial
  | (a, b) :: r, (x, y) :: t, ⟨h1, h2, h3⟩ => ⟨Rep.mono e _ _ h1, Rep.mono e _ _ h2, PRep.mono e h3⟩
def finP (K : PySem.W.Frag) (H : Hp) (Q : List (V × V) → Hp → Prop) : List (T × T) → Sta → Prop := fun ps S => ∀ H' vs, Ext H H' → St K S H' → PRep K H' ps vs → Q vs H'
def JP (B : Hp) (X : Cx) (pos : Pos) (keys : List (Option Expr)) (values : List Expr) (t : WP) : Prop :=
  ∃ trs, PPs X pos keys values trs ∧ ∀ σ H Q, (∃ st S Q0, Ext B H ∧ SlR X.K H st σ ∧ St X.K S H ∧ t st S Q0 ∧ ∀ ps S', Q0 ps S' → finP X.K H Q ps S') → tPairs trs σ H Q
section
variable {X : Cx} {B : Hp} {pos : Pos} {k v : Expr} {ks : List (Option Expr)} {vs : List Expr} {tk tv : WE} {tr : WP}
theorem jp_nil : JP B X pos [] [] wPNil := ⟨[], pps_nil, fun σ H Q ⟨st, S, Q0, he, hr, hs, h, im⟩ => im _ _ h H [] (Ext.refl H) hs trivial⟩
theorem jp_cons (hk : JE B X k tk) (hv : JE B X v tv) (hr : JP B X pos ks vs tr) : JP B X pos (some k :: ks) (v :: vs) (wPCons tk tv tr) := by
  obtain ⟨trs, hp, h0⟩ := hr
  refine ⟨_, pps_cons hk hv hp, fun σ H Q ⟨st, S, Q0, he, hr, hs, h, im⟩ => ?_⟩
  refine ⟨st, S, _, he, hr, hs, h, fun x S1 h1 H1 u1 e1 s1 r1 => ?_⟩
  refine ⟨st, S1, _, he.trans e1, hr.mono e1, s1, h1, fun y S2 h2 H2 u2 e2 s2 r2 => ?_⟩
  refine h0 σ H2 _ ⟨st, S2, _, (he.trans e1).trans e2, (hr.mono e1).mono e2, s2, h2, fun ps S3 h3 H3 us e3 s3 r3 => ?_⟩
  exact im _ _ h3 H3 _ ((e1.trans e2).trans e3) s3 ⟨Rep.mono (e2.trans e3) _ _ r1, Rep.mono e3 _ _ r2, r3⟩
def mergeT (kvs more : List (Key × T)) : List (Key × T) := more.foldl (fun acc kv => putT acc kv.1 kv.2) kvs
theorem KRep.merge {K : PySem.W.Frag} {H : Hp} : ∀ {more : List (Key × T)} {ms : List (Key × V)} {kvs : List (Key × T)} {us : List (Key × V)}, KRep K H more ms → KRep K H kvs us → KRep K H (mergeT kvs more) (mergeK us ms)
  | [], _, _, _, h, g => by cases h; exact g
  | (f, t) :: more, _, kvs, us, h, g => by
    cases h with
    | @cons _ _ v _ gs r h1 => exact (KRep.merge (more := more) (ms := gs) (kvs := putT kvs f t) (us := putK us f v) h1 (KRep.putd f r g))
/-- keys of the pairs -/
def keysP : List (T × T) → Option (List (Key × T))
  | [] => some []
  | (a, b) :: r => match keyT a with
    | some k => (keysP r).map fun l => (k, b) :: l
    | none => none
theorem keysP_rep {K : PySem.W.Frag} {H : Hp} : ∀ {ps : List (T × T)} {us : List (V × V)} {l : List (Key × T)}, PRep K H ps us → keysP ps = some l → ∃ ms, KRep K H l ms ∧ us = ms.map (fun kv => (kV kv.1, kv.2)) ∧ ms.length = ps.length
  | [], [], _, _, e => by cases e; exact ⟨[], .nil, rfl, rfl⟩
  | (a, b) :: r, (x, y) :: t, l, ⟨h1, h2, h3⟩, e => by
    unfold keysP at e
    cases ek : keyT a with
    | none => rw [ek] at e; cases e
    | some k =>
      rw [ek] at e
      simp only at e
      cases el : keysP r with
      | none => rw [el] at e; cases e
      | some l' =>
        rw [el] at e
        cases e
        obtain ⟨ms, g1, g2, g3⟩ := keysP_rep h3 el
        exact ⟨(k, y) :: ms, .cons h2 g1, by rw [keyT_rep h1 ek, g2]; rfl, by rw [List.length_cons, List.length_cons, g3]⟩
def wDisp (t : WP) (σ : Sl) (S : Sta) (Q : T → Sta → Prop) : Prop := ∀ p, S p = none → t σ (upS S p (.dct [])) fun ps S2 => S2 p = some (.dct []) ∧ ps.length ≤ 15 ∧ ∃ l, keysP ps = some l ∧ Q (.ref p) (upS S2 p (.dct (mergeT [] l)))
theorem j_disp (h : JP B X pos ks vs tr) (hall : ks.all (·.isSome) = true) (hl : ks.length = vs.length) (h0 : ks ≠ []) (h15 : ks.length ≤ 15 := by decide) : JE B X (.Dict ks vs pos) (wDisp tr) := by
  obtain ⟨trs, hp, h1⟩ := h
  refine pe_imp (pe_disp hp hall hl h0 h15) fun σ H Q ⟨st, S, Q0, he, hr, hs, h, im⟩ => fun p hpn => ?_
  obtain ⟨e1, s1⟩ := hs.newO (o' := .dct []) hpn fun ex => ⟨[], upd_same, .nil⟩
  refine h1 σ _ _ ⟨st, _, _, he.trans e1, hr.mono e1, s1, h p (hs.free hpn), fun ps S2 h2 H2 us e2 s2 r2 => ?_⟩
  obtain ⟨eS, hlen, l, el, q⟩ := h2
  obtain ⟨xs, g1, g2⟩ := s2 p _ eS
  cases g2
  obtain ⟨ms, m1, m2, m3⟩ := keysP_rep r2 el
  refine ⟨g1, ms, m2, by omega, ?_⟩
  obtain ⟨e3, s3⟩ := s2.setO (o' := .dct (mergeT [] l)) g1 trivial fun ex => ⟨mergeK [] ms, upd_same, KRep.mono ex (KRep.merge m1 .nil)⟩
  exact im _ _ q _ _ ((e1.trans e2).trans e3) s3 (.ref p)
end
/-! ### a > b, texts too -/
def rGt : R3 := rCmp (fun i j => decide (j < i)) fun a b => decide (b < a)
theorem o_gtA {X : Cx} : OpT X (compareOp .Gt) rGt := by
  intro pins s σ H x y v u Q I rx ry ⟨a, b, S, Q0, ra, rb, hs, q, im⟩
  cases a with
  | int i =>
    cases b with
    | int j =>
      cases ra
      cases rb
      exact op_gt pins s σ H _ _ v u Q I rx ry ⟨i, j, rfl, rfl, im _ _ q H _ (Ext.refl H) hs (.bl _)⟩
    | _ => exact q.elim
  | str i =>
    cases b with
    | str j =>
      cases ra
      cases rb
      exact op_gt_str pins s σ H _ _ v u Q I rx ry ⟨i, j, rfl, rfl, im _ _ q H _ (Ext.refl H) hs (.bl _)⟩
    | _ => exact q.elim
  | _ => exact q.elim
end Wp

set_option Elab.async false
set_option linter.all false
set_option maxRecDepth 100000
set_option maxHeartbeats 4000000
/-! tuple * 0, tuple * 1 -/
namespace Wp
open PySem PySem.Spec PyProof.Rows L2
theorem tuple_mul1 (l : Addr) (items : Array Value) (n : Nat) (dd : Option Addr) (sl : Array (Option Value)) (x : Int) (u : Tok) (c0 : (decide (x < -(2 ^ 63)) || decide (x ≥ 2 ^ 63)) = false) (c1 : (items.isEmpty || x == 1) = true) :
    Meets (Builtin.«tuple.__mul__» ⟨[.ref l, .int x u], []⟩) (fun _ R s => s.heap.get? l = some { cls := .type "tuple", dict := dd, data := .seq items n, slots := sl } ∧ R (.ok (.ret (Value.ref l))) s) :=
  .of_wp fun prog w A R s h => by
    obtain ⟨hp, g, d, tk, os⟩ := s
    obtain ⟨hl, h⟩ := h
    have f1 := AutoSeq1.idx_int
    wp_walk using wpAny_loadPart' hl
    repeat (first
      | (refine wpAny_ite_false (decide_eq_false (by rw [c0]; exact Bool.false_ne_true)) ?_; wp_walk using wpAny_loadPart' hl)
      | (refine wpAny_ite_true (decide_eq_true c1) ?_; wp_walk using wpAny_loadPart' hl))
    exact ⟨_, rfl, h⟩
theorem tuple_mul0 (l : Addr) (items : Array Value) (n : Nat) (dd : Option Addr) (sl : Array (Option Value)) (x : Int) (u : Tok) (c0 : (decide (x < -(2 ^ 63)) || decide (x ≥ 2 ^ 63)) = false) (c1 : (items.isEmpty || x == 1) = false) (c2 : (decide (x ≤ 0) || items.isEmpty) = true) :
    Meets (Builtin.«tuple.__mul__» ⟨[.ref l, .int x u], []⟩) (fun _ R s => s.heap.get? l = some { cls := .type "tuple", dict := dd, data := .seq items n, slots := sl } ∧
      R (.ok (.ret (Value.ref s.heap.objs.size))) { s with heap := s.heap.push { cls := Value.type "tuple", data := Data.seq #[] }, toks := s.toks }) :=
  .of_wp fun prog w A R s h => by
    obtain ⟨hp, g, d, tk, os⟩ := s
    obtain ⟨hl, h⟩ := h
    have f1 := AutoSeq1.idx_int
    wp_walk using wpAny_loadPart' hl
    repeat (first
      | (refine wpAny_ite_false (decide_eq_false (by rw [c0]; exact Bool.false_ne_true)) ?_; wp_walk using wpAny_loadPart' hl)
      | (refine wpAny_ite_false (decide_eq_false (by rw [c1]; exact Bool.false_ne_true)) ?_; wp_walk using wpAny_loadPart' hl)
      | (refine wpAny_ite_true (decide_eq_true c2) ?_; wp_walk using wpAny_loadPart' hl))
    exact ⟨_, rfl, h⟩
/-- products: of numbers; of a tuple and 0 or 1 -/
def rMulA (x : T) (y : T) (S : Sta) (Q : T → Sta → Prop) : Prop := match x, y with
  | .int i, .int j => CMul i j ∧ Q (.int (i * j)) S
  | .tup ts, .int k => (k = 0 ∨ k = 1) ∧ ts.length ≤ 1000000 ∧ Q (.tup (if k = 1 then ts else [])) S
  | _, _ => False
section
variable {X : Cx}
theorem o_mulA : OpT X (binaryOp .Mult) rMulA := by
  intro pins s σ H x y v u Q I rx ry ⟨a, b, S, Q0, ra, rb, hs, q, im⟩
  cases a with
  | int i =>
    cases b with
    | int j =>
      exact o_mul pins s σ H x y v u Q I rx ry ⟨.int i, .int j, S, Q0, ra, rb, hs, ⟨q.1, q.2⟩, im⟩
    | _ => exact q.elim
  | tup ts =>
    cases b with
    | int k =>
      cases rb
      cases ra with
      | @tup l xs _ h1 h2 =>
        obtain ⟨hk, hz, q⟩ := q
        cases rx
        obtain ⟨t, rfl⟩ := ry
        obtain ⟨its, r, ⟨⟨cls, dd, data, sl⟩, ho, hc, n, hd⟩, hs2⟩ := I.tuple (sqT_of (K := X.K) h1)
        simp only at hc hd
        subst hc hd
        have c0 : (decide (k < -(2 ^ 63)) || decide (k ≥ 2 ^ 63)) = false := by
          rw [decide_eq_false (by omega), decide_eq_false (by omega)] <;> rfl
        by_cases c1 : (its.toArray.isEmpty || k == 1) = true
        · have hts : (if k = 1 then ts else []) = ts := by
            by_cases e : k = 1
            · rw [if_pos e]
            · rw [if_neg e]
              have e2 : its.toArray.isEmpty = true := by
                rcases Bool.or_eq_true _ _ ▸ c1 with z | z
                · exact z
                · exact absurd (by simpa using z) e
              have e3 : its = [] := by
                cases its with
                | nil => rfl
                | cons a b => cases e2
              have e4 := r.length
              rw [e3] at e4
              have e5 := h2.length
              exact (List.eq_nil_of_length_eq_zero (e5.trans e4)).symm
          rw [hts] at q
          refine wpAny_binaryOp_repeat_ref (T := "tuple") (U := "int") (by decide) ⟨_, ho, rfl⟩ (fun s' => typeIs_int s' k t) noFill_tuple_mul F.fills_int_mul F.slot_int_rmul repeat_tuple F.slot_int_index.lookup
            (call_meets F.slot_int_rmul (typeIs_int s k t) F.entry_int_rmul (F.args_int_rmul_2 _ _) (int_rmul_tuple k t l its.toArray n dd sl)
              ⟨ho, rfl, ⟨_, ho, rfl⟩, call_meets F.slot_tuple_mul ⟨_, ho, rfl⟩ F.entry_tuple_mul (F.args_tuple_mul_2 _ _) (tuple_mul1 l its.toArray n dd sl k t c0 c1) ⟨ho, ?_⟩⟩)
          exact ⟨.ref l, H, I, rfl, im _ _ q H _ (Ext.refl H) hs (.tup h1 h2)⟩
        · have c1 : (its.toArray.isEmpty || k == 1) = false := by simpa using c1
          have hk0 : k = 0 := by
            rcases hk with e | e
            · exact e
            · rw [e] at c1; simp at c1
          subst hk0
          rw [if_neg (by decide)] at q
          refine wpAny_binaryOp_repeat_ref (T := "tuple") (U := "int") (by decide) ⟨_, ho, rfl⟩ (fun s' => typeIs_int s' 0 t) noFill_tuple_mul F.fills_int_mul F.slot_int_rmul repeat_tuple F.slot_int_index.lookup
            (call_meets F.slot_int_rmul (typeIs_int s 0 t) F.entry_int_rmul (F.args_int_rmul_2 _ _) (int_rmul_tuple 0 t l its.toArray n dd sl)
              ⟨ho, rfl, ⟨_, ho, rfl⟩, call_meets F.slot_tuple_mul ⟨_, ho, rfl⟩ F.entry_tuple_mul (F.args_tuple_mul_2 _ _) (tuple_mul0 l its.toArray n dd sl 0 t c0 c1 (by rw [decide_eq_true (by decide), Bool.true_or])) ⟨ho, ?_⟩⟩)
          have hp : H s.heap.objs.size = none := I.hok.fresh (Nat.le_refl _)
          refine ⟨.ref s.heap.objs.size, _, I.laid (t' := s.toks) (o := .tup []) (fun b ob q => Heap.get?_push_of_some _ q) (Nat.le_refl _) ?_, rfl, im _ _ q _ _ (Ext.new hp) (hs.new hp _) (.tup upd_same .nil)⟩
          exact ⟨by rw [sizeLine_eq]; decide, _, .nil, IsTup.new _ _⟩
    | _ => exact q.elim
  | _ => exact q.elim
end
end Wp

set_option Elab.async false
set_option linter.all false
set_option maxRecDepth 100000
set_option maxHeartbeats 4000000
/-! lists of lists: ==, and x[::-1] -/
namespace Wp
open PySem PySem.Spec PyProof.Rows L2
section
variable {B : Hp} {X : Cx} {a b : Expr} {ta tb : WE} {pos : Pos}
def rRev (x : T) (S : Sta) (Q : T → Sta → Prop) : Prop := match x with
  | .ref p => ∃ ts, S p = some (.lst ts) ∧ ∀ q, S q = none → Q (.ref q) (upS S q (.lst ts.reverse))
  | _ => False
def wRev (t : WE) (σ : Sl) (S : Sta) (Q : T → Sta → Prop) : Prop := t σ S fun x S1 => rRev x S1 Q
theorem j_rev {k : Nat} {p1 p2 p3 : Pos} (ha : JE B X a ta) : JE B X (.Subscript a (.Slice none none (some (.UnaryOp .USub (.Constant (.int 1) k p1) p2)) p3) pos) (wRev ta) :=
  pe_imp (pe_revL ha) fun σ H Q ⟨st, S, Q0, he, hr, hs, h, im⟩ => by
    refine ⟨st, S, _, he, hr, hs, h, fun x S1 h1 H1 v e1 s1 r1 => ?_⟩
    cases x with
    | ref p =>
      obtain ⟨ts, e, q⟩ := h1
      cases r1
      obtain ⟨xs, g1, g2⟩ := s1 p _ e
      refine ⟨p, xs, rfl, .inl (.inl g1), fun p' hp' => ?_⟩
      obtain ⟨e3, s3⟩ := s1.newL hp' g2.reverse
      exact im _ _ (q p' (s1.free hp')) _ _ (e1.trans e3) s3 (.ref p')
    | _ => exact h1.elim
def see2 (S : Sta) : T → T
  | .ref p => match S p with
    | some (.lst ts) => .fl (ts.map (see S))
    | _ => .ref p
  | t => t
theorem see2_ref {S : Sta} {p : Addr} {ts : List T} (h : S p = some (.lst ts)) : see2 S (.ref p) = .fl (ts.map (see S)) := by simp only [see2, h]
theorem sees_dp {K : PySem.W.Frag} {H : Hp} {S : Sta} (hs : St K S H) : ∀ (ts : List T) (vs : List V) (ds : List PyData), Reps K H ts vs → toDs (ts.map (see S)) = some ds → DpAll K H vs ds
  | [], _, _, r, e => by cases r; simp only [List.map_nil, toDs, Option.some.injEq] at e; subst e; exact .nil
  | t :: ts, _, ds, r, e => by
    cases r with
    | cons h1 h2 =>
      simp only [List.map_cons, toDs] at e
      cases e1 : toD (see S t) with
      | none => rw [e1] at e; cases e
      | some d =>
        cases e2 : toDs (ts.map (see S)) with
        | none => rw [e1, e2] at e; cases e
        | some es =>
          rw [e1, e2] at e
          cases e
          exact .cons (dd_dp hs h1 (by rw [dd_see]; exact e1)) (sees_dp hs ts _ es h2 e2)
theorem see2_dp {K : PySem.W.Frag} {H : Hp} {S : Sta} {t : T} {v : V} {d : PyData} (hs : St K S H) (r : Rep K H t v) (e : toD (see2 S t) = some d) : Dp K H v d := by
  cases t with
  | ref p =>
    cases r
    simp only [see2] at e
    cases q : S p with
    | none => rw [q] at e; simp only [toD] at e; cases e
    | some o =>
      rw [q] at e
      cases o with
      | ins C fs => simp only [toD] at e; cases e
      | dct kvs => simp only [toD] at e; cases e
      | dtt kvs => simp only [toD] at e; cases e
      | lst ts =>
        simp only [toD, Option.map_eq_some_iff] at e
        obtain ⟨ds, e1, e2⟩ := e
        subst e2
        obtain ⟨xs, h1, h2⟩ := hs p _ q
        exact .lst (.inl (.inl h1)) (sees_dp hs ts _ ds h2 e1)
  | non => exact Rep.dp _ _ _ r e
  | bl b => exact Rep.dp _ _ _ r e
  | int b => exact Rep.dp _ _ _ r e
  | str b => exact Rep.dp _ _ _ r e
  | tup b => exact Rep.dp _ _ _ r e
  | fl b => exact Rep.dp _ _ _ r e
  | pt b => exact Rep.dp _ _ _ r e
def rEq2 (neg : Bool) (x : T) (y : T) (S : Sta) (Q : T → Sta → Prop) : Prop := ∃ d, toD (see2 S x) = some d ∧ ∃ e, toD (see2 S y) = some e ∧ SeqAt.shaped d = true ∧ SeqAt.shaped e = true ∧ Q (.bl (neg != PyData.eqv d e)) S
theorem o_eq2 (hu : X.A.units + 64 < cLine) : OpT X (compareOp .Eq) (rEq2 false) := by
  intro pins s σ H x y v u Q I rx ry ⟨a, b, S, Q0, ra, rb, hs, ⟨d, h1, e, h2, h3, h4, q⟩, im⟩
  refine op_eqD hu pins s σ H _ _ v u Q I rx ry ⟨d, e, see2_dp hs ra h1, see2_dp hs rb h2, h3, h4, ?_⟩
  rw [Bool.false_bne] at q
  exact im _ _ q H _ (Ext.refl H) hs (.bl _)
theorem o_ne2 (hu : X.A.units + 64 < cLine) : OpT X (compareOp .NotEq) (rEq2 true) := by
  intro pins s σ H x y v u Q I rx ry ⟨a, b, S, Q0, ra, rb, hs, ⟨d, h1, e, h2, h3, h4, q⟩, im⟩
  refine op_neD hu pins s σ H _ _ v u Q I rx ry ⟨d, e, see2_dp hs ra h1, see2_dp hs rb h2, h3, h4, ?_⟩
  rw [Bool.true_bne] at q
  exact im _ _ q H _ (Ext.refl H) hs (.bl _)
theorem rEq2_same {neg : Bool} {x y : T} {S : Sta} {Q : T → Sta → Prop} {z : T} (ex : see2 S x = z) (ey : see2 S y = z) (hz : nbT z = true) (dz : dpT z ≤ 60) (h : Q (.bl neg) S) : rEq2 (!neg) x y S Q := by
  obtain ⟨d, a1, a2, a3⟩ := nb_toD _ hz
  have sh : SeqAt.shaped d = true := by unfold SeqAt.shaped; rw [a2, Bool.true_and]; exact decide_eq_true (by omega)
  refine ⟨d, by rw [ex]; exact a1, d, by rw [ey]; exact a1, sh, sh, ?_⟩
  rw [(nb_eqv _ _ d d hz hz a1 a1).mpr rfl]
  cases neg <;> exact h
end
end Wp

set_option Elab.async false
set_option linter.all false
set_option maxRecDepth 100000
set_option maxHeartbeats 4000000
/-! sorted(d.items()) of a dict of whole numbers by whole numbers -/
namespace Wp
open PySem PySem.Spec PyProof.Rows L2
/-- what the pair at an address is, told by the places of the addresses -/
theorem place : ∀ (bs : List Addr) (es : List (Int × Int)), bs.Nodup → ∃ f : Addr → Int × Int, ∀ z ∈ bs.zip es, f z.1 = z.2
  | [], _, _ => ⟨fun _ => (0, 0), fun z hz => by simp at hz⟩
  | _ :: _, [], _ => ⟨fun _ => (0, 0), fun z hz => by simp at hz⟩
  | b :: bs, e :: es, nd => by
    rw [List.nodup_cons] at nd
    obtain ⟨f, hf⟩ := place bs es nd.2
    refine ⟨fun x => if x = b then e else f x, fun z hz => ?_⟩
    rw [List.zip_cons_cons] at hz
    rcases List.mem_cons.mp hz with q | q
    · subst q; exact if_pos rfl
    · have : z.1 ≠ b := fun w => nd.1 (by rw [← w]; exact (List.of_mem_zip q).1)
      show (if z.1 = b then e else f z.1) = z.2
      rw [if_neg this]
      exact hf z q
/-- a pair as the machine holds it, its object known whole -/
def PairObj (h : Heap) (z : Addr × Int × Int) : Prop := ∃ t u : Tok, h.get? z.1 = some { cls := .type "tuple", data := .seq #[Value.int z.2.1 t, Value.int z.2.2 u] }
section
variable {P : Program} {w : World} {A : Around} {E : Value → Shared → Prop} {s : Shared}
/-- the machine's side: what sorted makes of the view -/
theorem sorted_view {r d : Addr} {es : Array DictEntry} {ep : Nat} {ks : List (Int × Int)} {Q : Value → Shared → Prop} (hh : A.handled = none) (view : s.heap.IsItemsView r d) (raw : DT.Raw s.heap d es ep) (many : es.size = ks.length) (fits : ks.length ≤ sizeLine)
    (ent : ∀ (j : Nat) (e : DictEntry), es.toList[j]? = some e → ∃ (k : Int × Int) (t u : Tok), ks[j]? = some k ∧ e.key = .int k.1 t ∧ e.val = .int k.2 u)
    (h : ∀ (hp : Heap) (tk : Nat) (l : Addr) (zs : List (Addr × Int × Int)), (∀ b o, s.heap.get? b = some o → hp.get? b = some o) → s.heap.objs.size ≤ l → (∃ c, hp.get? l = some { cls := .type "list", data := .seq (zs.map fun z => Value.ref z.1).toArray c }) →
      (zs.map (·.2)).Perm ks → (zs.map (·.2)).Pairwise (fun e f => e.1 ≤ f.1) → (zs.map (·.1)).Nodup → (∀ z ∈ zs, s.heap.objs.size ≤ z.1 ∧ z.1 ≠ l ∧ PairObj hp z) → Q (.ref l) { s with heap := hp, toks := tk }) :
    wpAny (model P w) A (call (.builtin "sorted") [.ref r]) Q E s := by
  refine DT.sortedI hh view raw (many ▸ fits) fun h1 tk bs old big len made => ?_
  have len : bs.length = ks.length := len.trans many
  have nd : bs.Nodup := made.rise.imp Nat.ne_of_lt
  obtain ⟨f, hf⟩ := place bs ks nd
  have objs : ∀ z ∈ bs.zip ks, PairObj h1 z := fun z hz => by
    obtain ⟨j, hj⟩ := List.mem_iff_getElem?.mp hz
    obtain ⟨j1, j2⟩ := List.getElem?_zip_eq_some.mp hj
    obtain ⟨e, he, hg⟩ := made.pairs j _ j1
    obtain ⟨k, t, u, a, b, c⟩ := ent j e (by rw [Array.getElem?_toList]; exact he)
    obtain rfl : k = z.2 := Option.some.inj (a.symm.trans j2)
    exact ⟨t, u, by rw [hg, b, c]⟩
  have below : ∀ {b : Addr} {o : Obj}, h1.get? b = some o → b ≠ h1.objs.size := fun q => Nat.ne_of_lt (Heap.lt_size q)
  obtain ⟨h2, e2⟩ : ∃ h2, h1.push { cls := .type "list", data := .seq (bs.map Value.ref).toArray } = h2 := ⟨_, rfl⟩
  have lay : h2.get? h1.objs.size = some (seqObj "list" (bs.map Value.ref).toArray 0) := by rw [← e2]; exact Heap.get?_push_size _ rfl
  have grown : ∀ {b : Addr} {o : Obj}, h1.get? b = some o → h2.get? b = some o := fun q => by rw [← e2]; exact Heap.get?_push_of_some _ q
  rw [e2]
  have inz : ∀ v ∈ bs.map Value.ref, ∃ z ∈ bs.zip ks, v = .ref z.1 := fun v hv => by
    obtain ⟨b, hb, rfl⟩ := List.mem_map.mp hv
    obtain ⟨j, hj⟩ := List.mem_iff_getElem?.mp hb
    have hl : j < ks.length := by rw [← len]; exact (List.getElem?_eq_some_iff.mp hj).1
    exact ⟨(b, ks[j]), List.mem_of_getElem? (List.getElem?_zip_eq_some.mpr ⟨hj, List.getElem?_eq_getElem hl⟩), rfl⟩
  let g : Value → Int × Int := fun v => match v with
    | Value.ref b => f b
    | _ => ((0 : Int), (0 : Int))
  refine wpAny_call_entry PyProof.Rows.slot_list_sort ⟨_, lay, rfl⟩ PyProof.Rows.entry_list_sort
    (SrtO.list_sort_ord (s := { s with heap := h2, toks := tk }) (vs := bs.map Value.ref) (SrtO.swo_lex g) lay (by rw [List.length_map, len]; exact fits) (fun two => SrtO.pairs_sortableO (by omega) (fun v hv => ?_) fun o q => ?_) fun out srt stb => ⟨.none, rfl, ?_⟩) (PyProof.Rows.args_list_sort _)
  · obtain ⟨z, hz, rfl⟩ := inz v hv
    obtain ⟨t, u, q⟩ := objs z hz
    rw [show g (Value.ref z.1) = z.2 from hf z hz]
    exact ⟨z.1, _, t, u, 0, rfl, grown q, rfl, rfl⟩
  · obtain rfl : o = seqObj "list" (bs.map Value.ref).toArray 0 := Option.some.inj (q.symm.trans lay)
    exact fun c => absurd (Value.type.inj c) (by decide)
  · have firsts : (bs.zip ks).map (fun z => Value.ref z.1) = bs.map Value.ref := by
      rw [show (fun z : Addr × Int × Int => Value.ref z.1) = Value.ref ∘ Prod.fst from rfl, ← List.map_map, List.map_fst_zip (Nat.le_of_eq len)]
    obtain ⟨zs, perm, rfl⟩ := perm_lift (fun z : Addr × Int × Int => Value.ref z.1) stb.perm (bs.zip ks) firsts
    have hz : ∀ z ∈ zs, z ∈ bs.zip ks := fun z q => perm.mem_iff.mp q
    have kept : ∀ {b : Addr} {o : Obj}, h1.get? b = some o → (sortedHeap h2 h1.objs.size (bs.map Value.ref) (zs.map fun z => Value.ref z.1).toArray).get? b = some o := fun q => (PyProof.Rows.sortedHeap_old (below q) (Heap.lt_size (grown q))).trans (grown q)
    refine h _ tk h1.objs.size zs (fun b o q => kept (old b o q)) (Nat.le_of_lt big) ?_ ?_ ?_ ?_ fun z q => ?_
    · obtain ⟨c, q⟩ := PyProof.Rows.sortedHeap_at (vs := bs.map Value.ref) (out := (zs.map fun z => Value.ref z.1).toArray) lay
      exact ⟨c, q⟩
    · have q := perm.map (·.2)
      rwa [List.map_snd_zip (Nat.le_of_eq len.symm)] at q
    · have q : (zs.map fun z => Value.ref z.1).Pairwise fun x y => SrtO.lexB (g y) (g x) = false := srt
      rw [List.pairwise_map] at q ⊢
      refine q.imp_of_mem fun {x y} hx hy q => ?_
      have q : SrtO.lexB (f y.1) (f x.1) = false := q
      rw [hf x (hz x hx), hf y (hz y hy)] at q
      have := SrtO.lexB_no.mp q
      omega
    · refine (perm.map (·.1)).nodup_iff.mpr ?_
      rw [List.map_fst_zip (Nat.le_of_eq len)]
      exact nd
    · obtain ⟨t, u, e⟩ := objs z (hz z q)
      exact ⟨Nat.le_of_lt (made.above _ (List.of_mem_zip (hz z q)).1), below e, t, u, kept e⟩
end
/-- the entries of such a dict, one by one -/
theorem ents_at : ∀ {es : List DictEntry} {vs : List (Key × Value)} {ks : List (Int × Int)} {P : Program} {w : World}, KV (ks.map fun e => ((Sum.inl e.1 : Key), V.int e.2)) vs → Pairs (mixKind P w) es vs → es.length = ks.length ∧ ∀ (j : Nat) (e : DictEntry), es[j]? = some e → ∃ (k : Int × Int) (t u : Tok), ks[j]? = some k ∧ e.key = .int k.1 t ∧ e.val = .int k.2 u
  | _, _, [], _, _, r, p => by
    cases r
    cases p
    exact ⟨rfl, fun j e h => by simp at h⟩
  | _, _, k :: ks, P, w, r, p => by
    cases r with
    | cons h t =>
      cases p with
      | cons h1 h2 t2 =>
        obtain ⟨l, g⟩ := ents_at t t2
        refine ⟨by rw [List.length_cons, List.length_cons, l], fun j e he => ?_⟩
        cases j with
        | zero =>
          simp only [List.getElem?_cons_zero, Option.some.injEq] at he
          subst he
          obtain ⟨e1, e2⟩ := h
          have e1 : Sum.inl k.1 = _ := e1
          rw [← e1] at h1
          rcases keyIs_shape (k := Sum.inl k.1) h1 with ⟨i, t', a1, a2⟩ | ⟨x, t', a1, a2⟩
          · have a1 := Sum.inl.inj a1
            subst a1
            obtain ⟨u, e2⟩ := e2
            exact ⟨k, t', u, rfl, a2, by rw [h2]; exact e2⟩
          · exact nomatch a1
        | succ j => exact g j e (by simpa using he)
/-- the view d.items() of a dict with keys of any kind -/
def rItemsI : V → List V → Hp → VK → Prop := fun x xs H Q => ∃ (a : Addr) (kvs : List (Key × V)), x = .ref a ∧ xs = [] ∧ Rd H a (.dK kvs) ∧ ∀ p, H p = none → Q (.ref p) (upd H p (DX.itemsO p a))
def rSortDI : List V → Hp → VK → Prop := fun vs H Q => ∃ (p a : Addr) (ks : List (Int × Int)), vs = [.ref p] ∧ H p = some (DX.itemsO p a) ∧ Rd H a (.dK (ks.map fun e => ((Sum.inl e.1 : Key), V.int e.2))) ∧
  ∀ (H' : Hp) (l : Addr) (zs : List (Addr × Int × Int)), (∀ b o, H b = some o → H' b = some o) → (zs.map (·.2)).Perm ks → (zs.map (·.2)).Pairwise (fun e f => e.1 ≤ f.1) → H' l = some (.lst (zs.map fun z => V.ref z.1)) →
    (∀ z ∈ zs, H' z.1 = some (.tup [.int z.2.1, .int z.2.2])) → Q (.ref l) H'
section
variable {X : Cx}
theorem m_itemsI : MtR X "dict.items" rItemsI := fun pins s σ H x xs v us Q I rx rxs ⟨a, kvs, ex, exs, ha, q⟩ => by
  subst ex exs
  obtain rfl : v = Value.ref a := rx
  cases rxs
  obtain ⟨_, top, _, _, o, es, ep, ho, hx, hdat, _⟩ := dk_rd I.hok ha
  have new : H s.heap.objs.size = none := I.hok.fresh (Nat.le_refl _)
  exact DT.callItems (es := es) (ep := ep) top ⟨o, ho, hx, hdat⟩ ⟨.ref _, _, I.laid (t' := s.toks) (fun _ _ e => Heap.get?_push_of_some _ e) (Nat.le_refl _) (DX.itemsO_ok (Heap.get?_push_size _ rfl)), rfl, q _ new⟩
theorem c_sortDI (hc : X.calm = true) : CallR X (.builtin "sorted") rSortDI := fun pins s σ H xs us Q I r ⟨p, a, ks, ex, hp, ha, q⟩ => by
  subst ex
  obtain rfl := Vals.ref1 r
  obtain ⟨short, _, vs, rel, o, es, ep, ho, hx, hdat, _, hP, _⟩ := dk_rd I.hok ha
  rw [List.length_map] at short
  obtain ⟨many, ent⟩ := ents_at rel hP
  have view : s.heap.IsItemsView p a := (show ObjOk X.prog X.w H s.heap p (DX.itemsO p a) from I.hok p _ hp).1
  refine sorted_view (ks := ks) (I.ok.hd hc) view ⟨o, ho, hx, hdat⟩ (by rw [← many]; exact Array.length_toList.symm) short ent fun hp tk l zs keep hl ⟨c, lst⟩ perm srt nd fresh => ?_
  have free : ∀ b, s.heap.objs.size ≤ b → H b = none := fun b z => I.hok.fresh z
  have J : Inv X pins σ (upd H l (.lst (zs.map fun z => V.ref z.1))) { s with heap := hp, toks := tk } :=
    I.laid (t' := tk) keep hl ⟨by rw [List.length_map]; have := perm.length_eq; rw [List.length_map] at this; omega, zs.map fun z => Value.ref z.1, c, vals_maps (fun z : Addr × Int × Int => V.ref z.1) (fun z => Value.ref z.1) zs fun _ _ => rfl, lst⟩
  obtain ⟨H2, J2, up, tups⟩ := DX.takeT (P := fun b vs => ∃ z ∈ zs, z.1 = b ∧ vs = [V.int z.2.1, V.int z.2.2]) I (zs.map (·.1)) _ J nd fun b hb => by
    obtain ⟨z, hz, rfl⟩ := List.mem_map.mp hb
    obtain ⟨z1, z2, t, u, z3⟩ := fresh z hz
    exact ⟨z1, by rw [upd_ne z2]; exact free _ z1, _, ⟨z, hz, rfl, rfl⟩, fun H3 => ⟨by rw [sizeLine_eq]; show 2 ≤ 16777216; omega, [Value.int z.2.1 t, Value.int z.2.2 u], .cons ⟨t, rfl⟩ (.cons ⟨u, rfl⟩ .nil), _, z3, rfl, 0, rfl⟩⟩
  refine ⟨.ref l, H2, J2, rfl, q H2 l zs (fun b o e => up b o ?_) perm srt (up _ _ upd_same) fun z hz => ?_⟩
  · rw [upd_ne fun z => by rw [z, free l hl] at e; cases e]
    exact e
  · obtain ⟨vs, ⟨y, hy, e1, e2⟩, e3⟩ := tups z.1 (List.mem_map.mpr ⟨z, hz, rfl⟩)
    have : y = z := by
      obtain ⟨i, hi⟩ := List.mem_iff_getElem?.mp hy
      obtain ⟨j, hj⟩ := List.mem_iff_getElem?.mp hz
      have hij : i = j := (List.getElem?_inj (by rw [List.length_map]; exact (List.getElem?_eq_some_iff.mp hi).1) nd).mp (by rw [List.getElem?_map, List.getElem?_map, hi, hj, Option.map_some, Option.map_some, e1])
      rw [hij, hj] at hi
      exact (Option.some.inj hi).symm
    rw [e3, e2, this]
end
end Wp

set_option Elab.async false
set_option linter.all false
set_option maxRecDepth 100000
set_option maxHeartbeats 4000000
/-! a tuple that is known to have no dict of its own, and dict(x) of a tuple of pairs -/
namespace Wp
open PySem PySem.Spec PyProof.Rows L2
/-- a tuple, the whole object known -/
def TupX (H : Hp) (a : Addr) (xs : List V) : Prop := ∃ o, o.dict = none ∧ H a = some (.frz o (.tup xs))
/-- what the pairs at these addresses hold: the key, the key's value, the value -/
theorem held {X : Cx} {pins : List (Addr × Obj)} {σ : L2.St} {H : Hp} {s : Shared} (I : Inv X pins σ H s) : ∀ (ps : List Addr) (kvs : List (Key × V)), Paired (fun p kv => SqT X.K H p [kV kv.1, kv.2]) ps kvs →
    ∃ zs : List (Key × Value × Value), KV kvs (zs.map fun z => (z.1, z.2.2)) ∧ zs.length = ps.length ∧ ∀ (j : Nat) (z : Key × Value × Value), zs[j]? = some z → ∃ b, ps[j]? = some b ∧ IsTup s.heap b #[z.2.1, z.2.2] ∧ keyIs z.1 z.2.1 = true
  | [], _, h => by cases h; exact ⟨[], .nil, rfl, fun j z e => by simp at e⟩
  | b :: ps, _, h => by
    cases h with
    | @cons _ kv _ kvs h1 h2 =>
      obtain ⟨zs, r, l, g⟩ := held I ps kvs h2
      obtain ⟨_, vals, tup, _⟩ := I.tuple h1
      obtain ⟨k, v, e, rk, rv⟩ := vals2 vals
      subst e
      refine ⟨(kv.1, k, v) :: zs, .cons ⟨rfl, rv⟩ r, by rw [List.length_cons, List.length_cons, l], fun j z q => ?_⟩
      match j, q with
      | 0, q =>
        obtain rfl : (kv.1, k, v) = z := Option.some.inj q
        exact ⟨b, rfl, tup, kV_is (P := X.prog) (w := X.w) rk⟩
      | j + 1, q => exact g j z q
section
variable {X : Cx}
theorem c_tupX : CallR X (.type "tuple") (fun xs H Q => ∃ p ys, xs = [.ref p] ∧ SqL X.K H p ys ∧ ∀ l o, o.dict = none → H l = none → Q (.ref l) (upd H l (.frz o (.tup ys)))) := fun pins s σ H xs us Q I r ⟨p, ys, ex, hq, q⟩ => by
  subst ex
  obtain rfl := Vals.ref1 r
  obtain ⟨its, vals, pl, short⟩ := I.list hq
  refine call_tuple_list pl.isList (fun h1 keep => ?_) (by have := vals.length; simp only [List.size_toArray]; omega)
  have J : Inv X pins σ H { s with heap := h1 } := I.kept (t' := s.toks) keep
  refine ⟨.ref _, _, J.laid (t' := s.toks) (o := .frz { cls := .type "tuple", data := .seq its.toArray } (.tup ys)) (fun _ _ e => Heap.get?_push_of_some _ e) (Nat.le_refl _) ⟨Heap.get?_push_size _ rfl, short, its, vals, IsTup.new _ _⟩, rfl, ?_⟩
  exact q _ _ rfl (J.hok.fresh (Nat.le_refl _))
/-- dict(x) of a tuple of pairs -/
theorem c_dictPT (hc : X.calm = true) : CallR X (.type "dict") (fun xs H Q => ∃ (a : Addr) (ps : List Addr) (kvs : List (Key × V)), xs = [.ref a] ∧ TupX H a (ps.map V.ref) ∧ Paired (fun p kv => SqT X.K H p [kV kv.1, kv.2]) ps kvs ∧
    ∀ p, H p = none → Q (.ref p) (upd H p (.dK (mergeK [] kvs)))) := fun pins s σ H xs us Q I r ⟨a, ps, kvs, ex, ⟨o, plain, ha⟩, pairs, q⟩ => by
  subst ex
  obtain rfl := Vals.ref1 r
  obtain ⟨ho, short, its, vals, ⟨o2, ho2, cls, n, dat⟩⟩ := (show ObjOk X.prog X.w H s.heap a (.frz o (.tup (ps.map V.ref))) from I.hok a _ ha)
  obtain rfl : o = o2 := Option.some.inj (ho.symm.trans ho2)
  obtain rfl := refs_at vals
  obtain ⟨zs, rel, many, at_⟩ := held I ps kvs pairs
  rw [List.length_map] at short
  have item : ∀ (j : Nat) (k v : Value), (zs.map (·.2))[j]? = some (k, v) → ∃ z b, zs[j]? = some z ∧ z.2 = (k, v) ∧ ps[j]? = some b ∧ IsTup s.heap b #[k, v] ∧ keyIs z.1 k = true := fun j k v e => by
    rw [List.getElem?_map, Option.map_eq_some_iff] at e
    obtain ⟨z, e1, e2⟩ := e
    obtain ⟨b, g1, g2, g3⟩ := at_ j z e1
    rw [e2] at g2 g3
    exact ⟨z, b, e1, e2, g1, g2, g3⟩
  refine PySem.call_dict_pairs (knd := mixKind X.prog X.w) (kvs := zs.map fun z => (z.1, z.2.2)) (PySem.PairArg.tuple a (ps.map Value.ref).toArray (fun j => ps.getD j 0) (zs.map (·.2))) (I.ok.hd hc)
    ⟨⟨o, n, ho, cls, plain, dat⟩, by simp [many], fun j k v e => ?_⟩ ⟨by simp, fun j k v e => ?_⟩ (by rw [List.length_map, many]; exact short) fun hp tk dict keep => ?_
  · obtain ⟨z, b, _, _, g, tup, _⟩ := item j k v e
    have gb : ps.getD j 0 = b := by simp [g, List.getD_eq_getElem?_getD]
    exact ⟨by simp [g, gb], .inl (by show s.heap.IsTuple (ps.getD j 0) #[k, v]; rw [gb]; exact tup)⟩
  · obtain ⟨z, b, e1, e2, _, _, key⟩ := item j k v e
    exact ⟨z.1, by rw [List.getElem?_map, e1, Option.map_some, e2], key⟩
  · have size : (mergeK [] kvs).length ≤ sizeLine := by
      have g1 := length_mergeK kvs []
      have g2 := rel.length
      rw [List.length_map] at g2
      rw [List.length_nil] at g1
      omega
    refine ⟨.ref _, _, I.laid (t' := tk) (o := .dK (mergeK [] kvs)) (fun b o e => keep b o (fun z => nomatch z) e) (Nat.le_refl _) ⟨size, beq_eq_false_iff_ne.mpr (Nat.ne_of_gt I.big), _, KV.merge rel .nil, dict⟩, rfl, ?_⟩
    exact q _ (I.hok.fresh (Nat.le_refl _))
end
end Wp

set_option Elab.async false
set_option linter.all false
set_option maxRecDepth 100000
set_option maxHeartbeats 4000000
/-! the picture of a dict of whole numbers: tuple(sorted(d.items())), and back: dict(x) -/
namespace Wp
open PySem PySem.Spec PyProof.Rows L2
/-- entries of whole numbers -/
def entI (e : Int × Int) : Key × T := (Sum.inl e.1, .int e.2)
def prI (e : Int × Int) : T := .tup [.int e.1, .int e.2]
theorem entI_rep {K : PySem.W.Frag} {H : Hp} : ∀ {ks : List (Int × Int)} {xs : List (Key × V)}, KRep K H (ks.map entI) xs → xs = ks.map fun e => ((Sum.inl e.1 : Key), V.int e.2)
  | [], _, h => by cases h; rfl
  | k :: ks, _, h => by
    cases h with
    | cons h1 h2 =>
      cases h1
      rw [entI_rep h2]
      rfl
theorem entI_of {K : PySem.W.Frag} {H : Hp} : ∀ (ks : List (Int × Int)), KRep K H (ks.map entI) (ks.map fun e => ((Sum.inl e.1 : Key), V.int e.2))
  | [] => .nil
  | k :: ks => .cons (.int _) (entI_of ks)
theorem prI_reps {K : PySem.W.Frag} {H : Hp} : ∀ (zs : List (Addr × Int × Int)), (∀ z ∈ zs, H z.1 = some (.tup [.int z.2.1, .int z.2.2])) → Reps K H ((zs.map (·.2)).map prI) (zs.map fun z => V.ref z.1)
  | [], _ => .nil
  | z :: zs, h => .cons (.tup (h z (List.mem_cons_self ..)) (.cons (.int _) (.cons (.int _) .nil))) (prI_reps zs fun y hy => h y (List.mem_cons_of_mem _ hy))
theorem prI_of {K : PySem.W.Frag} {H : Hp} : ∀ {ks : List (Int × Int)} {vs : List V}, Reps K H (ks.map prI) vs → ∃ ps : List Addr, vs = ps.map V.ref ∧ Paired (fun p (kv : Key × V) => SqT K H p [kV kv.1, kv.2]) ps (ks.map fun e => ((Sum.inl e.1 : Key), V.int e.2))
  | [], _, h => by cases h; exact ⟨[], rfl, .nil⟩
  | k :: ks, _, h => by
    cases h with
    | cons h1 h2 =>
      obtain ⟨ps, rfl, q⟩ := prI_of h2
      cases h1 with
      | tup a b =>
        cases b with
        | cons b1 b2 =>
          cases b1
          cases b2 with
          | cons c1 c2 =>
            cases c1
            cases c2
            exact ⟨_ :: ps, rfl, .cons (sqT_of a) q⟩
section
variable {B : Hp} {X : Cx} {o : Expr} {to : WE}
def wSrtIt (to : WE) (σ : Sl) (S : Sta) (Q : T → Sta → Prop) : Prop := to σ S fun x S1 => match x with
  | .ref p => ∃ ks : List (Int × Int), S1 p = some (.dct (ks.map entI)) ∧ ∀ zs : List (Int × Int), zs.Perm ks → zs.Pairwise (fun e f => e.1 ≤ f.1) → Q (.pt (zs.map prI)) S1
  | _ => False
theorem j_srtIt {p1 p2 p3 p4 p5 p6 : Pos} (hc : X.calm = true) (g1 : Gl X "tuple") (m1 : X.mg "tuple" = none) (g2 : Gl X "sorted") (m2 : X.mg "sorted" = none) (ho : JE B X o to)
    (hbase : attributeBase o "items" X.env (eval o X.env) = eval o X.env := by rfl) (hline : (p5.endLine == p6.line) = true := by rfl) :
    JE B X (.Call (.Name "tuple" p1) [.Call (.Name "sorted" p2) [.Call (.Attribute o "items" p5) [] [] p6] [] p4] [] p3) (wSrtIt to) :=
  pe_imp (pe_callTy c_tupX g1 m1 rfl (pa_cons (pe_callB (c_sortDI hc) g2 m2 rfl (pa_cons (pe_bm0 PySem.F.plainAttrs_dict PySem.F.slot_dict_items PySem.F.type_dict_items m_itemsI ho hbase hline) pa_nil) (by decide) (by decide)) pa_nil) (by decide) (by decide)) fun σ H Q ⟨st, S, Q0, he, hr, hs, h, im⟩ => by
    refine ⟨st, S, _, he, hr, hs, h, fun x S1 h1 H1 v e1 s1 r1 => ?_⟩
    cases x with
    | ref p =>
      obtain ⟨ks, eS, q⟩ := h1
      cases r1
      obtain ⟨xs, d1, d2⟩ := s1 p _ eS
      obtain rfl := entI_rep d2
      refine ⟨.inr (.inr (.inl ⟨rfl, .inl ⟨_, d1⟩⟩)), p, _, rfl, rfl, .inl d1, fun w hw => ?_⟩
      have wp : p ≠ w := fun e => by rw [e, hw] at d1; cases d1
      refine ⟨w, p, ks, rfl, upd_same, .inl (by rw [upd_ne wp]; exact d1), fun H2 l zs keep perm srt hl ht => ?_⟩
      refine ⟨l, _, rfl, .inl (.inl hl), fun l2 ob plain hn => ?_⟩
      have ex2 : Ext H1 H2 := by
        have e2 : Ext H1 (upd H1 w (DX.itemsO w p)) := Ext.new hw
        exact ⟨fun b ys e => keep _ _ (e2.tups b ys e), fun b ob u e => keep _ _ (e2.frzs b ob u e), fun b hb => by
          obtain ⟨ps, e, t⟩ := e2.tabs b hb
          exact ⟨ps, keep _ _ e, t⟩⟩
      have ex3 : Ext H1 (upd H2 l2 (.frz ob (.tup (zs.map fun z => V.ref z.1)))) := ex2.trans (Ext.new hn)
      have old : ∀ a u, S1 a = some u → (upd H2 l2 (.frz ob (.tup (zs.map fun z => V.ref z.1)))) a = H1 a := fun a u e => by
        obtain ⟨u', hu, _⟩ := s1.has e
        have aw : a ≠ w := fun z => by rw [z, hw] at hu; cases hu
        have h2 : H2 a = some u' := keep a u' (by rw [upd_ne aw]; exact hu)
        rw [upd_ne (ne_of_none h2 hn), h2, hu]
      refine im _ _ (q (zs.map (·.2)) perm srt) _ _ (e1.trans ex3) (s1.keep ex3 old) (.pt plain upd_same ?_)
      exact Reps.mono (Ext.new hn) _ _ (prI_reps zs ht)
    | _ => exact h1.elim
/-- dict(x) of such a tuple, no key twice -/
def rDictP (xs : List T) (S : Sta) (Q : T → Sta → Prop) : Prop := match xs with
  | [.pt ts] => ∃ ks : List (Int × Int), ts = ks.map prI ∧ (ks.map (·.1)).Nodup ∧ ∀ p, S p = none → Q (.ref p) (upS S p (.dct (ks.map entI)))
  | _ => False
theorem mergeK_app : ∀ (kvs acc : List (Key × V)), ((acc ++ kvs).map (·.1)).Nodup → mergeK acc kvs = acc ++ kvs
  | [], acc, _ => by rw [List.append_nil]; rfl
  | kv :: kvs, acc, h => by
    have no : acc.any (fun z => decide (z.1 = kv.1)) = false := by
      rw [List.any_eq_false]
      intro z hz
      rw [List.map_append, List.map_cons, List.nodup_append] at h
      have := h.2.2 z.1 (List.mem_map.mpr ⟨z, hz, rfl⟩) kv.1 (List.mem_cons_self ..)
      simpa using this
    have e : putK acc kv.1 kv.2 = acc ++ [kv] := by
      unfold putK
      simp [no]
    have := mergeK_app kvs (acc ++ [kv]) (by rw [List.append_assoc]; exact h)
    rw [List.append_assoc] at this
    show mergeK (putK acc kv.1 kv.2) kvs = _
    rw [e]
    exact this
theorem c_dictP (hc : X.calm = true) : CallR X (.type "dict") (LC X.K rDictP) := by
  intro pins s σ H xs us Q I rx ⟨ts, S, Q0, r, hs, q, im⟩
  match ts, q with
  | [.pt ts], ⟨ks, e, nd, q⟩ =>
    subst e
    obtain ⟨v, rfl, r1⟩ := r.one
    cases r1 with
    | @pt a ob vs _ plain ha hr =>
      obtain ⟨ps, rfl, pr⟩ := prI_of hr
      refine c_dictPT hc pins s σ H _ us Q I rx ⟨a, ps, _, rfl, ⟨ob, plain, ha⟩, pr, fun p hp => ?_⟩
      have nd2 : (List.map (fun x : Key × V => x.1) ([] ++ ks.map fun e : Int × Int => ((Sum.inl e.1 : Key), V.int e.2))).Nodup := by
        rw [List.nil_append, List.map_map]
        have e : ((fun x : Key × V => x.1) ∘ fun e : Int × Int => ((Sum.inl e.1 : Key), V.int e.2)) = (Sum.inl ∘ fun e : Int × Int => e.1) := rfl
        rw [e, ← List.map_map]
        exact List.Pairwise.map _ (fun a b h e => h (Sum.inl.inj e)) nd
      rw [mergeK_app _ [] nd2, List.nil_append]
      obtain ⟨e3, s3⟩ := hs.newO (u' := .dK (ks.map fun e : Int × Int => ((Sum.inl e.1 : Key), V.int e.2))) (o' := .dct (ks.map entI)) hp fun ex => ⟨_, upd_same, entI_of ks⟩
      exact im _ _ (q p (hs.free hp)) _ _ e3 s3 (.ref p)
end
/-! equal data: of bools and plain tuples, too -/
mutual
def okT : T → Bool
  | .str x => PyData.strOk x
  | .tup ts => okTs ts
  | .fl ts => okTs ts
  | .pt ts => okTs ts
  | .ref _ => false
  | _ => true
def okTs : List T → Bool
  | [] => true
  | t :: ts => okT t && okTs ts
end
mutual
def dqT : T → Nat
  | .tup ts => dqTs ts + 1
  | .fl ts => dqTs ts + 1
  | .pt ts => dqTs ts + 1
  | _ => 0
def dqTs : List T → Nat
  | [] => 0
  | t :: ts => max (dqT t) (dqTs ts)
end
mutual
theorem ok_toD : ∀ t : T, okT t = true → ∃ d, toD t = some d ∧ d.canLay0 = true ∧ d.depth ≤ dqT t + 1 ∧ PyData.eqv d d = true
  | .non, _ => ⟨.none, by simp only [toD], by simp only [PyData.canLay0], by simp only [PyData.depth]; omega, by simp [PyData.eqv]⟩
  | .bl b, h => ⟨.bool b, by simp only [toD], by simp only [PyData.canLay0], by simp only [PyData.depth]; omega, by simp [PyData.eqv]⟩
  | .int i, _ => ⟨.int i, by simp only [toD], by simp only [PyData.canLay0], by simp only [PyData.depth]; omega, by simp [PyData.eqv]⟩
  | .str x, h => ⟨.str x, by simp only [toD], by simp only [PyData.canLay0]; simpa only [okT] using h, by simp only [PyData.depth]; omega, by simp [PyData.eqv]⟩
  | .tup ts, h => by
    obtain ⟨ds, e1, e2, e3, e4⟩ := ok_toDs ts (by simpa only [okT] using h)
    exact ⟨.tuple ds, by simp only [toD, e1, Option.map_some], by simpa only [PyData.canLay0] using e2, by simp only [PyData.depth, dqT]; omega, by simpa only [PyData.eqv] using e4⟩
  | .fl ts, h => by
    obtain ⟨ds, e1, e2, e3, e4⟩ := ok_toDs ts (by simpa only [okT] using h)
    exact ⟨.list ds, by simp only [toD, e1, Option.map_some], by simpa only [PyData.canLay0] using e2, by simp only [PyData.depth, dqT]; omega, by simpa only [PyData.eqv] using e4⟩
  | .pt ts, h => by
    obtain ⟨ds, e1, e2, e3, e4⟩ := ok_toDs ts (by simpa only [okT] using h)
    exact ⟨.tuple ds, by simp only [toD, e1, Option.map_some], by simpa only [PyData.canLay0] using e2, by simp only [PyData.depth, dqT]; omega, by simpa only [PyData.eqv] using e4⟩
  | .ref _, h => by simp [okT] at h
theorem ok_toDs : ∀ ts : List T, okTs ts = true → ∃ ds, toDs ts = some ds ∧ PyData.canLayAll0 ds = true ∧ PyData.depthAll ds ≤ dqTs ts + 1 ∧ PyData.eqvAll ds ds = true
  | [], _ => ⟨[], by simp only [toDs], by simp only [PyData.canLayAll0], by simp only [PyData.depthAll]; omega, by simp [PyData.eqvAll]⟩
  | t :: ts, h => by
    simp only [okTs, Bool.and_eq_true] at h
    obtain ⟨d, e1, e2, e3, e4⟩ := ok_toD t h.1
    obtain ⟨ds, g1, g2, g3, g4⟩ := ok_toDs ts h.2
    exact ⟨d :: ds, by simp only [toDs, e1, g1], by simp only [PyData.canLayAll0, e2, g2, Bool.and_self], by simp only [PyData.depthAll, dqTs]; omega, by simp only [PyData.eqvAll, e4, g4, Bool.and_self]⟩
end
theorem rEq_okS {neg : Bool} {x y : T} {S : Sta} {Q : T → Sta → Prop} {z : T} (ex : see S x = z) (ey : see S y = z) (hz : okT z = true) (dz : dqT z ≤ 60) (h : Q (.bl (!neg)) S) : rEq neg x y S Q := by
  obtain ⟨d, a1, a2, a3, a4⟩ := ok_toD _ hz
  have sh : SeqAt.shaped d = true := by unfold SeqAt.shaped; rw [a2, Bool.true_and]; exact decide_eq_true (by omega)
  refine ⟨d, by rw [dd_see, ex]; exact a1, d, by rw [dd_see, ey]; exact a1, sh, sh, ?_⟩
  rw [a4]
  cases neg <;> exact h
theorem rEq2_okS {neg : Bool} {x y : T} {S : Sta} {Q : T → Sta → Prop} {z : T} (ex : see2 S x = z) (ey : see2 S y = z) (hz : okT z = true) (dz : dqT z ≤ 60) (h : Q (.bl (!neg)) S) : rEq2 neg x y S Q := by
  obtain ⟨d, a1, a2, a3, a4⟩ := ok_toD _ hz
  have sh : SeqAt.shaped d = true := by unfold SeqAt.shaped; rw [a2, Bool.true_and]; exact decide_eq_true (by omega)
  refine ⟨d, by rw [ex]; exact a1, d, by rw [ey]; exact a1, sh, sh, ?_⟩
  rw [a4]
  cases neg <;> exact h
/-! range with a step -/
def rangeC (lo c : Int) (n : Nat) : List T := (List.range n).map fun (i : Nat) => T.int (lo + (i : Int) * c)
theorem rangeC_yields {K : PySem.W.Frag} {H : Hp} (lo c : Int) (n : Nat) : Yields K (rangeC lo c n) (fun _ => True) H (Itc lo c n) := fun i S H1 e1 s1 _ => by
  have hl : (rangeC lo c n).length = n := by unfold rangeC; rw [List.length_map, List.length_range]
  refine ⟨fun hi => by rw [hl] at hi; exact hi, fun hi => by rw [hl] at hi; exact hi, fun x H' y hi => ?_⟩
  obtain ⟨eH, ex⟩ := y
  subst eH ex
  rw [hl] at hi
  refine ⟨Ext.refl _, s1, fun _ _ q => q, .int (lo + (i : Int) * c), ?_, .int _⟩
  unfold rangeC
  rw [List.getElem?_map, List.getElem?_range hi]
  rfl
def iRg3 (ta : WA) (σ : Sl) (S : Sta) (R : List T → (Sta → Prop) → Sta → Prop) : Prop := ta σ S fun xs S1 => match xs with
  | [.int i, .int j, .int c] => (0 ≤ i ∧ i < j ∧ j < 2 ^ 30 ∧ 0 < c ∧ c < 2 ^ 30) ∧ R (rangeC i c ((j - i - 1) / c + 1).toNat) (fun _ => True) S1
  | _ => False
theorem rgC_of {i j c : Int} (h : 0 ≤ i ∧ i < j ∧ j < 2 ^ 30 ∧ 0 < c ∧ c < 2 ^ 30) : RgC i j c ((j - i - 1) / c + 1).toNat := by
  obtain ⟨h0, h1, h2, h3, h4⟩ := h
  have e : Builtin.Range.rangeSize i j c = (j - i - 1) / c + 1 := by
    unfold Builtin.Range.rangeSize
    rw [if_pos h3, if_pos h1]
  have d0 : 0 ≤ (j - i - 1) / c := Int.ediv_nonneg (by omega) (by omega)
  have d1 : (j - i - 1) / c ≤ j - i - 1 := Int.ediv_le_self _ (by omega)
  refine ⟨by omega, by omega, ?_, by rw [e]; omega⟩
  unfold Builtin.Range.small
  rw [e, if_pos h3]
  simp only [Builtin.Range.rangeFitsLong, Bool.and_eq_true, Bool.or_eq_true, decide_eq_true_eq, beq_iff_eq]
  omega
theorem ji_rg3 {B : Hp} {X : Cx} {tg a b c : Expr} {ta : WA} {p pos : Pos} (hg : Gl X "range") (hm : X.mg "range" = none) (ha : JA B X [a, b, c] ta) (hs : starEach [a, b, c] X.env = (false, eval a X.env) :: starEach [b, c] X.env := by rfl) (hs2 : ((backTo pos (starEach [b, c] X.env)).any fun x => x.fst) = false := by rfl) : JI B X tg (.Call (.Name "range" p) [a, b, c] [] pos) (iRg3 ta) :=
  pi_imp (pi_range3 hg hm ha hs hs2) fun σ H R ⟨st, S, Q0, he, hr, hs, h, im⟩ => by
    refine ⟨st, S, _, he, hr, hs, h, fun xs S1 h1 H1 v1 e1 s1 r1 => ?_⟩
    match xs, h1 with
    | [.int i, .int j, .int c], h1 =>
      cases r1 with
      | cons a1 r1 =>
      cases r1 with
      | cons a2 r1 =>
      cases r1 with
      | cons a3 r1 =>
      cases r1
      cases a1
      cases a2
      cases a3
      exact ⟨i, j, c, _, rfl, rgC_of h1.1, im _ _ _ h1.2 H1 e1 s1 _ (rangeC_yields i c _)⟩
/-! x += y over whole numbers -/
def rAddI (x y : T) (S : Sta) (Q : T → Sta → Prop) : Prop := match x, y with
  | .int i, .int j => Q (.int (i + j)) S
  | _, _ => False
theorem io_add {X : Cx} : OpT X (inplaceOp .Add) rAddI := by
  intro pins s σ H x y v u Q I rx ry ⟨a, b, S, Q0, ra, rb, hs, q, im⟩
  match a, b, q with
  | .int i, .int j, q =>
    cases ra
    cases rb
    exact iop_add pins s σ H _ _ v u Q I rx ry ⟨i, j, rfl, rfl, im _ _ q H _ (Ext.refl H) hs (.int _)⟩
/-! xs.extend(t) of a tuple -/
theorem mt_extT {X : Cx} : MtR X "list.extend" (fun x vs H Q => ∃ (l b : Addr) (xs zs : List V), x = .ref l ∧ vs = [.ref b] ∧ H l = some (.lst xs) ∧ SqT X.K H b zs ∧ xs.length + zs.length ≤ sizeLine ∧ Q .non (upd H l (.lst (xs ++ zs)))) := fun pins s σ H x vs v us Q I rx rxs ⟨l, b, xs, zs, ex, evs, hl, hb, hz, q⟩ => by
  subst ex evs
  obtain rfl : v = Value.ref l := rx
  obtain rfl := Vals.ref1 rxs
  obtain ⟨_, its, n, vals, len, lay⟩ := I.lstM hl
  obtain ⟨its2, vals2, ⟨o2, ho2, cls2, n2, dat2⟩, _⟩ := I.tuple hb
  have l1 := vals.length
  have l2 := vals2.length
  refine wpAny_call_entry PySem.F.slot_list_extend ⟨_, lay, rfl⟩ PySem.F.entry_list_extend ?_ (PySem.F.args_list_extend_2 _ _)
  unfold Builtin.«list.extend» selfAndOne
  refine wpAny_bind ?_
  refine wpAny_pure ?_
  show wpAny _ _ (Builtin.List.listExtendWith (.ref l) (.ref b) .none) _ _ _
  unfold Builtin.List.listExtendWith
  refine wpAny_bind ?_
  refine wpAny_typeOf (T := "tuple") ⟨o2, ho2, cls2⟩ ?_
  rw [if_pos (by simp)]
  refine wpAny_bind ?_
  refine listItems_at ho2 dat2 ?_
  refine wpAny_bind ?_
  refine listItems_at lay rfl ?_
  rw [if_neg (extend_door (by simp; omega))]
  refine wpAny_bind ?_
  refine listUpdate_at lay rfl ?_ (by simp; omega) (by simp; omega)
  refine wpAny_pure ?_
  refine ⟨.none, rfl, .non, upd H l (.lst (xs ++ zs)), ?_, rfl, q⟩
  refine I.lstUpd (its' := its ++ its2) (n' := if its2 = [] then n else n + 1) hl lay ?_ (Vals.append vals vals2) (by rw [List.length_append]; exact hz) _
  by_cases e0 : its2 = []
  · simp [Obj.mapSeq, e0]
  · simp [Obj.mapSeq, e0]
def rExtT (x : Wp.T) (ts : List Wp.T) (S : Sta) (Q : Wp.T → Sta → Prop) : Prop := match x, ts with
  | .ref p, [.tup ys] => ∃ xs, S p = some (.lst xs) ∧ xs.length + ys.length ≤ sizeLine ∧ Q .non (upS S p (.lst (xs ++ ys)))
  | _, _ => False
theorem m_extT {X : Cx} : MtR X "list.extend" (LM X.K rExtT) := by
  intro pins s σ H x xs v us Q I rx rxs ⟨t, ts, S, Q0, rt, rts, hs, q, im⟩
  match t, ts, q with
  | .ref p, [.tup ws], ⟨zs, e, hl, q⟩ =>
    cases rt
    obtain ⟨w, rfl, rw'⟩ := rts.one
    cases rw' with
    | tup h1 h2 =>
      obtain ⟨ys, g1, g2⟩ := hs p _ e
      obtain ⟨e2, s2⟩ := hs.setL g1 (Reps.append g2 h2)
      exact mt_extT pins s σ H _ _ v us Q I rx rxs ⟨p, _, ys, _, rfl, rfl, g1, sqT_of h1, by rw [← g2.length, ← h2.length]; exact hl, im _ _ q _ _ e2 s2 .non⟩
/-! the truth of a whole number -/
def wTestI (t : WE) (σ : Sl) (S : Sta) (Q : Bool → Sta → Prop) : Prop := t σ S fun x S1 => match x with
  | .bl c => Q c S1
  | .int i => Q (i != 0) S1
  | _ => False
theorem jt_valI {B : Hp} {X : Cx} {e : Expr} {t : WE} (h : JE B X e t) (he : ∀ whole, isTrue e X.env whole = (do let v ← whole; standAt e.pos; holding [v] (truthy v)) := by intro _; rfl) : JT B X e (wTestI t) :=
  pt_imp (pt_truth h he) fun σ H Q ⟨st, S, Q0, he, hr, hs, h, im⟩ => by
    refine ⟨st, S, _, he, hr, hs, h, fun x S1 h1 H1 v e1 s1 r1 => ?_⟩
    cases x with
    | bl c =>
      cases r1
      exact ⟨c, rfl, im _ _ h1 H1 e1 s1⟩
    | int i =>
      cases r1
      exact ⟨i != 0, rfl, im _ _ h1 H1 e1 s1⟩
    | _ => exact h1.elim
end Wp

set_option Elab.async false
set_option linter.all false
set_option maxRecDepth 100000
set_option maxHeartbeats 4000000
/-! x in a list of data of any depth -/
namespace Wp
open PySem PySem.Spec PyProof.Rows L2
theorem hu65 {k : Nat} {A : Around} (h : Room k A) : A.units + 65 < cLine := by have := h.un; omega
section
variable {X : Cx}
def rInDt (neg : Bool) (x : T) (y : T) (S : Sta) (Q : T → Sta → Prop) : Prop := ∃ d ds, toD (see S x) = some d ∧ toD (see S y) = some (.list ds) ∧ SeqAt.shaped d = true ∧ SeqAt.shaped (.list ds) = true ∧ Q (.bl (neg != ds.any fun z => PyData.eqv z d)) S
theorem o_inDt (hu : X.A.units + 65 < cLine) : OpT X (compareOp .In) (rInDt false) := by
  intro pins s σ H x y v u Q I rx ry ⟨a, b, S, Q0, ra, rb, hs, ⟨d, ds, h1, h2, h3, h4, q⟩, im⟩
  refine op_inD hu pins s σ H _ _ v u Q I rx ry ⟨d, ds, dd_dp hs ra (by rw [dd_see]; exact h1), dd_dp hs rb (by rw [dd_see]; exact h2), h3, h4, ?_⟩
  rw [Bool.false_bne] at q
  exact im _ _ q H _ (Ext.refl H) hs (.bl _)
theorem o_notInDt (hu : X.A.units + 65 < cLine) : OpT X (compareOp .NotIn) (rInDt true) := by
  intro pins s σ H x y v u Q I rx ry ⟨a, b, S, Q0, ra, rb, hs, ⟨d, ds, h1, h2, h3, h4, q⟩, im⟩
  refine op_notInD hu pins s σ H _ _ v u Q I rx ry ⟨d, ds, dd_dp hs ra (by rw [dd_see]; exact h1), dd_dp hs rb (by rw [dd_see]; exact h2), h3, h4, ?_⟩
  rw [Bool.true_bne] at q
  exact im _ _ q H _ (Ext.refl H) hs (.bl _)
end
/-- whether it is there or not -/
theorem rInDt_any {neg : Bool} {x y : T} {ts : List T} {S : Sta} {Q : T → Sta → Prop} (ey : see S y = .fl ts) (hx : okT (see S x) = true) (hy : okTs ts = true) (dx : dqT (see S x) ≤ 50) (dy : dqTs ts ≤ 50) (h : ∀ b, Q (.bl b) S) : rInDt neg x y S Q := by
  obtain ⟨d, a1, a2, a3, a4⟩ := ok_toD _ hx
  obtain ⟨ds, b1, b2, b3, b4⟩ := ok_toDs _ hy
  refine ⟨d, ds, a1, by rw [ey]; simp only [toD, b1, Option.map_some], ?_, ?_, h _⟩
  · unfold SeqAt.shaped; rw [a2, Bool.true_and]; exact decide_eq_true (by omega)
  · unfold SeqAt.shaped
    rw [show (PyData.list ds).canLay0 = true by simp only [PyData.canLay0]; exact b2, Bool.true_and]
    refine decide_eq_true ?_
    simp only [PyData.depth]
    omega
end Wp

set_option Elab.async false
set_option linter.all false
set_option maxRecDepth 100000
set_option maxHeartbeats 4000000
/-! sorted(d) of a dict of whole numbers, of any size -/
namespace Wp
open PySem PySem.Calls PySem.Spec PyProof.Rows L2
theorem ints_of : ∀ (us : List Value) (ks : List Int), us.length = ks.length → (∀ (j : Nat) v, us[j]? = some v → ∃ i t, ks[j]? = some i ∧ v = Value.int i t) → IntsAre us ks
  | [], [], _, _ => .nil
  | [], _ :: _, h, _ => by simp at h
  | _ :: _, [], h, _ => by simp at h
  | u :: us, k :: ks, h, g => by
    obtain ⟨i, t, a, rfl⟩ := g 0 u rfl
    obtain rfl : k = i := Option.some.inj a
    exact .cons k t (ints_of us ks (Nat.succ.inj h) fun j v e => g (j + 1) v e)
/-- what was collected: the keys -/
theorem keys_ints {P : Program} {w : World} {acc : Array Value} {vs : List (Key × Value)} {ks : List Int} (h : vs.map (·.1) = ks.map Sum.inl) (it : ItemsOf (fun i v => ∃ k x, vs[i]? = some (k, x) ∧ (mixKind P w).is k v = true) acc vs.length) : IntsAre acc.toList ks := by
  have lk : vs.length = ks.length := by have := congrArg List.length h; rwa [List.length_map, List.length_map] at this
  refine ints_of _ _ (by rw [Array.length_toList, it.1, lk]) fun j v e => ?_
  obtain ⟨k, x, e1, e2⟩ := it.2 j v (by rw [← Array.getElem?_toList]; exact e)
  have e3 : (vs.map (·.1))[j]? = some k := by rw [List.getElem?_map, e1]; rfl
  rw [h, List.getElem?_map] at e3
  cases hk : ks[j]? with
  | none => rw [hk] at e3; cases e3
  | some i =>
    rw [hk] at e3
    obtain rfl : Sum.inl i = k := Option.some.inj e3
    rcases keyIs_shape (k := Sum.inl i) e2 with ⟨i', t, a1, a2⟩ | ⟨x, t, a1, a2⟩
    · exact ⟨i, t, rfl, by rw [a2, Sum.inl.inj a1]⟩
    · exact nomatch a1
/-- the items of a source, gathered into a heap that has grown -/
theorem gather {prog : Program} {w : World} {A : Around} {E : Value → Shared → Prop} {s : Shared} {T : String} {r d : Addr} {n : Nat} {P : Nat → Value → Prop} {OK : Heap → Prop} {R : List Value → Shared → Prop}
    (K : W.KdlSrc prog w T r d n P OK) (hh : A.handled = none) (hok : OK s.heap) (few : n ≤ sizeLine)
    (h : ∀ (g : Heap) (tk : Nat) (acc : Array Value), (∀ b o, s.heap.get? b = some o → g.get? b = some o) → s.heap.objs.size < g.objs.size → ItemsOf P acc n → R acc.toList { s with heap := g, toks := tk }) :
    wpAny (model prog w) A (collect (.ref r)) R E s := by
  let D := fun (q : Result) (s' : Shared) => ∃ (g : Heap) (tk : Nat) (acc : Array Value) (c : Nat), q = .ok (.ret (.ref s.heap.objs.size)) ∧ s' = { s with heap := g, toks := tk } ∧
    (∀ b o, s.heap.get? b = some o → g.get? b = some o) ∧ g.get? s.heap.objs.size = some { cls := .type "list", dict := none, data := .seq acc c, slots := #[] } ∧ ItemsOf P acc n
  have mid := W.kdl_extend (A := A) (s := { s with heap := s.heap.push { cls := .type "list", data := .seq ([] : List Value).toArray } }) (R := D)
    K hh (K.keep _ _ hok fun b _ o e => Heap.get?_push_of_some _ e) s.heap.objs.size (Nat.ne_of_gt (K.there _ hok).1) (Nat.ne_of_gt (K.there _ hok).2) (.ref s.heap.objs.size) 0 (Heap.get?_push_size _ rfl)
    (fun g tk acc c old at' it => ⟨g, tk, acc, c, rfl, rfl, fun b o e => old b o (Nat.ne_of_lt (Heap.lt_size e)) (Heap.get?_push_of_some _ e), at', it⟩) few
  have out : ∀ (g : Heap) (tk : Nat) (acc : Array Value) (c : Nat), (∀ b o, s.heap.get? b = some o → g.get? b = some o) → g.get? s.heap.objs.size = some { cls := .type "list", dict := none, data := .seq acc c, slots := #[] } → ItemsOf P acc n → R acc.toList { s with heap := g, toks := tk } :=
    fun g tk acc c old at' it => h g tk acc old (Heap.lt_size at') it
  unfold collect
  refine wpAny_bind (wpAny_runValue (codeAny_builtin entry_proto_collect' ?_))
  rw [Around.under_plainId PySem.F.plain_proto_collect _]
  refine wpAny_bind (wpAny_newObj_type (wpAny_pure ⟨plainId_quiet PySem.F.plain_list_iadd _, codeAny_builtin entry_list_iadd' ?_⟩))
  rw [Around.under_plainId PySem.F.plain_list_iadd _]
  refine wpAny_mono mid (fun f s' x => ?_) fun e s' x => ?_
  · cases f with
    | done f =>
      obtain ⟨g, tk, acc, c, e, rfl, old, at', it⟩ := x
      cases e
      exact wpAny_bind (wpAny_load at' (wpAny_pure (out g tk acc c old at' it)))
    | again c =>
      refine ⟨x.1, codeAny_mono x.2 fun q s₂ y => ?_⟩
      obtain ⟨g, tk, acc, c, rfl, rfl, old, at', it⟩ := y
      exact wpAny_bind (wpAny_load at' (wpAny_pure (out g tk acc c old at' it)))
  · obtain ⟨_, _, _, _, e', _⟩ := x
    cases e'
theorem c_sortDK {X : Cx} (hc : X.calm = true) : CallR X (.builtin "sorted") (fun us H Q => ∃ (a : Addr) (ks : List Int) (xs : List (Key × V)), us = [.ref a] ∧ Rd H a (.dK xs) ∧ xs.map (·.1) = ks.map Sum.inl ∧ ∀ (ys : List Int) (p : Addr), ys.Perm ks → ys.Pairwise (· ≤ ·) → H p = none → Q (.ref p) (upd H p (.lst (ys.map V.int)))) := fun pins s σ H us vs' Q I r ⟨a, ks, xs, ex, ha, ek, q⟩ => by
  subst ex
  obtain rfl := Vals.ref1 r
  obtain ⟨short, top, vs, rel, o, es, ep, ho, hx, hdat, hk, hP, nd⟩ := dk_rd I.hok ha
  have ev : vs.map (·.1) = ks.map Sum.inl := by rw [← ek]; exact (KV.keys rel).symm
  have lv : vs.length = xs.length := by have := congrArg List.length (KV.keys rel); rw [List.length_map, List.length_map] at this; exact this.symm
  have lk : ks.length = xs.length := by have := congrArg List.length ek; rw [List.length_map, List.length_map] at this; exact this.symm
  refine Calls.call_function_entry (id := "sorted") rfl rfl PyProof.Rows.entry_sorted (by rfl) ?_
  unfold Builtin.sorted
  refine wpAny_bind ?_
  show wpAny _ _ (pure ()) _ _ _
  refine wpAny_pure ?_
  refine wpAny_bind ?_
  refine gather (W.kdl_dict (kvs := vs) (ep := ep) top) (I.ok.hd hc) ⟨o, es, ho, hx, hdat, hk, hP, nd⟩ (by omega) fun h1 tk acc keep big items => ?_
  have ia := keys_ints ev items
  have la : acc.toList.length ≤ sizeLine := by rw [Array.length_toList, items.1]; omega
  have grow1 : s.heap.objs.size ≤ h1.objs.size := Nat.le_of_lt big
  refine wpAny_bind ?_
  refine wpAny_newList ?_ la
  have below : ∀ {b : Addr} {o : Obj}, h1.get? b = some o → b ≠ h1.objs.size := fun q => Nat.ne_of_lt (Heap.lt_size q)
  obtain ⟨h2, e2⟩ : ∃ h2, h1.push { cls := .type "list", data := .seq acc.toList.toArray } = h2 := ⟨_, rfl⟩
  have lay : h2.get? h1.objs.size = some (seqObj "list" acc.toList.toArray 0) := by rw [← e2]; exact Heap.get?_push_size _ rfl
  have grown : ∀ {b : Addr} {o : Obj}, h1.get? b = some o → h2.get? b = some o := fun q => by rw [← e2]; exact Heap.get?_push_of_some _ q
  show wpAny _ _ _ _ _ { s with heap := h1.push { cls := .type "list", data := .seq acc.toList.toArray }, toks := tk }
  rw [e2]
  refine wpAny_bind (wpAny_holding ?_)
  refine wpAny_call_entry PyProof.Rows.slot_list_sort ⟨_, lay, rfl⟩ PyProof.Rows.entry_list_sort
    (SrtO.list_sort_ord (s := { s with heap := h2, toks := tk }) SrtO.swo_int lay la (fun two => SrtO.ints_sortable ia two) fun out srt stb => ⟨.none, rfl, ?_⟩) (PyProof.Rows.args_list_sort _)
  obtain ⟨k1, k2, k3⟩ := SrtO.ints_out ia srt stb
  obtain ⟨c, he'⟩ := PyProof.Rows.sortedHeap_at (vs := acc.toList) (out := out.toArray) lay
  have kept : ∀ {b : Addr} {o : Obj}, h1.get? b = some o → (sortedHeap h2 h1.objs.size acc.toList out.toArray).get? b = some o := fun q => (PyProof.Rows.sortedHeap_old (below q) (Heap.lt_size (grown q))).trans (grown q)
  have hlen : ((out.map SrtO.iv).map V.int).length ≤ sizeLine := by
    rw [List.length_map, k2.length_eq]
    omega
  refine wpAny_pure ?_
  exact ⟨.ref _, rfl, .ref _, upd H h1.objs.size (.lst ((out.map SrtO.iv).map V.int)), I.laid (t' := tk) (fun b o q => kept (keep b o q)) grow1 ⟨hlen, out, c, vals_of_ints k1, he'⟩, rfl, q _ _ k2 k3 (I.hok.fresh grow1)⟩
/-- sorted(d), keys that are ints, any number of them -/
def rSortDA (xs : List T) (S : Sta) (Q : T → Sta → Prop) : Prop := match xs with
  | [.ref p] => ∃ (kvs : List (Key × T)) (ks : List Int), S p = some (.dct kvs) ∧ kvs.map (·.1) = ks.map Sum.inl ∧ ∀ (ys : List Int) (q : Addr), ys.Perm ks → ys.Pairwise (· ≤ ·) → S q = none → Q (.ref q) (upS S q (.lst (ys.map T.int)))
  | _ => False
theorem c_sortDA {X : Cx} (hc : X.calm = true) : CallR X (.builtin "sorted") (LC X.K rSortDA) := by
  intro pins s σ H xs us Q I rx ⟨ts, S, Q0, r, hs, q, im⟩
  match ts, q with
  | [.ref p], ⟨kvs, ks, e, ek, q⟩ =>
    obtain ⟨v, rfl, r1⟩ := r.one
    cases r1
    obtain ⟨vs, g1, g2⟩ := hs p _ e
    refine c_sortDK hc pins s σ H _ us Q I rx ⟨p, ks, vs, rfl, .inl g1, by rw [← g2.keys]; exact ek, fun ys l h1 h2 h3 => ?_⟩
    obtain ⟨e3, s3⟩ := hs.newL h3 (Reps.ints (K := X.K) ys)
    exact im _ _ (q ys l h1 h2 (hs.free h3)) _ _ e3 s3 (.ref l)
end Wp

set_option Elab.async false
set_option linter.all false
set_option maxRecDepth 100000
set_option maxHeartbeats 4000000
/-! errors that are meant: own classes, raised, let through by calls, caught -/
namespace Wp
open PySem PySem.Spec PyProof.Rows L2
/-- what is wished where an error comes up: its class, the slots there, the state -/
abbrev EW := Addr → Sl → Sta → Prop
def xOf (K : PySem.W.Frag) (B : Hp) (E : EW) : WX := fun cls d σ H => ∃ C st S, cls = .ref C ∧ d = none ∧ Ext B H ∧ SlR K H st σ ∧ St K S H ∧ E C st S
section
variable {X : Cx} {k : Nat} {f C : Addr} {fd : FuncData} {ps : List Str} {sp : Sp} {E : L2.St → XK} {x m : Str} {p pos apos : Pos} {e o : Expr} {es : List Expr} {ta : TE} {t : TA} {CX : CXT}
def uMeth (C : Addr) (m : Str) (sp : Sp) (E : L2.St → XK) (ta : TE) (t : TA) : TE := fun σ H Q => ta σ H fun x H1 =>
  ∃ a dx fs, x = .ref a ∧ H1 a = some (.ins C dx fs) ∧ fs.lookup m = none ∧ t σ H1 fun vs H2 => sp (x :: vs) H2 Q (E σ)
theorem pe_um {pl : Sem Bool} (ho : PE X o ta) (c : Cls X.K C) (hm : Meth X.K C m f) (F : FnOk X.prog X.w X.K X.mg X.base CX k f fd ps sp) (hr : Room k X.A) (hb : Binds X.K fd ps [])
    (hx : ∀ σ, PassesAt CX X σ (E σ)) (ha : PA X (e :: es) t) (hst : starEach (e :: es) X.env = (false, eval e X.env) :: starEach es X.env := by rfl) (hpl : (backTo pos (starEach es X.env)).any (·.1) = false := by rfl)
    (ht : eval (.Call (.Attribute o m apos) (e :: es) [] pos) X.env = (do
      let v ← eval o X.env
      standAt apos.atName
      let (g, one) ← holding [v] (getMethod v m pl)
      callWith pos g one (backTo pos (starEach (e :: es) X.env)) (backToKw pos (keywordEach [] X.env))) := by rfl) :
    PE X (.Call (.Attribute o m apos) (e :: es) [] pos) (uMeth C m sp E ta t) := ⟨fun pins s σ H Q I h => by
  refine PySem.W.methodCall_KW (pl := pl) (thn (ho.run pins s σ H _ I h) fun u s1 ⟨y, H1, I1, ry, a, dx, fs, ey, ea, l, q⟩ => ?_) ht
  subst ey
  obtain rfl : u = Value.ref a := ry
  refine getmeth_ok I1 ea c hm l ?_
  refine PySem.W.callWith_K (first := [.ref a]) (h₀ := X.base) I.ok.mod.kin hm.kp (thn (ha.run pos pins s1 σ H1 _ I1 q) fun us s2 ⟨vs, H2, I2, r, q2⟩ => ⟨I2.kIn, ?_⟩) hst hpl
  exact run_fnS (us := .ref a :: us) (vs := .ref a :: vs) F hr hb (hx σ) I2 (.cons rfl r) q2⟩
theorem pe_um0 {pl : Sem Bool} (ho : PE X o ta) (c : Cls X.K C) (hm : Meth X.K C m f) (F : FnOk X.prog X.w X.K X.mg X.base CX k f fd ps sp) (hr : Room k X.A) (hb : Binds X.K fd ps [])
    (hx : ∀ σ, PassesAt CX X σ (E σ))
    (ht : eval (.Call (.Attribute o m apos) [] [] pos) X.env = (do
      let v ← eval o X.env
      standAt apos.atName
      let (g, one) ← holding [v] (getMethod v m pl)
      callWith pos g one (backTo pos (starEach [] X.env)) (backToKw pos (keywordEach [] X.env))) := by rfl) :
    PE X (.Call (.Attribute o m apos) [] [] pos) (uMeth C m sp E ta tNil) := ⟨fun pins s σ H Q I h => by
  refine PySem.W.methodCall_KW (pl := pl) (thn (ho.run pins s σ H _ I h) fun u s1 ⟨y, H1, I1, ry, a, dx, fs, ey, ea, l, q⟩ => ?_) ht
  subst ey
  obtain rfl : u = Value.ref a := ry
  refine getmeth_ok I1 ea c hm l ?_
  exact PySem.W.callWith_K0 (first := [.ref a]) I1.kIn hm.kp (run_fnS (us := [.ref a]) (vs := [.ref a]) F hr hb (hx σ) I1 (.cons rfl .nil) q)⟩
/-- X(): an own error without a text -/
theorem pmk_bare {bmB : List Value} {B newId initId : String} (F : ExcBaseFacts B newId initId bmB) (q : PySem.W.excIn X.K C bmB newId = true) (gC : X.mg x = some (.ref C)) (kC : PySem.W.keepIn X.K (.ref C) = true) (r : Raises X (.ref C)) (hg : Gl X x)
    (hdb : (x == ("__debug__" : Str)) = false := by decide) : PMk X (.Call (.Name x p) [] [] pos) (fun _ H Q => Q (.ref C) none H) := by
  intro pins s σ H Q I h
  refine wpAny_Call_Name_kw (ld_glob I hg gC ?_ hdb)
  refine PySem.W.callWith_K0 I.kIn kC ?_
  show wpAny _ _ (call (.ref C) []) _ _ _
  obtain ⟨bm, N, nm, qn, bs, hdct, sn, sub, ab, col, dd, k0, k1, k2, k3, k5, mN, hC, hN, hni, T⟩ := exc_obj I.kIn q
  refine wpAny_call_exc_subT F T hC hN hni (fun h' e hm => ?_) (by show 0 ≤ sizeLine; omega)
  exact mk_of I hm r h (I.hok.gone hm.new)
end
/-! ### the readings -/
def wCallX (E : EW) (n : Nat) (w : WSp) (t : WA) (σ : Sl) (S : Sta) (Q : T → Sta → Prop) : Prop := t σ S fun ts S1 => ts.length = n ∧ w ts S1 Q fun C S2 => E C σ S2
def wMethX (E : EW) (C : Addr) (m : Str) (n : Nat) (w : WSp) (to : WE) (t : WA) (σ : Sl) (S : Sta) (Q : T → Sta → Prop) : Prop := to σ S fun x S1 => match x with
  | .ref p => ∃ fs, S1 p = some (.ins C fs) ∧ fs.lookup m = none ∧ t σ S1 fun ts S2 => ts.length + 1 = n ∧ w (.ref p :: ts) S2 Q fun C S2 => E C σ S2
  | _ => False
def wRaise (E : EW) (C : Addr) (D : WEnds) (σ : Sl) (S : Sta) : Prop := E C σ S
/-- try: t, except C0: u -/
def wTry (C0 : Addr) (t : EW → WS) (u : WS) (D : WEnds) (σ : Sl) (S : Sta) : Prop := t (fun C st S' => C = C0 ∧ u D st S') D σ S
def CalX (P : Program) (w : World) (K : PySem.W.Frag) (mg : Str → Option Value) (base : Heap) (tl : List Addr) (k : Nat) (x : Str) (ps : List Str) (s : WSp) : Prop :=
  ∃ f fd, FnOk P w K mg base (L2.CX P w) k f fd ps (Lsp tl K ps.length s) ∧ mg x = some (.ref f) ∧ PySem.W.keepIn K (.ref f) = true ∧ Binds K fd ps []
def CalMX (P : Program) (w : World) (K : PySem.W.Frag) (mg : Str → Option Value) (base : Heap) (tl : List Addr) (k : Nat) (C : Addr) (m : Str) (ps : List Str) (s : WSp) : Prop :=
  ∃ f fd, FnOk P w K mg base (L2.CX P w) k f fd ps (Lsp tl K ps.length s) ∧ Meth K C m f ∧ Binds K fd ps []
section
variable {P : Program} {w : World} {K : PySem.W.Frag} {mg : Str → Option Value} {base : Heap} {k j : Nat} {C : Addr} {m x qual : Str} {st : Stmt} {ps : List Str} {s : WSp} {tl : List Addr}
theorem CalX.mono (c : CalX P w K mg base tl j x ps s) (h : j ≤ k) : CalX P w K mg base tl k x ps s := by
  obtain ⟨f, fd, F, m, kp, b⟩ := c
  exact ⟨f, fd, F.mono h, m, kp, b⟩
theorem CalMX.mono (c : CalMX P w K mg base tl j C m ps s) (h : j ≤ k) : CalMX P w K mg base tl k C m ps s := by
  obtain ⟨f, fd, F, m, b⟩ := c
  exact ⟨f, fd, F.mono h, m, b⟩
theorem DefT.calX (D : DefT K mg x st ps) (h : ∀ f fd, Fun K x x st f fd → FnOk P w K mg base (L2.CX P w) k f fd ps (Lsp tl K ps.length s)) : CalX P w K mg base tl k x ps s := by
  obtain ⟨f, fd, F, m, b⟩ := D
  exact ⟨f, fd, h f fd F, m, F.kp, b⟩
theorem DefM.calX (D : DefM K C m qual st ps) (h : ∀ f fd, Fun K m qual st f fd → FnOk P w K mg base (L2.CX P w) k f fd ps (Lsp tl K ps.length s)) : CalMX P w K mg base tl k C m ps s := by
  obtain ⟨f, fd, F, m, b⟩ := D
  exact ⟨f, fd, h f fd F, m, b⟩
end
/-- an own error class, as the top has left it -/
structure ErrC (K : PySem.W.Frag) (mg : Str → Option Value) (x : Str) (C : Addr) : Prop where
  g : mg x = some (.ref C)
  x : PySem.W.excIn K C [.type "ValueError", .type "Exception", .type "BaseException", .type "object"] "ValueError.__new__" = true
  k : PySem.W.keepIn K (.ref C) = true
  b : PySem.W.subIn K (.ref C) (.type "BaseException") = some true
  t : PySem.W.typeIn K (.ref C) = some (.type "type")
  s : PySem.W.exmOne K (.ref C) (.ref C) = some true
theorem exm_own {K : PySem.W.Frag} {C : Addr} (b : PySem.W.subIn K (.ref C) (.type "BaseException") = some true) (i : PySem.W.isClsIn K C = true) (t : PySem.W.typeIn K (.ref C) = some (.type "type")) (s : PySem.W.subIn K (.ref C) (.ref C) = some true) :
    PySem.W.exmOne K (.ref C) (.ref C) = some true := by
  have i : (PySem.W.clsIn K C).isSome = true := i
  have b' : (PySem.W.subIn K (.ref C) (.type "BaseException") == some true) = true := by rw [b]; rfl
  have i' : ((PySem.W.clsIn K C).isSome && PySem.W.typeIn K (.ref C) == some (.type "type")) = true := by rw [i, t]; rfl
  unfold PySem.W.exmOne PySem.W.kitCls
  rw [if_pos b']
  exact (if_pos i').trans s
section
variable {B : Hp} {X : Cx} {C : Addr} {m x : Str} {o e : Expr} {es : List Expr} {to : WE} {t : WA} {p pos pos' np apos : Pos} {k : Nat} {ps : List Str} {s : WSp} {tl : List Addr} {E : EW}
theorem j_callX (c : CalX X.prog X.w X.K X.mg X.base tl k x ps s) (tk : Takes X (xOf X.K B E)) (ht : ∀ P ∈ tl, GxR.TabG B P) (hr : Room k X.A) (hg : Gl X x) (ha : JA B X (e :: es) t) (hdb : (x == ("__debug__" : Str)) = false := by decide)
    (hst : starEach (e :: es) X.env = (false, eval e X.env) :: starEach es X.env := by rfl) (hpl : (backTo pos (starEach es X.env)).any (·.1) = false := by rfl) : JE B X (.Call (.Name x p) (e :: es) [] pos) (wCallX E ps.length s t) := by
  obtain ⟨f, fd, F, hm, kp, b⟩ := c
  refine pe_imp (pe_callS F hr hg hm kp b (fun σ => passAt tk σ) ha hdb hst hpl) fun σ H Q ⟨st, S, Q0, he, hr, hs, h, im⟩ => ?_
  refine ⟨st, S, _, he, hr, hs, h, fun xs S1 h1 H1 vs e1 s1 r1 => ?_⟩
  exact ⟨fun P hP => (he.trans e1).tabs P (ht P hP), xs, S1, Q0, _, h1.1, r1, s1, h1.2, fun z S2 q => fin_ext e1 (im z S2 q), fun C S' H' q e2 s2 => ⟨C, st, S', rfl, rfl, he.trans (e1.trans e2), hr.mono (e1.trans e2), s2, q⟩⟩
theorem j_methX (c : CalMX X.prog X.w X.K X.mg X.base tl k C m ps s) (cl : Cls X.K C) (tk : Takes X (xOf X.K B E)) (ht : ∀ P ∈ tl, GxR.TabG B P) (hr : Room k X.A) (ho : JE B X o to) (ha : JA B X (e :: es) t)
    (hst : starEach (e :: es) X.env = (false, eval e X.env) :: starEach es X.env := by rfl) (hpl : (backTo pos (starEach es X.env)).any (·.1) = false := by rfl) {pl : Sem Bool}
    (hte : eval (.Call (.Attribute o m apos) (e :: es) [] pos) X.env = (do
      let v ← eval o X.env
      standAt apos.atName
      let (g, one) ← holding [v] (getMethod v m pl)
      callWith pos g one (backTo pos (starEach (e :: es) X.env)) (backToKw pos (keywordEach [] X.env))) := by rfl) :
    JE B X (.Call (.Attribute o m apos) (e :: es) [] pos) (wMethX E C m ps.length s to t) := by
  obtain ⟨f, fd, F, hm, b⟩ := c
  refine pe_imp (pe_um (pl := pl) ho cl hm F hr b (fun σ => passAt tk σ) ha hst hpl hte) fun σ H Q ⟨st, S, Q0, he, hr, hs, h, im⟩ => ?_
  refine ⟨st, S, _, he, hr, hs, h, fun x S1 h1 H1 v e1 s1 r1 => ?_⟩
  cases x with
  | ref p =>
    obtain ⟨fs, e2, hl, q⟩ := h1
    cases r1
    obtain ⟨dx, gs, e4, r4⟩ := s1 p _ e2
    refine ⟨p, dx, gs, rfl, e4, r4.lookN hl, st, S1, _, he.trans e1, hr.mono e1, s1, q, fun ts S2 h2 H2 vs e6 s6 r6 => ?_⟩
    exact ⟨fun P hP => (he.trans (e1.trans e6)).tabs P (ht P hP), .ref p :: ts, S2, Q0, _, by rw [List.length_cons]; exact h2.1, .cons (.ref p) r6, s6, h2.2, fun z S3 q => fin_ext (e1.trans e6) (im z S3 q),
      fun C S' H' q e7 s7 => ⟨C, st, S', rfl, rfl, he.trans (e1.trans (e6.trans e7)), hr.mono (e1.trans (e6.trans e7)), s7, q⟩⟩
  | _ => exact h1.elim
theorem j_methX0 (c : CalMX X.prog X.w X.K X.mg X.base tl k C m ps s) (cl : Cls X.K C) (tk : Takes X (xOf X.K B E)) (ht : ∀ P ∈ tl, GxR.TabG B P) (hr : Room k X.A) (ho : JE B X o to) {pl : Sem Bool}
    (hte : eval (.Call (.Attribute o m apos) [] [] pos) X.env = (do
      let v ← eval o X.env
      standAt apos.atName
      let (g, one) ← holding [v] (getMethod v m pl)
      callWith pos g one (backTo pos (starEach [] X.env)) (backToKw pos (keywordEach [] X.env))) := by rfl) :
    JE B X (.Call (.Attribute o m apos) [] [] pos) (wMethX E C m ps.length s to wNil) := by
  obtain ⟨f, fd, F, hm, b⟩ := c
  refine pe_imp (pe_um0 (pl := pl) ho cl hm F hr b (fun σ => passAt tk σ) hte) fun σ H Q ⟨st, S, Q0, he, hr, hs, h, im⟩ => ?_
  refine ⟨st, S, _, he, hr, hs, h, fun x S1 h1 H1 v e1 s1 r1 => ?_⟩
  cases x with
  | ref p =>
    obtain ⟨fs, e2, hl, h2⟩ := h1
    cases r1
    obtain ⟨dx, gs, e4, r4⟩ := s1 p _ e2
    exact ⟨p, dx, gs, rfl, e4, r4.lookN hl, fun P hP => (he.trans e1).tabs P (ht P hP), [.ref p], S1, Q0, _, h2.1, .cons (.ref p) .nil, s1, h2.2, fun z S3 q => fin_ext e1 (im z S3 q),
      fun C S' H' q e7 s7 => ⟨C, st, S', rfl, rfl, he.trans (e1.trans e7), hr.mono (e1.trans e7), s7, q⟩⟩
  | _ => exact h1.elim
theorem js_raise (hc : X.calm = true) (tk : Takes X (xOf X.K B E)) (c : ErrC X.K X.mg x C) (hg : Gl X x) (hdb : (x == ("__debug__" : Str)) = false := by decide) : JS B X (.Raise (some (.Call (.Name x p) [] [] pos)) none pos') (wRaise E C) :=
  ps_imp (ps_raise hc tk (pmk_bare PySem.F.excBase_ValueError c.x c.g c.k (raises_own c.b c.t) hg hdb)) fun D σ H ⟨st, S, D0, he, hr, hs, h, im⟩ => ⟨C, st, S, rfl, rfl, he, hr, hs, h⟩
theorem js_try {C0 : Addr} {body suite : List Stmt} {b₀ : Stmt} {tb : EW → WS} {u : WS} (hs : X.stack = X.env :: X.outer) (hf : X.env.frame = some X.env.locals) (c : ErrC X.K X.mg x C0) (hg : Gl X x)
    (hb : ∀ (B' : Hp) (E : EW) (pn : List (Addr × Obj)) (xe : Value → Shared → Prop), Ext B B' → Takes (X.tr pn xe) (xOf X.K B' E) → PassesOwn (model X.prog X.w) X.A X.env xe → JSs B' (X.tr pn xe) body (tb E))
    (hu : ∀ (B' : Hp) (a : Addr) (pn : List (Addr × Obj)), Ext B B' → JSs B' (X.suite a pn) (b₀ :: suite) u) (hdb : (x == ("__debug__" : Str)) = false := by decide) :
    JS B X (.Try body [.ExceptHandler (some (.Name x np)) none (b₀ :: suite) pos'] [] [] pos) (wTry C0 tb u) := by
  refine ps_imp (ps_try_only (tb := fun W D σ H => ∃ B' E, Ext B B' ∧ (∀ cls d σ' H', xOf X.K B' E cls d σ' H' → W cls d σ' H') ∧ LS B' X (tb E) D σ H) (ts := fun _ _ _ => fun D σ H => ∃ B', Ext B B' ∧ LS B' X u D σ H) (Wout := fun _ _ _ _ => False) hs hf ⟨hg, hdb, .inl c.g⟩ takes0
    (fun W pn xe tk hp => ⟨fun pins s σ H D I ⟨B', E, eb, hi, h⟩ => (hb B' E pn xe eb (tk.imp hi) hp).run pins s σ H D I h⟩) (fun a oe cls d pn _ _ => ⟨fun pins s σ H D I ⟨B', eb, h⟩ => (hu B' a _ eb).run pins s σ H D I h⟩)) ?_
  rintro D σ H ⟨st, S, D0, he, hr, hs, h, im⟩
  refine ⟨H, _, he, ?_, st, S, D0, Ext.refl H, hr, hs, h, im⟩
  rintro cls d σ' H' ⟨C1, st1, S1, rfl, rfl, e1, r1, s1, rfl, q⟩
  refine ⟨true, c.s, fun _ a _ => ⟨H', he.trans e1, st1, S1, D0, Ext.refl H', r1, s1, q, im.ext e1⟩, fun z => by cases z⟩
end
/-- a def that may let an error out -/
theorem fnTX {P : Program} {w : World} {K : PySem.W.Frag} {mg : Str → Option Value} {base : Heap} {x qual : Str} {st : Stmt} {f : Addr} {fd : FuncData} {N ps : List Str} {k : Nat} {sp : WSp} {tl : List Addr} {t : EW → WS} (F : Fun K x qual st f fd) (S : FnScope N ps (defScope st))
    (hb : ∀ (cdv : Value) (A : Around) (outer : List Env) (s : Shared) (H : Hp) (E : XK) (EX : EW), Room k (A.deeper (envOfC qual (defScope st) s.heap.objs.size f cdv)) → cdv = fd.code → (∀ P ∈ tl, GxR.TabG H P) → Takes (cxOf (L2.CX P w) P w K mg base N qual (defScope st) f cdv A outer s H E) (xOf K H EX) →
      JSs H (cxOf (L2.CX P w) P w K mg base N qual (defScope st) f cdv A outer s H E) (defBody st) (t EX))
    (hw : ∀ ts S Q E, ts.length = ps.length → sp ts S Q E → t (fun C _ S' => E C S') { nx := fun _ S' => Q .non S', rt := Q } (startT N ts) S) : FnOk P w K mg base (L2.CX P w) (k + 1) f fd ps (Lsp tl K ps.length sp) := by
  obtain ⟨oc, od, kV, doc, pm, an, cdv, ct, osl, rfl, lk, hcd⟩ := F.ex
  refine fn_of lk hcd S (fun vs H Q E h => lsp_len h) fun A outer s H vs Q E hr h => ?_
  obtain ⟨hT, ts, S0, Q0, E0, h1, h2, h3, h4, im, ix⟩ := h
  refine ⟨_, hb cdv A outer s H E (fun C _ S' => E0 C S') hr rfl hT (Takes.imp (takes_of rfl rfl rfl rfl) ?_), ?_⟩
  · rintro cls d σ H' ⟨C1, st1, S1, rfl, rfl, e1, r1, s1, q⟩
    exact ix _ _ _ q e1 s1
  · exact ⟨startT N ts, S0, _, Ext.refl H, start_rep h2, h3, hw ts S0 Q0 E0 h1 h4, ⟨fun a S1 q H1 σ1 e1 s1 r1 => im _ _ q H1 _ e1 s1 .non, im, fun _ _ q => q.elim, fun _ _ q => q.elim⟩⟩
end Wp

set_option Elab.async false
set_option linter.all false
set_option maxRecDepth 100000
set_option maxHeartbeats 4000000
/-! a def that may let an error out, called where it lets none out -/
namespace Wp
open PySem PySem.Spec PyProof.Rows L2
section
variable {B : Hp} {X : Cx} {C : Addr} {m x : Str} {o e : Expr} {es : List Expr} {to : WE} {t : WA} {p pos apos : Pos} {k : Nat} {ps : List Str} {s : WSp} {tl : List Addr}
theorem j_callN (c : CalX X.prog X.w X.K X.mg X.base tl k x ps s) (ht : ∀ P ∈ tl, GxR.TabG B P) (hr : Room k X.A) (hg : Gl X x) (ha : JA B X (e :: es) t) (hdb : (x == ("__debug__" : Str)) = false := by decide)
    (hst : starEach (e :: es) X.env = (false, eval e X.env) :: starEach es X.env := by rfl) (hpl : (backTo pos (starEach es X.env)).any (·.1) = false := by rfl) : JE B X (.Call (.Name x p) (e :: es) [] pos) (wCall ps.length s t) := by
  obtain ⟨f, fd, F, hm, kp, b⟩ := c
  refine pe_imp (pe_call F hr hg hm kp b .nil passL ha hdb hst hpl) fun σ H Q ⟨st, S, Q0, he, hr, hs, h, im⟩ => ?_
  refine ⟨st, S, _, he, hr, hs, h, fun xs S1 h1 H1 vs e1 s1 r1 => ?_⟩
  exact ⟨fun P hP => (he.trans e1).tabs P (ht P hP), xs, S1, Q0, fun _ _ => False, h1.1, by rw [List.append_nil]; exact r1, s1, h1.2, fun z S2 q => fin_ext e1 (im z S2 q), fun C S' H' q => q.elim⟩
end
end Wp

set_option Elab.async false
set_option linter.all false
set_option maxRecDepth 100000
set_option maxHeartbeats 4000000
/-! products: of numbers; of a list and a number -/
namespace Wp
open PySem PySem.Spec PyProof.Rows L2
def rMulB (x : T) (y : T) (S : Sta) (Q : T → Sta → Prop) : Prop := match x, y with
  | .int i, .int j => CMul i j ∧ Q (.int (i * j)) S
  | .ref p, .int k => ∃ xs, S p = some (.lst xs) ∧ -(2 ^ 63) ≤ k ∧ k < 2 ^ 63 ∧ xs.length * k.toNat ≤ sizeLine ∧ ∀ r, S r = none → Q (.ref r) (upS S r (.lst (List.replicate k.toNat xs).flatten))
  | _, _ => False
theorem Reps.rep {K : PySem.W.Frag} {H : Hp} {ts : List T} {vs : List V} (h : Reps K H ts vs) : ∀ k : Nat, Reps K H (List.replicate k ts).flatten (List.replicate k vs).flatten
  | 0 => .nil
  | k + 1 => by
    rw [List.replicate_succ, List.replicate_succ, List.flatten_cons, List.flatten_cons]
    exact Reps.append h (Reps.rep h k)
theorem o_mulB {X : Cx} : OpT X (binaryOp .Mult) rMulB := by
  intro pins s σ H x y v u Q I rx ry ⟨a, b, S, Q0, ra, rb, hs, q, im⟩
  cases a with
  | int i =>
    cases b with
    | int j =>
      exact o_mul pins s σ H x y v u Q I rx ry ⟨.int i, .int j, S, Q0, ra, rb, hs, ⟨q.1, q.2⟩, im⟩
    | _ => exact q.elim
  | ref p =>
    cases b with
    | int k =>
      cases ra
      cases rb
      obtain ⟨ts, e1, k0, k1, hz, q⟩ := q
      obtain ⟨xs, h1, r1⟩ := hs p _ e1
      refine op_rep pins s σ H _ _ v u Q I rx ry ⟨p, k, xs, rfl, rfl, h1, k0, k1, by rw [← r1.length]; exact hz, fun r hr => ?_⟩
      obtain ⟨e3, s3⟩ := hs.newL hr (Reps.rep r1 k.toNat)
      exact im _ _ (q r (hs.free hr)) _ _ e3 s3 (.ref r)
    | _ => exact q.elim
  | _ => exact q.elim
end Wp

set_option Elab.async false
set_option linter.all false
set_option maxRecDepth 100000
set_option maxHeartbeats 4000000
/-! a list comprehension whose element may let an error of an own class out -/
namespace Wp
open PySem PySem.Spec PyProof.Rows L2
/-- the block's end: a value, or an error that its own environment passes on -/
def postX (M : Model) (A : Around) (E : Value → Shared → Prop) (use : Option (Value → Sem Unit)) (Q : Value → Shared → Prop) (acc : Value) (ce : Env) : Result → Shared → Prop
  | .ok f, t => compPost M A E use Q acc ce.locals (.ok f) t
  | .error x, t => ∃ m, t.heap.Ns ce.locals m ∧ ∀ h', Heap.SameBut ce.locals t.heap h' → wpAny M A (passOn "comprehension.variables-let-go" x ce : Sem Value) (fun _ _ => False) E { t with heap := h' }
theorem comp_exit {M : Model} {A : Around} {E : Value → Shared → Prop} {s : Shared} {env : Env} {e : Expr} {scope : Scope} {pos : Pos} {newAcc first : Sem Value} {g : Comprehension} {gs : List Comprehension} {cl : List (Str × Addr)} {use : Option (Value → Sem Unit)} {Q : Value → Shared → Prop}
    (c1 : clausesOf e = g :: gs) (c2 : ∀ x, foldedSetIterable g.iter env x = pure x) (c3 : closureFor scope env = pure cl) (kd : scope.kind = .function) (nm : ∀ x ∈ scope.names, x.2 = .local → scope.names.lookup x.1 = some .local)
    (h : wpAny M A first (fun x t1 => wpAny M A (pyIter x) (fun it t2 => wpAny M A newAcc (fun acc t3 => wpAny M A (newFunctionEnv scope env.globals cl [] env.qual none .none (some env)) (fun ce t4 =>
        codeAny M A (.compStart e 0 it acc { ce with scope := relabel scope env }) (postX M A E use Q acc { ce with scope := relabel scope env }) t4) E t3) E t2) E t1) E s) :
    wpAny M A (comprehension e scope env pos newAcc false first use) Q E s := by
  unfold comprehension
  rw [c3, c1]
  refine wpAny_bind (wpAny_mono h (fun x t1 h1 => wpAny_bind (wpAny_standAt (wpAny_bind (wpAny_of_eq (c2 x) (wpAny_bind (wpAny_holding (wpAny_mono h1 (fun it t2 h2 =>
    wpAny_standIf (wpAny_bind (wpAny_mono h2 (fun acc t3 h3 => wpAny_bind (wpAny_pure (wpAny_bind (wpAny_mono h3 (fun ce t4 h4 => ?_) fun _ _ z => z)))) fun _ _ z => z)))
      fun _ _ z => z))))))) fun _ _ z => z)
  dsimp only
  have lv : ∀ x ∈ (scope.names.filter fun x => (x.2 == .local || x.2 == .cell) && x.1 != (".0" : Str)).reverse, x.2 = .local → Env.kindOf { ce with scope := relabel scope env } x.1 = some .local := fun x hx hl =>
    lookup_relabel_local (nm x (List.mem_filter.mp (List.mem_reverse.mp hx)).1 hl)
  refine wpAny_holding (wpAny_bind (wpAny_attempt (wpAny_holding (wpAny_run (codeAny_mono h4 fun r t5 hr => ?_)))))
  cases r with
  | ok f =>
    cases use with
    | none =>
      obtain ⟨m, hn, hr⟩ := hr
      exact wpAny_bind (wpAny_holding (wpAny_comp_letGo (cenv := { ce with scope := relabel scope env }) kd _ t5 m lv hn fun h' m' _ sb => wpAny_pure (hr h' sb)))
    | some u =>
      refine wpAny_bind (wpAny_rule (wpAny_bind (wpAny_holding (wpAny_mono hr (fun _ t6 hr2 => ?_) fun _ _ z => z))))
      obtain ⟨m, hn, hr2⟩ := hr2
      refine wpAny_bind (wpAny_comp_letGo (cenv := { ce with scope := relabel scope env }) kd _ t6 m (fun x hx hl => ?_) hn fun h' m' _ sb => wpAny_pure (hr2 h' sb))
      rcases List.mem_append.mp hx with z | z
      · exact lv x (List.mem_of_mem_drop z) hl
      · exact lv x (List.mem_of_mem_take z) hl
  | error x =>
    obtain ⟨m, hn, hr⟩ := hr
    exact wpAny_bind (wpAny_holding (wpAny_comp_letGo (cenv := { ce with scope := relabel scope env }) kd _ t5 m lv hn fun h' m' _ sb => wpAny_mono (hr h' sb) (fun _ _ f => f.elim) fun _ _ y => y))
theorem noteFrame_of {x : Value} {env ce : Env} (h : ce.frame = env.frame) : noteFrame x ce = noteFrame x env := by
  unfold noteFrame PySem.frameOf
  rw [h]
/-- one object more is pinned -/
abbrev pnX (X : Cx) (C : Addr) (o : Obj) : Cx := { X with pn := X.pn ++ [(C, o)] }
section
variable {X : Cx} {pins : List (Addr × Obj)} {σ : L2.St} {H : Hp} {s : Shared} {C : Addr} {o : Obj}
theorem pn_in (I : Inv X pins σ H s) (e : s.heap.get? C = some o) (f : FpOk X pins H C) (d : ∀ v, o.data ≠ .cell v) : Inv (pnX X C o) pins σ H s := by
  obtain ⟨f0, f1, f2, _⟩ := f
  have k := I.ok
  refine ⟨⟨k.mod, k.kind, k.glob, k.blt, k.above, k.inj, k.has, k.cab, k.hd, k.frames, k.stk, k.exf, k.bs, k.bsz, k.noex, k.exfs, k.funs, k.frf⟩, I.os, I.bare, I.base, I.loc, I.cell, I.free, I.freeC, fun p hp => ?_, I.hok, I.len⟩
  rcases List.mem_append.mp hp with hp | hp
  · rcases List.mem_append.mp hp with hp | hp
    · exact I.pin p (List.mem_append_left _ hp)
    · have hp : p = (C, o) := by simpa using hp
      subst hp
      exact ⟨e, f0, f1, f2, d⟩
  · exact I.pin p (List.mem_append_right _ hp)
theorem pn_out (I : Inv (pnX X C o) pins σ H s) : Inv X [] σ H s ∧ s.heap.get? C = some o ∧ H C = none := by
  have k := I.ok
  refine ⟨⟨⟨k.mod, k.kind, k.glob, k.blt, k.above, k.inj, k.has, k.cab, k.hd, k.frames, k.stk, k.exf, k.bs, k.bsz, k.noex, k.exfs, k.funs, k.frf⟩, I.os, I.bare, I.base, I.loc, I.cell, I.free, I.freeC, fun p hp => ?_, I.hok, I.len⟩, ?_⟩
  · rw [List.append_nil] at hp
    exact I.pin p (List.mem_append_left _ (List.mem_append_left _ hp))
  · have z := I.pin (C, o) (List.mem_append_left _ (List.mem_append_right _ List.mem_cons_self))
    exact ⟨z.1, z.2.1⟩
/-- an error that the block notes and passes on, its variables let go, is in the def's air -/
theorem air_out {W : WX} (hst : X.stack = X.env :: X.outer) (hfr : X.env.frame = some X.env.locals) (tk : Takes X W) {ce : Env} (cf : ce.frame = X.env.frame) (cL : ce.locals = C) {m : Str → Option Value} {es : Array DictEntry} {ep : Nat}
    (od : o.data = .dict es ep) (ok : StrKeys es ∧ ∀ name, nsFind es name = m name) (f : ∀ {H'}, H' C = none → FpOk X [] H' C) {u : Value} {s' : Shared} (x : XE (pnX X C o) W u s') :
    notedBy (model X.prog X.w) X.A ce (fun e t => ∃ m, t.heap.Ns ce.locals m ∧ ∀ h', Heap.SameBut ce.locals t.heap h' → wpAny (model X.prog X.w) X.A (passOn "comprehension.variables-let-go" e ce : Sem Value) (fun _ _ => False) X.xe { t with heap := h' }) u s' := by
  obtain ⟨a, B, sI, pins, σ, H, cls, d, rfl, I, nb, up, sky, na, os, ag, w⟩ := x
  have hA : X.A.frames = some (X.env :: X.outer) := by rw [I.ok.frames]; exact congrArg some hst
  obtain ⟨I0, eC, nC⟩ := pn_out I
  obtain ⟨f0, f1, f2, f3, f4, f5⟩ := f nC
  have nfr : C ∉ frs X.stack := fun z => by
    have h1 := I0.stkSub C z
    rcases List.mem_cons.mp h1 with z | z
    · exact f1 z
    · exact f2 z
  have bC : B.get? C = some o := nb C o eC nfr
  show wpAny _ _ (noteFrame (.ref a) ce) _ _ _
  rw [noteFrame_of cf]
  have fin : ∀ h1, HandSPX.HeldZ B (X.env :: X.outer) a (Zc cls d) X.env.locals h1 → s'.heap.UpToSlots h1 → (fun t => ∃ m, t.heap.Ns ce.locals m ∧ ∀ h', Heap.SameBut ce.locals t.heap h' → wpAny (model X.prog X.w) X.A (passOn "comprehension.variables-let-go" (.ref a) ce : Sem Value) (fun _ _ => False) X.xe { t with heap := h' }) { s' with heap := h1 } := fun h1 hh up1 => by
    refine ⟨m, ⟨o, es, ep, by rw [cL]; exact hh.1 C o bC, od, ok⟩, fun h2 sb => ?_⟩
    rw [cL] at sb
    obtain ⟨g1, g2, g3, oe, vs, T, oT, ts, he, hz, hd, hv, hnT, hTe, hT, hdT, h3⟩ := hh
    have aC : a ≠ C := fun z => by rw [z, bC] at g2; cases g2
    have tC : T ≠ C := fun z => by rw [z, bC] at hnT; cases hnT
    have hid : ∀ {b}, B.get? b = none → (PySem.W.hideAll B [C]).get? b = none := fun {b} e => by
      cases q : (PySem.W.hideAll B [C]).get? b with
      | none => rfl
      | some o' =>
        have z := PySem.W.of_hideAll _ q
        rw [e] at z; cases z
    have hidC : ∀ {b o' : _} {G : Heap}, (PySem.W.hideAll G [C]).get? b = some o' → b ≠ C ∧ G.get? b = some o' := fun {b o' G} q => by
      refine ⟨fun z => ?_, PySem.W.of_hideAll _ q⟩
      rw [z, PySem.W.hideAll_none [C] List.mem_cons_self] at q; cases q
    have frB : ∀ {l : List Env}, h1.FunFrames B l → h2.FunFrames (PySem.W.hideAll B [C]) l := fun {l} q => by
      have q1 : h1.FunFrames (PySem.W.hideAll B [C]) l := funFrames_none q fun L hL => hid (q.mem hL).1
      have : ∀ {l : List Env}, h1.FunFrames B l → h1.FunFrames (PySem.W.hideAll B [C]) l → h2.FunFrames (PySem.W.hideAll B [C]) l := fun {l} => by
        induction l with
        | nil => intro _ _; trivial
        | cons env l ih =>
          rintro ⟨_, ⟨L0, _, hf0, hB0, _, _⟩, r0⟩ ⟨hk, ⟨L, oL, hf, hB, ho, hd⟩, r⟩
          rw [hf] at hf0; cases hf0
          exact ⟨hk, ⟨_, oL, hf, hB, (sb.2 _ fun z => by rw [z, bC] at hB0; cases hB0).trans ho, hd⟩, ih r0 r⟩
      exact this q q1
    have hh2 : HandSPX.HeldZ (PySem.W.hideAll B [C]) (X.env :: X.outer) a (Zc cls d) X.env.locals h2 :=
      ⟨fun b o' q => by
        obtain ⟨n1, q1⟩ := hidC q
        exact (sb.2 b n1).trans (g1 b o' q1), hid g2, frB g3, oe, vs, T, oT, ts, (sb.2 a aC).trans he, hz, hd, hv, hid hnT, hTe, (sb.2 T tC).trans hT, hdT, h3⟩
    have up2 : (PySem.W.hideAll sI.heap [C]).UpToSlots h2 := fun b o' q hnf => by
      obtain ⟨n1, q1⟩ := hidC q
      obtain ⟨sl, e1⟩ := up b o' q1 hnf
      obtain ⟨sl2, e2⟩ := up1 b _ e1 hnf
      exact ⟨sl2, (sb.2 b n1).trans e2⟩
    have I2 : Inv X [] σ H { sI with heap := PySem.W.hideAll sI.heap [C] } :=
      I0.turned (t' := sI.toks) (fun b o' hb e => PySem.W.hideAll_get _ e fun z => hb (by simpa using z)) nC f1 f3 f4 f5
    unfold PySem.passOn
    refine wpAny_bind (wpAny_field (s := { s' with heap := h2 }) ((sb.2 a aC).trans he) hd hv ?_)
    rw [if_neg (show ¬ ((Value.ref T == Value.none) = true) from by simp)]
    refine wpAny_bind ?_
    rw [cf, hfr]
    refine HandSPX.setFlight_onZ (s := { s' with heap := h2 }) hh2 fun h3 hh3 up3 => ?_
    refine wpAny_throw ?_
    refine tk _ _ ⟨a, PySem.W.hideAll B [C], _, [], σ, H, cls, d, rfl, I2, fun b o' q hb => ?_, fun b o' q hnf => ?_, .inr (.inr (by rw [hst]; exact hh3)), na, os, ag, w⟩
    · obtain ⟨n1, q1⟩ := hidC q
      exact PySem.W.hideAll_get _ (nb b o' q1 hb) fun z => n1 (by simpa using z)
    · obtain ⟨sl, e1⟩ := up2 b o' q hnf
      obtain ⟨sl2, e2⟩ := up3 b _ e1 hnf
      exact ⟨sl2, e2⟩
  have sky : Sky B (X.env :: X.outer) a (Zc cls d) X.env.locals s'.heap := by
    have z : Sky B X.stack a (Zc cls d) X.env.locals s'.heap := sky
    rw [hst] at z
    exact z
  rcases sky with ⟨hB, hn, hl, oe, vs, he, hz, hd, h1⟩ | fl | hh
  · exact HandSPX.look_newZ Zc.steady hA hl hfr he hB hn hd h1 hz fin
  · exact HandSPX.looks_onZ Zc.steady hA hfr fl fin
  · exact HandSPX.againZ hfr hh.2.2.2 (fin _ hh (Heap.UpToSlots.refl _))
end

/-- the context of a block with a wish about errors -/
abbrev blkX (X : Cx) (s : Shared) (H : Hp) (scope : Scope) (cenv : Env) (fp : List Addr) (xe : Value → Shared → Prop) : Cx := { X.blk s H scope cenv fp with xe := xe }
section
variable {X : Cx}
theorem lc_coreX {pins : List (Addr × Obj)} {s : Shared} {σ : L2.St} {H : Hp} {Q : VK} {elt tg iter : Expr} {ifs : List Expr} {scope : Scope} {own : List (Str × Nat)} {pos pos' : Pos} {wi : TI} {g : TG} {tt : TT} {te : XK → TE} {W : WX} {use : Option (Value → Sem Unit)} {Qf : Value → Shared → Prop}
    (hst : X.stack = X.env :: X.outer) (hfr : X.env.frame = some X.env.locals) (tk : Takes X W)
    (hc : X.calm = true) (hN : X.N.Nodup) (I : Inv X pins σ H s) (hi : PI X tg iter wi) (ok : BlkOk X.N X.env.scope scope own)
    (hg : ∀ (t : Shared) (G : Hp) (C : Addr) (cl : List (Str × Addr)) (fp : List Addr), PG (X.blk t G scope (compEnvC scope cl C X.env) fp) tg g) (ht : ∀ (t : Shared) (G : Hp) (C : Addr) (cl : List (Str × Addr)) (fp : List Addr), PTs (X.blk t G scope (compEnvC scope cl C X.env) fp) ifs tt)
    (he : ∀ (Z : XK) (t : Shared) (G : Hp) (C : Addr) (cl : List (Str × Addr)) (fp : List Addr) (xe : Value → Shared → Prop), (∀ τ, PassesAt (L2.CX X.prog X.w) (blkX X t G scope (compEnvC scope cl C X.env) fp xe) τ Z) → PE (blkX X t G scope (compEnvC scope cl C X.env) fp xe) elt (te Z)) (hs : ∀ x, foldedSetIterable iter X.env x = pure x)
    (h : tLc wi g tt (te fun cls d G => W cls d σ G) (own.map (·.2)) σ H Q)
    (hR : ∀ D C t m G, Inv X pins σ G t → Q (.ref D) G → t.heap.Ns C m → FpOk X pins G C → compPost (model X.prog X.w) X.A X.xe use Qf (.ref D) C (.ok .next) t) :
    wpAny (model X.prog X.w) X.A (comprehension (.ListComp elt [⟨tg, iter, ifs, 0⟩] scope pos) scope X.env pos' (newList []) false (eval iter X.env) use) Qf X.xe s := by
  have hfree : ∀ y ∈ scope.names, y.2 = .free → ∃ c, X.env.cells.lookup y.1 = some c := fun y hy e => (ok.free y hy e).elim (fun k => I.ok.has _ (.inl k)) fun k => I.ok.has _ (.inr k)
  refine comp_exit (use := use) rfl hs (closure_ok hfree) ok.kind (fun y hy e => by rw [ok.uniq y hy, e]) (thn (hi.run pins s σ H _ I h) fun xv s1 hx => thn hx fun itv s2 h2 => ?_)
  obtain ⟨it, fp, tn, J, H2, e, I2, T, st2, f2, q⟩ := h2
  subst e
  refine wpAny_newObj_type (newEnv_comp ?_) (by show 0 ≤ sizeLine; decide)
  generalize hD : s2.heap.objs.size = D
  have hDn : H2 D = none := I2.hok.fresh (Nat.le_of_eq hD)
  obtain ⟨V, ⟨m0, w0⟩, turn⟩ := q D hDn
  generalize hs3 : ({ s2 with heap := s2.heap.push { cls := .type "list", data := .seq ([] : List Value).toArray } } : Shared) = s3
  have I3 : Inv X pins σ (upd H2 D (.lst [])) s3 := by
    rw [← hs3]
    refine I2.laid (t' := s2.toks) (fun b o e => Heap.get?_push_of_some _ e) (Nat.le_of_eq hD) ⟨Nat.zero_le _, [], 0, .nil, ?_⟩
    rw [← hD]
    exact Heap.get?_push_size _ rfl
  have h3 : s3.heap = s2.heap.push { cls := .type "list", data := .seq ([] : List Value).toArray } := by rw [← hs3]
  have f3 : ∀ b ∈ fp, FpOk X pins (upd H2 D (.lst [])) b ∧ b < s3.heap.objs.size := fun b hb => by
    have hlt : b < s2.heap.objs.size := by
      obtain ⟨o, e, _⟩ := T.obj _ _ st2 b hb
      exact Heap.lt_size e
    refine ⟨⟨?_, (f2 b hb).2⟩, by rw [h3, Heap.size_push]; exact Nat.lt_succ_of_lt hlt⟩
    rw [upd_ne (by rw [← hD]; exact Nat.ne_of_lt hlt)]
    exact (f2 b hb).1
  have st3 : tn 0 s3.heap := T.keep _ _ _ st2 fun b _ o e => by rw [h3]; exact Heap.get?_push_of_some _ e
  have I4 := block_start I3 ok hN f3
  have pg := hg s3 (upd H2 D (.lst [])) s3.heap.objs.size (cellsFrom (s3.heap.objs.size + 1) scope.names (cloFrom X.env.cells scope.names [])) fp
  have pt := ht s3 (upd H2 D (.lst [])) s3.heap.objs.size (cellsFrom (s3.heap.objs.size + 1) scope.names (cloFrom X.env.cells scope.names [])) fp
  have pe := fun xe => he (fun cls d G => W cls d σ G) s3 (upd H2 D (.lst [])) s3.heap.objs.size (cellsFrom (s3.heap.objs.size + 1) scope.names (cloFrom X.env.cells scope.names [])) fp xe
  show codeAny _ _ (.compStart (.ListComp elt [⟨tg, iter, ifs, 0⟩] scope pos) 0 (.ref it) (.ref D) (compEnvC scope (cellsFrom (s3.heap.objs.size + 1) scope.names (cloFrom X.env.cells scope.names [])) s3.heap.objs.size X.env)) (postX (model X.prog X.w) X.A X.xe use Qf (.ref D) (compEnvC scope (cellsFrom (s3.heap.objs.size + 1) scope.names (cloFrom X.env.cells scope.names [])) s3.heap.objs.size X.env)) { s3 with heap := pushCells (s3.heap.push { cls := .type "dict", data := .dict #[] }) scope.names }
  have nfp : ∀ b ∈ fp, (upd H2 D (.lst [])) b = none := fun b hb => (f3 b hb).1.1
  have cF : (compEnvC scope (cellsFrom (s3.heap.objs.size + 1) scope.names (cloFrom X.env.cells scope.names [])) s3.heap.objs.size X.env).frame = X.env.frame := rfl
  generalize hce : compEnvC scope (cellsFrom (s3.heap.objs.size + 1) scope.names (cloFrom X.env.cells scope.names [])) s3.heap.objs.size X.env = ce at I4 pg pt pe cF ⊢
  have cL : ce.locals = s3.heap.objs.size := by subst hce; rfl
  generalize hH3 : upd H2 D (.lst []) = H3 at I3 I4 pg pt pe w0 nfp f3
  generalize hs4 : ({ s3 with heap := pushCells (s3.heap.push { cls := .type "dict", data := .dict #[] }) scope.names } : Shared) = s4 at I4 ⊢
  have st4 : tn 0 s4.heap := T.keep _ _ _ st3 fun b _ o e => by rw [← hs4]; exact pushCells_keeps _ _ _ _ (Heap.get?_push_of_some _ e)
  have stat : ∀ {σ' : L2.St} {H' : Hp} {s' : Shared}, Inv (X.blk s3 H3 scope ce fp) [] σ' H' s' → (∀ b ∈ fp, H' b = none) → ∀ b ∈ fp, FpOk (X.blk s3 H3 scope ce fp) [] H' b := fun {σ' H' s'} I' hn b hb =>
    ⟨hn b hb, (I'.ok.exf b hb).1, I'.ok.exfs b hb, .inl hb, fun x c e => (I'.ok.exf b hb).2 x c e, fun p hp => absurd (show p ∈ ([] : List (Addr × Obj)) ++ [] from hp) (by simp)⟩
  -- back in the def's context
  have home : ∀ {pn : List (Addr × Obj)} {τ : L2.St} {G : Hp} {t : Shared}, Inv (X.blk s3 H3 scope ce fp) pn τ G t → Inv X pins σ G t ∧ G s3.heap.objs.size = none := fun {pn τ G t} I6 => by
    refine ⟨I3.call' (ch := fp) I6.os I6.base I6.hok I6.bare fun b hb => ⟨(f3 b hb).1.2.2.2.1, (f3 b hb).1.2.1, (f3 b hb).1.2.2.2.2.1, (f3 b hb).1.2.2.2.2.2⟩, ?_⟩
    have z : G ce.locals = none := I6.free
    rw [cL] at z
    exact z
  have pe := pe (notedBy (model X.prog X.w) X.A ce fun e t => postX (model X.prog X.w) X.A X.xe use Qf (.ref D) ce (.error e) t) fun τ pn G t u t' I6 c => by
    have I6 : Inv (X.blk s3 H3 scope ce fp) pn τ G t := I6.unwish
    obtain ⟨I7, nC⟩ := home I6
    obtain ⟨m, ⟨o, es, ep, eo, od, ok2⟩, _⟩ := I6.loc
    have eo : t.heap.get? ce.locals = some o := eo
    have fo : ∀ {pn : List (Addr × Obj)} {G' : Hp}, (∀ p ∈ pn, p ∈ pins) → G' ce.locals = none → FpOk X pn G' ce.locals := fun {pn G'} sub n => by
      obtain ⟨a0, a1, a2, a3, a4, a5⟩ := I3.fpOk (b := ce.locals) (H' := G') (by rw [cL]; exact Nat.le_refl _) n
      exact ⟨a0, a1, a2, a3, a4, fun p hp => a5 p ((List.mem_append.mp hp).elim (fun z => List.mem_append_left _ z) fun z => List.mem_append_right _ (sub p z))⟩
    have I8 := pn_in I7 eo (fo (fun _ z => z) (by rw [cL]; exact nC)) fun v z => by rw [od] at z; cases z
    have x : XE (pnX X ce.locals o) W u t' := XE.of_call (X := pnX X ce.locals o) I8 (fun cls d G' hh => hh) c
    exact air_out hst hfr tk cF rfl od ok2 (fun n => fo (fun _ z => by cases z) n) x
  have loop : codeAny (model X.prog X.w) X.A (.compLoop (.ListComp elt [⟨tg, iter, ifs, 0⟩] scope pos) 0 (.ref it) (.ref D) ce) (postX (model X.prog X.w) X.A X.xe use Qf (.ref D) ce) s4 := by
    refine compLoop_any (fun n s' => ∃ i H', Inv (X.blk s3 H3 scope ce fp) [] (wipe σ (own.map (·.2))) H' s' ∧ tn i s'.heap ∧ (∀ b ∈ fp, H' b = none) ∧ V i n H') ?_ m0 ⟨0, H3, I4, st4, nfp, w0⟩
    rintro n s5 ⟨i, H5, I5, st5, n5, w5⟩
    rcases turn i n H5 w5 with ⟨stop, qq⟩ | ⟨go, Nx, hNx, step⟩
    · have td := T.done (X.blk s3 H3 scope ce fp) rfl rfl rfl hc i [] s5 _ H5 (fun _ _ => False) I5 (stat I5 n5) st5 stop
      refine thnF td fun r s6 ⟨hr, I6⟩ => ?_
      subst hr
      obtain ⟨I7, nC⟩ := home I6
      obtain ⟨m, hn, _⟩ := I6.loc
      have hn : s6.heap.Ns ce.locals m := hn
      show compPost _ _ _ _ _ _ ce.locals _ _
      rw [cL] at hn ⊢
      exact hR D s3.heap.objs.size s6 m H5 I7 qq hn (I3.fpOk (Nat.le_refl _) nC)
    · have ti := T.item (X.blk s3 H3 scope ce fp) rfl rfl rfl hc i [] s5 _ H5 (fun _ _ => False) I5 (stat I5 n5) st5 go
      refine thnF ti fun r s6 ⟨u, hr, h6⟩ => ?_
      subst hr
      refine thnF h6 fun _ s7 ⟨x, H7, I7, r7, y7, st7, n7⟩ => ?_
      have I7' := I7.pinned (stat I7 n7) (T.obj _ _ st7)
      refine thnF (pg.run _ s7 _ H7 x u _ I7' r7 (step x H7 y7)) fun _ s8 ⟨σ8, H8, I8, hw8, q8⟩ => ?_
      refine thnF (pt.run _ s8 σ8 H8 _ I8 q8) fun b s9 ⟨H9, I9, q9⟩ => ?_
      have fin : ∀ {s' : Shared} {H' : Hp}, Inv (X.blk s3 H3 scope ce fp) ([] ++ pinsAt fp s7.heap) σ8 H' s' → Nx H' → ∃ m, m < n ∧ ∃ i H', Inv (X.blk s3 H3 scope ce fp) [] (wipe σ (own.map (·.2))) H' s' ∧ tn i s'.heap ∧ (∀ b ∈ fp, H' b = none) ∧ V i m H' := fun {s' H'} I' nx => by
        obtain ⟨m', hm, w'⟩ := hNx H' nx
        have pin' : ∀ b ∈ fp, ∀ o, s7.heap.get? b = some o → s'.heap.get? b = some o ∧ H' b = none := fun b hb o e =>
          let z := I'.pin (b, o) (List.mem_append_right _ (List.mem_append_right _ (mem_pinsAt hb e)))
          ⟨z.1, z.2.1⟩
        have hl : (wipe σ (own.map (·.2))).length = σ8.length := by rw [← hw8, wipe_length]
        refine ⟨m', hm, i + 1, H', (I'.unpinned (pins := [])).weak hl (fun j v e => ?_), T.keep _ _ _ st7 fun b hb o e => (pin' b hb o e).1, fun b hb => ?_, w'⟩
        · rw [← hw8] at e
          exact (wipe_some e).1
        · obtain ⟨o, e, _⟩ := T.obj _ _ st7 b hb
          exact (pin' b hb o e).2
      cases b with
      | false =>
        simp only [Bool.false_eq_true, if_false] at q9 ⊢
        exact fin I9 q9
      | true =>
        simp only [if_true] at q9 ⊢
        refine thn (pe.run _ s9 σ8 H9 _ (I9.wish _) q9) fun z s10 ⟨yv, H10, I10, r10, acc, hD10, hz10, nx⟩ => ?_
        exact app_ok (X := X.blk s3 H3 scope ce fp) I10.unwish hD10 hz10 r10 fun s11 I11 => fin I11 nx
  exact codeAny_compStart_list loop (T.self X.A 0 _ _ _ st4 loop)
/-- as a value -/
theorem pe_lcX {elt tg iter : Expr} {ifs : List Expr} {scope : Scope} {own : List (Str × Nat)} {pos : Pos} {wi : TI} {g : TG} {tt : TT} {te : XK → TE} {W : WX} (hst : X.stack = X.env :: X.outer) (hfr : X.env.frame = some X.env.locals) (tk : Takes X W)
    (hc : X.calm = true) (hN : X.N.Nodup) (hi : PI X tg iter wi) (ok : BlkOk X.N X.env.scope scope own)
    (hg : ∀ (t : Shared) (G : Hp) (C : Addr) (cl : List (Str × Addr)) (fp : List Addr), PG (X.blk t G scope (compEnvC scope cl C X.env) fp) tg g) (ht : ∀ (t : Shared) (G : Hp) (C : Addr) (cl : List (Str × Addr)) (fp : List Addr), PTs (X.blk t G scope (compEnvC scope cl C X.env) fp) ifs tt)
    (he : ∀ (Z : XK) (t : Shared) (G : Hp) (C : Addr) (cl : List (Str × Addr)) (fp : List Addr) (xe : Value → Shared → Prop), (∀ τ, PassesAt (L2.CX X.prog X.w) (blkX X t G scope (compEnvC scope cl C X.env) fp xe) τ Z) → PE (blkX X t G scope (compEnvC scope cl C X.env) fp xe) elt (te Z)) (hs : ∀ x, foldedSetIterable iter X.env x = pure x := by intro _; rfl) :
    PE X (.ListComp elt [⟨tg, iter, ifs, 0⟩] scope pos) (fun σ H Q => tLc wi g tt (te fun cls d G => W cls d σ G) (own.map (·.2)) σ H Q) := by
  refine ⟨fun pins s σ H Q I h => ?_⟩
  rw [eval_ListComp]
  refine lc_coreX hst hfr tk hc hN I hi ok hg ht he hs h fun D C s' m H' I' q hn f => ⟨m, hn, fun h'' sb => ?_⟩
  obtain ⟨f0, f1, f2, f3, f4, f5⟩ := f
  exact ⟨.ref D, H', I'.turned (t' := s'.toks) (fun b o hb e => (sb.2 b hb).trans e) f0 f1 f3 f4 f5, rfl, q⟩
end
/-! ### the readings -/
theorem tLc_mono {wi wi' : TI} {g : TG} {tt tt' : TT} {te te' : TE} {vs : List Nat} (h1 : ∀ σ H R, wi σ H R → wi' σ H R) (h2 : ∀ σ H R, tt σ H R → tt' σ H R) (h3 : ∀ σ H R, te σ H R → te' σ H R)
    (hi : ∀ σ H (R R' : It → Hp → Prop), (∀ J G, R J G → R' J G) → wi' σ H R → wi' σ H R') (hg : ∀ x σ H (R R' : L2.St → Hp → Prop), (∀ τ G, R τ G → R' τ G) → g x σ H R → g x σ H R') (ht : ∀ σ H (R R' : Bool → Hp → Prop), (∀ b G, R b G → R' b G) → tt' σ H R → tt' σ H R')
    {σ : L2.St} {H : Hp} {Q : VK} (h : tLc wi g tt te vs σ H Q) : tLc wi' g tt' te' vs σ H Q := by
  refine hi _ _ _ _ (fun J G k => ?_) (h1 _ _ _ h)
  intro D hD
  obtain ⟨V, v0, turn⟩ := k D hD
  refine ⟨V, v0, fun i m G w => ?_⟩
  rcases turn i m G w with z | ⟨go, Nx, n1, st⟩
  · exact .inl z
  · refine .inr ⟨go, Nx, n1, fun x G' y => hg _ _ _ _ _ (fun τ G2 z => ⟨z.1, ?_⟩) (st x G' y)⟩
    refine ht _ _ _ _ (fun b G3 z3 => ?_) (h2 _ _ _ z.2)
    cases b with
    | true => rw [if_pos rfl] at z3 ⊢; exact h3 _ _ _ z3
    | false => exact z3
def wLcX (E : EW) (wi : WI) (g : WG) (tt : WT) (te : EW → WE) (vs : List Nat) (σ : Sl) (S : Sta) (Q : T → Sta → Prop) : Prop := wLc wi g tt (te fun C _ S' => E C σ S') vs σ S Q
def xOfB (K : PySem.W.Frag) (B : Hp) (E : Addr → Sta → Prop) : XK := fun cls d H => ∃ C S, cls = .ref C ∧ d = none ∧ Ext B H ∧ St K S H ∧ E C S
section
variable {B : Hp} {X : Cx} {pos : Pos}
theorem j_lcX {elt tg iter : Expr} {ifs : List Expr} {scope : Scope} {own : List (Str × Nat)} {wi : WI} {g : WG} {tt : WT} {te : EW → WE} {E : EW} (hst : X.stack = X.env :: X.outer) (hfr : X.env.frame = some X.env.locals) (tk : Takes X (xOf X.K B E))
    (hc : X.calm = true) (hN : X.N.Nodup) (hi : JI B X tg iter wi) (ok : BlkOk X.N X.env.scope scope own)
    (hg : ∀ (t : Shared) (G : Hp) (C : Addr) (cl : List (Str × Addr)) (fp : List Addr), JG (X.blk t G scope (compEnvC scope cl C X.env) fp) tg (own.map (·.2)) g) (ht : ∀ (t : Shared) (G : Hp) (C : Addr) (cl : List (Str × Addr)) (fp : List Addr), JTs B (X.blk t G scope (compEnvC scope cl C X.env) fp) ifs tt)
    (he : ∀ (B' : Hp) (EB : Addr → Sta → Prop) (t : Shared) (G : Hp) (C : Addr) (cl : List (Str × Addr)) (fp : List Addr) (xe : Value → Shared → Prop), Ext B B' → (∀ τ, PassesAt (L2.CX X.prog X.w) (blkX X t G scope (compEnvC scope cl C X.env) fp xe) τ (xOfB X.K B' EB)) → JE B' (blkX X t G scope (compEnvC scope cl C X.env) fp xe) elt (te fun C _ S => EB C S))
    (hs : ∀ x, foldedSetIterable iter X.env x = pure x := by intro _; rfl) :
    JE B X (.ListComp elt [⟨tg, iter, ifs, 0⟩] scope pos) (wLcX E wi g tt te (own.map (·.2))) := by
  refine pe_imp (pe_lcX (g := LG X (own.map fun (p : Str × Nat) => p.2) g) (tt := LT B X tt) (te := fun Z σ H Q => ∃ B' EB, Ext B B' ∧ (∀ cls d G, xOfB X.K B' EB cls d G → Z cls d G) ∧ LE B' X (te fun C _ S => EB C S) σ H Q) hst hfr tk hc hN hi ok (fun s H C cl fp => hg s H C cl fp) (fun s H C cl fp => ht s H C cl fp)
    (fun Z t G C cl fp xe hp => ⟨fun pins s σ H Q I ⟨B', EB, eb, hz, h⟩ => (he B' EB t G C cl fp xe eb fun τ pn H' s' e t' I' c => hp τ pn H' s' e t' I' ?_).run pins s σ H Q I h⟩) hs) fun σ H Q ⟨st, S, Q0, e0, hr, hs, h, im⟩ => ?_
  · obtain ⟨a, Bx, H2, cls, d, q1, q2, q3, q4, q5, q6, q7, q8⟩ := c
    exact ⟨a, Bx, H2, cls, d, q1, q2, q3, q4, q5, q6, q7, hz _ _ _ q8⟩
  · have h : wLc wi g tt (te fun C _ S' => E C st S') (own.map (·.2)) st S Q0 := h
    have k := le_lc (B := H) (X := X) ⟨st, S, Q0, Ext.refl H, hr, hs, h, im⟩
    refine tLc_mono (fun σ' H' R ⟨st', S', Q', e', r⟩ => ⟨st', S', Q', e0.trans e', r⟩) (fun σ' H' R ⟨st', S', Q', e', r⟩ => ⟨st', S', Q', e0.trans e', r⟩) (fun σ' H' R h' => ⟨H, fun C S' => E C st S', e0, fun cls d G ⟨C, S', r1, r2, r3, r4, r5⟩ => ⟨C, st, S', r1, r2, e0.trans r3, hr.mono r3, r4, r5⟩, h'⟩)
      (fun σ' H' R R' k ⟨st', S', Q', e', r1, r2, r3, r4⟩ => ⟨st', S', Q', e', r1, r2, r3, fun xs stb S1 h1 H1 e1 s1 J y => k _ _ (r4 xs stb S1 h1 H1 e1 s1 J y)⟩)
      (fun x σ' H' R R' k ⟨t, st', S', Q', r1, r2, r3, r4, r5⟩ => ⟨t, st', S', Q', r1, r2, r3, r4, fun a S2 q H2 τ z1 z2 z3 z4 => k _ _ (r5 a S2 q H2 τ z1 z2 z3 z4)⟩)
      (fun σ' H' R R' k ⟨st', S', Q', e', r1, r2, r3, r4⟩ => ⟨st', S', Q', e', r1, r2, r3, fun b S2 q H2 z1 z2 => k _ _ (r4 b S2 q H2 z1 z2)⟩) k
end
section
variable {B : Hp} {X : Cx} {C : Addr} {m x : Str} {o e : Expr} {es : List Expr} {to : WE} {t : WA} {p pos pos' np apos : Pos} {k : Nat} {ps : List Str} {s : WSp} {tl : List Addr} {EB : Addr → Sta → Prop}
/-- a call in such an element -/
theorem j_callE (c : CalX X.prog X.w X.K X.mg X.base tl k x ps s) (hp : ∀ τ, PassesAt (L2.CX X.prog X.w) X τ (xOfB X.K B EB)) (ht : ∀ P ∈ tl, GxR.TabG B P) (hr : Room k X.A) (hg : Gl X x) (ha : JA B X (e :: es) t) (hdb : (x == ("__debug__" : Str)) = false := by decide)
    (hst : starEach (e :: es) X.env = (false, eval e X.env) :: starEach es X.env := by rfl) (hpl : (backTo pos (starEach es X.env)).any (·.1) = false := by rfl) : JE B X (.Call (.Name x p) (e :: es) [] pos) (wCallX (fun C _ S => EB C S) ps.length s t) := by
  obtain ⟨f, fd, F, hm, kp, b⟩ := c
  refine pe_imp (pe_callS (E := fun _ => xOfB X.K B EB) F hr hg hm kp b hp ha hdb hst hpl) fun σ H Q ⟨st, S, Q0, he, hr, hs, h, im⟩ => ?_
  refine ⟨st, S, _, he, hr, hs, h, fun xs S1 h1 H1 vs e1 s1 r1 => ?_⟩
  exact ⟨fun P hP => (he.trans e1).tabs P (ht P hP), xs, S1, Q0, _, h1.1, r1, s1, h1.2, fun z S2 q => fin_ext e1 (im z S2 q), fun C S' H' q e2 s2 => ⟨C, S', rfl, rfl, he.trans (e1.trans e2), s2, q⟩⟩
end
end Wp

set_option Elab.async false
set_option linter.all false
set_option maxRecDepth 100000
set_option maxHeartbeats 4000000
/-! what an End keeps, as a value, and what its methods do to it -/
namespace My
open PySem PySem.Spec PyProof.Rows L2 Wp
abbrev Bs := List (Int × Int)
def srtd (l : Bs) : Prop := l.Pairwise fun e f => e.1 < f.1
/-- a new key, in its place -/
def insA (k v : Int) : Bs → Bs
  | [] => [(k, v)]
  | e :: r => if k < e.1 then (k, v) :: e :: r else if e.1 = k then e :: r else e :: insA k v r
def keep1 (g : Int) (l : Bs) (k v : Int) : Bs := if g ≤ k then insA k v l else l
def keepA (g : Int) : Bs → Int → List Int → Bs
  | l, _, [] => l
  | l, o, b :: d => keepA g (keep1 g l o b) (o + 1) d
def drain : Int → Bs → List Int × Bs
  | _, [] => ([], [])
  | g, e :: r => if e.1 = g then (e.2 :: (drain (g + 1) r).1, (drain (g + 1) r).2) else ([], e :: r)
structure EM where
  base : Int
  pend : List Int
  closed : Int
  given : Int
  got : Int
  ended : Int
  ahead : Bs
  fin : Option Int
def EM.new : EM := ⟨0, [], 0, 0, 0, 0, [], none⟩
def EM.known (m : EM) (t : Int) : Int := max m.base (min t (m.base + m.pend.length))
def EM.learn (m : EM) (t : Int) : EM := { m with base := m.known t, pend := m.pend.drop (m.known t - m.base).toNat, given := if m.closed ≠ 0 ∧ m.base + m.pend.length < t then 1 else m.given }
def EM.keep (m : EM) (o : Int) (d : List Int) : EM := { m with ahead := keepA m.got m.ahead o d }
def EM.finI (m : EM) (o : Int) (d : List Int) (l : Int) : EM := { m with fin := if l = 1 then some (o + d.length) else m.fin }
def EM.order (m : EM) : EM := { m with ahead := (drain m.got m.ahead).2, got := m.got + (drain m.got m.ahead).1.length }
def EM.fresh (m : EM) : List Int := (drain m.got m.ahead).1
def EM.endI (m : EM) : EM := { m with ended := if m.fin = some m.got then 1 else m.ended }
def EM.mid (m : EM) (o : Int) (d : List Int) (l t : Int) : EM := ((m.learn t).keep o d).finI o d l
def EM.take (m : EM) (o : Int) (d : List Int) (l t : Int) : EM := (m.mid o d l t).order.endI
def EM.out (m : EM) (o : Int) (d : List Int) (l t : Int) : List Int := (m.mid o d l t).fresh
def EM.write (m : EM) (d : List Int) : EM := if m.closed = 0 then { m with pend := m.pend ++ d } else m
def EM.close (m : EM) : EM := { m with closed := 1 }
def EM.taken (m : EM) : Int := m.got + m.ended
structure Seg where
  o : Int
  d : List Int
  l : Int
  t : Int
def Seg.tr (s : Seg) : T := .tup [.int s.o, .tup (s.d.map T.int), .int s.l, .int s.t]
def EM.segAt (m : EM) (i : Nat) : Seg := ⟨m.base + 8 * (i : Int), ((m.pend.take 32).drop (8 * i)).take 8, if 8 * i + (((m.pend.take 32).drop (8 * i)).take 8).length = m.pend.length then m.closed else 0, m.taken⟩
def EM.due (m : EM) : List Seg := if m.pend = [] then [⟨m.base, [], m.closed, m.taken⟩] else (List.range (((m.pend.take 32).length + 7) / 8)).map m.segAt
def finT : Option Int → T
  | none => .non
  | some k => .int k
def EM.pic (m : EM) : T := .tup [.int m.base, .tup (m.pend.map T.int), .int m.closed, .int m.given, .int m.got, .int m.ended, .pt (m.ahead.map prI), finT m.fin]
/-- what always is -/
structure WF (m : EM) : Prop where
  s : srtd m.ahead
  g : ∀ e ∈ m.ahead, m.got ≤ e.1
  n : m.ahead.length ≤ 100000
  p : m.pend.length ≤ 100000
/-! ### sorted rows -/
theorem srtd.keys {l : Bs} (h : srtd l) : (l.map (·.1)).Nodup := by
  unfold srtd at h
  rw [List.Nodup, List.pairwise_map]
  exact h.imp fun q e => by omega
theorem insA_mem {k v : Int} {e : Int × Int} : ∀ {l : Bs}, e ∈ insA k v l → e = (k, v) ∨ e ∈ l
  | [], h => by simp only [insA, List.mem_singleton] at h; exact .inl h
  | f :: r, h => by
    unfold insA at h
    split at h
    · rcases List.mem_cons.mp h with q | q
      · exact .inl q
      · exact .inr q
    · split at h
      · exact .inr h
      · rcases List.mem_cons.mp h with q | q
        · exact .inr (q ▸ List.mem_cons_self ..)
        · rcases insA_mem q with q | q
          · exact .inl q
          · exact .inr (List.mem_cons_of_mem _ q)
theorem insA_srtd {k v : Int} : ∀ {l : Bs}, srtd l → srtd (insA k v l)
  | [], _ => List.pairwise_singleton ..
  | f :: r, h => by
    have hc := List.pairwise_cons.mp h
    unfold insA
    split
    · rename_i q
      refine List.pairwise_cons.mpr ⟨fun e he => ?_, h⟩
      rcases List.mem_cons.mp he with z | z
      · rw [z]; exact q
      · exact Int.lt_trans q (hc.1 e z)
    · split
      · exact h
      · rename_i q1 q2
        refine List.pairwise_cons.mpr ⟨fun e he => ?_, insA_srtd hc.2⟩
        rcases insA_mem he with z | z
        · rw [z]; show f.1 < k; omega
        · exact hc.1 e z
theorem insA_there {k v : Int} : ∀ {l : Bs}, srtd l → (∃ e ∈ l, e.1 = k) → insA k v l = l
  | [], _, ⟨e, he, _⟩ => by cases he
  | f :: r, h, ⟨e, he, ek⟩ => by
    have hc := List.pairwise_cons.mp h
    unfold insA
    rcases List.mem_cons.mp he with z | z
    · rw [if_neg (by rw [← z]; omega), if_pos (by rw [← z]; exact ek)]
    · have := hc.1 e z
      rw [if_neg (by omega), if_neg (by omega), insA_there hc.2 ⟨e, z, ek⟩]
theorem insA_perm {k v : Int} : ∀ {l : Bs}, (∀ e ∈ l, e.1 ≠ k) → (insA k v l).Perm ((k, v) :: l)
  | [], _ => .refl _
  | f :: r, h => by
    unfold insA
    split
    · exact .refl _
    · rw [if_neg (h f (List.mem_cons_self ..))]
      exact ((insA_perm fun e he => h e (List.mem_cons_of_mem _ he)).cons f).trans (List.Perm.swap ..)
theorem insA_len {k v : Int} (l : Bs) : (insA k v l).length ≤ l.length + 1 := by
  induction l with
  | nil => exact Nat.le_refl _
  | cons f r ih =>
    unfold insA
    split
    · exact Nat.le_refl _
    · split
      · exact Nat.le_succ _
      · rw [List.length_cons, List.length_cons]; omega
theorem keep1_srtd {g : Int} {l : Bs} {k v : Int} (h : srtd l) : srtd (keep1 g l k v) := by
  unfold keep1; split
  · exact insA_srtd h
  · exact h
theorem keep1_ge {g : Int} {l : Bs} {k v : Int} (h : ∀ e ∈ l, g ≤ e.1) : ∀ e ∈ keep1 g l k v, g ≤ e.1 := by
  unfold keep1; split
  · rename_i q
    intro e he
    rcases insA_mem he with z | z
    · rw [z]; exact q
    · exact h e z
  · exact h
theorem keep1_len {g : Int} {l : Bs} {k v : Int} : (keep1 g l k v).length ≤ l.length + 1 := by
  unfold keep1; split
  · exact insA_len l
  · exact Nat.le_succ _
theorem keepA_srtd {g : Int} : ∀ (d : List Int) (l : Bs) (o : Int), srtd l → srtd (keepA g l o d)
  | [], _, _, h => h
  | b :: d, l, o, h => keepA_srtd d (keep1 g l o b) (o + 1) (keep1_srtd h)
theorem keepA_ge {g : Int} : ∀ (d : List Int) (l : Bs) (o : Int), (∀ e ∈ l, g ≤ e.1) → ∀ e ∈ keepA g l o d, g ≤ e.1
  | [], _, _, h => h
  | b :: d, l, o, h => keepA_ge d (keep1 g l o b) (o + 1) (keep1_ge h)
theorem keepA_len {g : Int} : ∀ (d : List Int) (l : Bs) (o : Int), (keepA g l o d).length ≤ l.length + d.length
  | [], _, _ => Nat.le_refl _
  | b :: d, l, o => by
    have h1 := keepA_len (g := g) d (keep1 g l o b) (o + 1)
    have h2 := keep1_len (g := g) (l := l) (k := o) (v := b)
    show (keepA g (keep1 g l o b) (o + 1) d).length ≤ _
    rw [List.length_cons]
    omega
theorem drain_parts : ∀ (l : Bs) (g : Int), srtd l → (∀ e ∈ l, g ≤ e.1) → srtd (drain g l).2 ∧ (∀ e ∈ (drain g l).2, g + (drain g l).1.length < e.1) ∧ (drain g l).2.length + (drain g l).1.length = l.length
  | [], g, _, _ => ⟨List.Pairwise.nil, fun e h => by simp [drain] at h, rfl⟩
  | f :: r, g, h, hg => by
    have hc := List.pairwise_cons.mp h
    unfold drain
    split
    · rename_i q
      obtain ⟨a, b, c⟩ := drain_parts r (g + 1) hc.2 fun e he => by have := hc.1 e he; omega
      refine ⟨a, fun e he => ?_, by simp only [List.length_cons]; omega⟩
      have := b e he
      simp only [List.length_cons]
      omega
    · rename_i q
      have := hg f (List.mem_cons_self ..)
      refine ⟨h, fun e he => ?_, rfl⟩
      simp only [List.length_nil]
      rcases List.mem_cons.mp he with z | z
      · rw [z]; omega
      · have := hc.1 e z; omega
/-! ### the dict that holds such rows, in any order -/
theorem ent_mem {ks : Bs} {k : Int} : (valT (ks.map entI) (.inl k)).isSome = true ↔ ∃ e ∈ ks, e.1 = k := by
  rw [valT_mem, List.map_map, List.mem_map]
  constructor
  · rintro ⟨e, he, q⟩; exact ⟨e, he, Sum.inl.inj q⟩
  · rintro ⟨e, he, q⟩; exact ⟨e, he, congrArg Sum.inl q⟩
theorem ent_not {ks : Bs} {k : Int} (h : ∀ e ∈ ks, e.1 ≠ k) : valT (ks.map entI) (.inl k) = none := by
  cases q : valT (ks.map entI) (.inl k) with
  | none => rfl
  | some v =>
    obtain ⟨e, he, ek⟩ := ent_mem.mp (by rw [q]; rfl)
    exact absurd ek (h e he)
theorem ent_val {k v : Int} : ∀ {ks : Bs}, (ks.map (·.1)).Nodup → (k, v) ∈ ks → valT (ks.map entI) (.inl k) = some (.int v)
  | [], _, h => by cases h
  | f :: r, nd, h => by
    rw [List.map_cons, List.nodup_cons] at nd
    show valT ((Sum.inl f.1, T.int f.2) :: r.map entI) _ = _
    rw [valT_cons]
    rcases List.mem_cons.mp h with z | z
    · rw [← z, if_pos rfl]
    · rw [if_neg (fun e => nd.1 (List.mem_map.mpr ⟨(k, v), z, (Sum.inl.inj e).symm⟩)), ent_val nd.2 z]
theorem ent_put {ks : Bs} {k v : Int} (h : ∀ e ∈ ks, e.1 ≠ k) : putT (ks.map entI) (.inl k) (.int v) = (ks ++ [(k, v)]).map entI := by
  unfold putT
  rw [if_neg, List.map_append]
  · rfl
  · rw [valT_any, ent_not h]
    decide
theorem ent_drop (ks : Bs) (k : Int) : dropT (ks.map entI) (.inl k) = (ks.filter fun e => decide (e.1 ≠ k)).map entI := by
  unfold dropT
  rw [List.filter_map]
  congr 1
  refine List.filter_congr fun e _ => ?_
  show decide ((Sum.inl e.1 : Key) ≠ Sum.inl k) = decide (e.1 ≠ k)
  exact decide_eq_decide.mpr ⟨fun h e => h (congrArg _ e), fun h e => h (Sum.inl.inj e)⟩
theorem perm_srt {ks l zs : Bs} (hl : srtd l) (h : ks.Perm l) (hz : zs.Perm ks) (hs : zs.Pairwise fun e f => e.1 ≤ f.1) : zs = l := by
  have p : zs.Perm l := hz.trans h
  have nd : (zs.map (·.1)).Nodup := (p.map (·.1)).nodup_iff.mpr hl.keys
  have s2 : zs.Pairwise fun e f => e.1 < f.1 := by
    rw [List.Nodup, List.pairwise_map] at nd
    exact (hs.and nd).imp fun ⟨a, b⟩ => by omega
  exact p.eq_of_pairwise (fun a b _ _ h1 h2 => absurd (Int.lt_trans h1 h2) (Int.lt_irrefl _)) s2 hl
end My

set_option Elab.async false
set_option linter.all false
set_option maxRecDepth 100000
set_option maxHeartbeats 4000000
/-! things that stand apart from each other -/
namespace My
open PySem PySem.Spec PyProof.Rows L2 Wp
/-- nothing but F may have changed; F' is of F and of new things -/
structure Frm (S S' : Sta) (F F' : List Addr) : Prop where
  k : ∀ x o, S x = some o → x ∉ F → S' x = some o
  n : ∀ x ∈ F', x ∈ F ∨ S x = none
theorem Frm.refl {S : Sta} {F : List Addr} : Frm S S F F := ⟨fun _ _ e _ => e, fun _ h => .inl h⟩
theorem Frm.trans {S S1 S2 : Sta} {F F1 F2 : List Addr} (f : Frm S S1 F F1) (g : Frm S1 S2 F1 F2) : Frm S S2 F F2 := by
  refine ⟨fun x o e nx => g.k x o (f.k x o e nx) fun h1 => ?_, fun x hx => ?_⟩
  · rcases f.n x h1 with h | h
    · exact nx h
    · rw [h] at e; cases e
  · cases e : S x with
    | none => exact .inr rfl
    | some o =>
      rcases g.n x hx with h | h
      · rcases f.n x h with h | h
        · exact .inl h
        · rw [h] at e; cases e
      · refine .inl (Classical.byContradiction fun nx => ?_)
        rw [f.k x o e nx] at h
        cases h
theorem Frm.of_gr {S S' : Sta} {F : List Addr} (g : Gr S S') : Frm S S' F F := ⟨fun x o e _ => g x o e, fun _ h => .inl h⟩
theorem Frm.of_new {S S' : Sta} {F F' : List Addr} (g : Gr S S') (n : ∀ x ∈ F', S x = none) : Frm S S' F F' := ⟨fun x o e _ => g x o e, fun x h => .inr (n x h)⟩
theorem Frm.up {S : Sta} {F : List Addr} {x : Addr} {o : O} (h : x ∈ F) : Frm S (upS S x o) F F := ⟨fun y u e ny => by rw [upS_ne fun z => ny (by rw [z]; exact h)]; exact e, fun _ h => .inl h⟩
structure It where
  F : List Addr
  P : Sta → Prop
structure It.ok (i : It) (S : Sta) : Prop where
  p : i.P S
  h : ∀ x ∈ i.F, ∃ o, S x = some o
  k : ∀ S', (∀ x o, S x = some o → x ∈ i.F → S' x = some o) → i.P S'
theorem It.ok.keep {i : It} {S S' : Sta} (h : i.ok S) (a : ∀ x o, S x = some o → x ∈ i.F → S' x = some o) : i.ok S' :=
  ⟨h.k S' a, fun x hx => by
    obtain ⟨o, e⟩ := h.h x hx
    exact ⟨o, a x o e hx⟩, fun S2 b => h.k S2 fun x o e hx => b x o (a x o e hx) hx⟩
structure Sep (S : Sta) (l : List It) : Prop where
  ok : ∀ (k : Nat) (i : It), l[k]? = some i → i.ok S
  ap : ∀ (j k : Nat) (i i' : It), j ≠ k → l[j]? = some i → l[k]? = some i' → ∀ x ∈ i.F, x ∉ i'.F
theorem Sep.gr {S S' : Sta} {l : List It} (h : Sep S l) (g : Gr S S') : Sep S' l := ⟨fun k i e => (h.ok k i e).keep fun x o e _ => g x o e, h.ap⟩
theorem Sep.set {S S' : Sta} {l : List It} (h : Sep S l) (k : Nat) {i i' : It} (e : l[k]? = some i) (f : Frm S S' i.F i'.F) (ok : i'.ok S') : Sep S' (l.set k i') := by
  have hk : k < l.length := (List.getElem?_eq_some_iff.mp e).1
  have old : ∀ (j : Nat) (u : It), (l.set k i')[j]? = some u → (j = k ∧ u = i') ∨ (j ≠ k ∧ l[j]? = some u) := fun j u hj => by
    by_cases q : j = k
    · subst q
      rw [List.getElem?_set_self hk] at hj
      exact .inl ⟨rfl, (Option.some.inj hj).symm⟩
    · rw [List.getElem?_set_ne (fun z => q z.symm)] at hj
      exact .inr ⟨q, hj⟩
  have far : ∀ (j : Nat) (u : It), j ≠ k → l[j]? = some u → ∀ x ∈ u.F, x ∉ i'.F := fun j u q hj x hx hi => by
    rcases f.n x hi with z | z
    · exact h.ap j k u i q hj e x hx z
    · obtain ⟨o, eo⟩ := (h.ok j u hj).h x hx
      rw [z] at eo; cases eo
  refine ⟨fun j u hj => ?_, fun j j2 u u2 hn hj hj2 x hx hx2 => ?_⟩
  · rcases old j u hj with ⟨rfl, rfl⟩ | ⟨q, hj⟩
    · exact ok
    · exact (h.ok j u hj).keep fun x o eo hx => f.k x o eo (h.ap j k u i q hj e x hx)
  · rcases old j u hj with ⟨q1, r1⟩ | ⟨q1, r1⟩
    · rcases old j2 u2 hj2 with ⟨q2, r2⟩ | ⟨q2, r2⟩
      · exact hn (q1.trans q2.symm)
      · exact far j2 u2 q2 r2 x hx2 (r1 ▸ hx)
    · rcases old j2 u2 hj2 with ⟨q2, r2⟩ | ⟨q2, r2⟩
      · exact far j u q1 r1 x hx (r2 ▸ hx2)
      · exact h.ap j j2 u u2 hn r1 r2 x hx hx2
theorem Sep.add {S S' : Sta} {l : List It} (h : Sep S l) (g : Gr S S') {i : It} (ok : i.ok S') (new : ∀ x ∈ i.F, S x = none) : Sep S' (l ++ [i]) := by
  have old : ∀ (j : Nat) (u : It), (l ++ [i])[j]? = some u → (j = l.length ∧ u = i) ∨ (j < l.length ∧ l[j]? = some u) := fun j u hj => by
    by_cases q : j < l.length
    · rw [List.getElem?_append_left q] at hj
      exact .inr ⟨q, hj⟩
    · rw [List.getElem?_append_right (by omega)] at hj
      have : j - l.length = 0 := by
        have := (List.getElem?_eq_some_iff.mp hj).1
        simp at this; omega
      rw [this] at hj
      exact .inl ⟨by omega, (Option.some.inj hj).symm⟩
  have far : ∀ (j : Nat) (u : It), l[j]? = some u → ∀ x ∈ u.F, x ∉ i.F := fun j u hj x hx hi => by
    obtain ⟨o, eo⟩ := (h.ok j u hj).h x hx
    rw [new x hi] at eo; cases eo
  refine ⟨fun j u hj => ?_, fun j j2 u u2 hn hj hj2 x hx hx2 => ?_⟩
  · rcases old j u hj with ⟨rfl, rfl⟩ | ⟨q, hj⟩
    · exact ok
    · exact (h.ok j u hj).keep fun x o eo _ => g x o eo
  · rcases old j u hj with ⟨q1, r1⟩ | ⟨q1, r1⟩
    · rcases old j2 u2 hj2 with ⟨q2, r2⟩ | ⟨q2, r2⟩
      · exact hn (q1.trans q2.symm)
      · exact far j2 u2 r2 x hx2 (r1 ▸ hx)
    · rcases old j2 u2 hj2 with ⟨q2, r2⟩ | ⟨q2, r2⟩
      · exact far j u r1 x hx (r2 ▸ hx2)
      · exact h.ap j j2 u u2 hn r1 r2 x hx hx2
theorem Sep.nil {S : Sta} : Sep S [] := ⟨fun k i e => by simp at e, fun j k i i' _ e => by simp at e⟩
theorem Sep.take {S : Sta} {l : List It} (h : Sep S l) (n : Nat) : Sep S (l.take n) := by
  have old : ∀ (j : Nat) (u : It), (l.take n)[j]? = some u → l[j]? = some u := fun j u hj => by
    rw [List.getElem?_take] at hj
    split at hj
    · exact hj
    · cases hj
  exact ⟨fun j u hj => h.ok j u (old j u hj), fun j j2 u u2 hn hj hj2 => h.ap j j2 u u2 hn (old j u hj) (old j2 u2 hj2)⟩
theorem set_self {α : Type} {l : List α} {k : Nat} {i : α} (e : l[k]? = some i) : l.set k i = l := by
  apply List.ext_getElem?
  intro j
  by_cases q : j = k
  · subst q; rw [List.getElem?_set_self (List.getElem?_eq_some_iff.mp e).1, e]
  · rw [List.getElem?_set_ne (fun z => q z.symm)]
/-- the law's bag -/
def bagI (p q : Addr) : It := ⟨[p, q], fun S => IsBag (some q) S p⟩
theorem bagI_ok {S : Sta} {p q : Addr} (h : IsBag (some q) S p) : (bagI p q).ok S := by
  obtain ⟨a, b, c, d, ns, h1, h2, h3, h4⟩ := h
  refine ⟨⟨a, b, c, d, ns, h1, h2, h3, h4⟩, fun x hx => ?_, fun S' k => ⟨a, b, c, d, ns, k _ _ h1 (by simp [bagI]), h2, k _ _ h3 (by simp [bagI]), h4⟩⟩
  simp only [bagI, List.mem_cons, List.not_mem_nil, or_false] at hx
  rcases hx with rfl | rfl
  · exact ⟨_, h1⟩
  · exact ⟨_, h3⟩
theorem Sep.draw {S S' : Sta} {l : List It} {k : Nat} {p q : Addr} (h : Sep S l) (e : l[k]? = some (bagI p q)) (g : Grb (some q) p S S') : Sep S' l := by
  have := h.set k e (i' := bagI p q) ⟨fun x o eo nx => g.keep x o eo fun z => nx (by rw [z]; simp [bagI]), fun x hx => .inl hx⟩ (bagI_ok g.bag)
  rwa [set_self e] at this
/-- a list -/
def lstI (r : Addr) (ts : List T) : It := ⟨[r], fun S => S r = some (.lst ts)⟩
theorem lstI_ok {S : Sta} {r : Addr} {ts : List T} (h : S r = some (.lst ts)) : (lstI r ts).ok S := by
  refine ⟨h, fun x hx => ?_, fun S' k => k _ _ h (by simp [lstI])⟩
  simp only [lstI, List.mem_singleton] at hx
  subst hx
  exact ⟨_, h⟩
end My

set_option Elab.async false
set_option linter.all false
set_option maxRecDepth 100000
set_option maxHeartbeats 4000000
/-! what an End that gets segments of one stream knows of it -/
namespace My
open PySem PySem.Spec PyProof.Rows L2 Wp
theorem srtd_len : ∀ {l : Bs} {lo hi : Int}, srtd l → (∀ e ∈ l, lo ≤ e.1 ∧ e.1 < hi) → l.length ≤ (hi - lo).toNat
  | [], _, _, _, _ => Nat.zero_le _
  | e :: r, lo, hi, h, b => by
    have hc := List.pairwise_cons.mp h
    have b0 := b e (List.mem_cons_self ..)
    have := srtd_len (lo := e.1 + 1) (hi := hi) hc.2 fun x hx => ⟨by have := hc.1 x hx; omega, (b x (List.mem_cons_of_mem _ hx)).2⟩
    rw [List.length_cons]
    omega
theorem srtd_eq {a b : Bs} (ha : srtd a) (hb : srtd b) (h : ∀ e, e ∈ a ↔ e ∈ b) : a = b := by
  have na : a.Nodup := ha.imp fun q e => by subst e; exact absurd q (Int.lt_irrefl _)
  have nb : b.Nodup := hb.imp fun q e => by subst e; exact absurd q (Int.lt_irrefl _)
  have p : a.Perm b := perm_of_nodup na nb h
  exact p.eq_of_pairwise (fun x y _ _ h1 h2 => absurd (Int.lt_trans h1 h2) (Int.lt_irrefl _)) ha hb
/-- the values are those of V -/
def Fits (V : Int → Int) (l : Bs) : Prop := ∀ e ∈ l, e.2 = V e.1
theorem insA_iff {V : Int → Int} {k : Int} {e : Int × Int} {l : Bs} (hs : srtd l) (hf : Fits V l) : e ∈ insA k (V k) l ↔ e ∈ l ∨ e = (k, V k) := by
  by_cases h : ∃ x ∈ l, x.1 = k
  · rw [insA_there hs h]
    obtain ⟨x, hx, xk⟩ := h
    constructor
    · exact .inl
    · rintro (q | q)
      · exact q
      · have := hf x hx
        rw [q, ← xk, ← this]
        exact hx
  · have p := insA_perm (v := V k) fun x hx q => h ⟨x, hx, q⟩
    rw [p.mem_iff, List.mem_cons]
    exact Or.comm
theorem keepA_iff {V : Int → Int} {g : Int} {e : Int × Int} : ∀ (d : List Int) (l : Bs) (o : Int), srtd l → Fits V l → (∀ (i : Nat) (b : Int), d[i]? = some b → b = V (o + i)) →
    (Fits V (keepA g l o d) ∧ (e ∈ keepA g l o d ↔ e ∈ l ∨ ∃ i : Nat, i < d.length ∧ g ≤ o + i ∧ e = (o + i, V (o + i))))
  | [], l, o, hs, hf, _ => ⟨hf, ⟨.inl, fun h => by
    rcases h with h | ⟨i, h, _⟩
    · exact h
    · simp at h⟩⟩
  | b :: d, l, o, hs, hf, hd => by
    have hb : b = V o := by have := hd 0 b rfl; simpa using this
    subst hb
    have hd2 : ∀ (i : Nat) (b : Int), d[i]? = some b → b = V (o + 1 + i) := fun i b h => by
      have := hd (i + 1) b (by simpa using h)
      rw [this]; congr 1; omega
    have hf1 : Fits V (keep1 g l o (V o)) := by
      unfold keep1; split
      · intro x hx
        rcases (insA_iff hs hf).mp hx with q | q
        · exact hf x q
        · rw [q]
      · exact hf
    obtain ⟨a1, a2⟩ := keepA_iff (e := e) d (keep1 g l o (V o)) (o + 1) (keep1_srtd hs) hf1 hd2
    refine ⟨a1, ?_⟩
    show e ∈ keepA g (keep1 g l o (V o)) (o + 1) d ↔ _
    rw [a2]
    have m1 : e ∈ keep1 g l o (V o) ↔ e ∈ l ∨ (g ≤ o ∧ e = (o, V o)) := by
      unfold keep1
      by_cases q : g ≤ o
      · rw [if_pos q, insA_iff hs hf]; simp [q]
      · rw [if_neg q]; simp [q]
    rw [m1]
    constructor
    · rintro ((h | ⟨h1, h2⟩) | ⟨i, h1, h2, h3⟩)
      · exact .inl h
      · exact .inr ⟨0, by simp, by simpa using h1, by simpa using h2⟩
      · exact .inr ⟨i + 1, by simp only [List.length_cons]; omega, by omega, by rw [h3, show o + 1 + (i : Int) = o + ((i + 1 : Nat) : Int) by omega]⟩
    · rintro (h | ⟨i, h1, h2, h3⟩)
      · exact .inl (.inl h)
      · cases i with
        | zero => exact .inl (.inr ⟨by simpa using h2, by simpa using h3⟩)
        | succ i => exact .inr ⟨i, by simp only [List.length_cons] at h1; omega, by omega, by rw [h3, show o + ((i + 1 : Nat) : Int) = o + 1 + (i : Int) by omega]⟩
theorem drain_iff : ∀ (l : Bs) (g : Int) (e : Int × Int), srtd l → (∀ x ∈ l, g ≤ x.1) → (e ∈ (drain g l).2 ↔ e ∈ l ∧ g + (drain g l).1.length ≤ e.1)
  | [], g, e, _, _ => by simp [drain]
  | f :: r, g, e, h, hg => by
    have hc := List.pairwise_cons.mp h
    unfold drain
    split
    · rename_i q
      have := drain_iff r (g + 1) e hc.2 fun x hx => by have := hc.1 x hx; omega
      simp only [List.length_cons, List.mem_cons]
      rw [this]
      constructor
      · rintro ⟨a, b⟩; exact ⟨.inr a, by omega⟩
      · rintro ⟨a | a, b⟩
        · rw [a] at b; omega
        · exact ⟨a, by omega⟩
    · simp only [List.length_nil, Int.natCast_zero, Int.add_zero]
      exact ⟨fun a => ⟨a, hg e a⟩, fun a => a.1⟩
theorem drain_at : ∀ (l : Bs) (g : Int) (i : Nat) (b : Int), (drain g l).1[i]? = some b → (g + i, b) ∈ l
  | [], g, i, b, h => by simp [drain] at h
  | f :: r, g, i, b, h => by
    unfold drain at h
    split at h
    · rename_i q
      cases i with
      | zero =>
        simp only [List.getElem?_cons_zero, Option.some.injEq] at h
        rw [← h, ← q]
        simp
      | succ i =>
        have := drain_at r (g + 1) i b (by simpa using h)
        rw [show g + ((i + 1 : Nat) : Int) = g + 1 + (i : Int) by omega]
        exact List.mem_cons_of_mem _ this
    · simp at h
/-- a row of the stream W -/
structure SegOf (W : List Int) (s : Seg) : Prop where
  o : 0 ≤ s.o
  n : s.o.toNat + s.d.length ≤ W.length
  d : ∀ (i : Nat) (b : Int), s.d[i]? = some b → W[s.o.toNat + i]? = some b
  l : s.l = 1 → s.o.toNat + s.d.length = W.length
def valW (W : List Int) (k : Int) : Int := W.getD k.toNat 0
/-- what is known: the offsets in D, and the end if e -/
structure Rdr (W : List Int) (D : Nat → Prop) (e : Prop) (m : EM) (g : Nat) : Prop where
  got : m.got = g
  gle : g ≤ W.length
  all : ∀ k, k < g → D k
  no : g < W.length → ¬ D g
  s : srtd m.ahead
  mem : ∀ x, x ∈ m.ahead ↔ ∃ k : Nat, k < W.length ∧ g ≤ k ∧ D k ∧ x = ((k : Int), valW W k)
  f1 : e → m.fin = some (W.length : Int)
  f0 : ¬ e → m.fin = none
  e1 : e ∧ g = W.length → m.ended = 1
  e0 : ¬ (e ∧ g = W.length) → m.ended = 0
theorem Rdr.same {W : List Int} {D : Nat → Prop} {e : Prop} {m m' : EM} {g g' : Nat} (h : Rdr W D e m g) (h' : Rdr W D e m' g') : g = g' ∧ m.got = m'.got ∧ m.ahead = m'.ahead ∧ m.fin = m'.fin ∧ m.ended = m'.ended := by
  have eg : g = g' := by
    rcases Nat.lt_trichotomy g g' with q | q | q
    · exact absurd (h'.all g q) (h.no (Nat.lt_of_lt_of_le q h'.gle))
    · exact q
    · exact absurd (h.all g' q) (h'.no (Nat.lt_of_lt_of_le q h.gle))
  subst eg
  refine ⟨rfl, by rw [h.got, h'.got], srtd_eq h.s h'.s fun x => by rw [h.mem, h'.mem], ?_, ?_⟩
  · by_cases q : e
    · rw [h.f1 q, h'.f1 q]
    · rw [h.f0 q, h'.f0 q]
  · by_cases q : e ∧ g = W.length
    · rw [h.e1 q, h'.e1 q]
    · rw [h.e0 q, h'.e0 q]
theorem Rdr.iff {W : List Int} {D D' : Nat → Prop} {e e' : Prop} {m : EM} {g : Nat} (h : Rdr W D e m g) (hD : ∀ k, D k ↔ D' k) (he : e ↔ e') : Rdr W D' e' m g := by
  have : D = D' := funext fun k => propext (hD k)
  have : e = e' := propext he
  subst D' e'
  exact h
theorem Rdr.len {W : List Int} {D : Nat → Prop} {e : Prop} {m : EM} {g : Nat} (h : Rdr W D e m g) : m.ahead.length ≤ W.length := by
  have := srtd_len (lo := 0) (hi := W.length) h.s fun x hx => by
    obtain ⟨k, h1, _, _, h4⟩ := (h.mem x).mp hx
    rw [h4]; exact ⟨Int.natCast_nonneg _, by show (k : Int) < _; omega⟩
  omega
theorem Rdr.wf {W : List Int} {D : Nat → Prop} {e : Prop} {m : EM} {g : Nat} (h : Rdr W D e m g) (hw : W.length ≤ 100000) (hp : m.pend.length ≤ 100000) : WF m :=
  ⟨h.s, fun x hx => by
    obtain ⟨k, h1, h2, _, h4⟩ := (h.mem x).mp hx
    rw [h4, h.got]; show (g : Int) ≤ k; omega, Nat.le_trans h.len hw, hp⟩
theorem Rdr.new (W : List Int) (D : Nat → Prop) (hD : ∀ k, ¬ D k) : Rdr W D False EM.new 0 :=
  ⟨rfl, Nat.zero_le _, fun k h => absurd h (Nat.not_lt_zero _), fun _ => hD 0, List.Pairwise.nil, fun x => ⟨fun h => (by cases h), fun ⟨k, _, _, h, _⟩ => absurd h (hD k)⟩, fun h => h.elim, fun _ => rfl, fun h => h.1.elim, fun _ => rfl⟩
/-- a row comes -/
theorem Rdr.take {W : List Int} {D : Nat → Prop} {e : Prop} {m : EM} {g : Nat} (h : Rdr W D e m g) {s : Seg} (hs : SegOf W s) :
    ∃ g', Rdr W (fun k => D k ∨ (s.o.toNat ≤ k ∧ k < s.o.toNat + s.d.length)) (e ∨ s.l = 1) (m.take s.o s.d s.l s.t) g' ∧ g ≤ g' ∧ m.out s.o s.d s.l s.t = (W.drop g).take (g' - g) := by
  obtain ⟨o, eo⟩ : ∃ o : Nat, s.o = o := ⟨s.o.toNat, (Int.toNat_of_nonneg hs.o).symm⟩
  have eo2 : s.o.toNat = o := by omega
  have n := hs.n
  have dd := hs.d
  have hl := hs.l
  rw [eo2] at n dd hl ⊢
  -- the row of what is kept
  have V0 : Fits (valW W) m.ahead := fun x hx => by
    obtain ⟨k, _, _, _, h4⟩ := (h.mem x).mp hx
    rw [h4]
  have Vd : ∀ (i : Nat) (b : Int), s.d[i]? = some b → b = valW W ((o : Int) + i) := fun i b hb => by
    have := dd i b hb
    unfold valW
    rw [show ((o : Int) + i).toNat = o + i by omega, List.getD_eq_getElem?_getD, this]
    rfl
  obtain ⟨l, el⟩ : ∃ l, keepA m.got m.ahead s.o s.d = l := ⟨_, rfl⟩
  have ls : srtd l := by rw [← el]; exact keepA_srtd _ _ _ h.s
  have lm : ∀ x, x ∈ l ↔ ∃ k : Nat, k < W.length ∧ g ≤ k ∧ (D k ∨ (o ≤ k ∧ k < o + s.d.length)) ∧ x = ((k : Int), valW W k) := fun x => by
    rw [← el, eo, (keepA_iff (V := valW W) (g := m.got) (e := x) s.d m.ahead o h.s V0 Vd).2, h.mem, h.got]
    constructor
    · rintro (⟨k, a, b, c, d⟩ | ⟨i, a, b, c⟩)
      · exact ⟨k, a, b, .inl c, d⟩
      · exact ⟨o + i, by omega, by omega, .inr ⟨by omega, by omega⟩, by rw [c]; simp⟩
    · rintro ⟨k, a, b, c | ⟨c1, c2⟩, d⟩
      · exact .inl ⟨k, a, b, c, d⟩
      · exact .inr ⟨k - o, by omega, by omega, by rw [d, show (o : Int) + ((k - o : Nat) : Int) = k by omega]⟩
  have lg : ∀ x ∈ l, (g : Int) ≤ x.1 := fun x hx => by
    obtain ⟨k, _, b, _, d⟩ := (lm x).mp hx
    rw [d]; show (g : Int) ≤ k; omega
  obtain ⟨fr, ef⟩ : ∃ f, (drain (g : Int) l).1 = f := ⟨_, rfl⟩
  have parts := drain_parts l g ls lg
  rw [ef] at parts
  have frat : ∀ (i : Nat) (b : Int), fr[i]? = some b → (D (g + i) ∨ (o ≤ g + i ∧ g + i < o + s.d.length)) ∧ g + i < W.length ∧ b = valW W ((g + i : Nat) : Int) := fun i b hb => by
    have := drain_at l g i b (by rw [ef]; exact hb)
    obtain ⟨k, a, _, c, d⟩ := (lm _).mp this
    have ek : k = g + i := by have := congrArg Prod.fst d; simp at this; omega
    subst ek
    exact ⟨c, a, by have := congrArg Prod.snd d; simpa using this⟩
  have gle : g + fr.length ≤ W.length := by
    cases z : fr.length with
    | zero => simpa using h.gle
    | succ j =>
      obtain ⟨b, hb⟩ : ∃ b, fr[j]? = some b := ⟨fr[j]'(by omega), List.getElem?_eq_getElem (by omega)⟩
      have := (frat j b hb).2.1
      omega
  -- the End behind it
  have em : (m.take s.o s.d s.l s.t).ahead = (drain (g : Int) l).2 := by
    show (drain m.got (keepA m.got m.ahead s.o s.d)).2 = _
    rw [el, h.got]
  have eg : (m.take s.o s.d s.l s.t).got = ((g + fr.length : Nat) : Int) := by
    show m.got + ((drain m.got (keepA m.got m.ahead s.o s.d)).1.length : Int) = _
    rw [el, h.got, ef]; simp
  have efin : (m.take s.o s.d s.l s.t).fin = if s.l = 1 then some (s.o + s.d.length) else m.fin := rfl
  have eend : (m.take s.o s.d s.l s.t).ended = if (m.take s.o s.d s.l s.t).fin = some (m.take s.o s.d s.l s.t).got then 1 else m.ended := rfl
  have eout : m.out s.o s.d s.l s.t = fr := by
    show (drain m.got (keepA m.got m.ahead s.o s.d)).1 = _
    rw [el, h.got, ef]
  have F1 : e ∨ s.l = 1 → (m.take s.o s.d s.l s.t).fin = some (W.length : Int) := fun q => by
    rw [efin]
    split
    · rename_i q1
      have := hl q1
      rw [eo]; congr 1; omega
    · rename_i q1
      exact h.f1 (q.resolve_right q1)
  have F0 : ¬ (e ∨ s.l = 1) → (m.take s.o s.d s.l s.t).fin = none := fun q => by
    rw [efin, if_neg fun z => q (.inr z)]
    exact h.f0 fun z => q (.inl z)
  refine ⟨g + fr.length, ⟨eg, gle, fun k hk => ?_, fun hk hc => ?_, by rw [em]; exact parts.1, fun x => ?_, F1, F0, fun ⟨q, q2⟩ => ?_, fun q => ?_⟩, Nat.le_add_right _ _, ?_⟩
  · by_cases q : k < g
    · exact .inl (h.all k q)
    · obtain ⟨b, hb⟩ : ∃ b, fr[k - g]? = some b := ⟨fr[k - g]'(by omega), List.getElem?_eq_getElem (by omega)⟩
      have := (frat (k - g) b hb).1
      rwa [show g + (k - g) = k by omega] at this
  · have m1 : (((g + fr.length : Nat) : Int), valW W ((g + fr.length : Nat) : Int)) ∈ l := (lm _).mpr ⟨_, hk, Nat.le_add_right _ _, hc, rfl⟩
    have m2 := (drain_iff l g _ ls lg).mpr ⟨m1, by rw [ef]; simp⟩
    have := parts.2.1 _ m2
    simp at this
  · rw [em, drain_iff l g x ls lg, lm, ef]
    constructor
    · rintro ⟨⟨k, a, b, c, d⟩, q⟩
      rw [d] at q
      exact ⟨k, a, by simp at q; omega, c, d⟩
    · rintro ⟨k, a, b, c, d⟩
      exact ⟨⟨k, a, by omega, c, d⟩, by rw [d]; show (g : Int) + fr.length ≤ k; omega⟩
  · rw [eend, F1 q, eg, if_pos (by rw [q2])]
  · rw [eend]
    by_cases q1 : e ∨ s.l = 1
    · rw [F1 q1, eg, if_neg fun z => q ⟨q1, by have := Option.some.inj z; omega⟩]
      refine h.e0 fun ⟨z1, z2⟩ => q ⟨q1, ?_⟩
      omega
    · rw [F0 q1, if_neg (by simp)]
      exact h.e0 fun ⟨z1, _⟩ => q1 (.inl z1)
  · rw [eout]
    apply List.ext_getElem?
    intro i
    by_cases q : i < fr.length
    · obtain ⟨b, hb⟩ : ∃ b, fr[i]? = some b := ⟨fr[i], List.getElem?_eq_getElem q⟩
      have z := (frat i b hb).2
      rw [hb, List.getElem?_take_of_lt (by omega), List.getElem?_drop, z.2]
      unfold valW
      rw [Int.toNat_natCast, List.getD_eq_getElem?_getD, List.getElem?_eq_getElem z.1]
      rfl
    · rw [List.getElem?_eq_none (by omega), List.getElem?_eq_none (by rw [List.length_take, List.length_drop]; omega)]
end My

set_option Elab.async false
set_option linter.all false
set_option maxRecDepth 100000
set_option maxHeartbeats 4000000
/-! many rows, and the rows that are due -/
namespace My
open PySem PySem.Spec PyProof.Rows L2 Wp
def EM.takeS (m : EM) (s : Seg) : EM := m.take s.o s.d s.l s.t
def EM.outS (m : EM) (s : Seg) : List Int := m.out s.o s.d s.l s.t
def takes : EM → List Seg → EM
  | m, [] => m
  | m, s :: r => takes (m.takeS s) r
def outs : EM → List Seg → List Int
  | _, [] => []
  | m, s :: r => m.outS s ++ outs (m.takeS s) r
theorem takes_rdr {W : List Int} : ∀ (l : List Seg) {D : Nat → Prop} {e : Prop} {m : EM} {g : Nat}, Rdr W D e m g → (∀ s ∈ l, SegOf W s) →
    ∃ g', Rdr W (fun k => D k ∨ ∃ s ∈ l, s.o.toNat ≤ k ∧ k < s.o.toNat + s.d.length) (e ∨ ∃ s ∈ l, s.l = 1) (takes m l) g' ∧ g ≤ g' ∧ outs m l = (W.drop g).take (g' - g)
  | [], D, e, m, g, h, _ => ⟨g, h.iff (fun k => by simp) (by simp), Nat.le_refl _, by simp [outs]⟩
  | s :: r, D, e, m, g, h, hs => by
    obtain ⟨g1, h1, l1, o1⟩ := h.take (hs s (List.mem_cons_self ..))
    obtain ⟨g2, h2, l2, o2⟩ := takes_rdr r h1 fun x hx => hs x (List.mem_cons_of_mem _ hx)
    refine ⟨g2, h2.iff (fun k => ?_) ?_, by omega, ?_⟩
    · simp only [List.mem_cons, exists_eq_or_imp, or_assoc]
    · simp only [List.mem_cons, exists_eq_or_imp, or_assoc]
    · show m.outS s ++ outs (m.takeS s) r = _
      have o1 : m.outS s = (W.drop g).take (g1 - g) := o1
      have o2 : outs (m.takeS s) r = (W.drop g1).take (g2 - g1) := o2
      rw [o1, o2, show W.drop g1 = (W.drop g).drop (g1 - g) by rw [List.drop_drop]; congr 1; omega, show g2 - g = (g1 - g) + (g2 - g1) by omega, ← List.take_add]
/-- what was written: the whole, of which a part is taken -/
structure Wtr (U : List Int) (m : EM) : Prop where
  b0 : 0 ≤ m.base
  b1 : m.base.toNat ≤ U.length
  p : m.pend = U.drop m.base.toNat
theorem Wtr.len {U : List Int} {m : EM} (h : Wtr U m) : m.base + m.pend.length = (U.length : Int) := by
  rw [h.p, List.length_drop]; have := h.b0; have := h.b1; omega
theorem Wtr.new {m : EM} (hp : m.base = 0) (U : List Int) (h : m.pend = U) : Wtr U m := ⟨by omega, by rw [hp]; simp, by rw [hp, h]; simp⟩
theorem Wtr.take {U : List Int} {m : EM} (h : Wtr U m) (s : Seg) : Wtr U (m.takeS s) ∧ (m.takeS s).base = max m.base (min s.t U.length) := by
  have kn : m.known s.t = max m.base (min s.t U.length) := by unfold EM.known; rw [h.len]
  have b0 := h.b0
  have b1 := h.b1
  have eb : (m.takeS s).base = m.known s.t := rfl
  have ep : (m.takeS s).pend = m.pend.drop (m.known s.t - m.base).toNat := rfl
  refine ⟨⟨by rw [eb, kn]; omega, by rw [eb, kn]; omega, ?_⟩, by rw [eb, kn]⟩
  rw [ep, eb, h.p, List.drop_drop]
  congr 1
  rw [kn]
  omega
theorem takeS_closed (m : EM) (s : Seg) : (m.takeS s).closed = m.closed := rfl
theorem takeS_given {m : EM} (h : m.closed = 0) (s : Seg) : (m.takeS s).given = m.given := by
  show (if m.closed ≠ 0 ∧ _ then 1 else m.given) = _
  rw [if_neg fun z => z.1 h]
theorem takes_closed : ∀ (l : List Seg) (m : EM), (takes m l).closed = m.closed
  | [], _ => rfl
  | s :: r, m => (takes_closed r (m.takeS s)).trans rfl
theorem takes_given : ∀ (l : List Seg) (m : EM), m.closed = 0 → (takes m l).given = m.given
  | [], _, _ => rfl
  | s :: r, m, h => (takes_given r (m.takeS s) h).trans (takeS_given h s)
theorem takes_wtr {U : List Int} {t : Int} : ∀ (l : List Seg) {m : EM}, Wtr U m → (∀ s ∈ l, s.t = t) → Wtr U (takes m l) ∧ (takes m l).base = if l = [] then m.base else max m.base (min t U.length)
  | [], m, h, _ => ⟨h, by simp [takes]⟩
  | s :: r, m, h, ht => by
    have e := ht s (List.mem_cons_self ..)
    obtain ⟨a, b⟩ := h.take s
    obtain ⟨c, d⟩ := takes_wtr r a fun x hx => ht x (List.mem_cons_of_mem _ hx)
    refine ⟨c, ?_⟩
    show (takes (m.takeS s) r).base = _
    rw [d, if_neg (List.cons_ne_nil s r), b, e]
    split
    · rfl
    · omega
theorem Wtr.pend {U : List Int} {m : EM} (h : Wtr U m) : m.pend.length ≤ U.length := by rw [h.p, List.length_drop]; omega
theorem Wtr.pend_eq {U : List Int} {m m' : EM} (h : Wtr U m) (h' : Wtr U m') (e : m.base = m'.base) : m.pend = m'.pend := by rw [h.p, h'.p, e]
/-- what is due is of what was written -/
theorem due_seg {U : List Int} {m : EM} (h : Wtr U m) : ∀ s ∈ m.due, SegOf U s ∧ s.t = m.taken ∧ (s.l = 1 → m.closed = 1) ∧ s.d.length ≤ 8 ∧ s.o ≤ U.length := by
  have b0 := h.b0
  have b1 := h.b1
  have hl := h.len
  intro s hs
  unfold EM.due at hs
  split at hs
  · rename_i h0
    rw [List.mem_singleton] at hs
    subst hs
    have : (m.pend.length : Int) = 0 := by rw [h0]; rfl
    exact ⟨⟨b0, b1, fun i b hb => by simp at hb, fun _ => by show m.base.toNat + 0 = _; omega⟩, rfl, fun q => q, by simp, by show m.base ≤ _; omega⟩
  · rename_i h0
    obtain ⟨i, hi, rfl⟩ := List.mem_map.mp hs
    rw [List.mem_range] at hi
    have eo : (m.segAt i).o = m.base + 8 * (i : Int) := rfl
    have ed : (m.segAt i).d = ((m.pend.take 32).drop (8 * i)).take 8 := rfl
    have dl : (m.segAt i).d.length = min 8 (min 32 m.pend.length - 8 * i) := by rw [ed, List.length_take, List.length_drop, List.length_take]
    have el : (m.segAt i).l = if 8 * i + (m.segAt i).d.length = m.pend.length then m.closed else 0 := rfl
    rw [List.length_take] at hi
    refine ⟨⟨by rw [eo]; omega, by rw [dl, eo]; omega, fun j b hb => ?_, fun q => ?_⟩, rfl, fun q => ?_, by rw [dl]; omega, by rw [eo]; omega⟩
    · have hj : j < (m.segAt i).d.length := (List.getElem?_eq_some_iff.mp hb).1
      rw [dl] at hj
      rw [ed, List.getElem?_take_of_lt (by omega), List.getElem?_drop, List.getElem?_take_of_lt (by omega), h.p, List.getElem?_drop] at hb
      rw [← hb, eo]
      congr 1
      omega
    · rw [el] at q
      split at q
      · rename_i q1
        rw [eo]; omega
      · cases q
    · rw [el] at q
      split at q
      · exact q
      · cases q
theorem due_some (m : EM) : m.due ≠ [] := by
  unfold EM.due
  split
  · simp
  · rename_i h0
    have : m.pend.length ≠ 0 := fun z => h0 (List.eq_nil_of_length_eq_zero z)
    intro z
    have := congrArg List.length z
    rw [List.length_map, List.length_range, List.length_take] at this
    simp only [List.length_nil] at this
    omega
/-- equality of all that an End keeps -/
theorem EM.eq_of {m m' : EM} (h1 : m.base = m'.base) (h2 : m.pend = m'.pend) (h3 : m.closed = m'.closed) (h4 : m.given = m'.given) (h5 : m.got = m'.got) (h6 : m.ended = m'.ended) (h7 : m.ahead = m'.ahead) (h8 : m.fin = m'.fin) : m = m' := by
  cases m; cases m'
  simp only at h1 h2 h3 h4 h5 h6 h7 h8
  subst h1 h2 h3 h4 h5 h6 h7 h8
  rfl
theorem Seg.tr_inj {s u : Seg} (h : s.tr = u.tr) : s = u := by
  cases s; cases u
  simp only [Seg.tr, T.tup.injEq, List.cons.injEq, T.int.injEq, and_true] at h
  obtain ⟨h1, h2, h3, h4⟩ := h
  have h2 := ints_inj.mp h2
  subst h1 h2 h3 h4
  rfl
/-- rows told by their trees -/
theorem segs_of {segs : List Seg} : ∀ (ts : List T), (∀ x ∈ ts, x ∈ segs.map Seg.tr) → ∃ l : List Seg, ts = l.map Seg.tr ∧ ∀ s ∈ l, s ∈ segs
  | [], _ => ⟨[], rfl, fun s h => by cases h⟩
  | t :: ts, h => by
    obtain ⟨l, rfl, hl⟩ := segs_of ts fun x hx => h x (List.mem_cons_of_mem _ hx)
    obtain ⟨s, hs, rfl⟩ := List.mem_map.mp (h t (List.mem_cons_self ..))
    refine ⟨s :: l, rfl, fun u hu => ?_⟩
    rcases List.mem_cons.mp hu with z | z
    · rw [z]; exact hs
    · exact hl u z
theorem segs_all {segs l : List Seg} (h : ∀ x, x ∈ l.map Seg.tr ↔ x ∈ segs.map Seg.tr) : ∀ s, s ∈ l ↔ s ∈ segs := by
  have one : ∀ {a b : List Seg}, (∀ x, x ∈ a.map Seg.tr → x ∈ b.map Seg.tr) → ∀ s ∈ a, s ∈ b := fun h s hs => by
    obtain ⟨u, hu, e⟩ := List.mem_map.mp (h _ (List.mem_map.mpr ⟨s, hs, rfl⟩))
    rw [← Seg.tr_inj e]
    exact hu
  exact fun s => ⟨one (fun x => (h x).mp) s, one (fun x => (h x).mpr) s⟩
/-- the same rows, in any order and as often as one likes -/
theorem takes_same {W U : List Int} {D : Nat → Prop} {e : Prop} {m : EM} {g : Nat} {t : Int} {l segs : List Seg} (h : Rdr W D e m g) (u : Wtr U m) (c : m.closed = 0) (hs : ∀ s ∈ segs, SegOf W s ∧ s.t = t) (hl : ∀ s, s ∈ l ↔ s ∈ segs) :
    takes m l = takes m segs ∧ outs m l = outs m segs := by
  have hs1 : ∀ s ∈ segs, SegOf W s := fun s q => (hs s q).1
  have ht1 : ∀ s ∈ segs, s.t = t := fun s q => (hs s q).2
  obtain ⟨g1, a1, b1, c1⟩ := takes_rdr l h fun s q => hs1 s ((hl s).mp q)
  obtain ⟨g2, a2, b2, c2⟩ := takes_rdr segs h hs1
  have a1 := a1.iff (D' := fun k => D k ∨ ∃ s ∈ segs, s.o.toNat ≤ k ∧ k < s.o.toNat + s.d.length) (e' := e ∨ ∃ s ∈ segs, s.l = 1) (fun k => by simp only [hl]) (by simp only [hl])
  obtain ⟨eg, e1, e2, e3, e4⟩ := a1.same a2
  subst eg
  obtain ⟨w1, x1⟩ := takes_wtr l u fun s q => ht1 s ((hl s).mp q)
  obtain ⟨w2, x2⟩ := takes_wtr segs u ht1
  have en : l = [] ↔ segs = [] := by
    constructor
    · intro z
      cases q : segs with
      | nil => rfl
      | cons a r => have := (hl a).mpr (by rw [q]; exact List.mem_cons_self ..); rw [z] at this; cases this
    · intro z
      cases q : l with
      | nil => rfl
      | cons a r => have := (hl a).mp (by rw [q]; exact List.mem_cons_self ..); rw [z] at this; cases this
  have eb : (takes m l).base = (takes m segs).base := by
    rw [x1, x2]
    by_cases z : segs = []
    · rw [if_pos z, if_pos (en.mpr z)]
    · rw [if_neg z, if_neg fun y => z (en.mp y)]
  exact ⟨EM.eq_of eb (w1.pend_eq w2 eb) (by rw [takes_closed, takes_closed]) (by rw [takes_given _ _ c, takes_given _ _ c]) e1 e4 e2 e3, by rw [c1, c2]⟩
end My

set_option Elab.async false
set_option linter.all false
set_option maxRecDepth 100000
set_option maxHeartbeats 4000000
/-! two Ends that send each other rows, some of them lost, some again -/
namespace My
open PySem PySem.Spec PyProof.Rows L2 Wp
structure Side where
  out : List Int
  inn : List Int
  closed : Bool
  known : Int
def Side.take (s : Side) (m : EM) (x : Seg) : Side := { s with inn := s.inn ++ m.outS x, known := max s.known (min x.t s.out.length) }
/-- an End m with its side s; the other one; the rows that are under way to m -/
structure Dir (m mo : EM) (s so : Side) (n : List Seg) : Prop where
  u : Wtr s.out m
  c : m.closed = if s.closed then 1 else 0
  gv : m.given = 0 ∨ (m.given = 1 ∧ s.closed = true ∧ mo.ended = 1)
  r : ∃ D e g, Rdr so.out D e m g ∧ (∀ k, D k → k < so.out.length) ∧ (e → so.closed = true) ∧ s.inn = so.out.take g
  rows : ∀ x ∈ n, SegOf so.out x ∧ (x.l = 1 → so.closed = true) ∧ x.t ≤ mo.taken ∧ x.d.length ≤ 8 ∧ x.o ≤ so.out.length
  lo : s.out.length ≤ 4000
  kb : s.known = m.base
  bg : m.base ≤ mo.got
theorem Rdr.grow {W V : List Int} {D : Nat → Prop} {e : Prop} {m : EM} {g : Nat} (h : Rdr W D e m g) (b : ∀ k, D k → k < W.length) (ne : ¬ e) : Rdr (W ++ V) D e m g := by
  have val : ∀ k : Nat, k < W.length → valW (W ++ V) k = valW W k := fun k hk => by
    unfold valW
    rw [Int.toNat_natCast, List.getD_eq_getElem?_getD, List.getD_eq_getElem?_getD, List.getElem?_append_left hk]
  refine ⟨h.got, by rw [List.length_append]; have := h.gle; omega, h.all, fun _ hd => h.no (b g hd) hd, h.s, fun x => ?_, fun z => absurd z ne, h.f0, fun z => absurd z.1 ne, fun _ => h.e0 fun z => ne z.1⟩
  rw [h.mem]
  constructor
  · rintro ⟨k, a1, a2, a3, a4⟩
    exact ⟨k, by rw [List.length_append]; omega, a2, a3, by rw [a4, val k a1]⟩
  · rintro ⟨k, a1, a2, a3, a4⟩
    exact ⟨k, b k a3, a2, a3, by rw [a4, val k (b k a3)]⟩
theorem Rdr.ended {W : List Int} {D : Nat → Prop} {e : Prop} {m : EM} {g : Nat} (h : Rdr W D e m g) : m.ended = 0 ∨ (m.ended = 1 ∧ e ∧ g = W.length) := by
  by_cases q : e ∧ g = W.length
  · exact .inr ⟨h.e1 q, q⟩
  · exact .inl (h.e0 q)
theorem Rdr.like {W : List Int} {D : Nat → Prop} {e : Prop} {m m' : EM} {g : Nat} (h : Rdr W D e m g) (h1 : m'.got = m.got) (h2 : m'.ahead = m.ahead) (h3 : m'.fin = m.fin) (h4 : m'.ended = m.ended) : Rdr W D e m' g :=
  ⟨by rw [h1]; exact h.got, h.gle, h.all, h.no, by rw [h2]; exact h.s, fun x => by rw [h2]; exact h.mem x, by rw [h3]; exact h.f1, by rw [h3]; exact h.f0, by rw [h4]; exact h.e1, by rw [h4]; exact h.e0⟩
theorem SegOf.grow {W V : List Int} {x : Seg} (h : SegOf W x) (nl : ¬ x.l = 1) : SegOf (W ++ V) x :=
  ⟨h.o, by rw [List.length_append]; have := h.n; omega, fun i b hb => by
    have := h.d i b hb
    rw [List.getElem?_append_left (List.getElem?_eq_some_iff.mp this).1]
    exact this, fun z => absurd z nl⟩
theorem Dir.wf {m mo : EM} {s so : Side} {n : List Seg} (h : Dir m mo s so n) (lo : so.out.length ≤ 4000) : WF m := by
  obtain ⟨D, e, g, r, _⟩ := h.r
  exact r.wf (by omega) (by have := h.u.pend; have := h.lo; omega)
theorem write_eq {m : EM} {d : List Int} (h : m.closed = 0) : m.write d = { m with pend := m.pend ++ d } := if_pos h
/-- bytes are written -/
theorem Dir.write1 {m mo : EM} {s so : Side} {n : List Seg} {d : List Int} (h : Dir m mo s so n) (nc : s.closed = false) (l : (s.out ++ d).length ≤ 4000) : Dir (m.write d) mo { s with out := s.out ++ d } so n := by
  have c0 : m.closed = 0 := by rw [h.c, nc]; rfl
  rw [write_eq c0]
  obtain ⟨D, e, g, r, rb, re, ri⟩ := h.r
  refine ⟨⟨h.u.b0, by have := h.u.b1; show m.base.toNat ≤ (s.out ++ d).length; rw [List.length_append]; omega, ?_⟩, h.c, h.gv, ⟨D, e, g, r.like rfl rfl rfl rfl, rb, re, ri⟩, h.rows, l, h.kb, h.bg⟩
  show m.pend ++ d = (s.out ++ d).drop m.base.toNat
  rw [List.drop_append_of_le_length h.u.b1, h.u.p]
theorem Dir.write2 {m mo : EM} {s so : Side} {n : List Seg} {d : List Int} (h : Dir mo m so s n) (nc : s.closed = false) (c0 : m.closed = 0) : Dir mo (m.write d) so { s with out := s.out ++ d } n := by
  rw [write_eq c0]
  obtain ⟨D, e, g, r, rb, re, ri⟩ := h.r
  have ne : ¬ e := fun z => by have := re z; rw [nc] at this; cases this
  refine ⟨h.u, h.c, h.gv, ⟨D, e, g, r.grow rb ne, fun k hk => by have := rb k hk; show k < (s.out ++ d).length; rw [List.length_append]; omega, re, ?_⟩, fun x hx => ?_, h.lo, h.kb, h.bg⟩
  · show so.inn = (s.out ++ d).take g
    rw [List.take_append_of_le_length r.gle, ri]
  · obtain ⟨a1, a2, a3, a4, a5⟩ := h.rows x hx
    exact ⟨a1.grow fun z => (by have := a2 z; rw [nc] at this; cases this), a2, a3, a4, by show x.o ≤ ((s.out ++ d).length : Int); rw [List.length_append]; omega⟩
/-- closing -/
theorem Dir.close1 {m mo : EM} {s so : Side} {n : List Seg} (h : Dir m mo s so n) : Dir m.close mo { s with closed := true } so n := by
  obtain ⟨D, e, g, r, rb, re, ri⟩ := h.r
  exact ⟨⟨h.u.b0, h.u.b1, h.u.p⟩, rfl, h.gv.imp_right fun ⟨a, _, b⟩ => ⟨a, rfl, b⟩, ⟨D, e, g, r.like rfl rfl rfl rfl, rb, re, ri⟩, h.rows, h.lo, h.kb, h.bg⟩
theorem Dir.close2 {m mo : EM} {s so : Side} {n : List Seg} (h : Dir mo m so s n) : Dir mo m.close so { s with closed := true } n := by
  obtain ⟨D, e, g, r, rb, re, ri⟩ := h.r
  exact ⟨h.u, h.c, h.gv, ⟨D, e, g, r, rb, fun _ => rfl, ri⟩, fun x hx => by
    obtain ⟨a1, a2, a3⟩ := h.rows x hx
    exact ⟨a1, fun _ => rfl, a3⟩, h.lo, h.kb, h.bg⟩
/-- rows are sent -/
theorem Dir.send {m mo : EM} {s so : Side} {n l : List Seg} (h : Dir mo m so s n) (u : Wtr s.out m) (c : m.closed = if s.closed then 1 else 0) (hl : ∀ x ∈ l, x ∈ m.due) : Dir mo m so s (n ++ l) :=
  ⟨h.u, h.c, h.gv, h.r, fun x hx => by
    rcases List.mem_append.mp hx with z | z
    · exact h.rows x z
    · obtain ⟨a, b, d, e, f⟩ := due_seg u x (hl x z)
      refine ⟨a, fun z => ?_, by rw [b]; exact Int.le_refl _, e, f⟩
      have := d z
      rw [c] at this
      cases q : s.closed with
      | true => rfl
      | false => (rw [q] at this; cases this), h.lo, h.kb, h.bg⟩
theorem Dir.less {m mo : EM} {s so : Side} {n l : List Seg} (h : Dir m mo s so n) (hl : ∀ x ∈ l, x ∈ n) : Dir m mo s so l := ⟨h.u, h.c, h.gv, h.r, fun x hx => h.rows x (hl x hx), h.lo, h.kb, h.bg⟩
theorem takeS_ended (m : EM) (x : Seg) : (m.takeS x).ended = 1 ∨ (m.takeS x).ended = m.ended := by
  have : (m.takeS x).ended = if (m.takeS x).fin = some (m.takeS x).got then 1 else m.ended := rfl
  rw [this]
  split
  · exact .inl rfl
  · exact .inr rfl
/-- a row comes -/
theorem Dir.take1 {m mo : EM} {s so : Side} {n no : List Seg} {x : Seg} (h : Dir m mo s so n) (ho : Dir mo m so s no) (hx : x ∈ n) : Dir (m.takeS x) mo (s.take m x) so n := by
  obtain ⟨D, e, g, r, rb, re, ri⟩ := h.r
  obtain ⟨a1, a2, a3, a4, a5⟩ := h.rows x hx
  obtain ⟨g', r', gg, eo⟩ := r.take a1
  obtain ⟨Do, eo', go, ro, _, _, _⟩ := ho.r
  refine ⟨(h.u.take x).1, h.c, ?_, ⟨_, _, g', r', fun k hk => ?_, fun z => z.elim re a2, ?_⟩, h.rows, h.lo, ?_, ?_⟩
  · by_cases q : m.closed ≠ 0 ∧ m.base + m.pend.length < x.t
    · right
      refine ⟨if_pos q, ?_, ?_⟩
      · cases z : s.closed with
        | true => exact z
        | false => exact absurd (by rw [h.c, z]; rfl) q.1
      · have l1 := h.u.len
        have l2 := ro.got
        have l3 := ro.gle
        have l4 : mo.taken = mo.got + mo.ended := rfl
        rcases ro.ended with z | ⟨z, _⟩
        · omega
        · exact z
    · have : (m.takeS x).given = m.given := if_neg q
      rw [this]
      exact h.gv
  · rcases hk with z | ⟨_, z⟩
    · exact rb k z
    · have := a1.n; omega
  · show s.inn ++ m.outS x = so.out.take g'
    have eo : m.outS x = (so.out.drop g).take (g' - g) := eo
    rw [ri, eo, ← List.take_add, show g + (g' - g) = g' by omega]
  · rw [(h.u.take x).2, ← h.kb]
    rfl
  · rw [(h.u.take x).2]
    have l2 := ro.got
    have l3 := ro.gle
    have l4 : mo.taken = mo.got + mo.ended := rfl
    have l5 := h.bg
    rcases ro.ended with z | ⟨z, _, z2⟩ <;> omega
theorem Dir.take2 {m mo : EM} {s so : Side} {n no : List Seg} {x : Seg} (h : Dir m mo s so n) (ho : Dir mo m so s no) (hx : x ∈ n) : Dir mo (m.takeS x) so (s.take m x) no := by
  obtain ⟨D, e, g, r, rb, re, ri⟩ := h.r
  obtain ⟨a1, a2, a3, a4, a5⟩ := h.rows x hx
  obtain ⟨g', r', gg, eo⟩ := r.take a1
  have tk : m.taken ≤ (m.takeS x).taken := by
    have l1 := r.got
    have l2 : (m.takeS x).got = g' := r'.got
    have l4 : m.taken = m.got + m.ended := rfl
    have l5 : (m.takeS x).taken = (m.takeS x).got + (m.takeS x).ended := rfl
    rcases takeS_ended m x with z | z
    · rcases r.ended with y | ⟨y, _⟩ <;> omega
    · omega
  have en : m.ended = 1 → (m.takeS x).ended = 1 := fun z => by
    rcases takeS_ended m x with y | y
    · exact y
    · rw [y]; exact z
  exact ⟨ho.u, ho.c, ho.gv.imp_right fun ⟨a, b, c⟩ => ⟨a, b, en c⟩, ho.r, fun y hy => by
    obtain ⟨b1, b2, b3, b4⟩ := ho.rows y hy
    exact ⟨b1, b2, Int.le_trans b3 tk, b4⟩, ho.lo, ho.kb, Int.le_trans ho.bg (by rw [r.got, show (m.takeS x).got = g' from r'.got]; omega)⟩
/-- what is asked at each step -/
theorem Dir.right {m mo : EM} {s so : Side} {n : List Seg} (h : Dir m mo s so n) :
    so.out.take s.inn.length = s.inn ∧ m.taken = s.inn.length + (if m.ended == 1 then 1 else 0) ∧ ((m.ended == 1) = true → so.closed = true ∧ s.inn.length = so.out.length) ∧ ((m.given == 1) = true → (mo.ended == 1) = true) := by
  obtain ⟨D, e, g, r, rb, re, ri⟩ := h.r
  have lg : s.inn.length = g := by rw [ri, List.length_take]; have := r.gle; omega
  refine ⟨by rw [lg, ri], ?_, fun z => ?_, fun z => ?_⟩
  · show m.got + m.ended = _
    rw [r.got, lg]
    rcases r.ended with y | ⟨y, _⟩ <;> rw [y] <;> rfl
  · rcases r.ended with y | ⟨y, y1, y2⟩
    · rw [y] at z; cases z
    · exact ⟨re y1, by rw [lg, y2]⟩
  · rcases h.gv with y | ⟨y, _, y2⟩
    · rw [y] at z; cases z
    · rw [y2]; rfl
theorem Dir.new (n : List Seg) (hn : n = []) : Dir EM.new EM.new ⟨[], [], false, 0⟩ ⟨[], [], false, 0⟩ n :=
  ⟨Wtr.new rfl [] rfl, rfl, .inl rfl, ⟨fun _ => False, False, 0, Rdr.new [] _ (fun _ h => h), fun _ h => h.elim, fun h => h.elim, rfl⟩, fun x hx => by rw [hn] at hx; (cases hx), by decide, rfl, Int.le_refl _⟩
end My

set_option Elab.async false
set_option linter.all false
set_option maxRecDepth 100000
set_option maxHeartbeats 4000000
/-! an end as a law keeps it that throws nothing away of what has come -/
namespace My
open PySem PySem.Spec PyProof.Rows L2 Wp
abbrev Sn := Int → Option Int
/-- the bytes of a row, put at their places -/
def putS (f : Sn) (o : Int) : List Int → Sn
  | [] => f
  | b :: d => putS (fun k => if k = o then some b else f k) (o + 1) d
/-- what is there from a place on, n bytes at the most -/
def runS (f : Sn) : Nat → Int → List Int
  | 0, _ => []
  | n + 1, g => match f g with
    | none => []
    | some v => v :: runS f n (g + 1)
theorem putS_at {V : Int → Int} : ∀ (d : List Int) (f : Sn) (o : Int), (∀ (i : Nat) (b : Int), d[i]? = some b → b = V (o + i)) →
    ∀ k, putS f o d k = if o ≤ k ∧ k < o + d.length then some (V k) else f k
  | [], f, o, _, k => by
    rw [if_neg (by simp only [List.length_nil]; omega)]
    rfl
  | b :: d, f, o, h, k => by
    have h0 : b = V o := by have := h 0 b rfl; simpa using this
    have ih := putS_at d (fun k => if k = o then some b else f k) (o + 1) (fun i c e => by
      have := h (i + 1) c e
      rw [this, show o + ((i + 1 : Nat) : Int) = o + 1 + (i : Int) by omega]) k
    show putS _ (o + 1) d k = _
    rw [ih]
    simp only [List.length_cons]
    by_cases q : k = o
    · subst q
      rw [if_neg (by omega), if_pos rfl, if_pos (by omega), h0]
    · rw [if_neg q]
      by_cases z : o + 1 ≤ k ∧ k < o + 1 + d.length
      · rw [if_pos z, if_pos (by omega)]
      · rw [if_neg z, if_neg (by omega)]
/-- the rows that wait are those of the dict from g on -/
def Fol (f : Sn) (g : Int) (l : Bs) : Prop := ∀ k v, g ≤ k → (f k = some v ↔ (k, v) ∈ l)
theorem drain_run : ∀ (l : Bs) (f : Sn) (g : Int) (n : Nat), srtd l → (∀ e ∈ l, g ≤ e.1) → Fol f g l → l.length ≤ n → (drain g l).1 = runS f n g
  | [], f, g, n, _, _, h, _ => by
    have hn : f g = none := by
      cases q : f g with
      | none => rfl
      | some v => exact absurd ((h g v (Int.le_refl _)).mp q) (by simp)
    cases n with
    | zero => rfl
    | succ n =>
      show [] = runS f (n + 1) g
      unfold runS
      rw [hn]
  | e :: r, f, g, 0, _, _, _, hl => by simp at hl
  | e :: r, f, g, n + 1, hs, hg, h, hl => by
    have hc := List.pairwise_cons.mp hs
    unfold drain
    by_cases q : e.1 = g
    · rw [if_pos q]
      have fe : f g = some e.2 := (h g e.2 (Int.le_refl _)).mpr (by rw [← q]; exact List.mem_cons_self ..)
      have ih := drain_run r f (g + 1) n hc.2 (fun x hx => by have := hc.1 x hx; omega) (fun k v hk => by
        rw [h k v (by omega), List.mem_cons]
        constructor
        · rintro (z | z)
          · have : k = e.1 := congrArg Prod.fst z
            omega
          · exact z
        · exact .inr) (by rw [List.length_cons] at hl; omega)
      show e.2 :: (drain (g + 1) r).1 = _
      rw [ih]
      show _ = runS f (n + 1) g
      rw [runS, fe]
    · rw [if_neg q]
      have fe : f g = none := by
        cases z : f g with
        | none => rfl
        | some v =>
          exfalso
          have := hg e (List.mem_cons_self ..)
          rcases List.mem_cons.mp ((h g v (Int.le_refl _)).mp z) with w | w
          · exact q (congrArg Prod.fst w).symm
          · have := hc.1 _ w
            have : e.1 < g := this
            omega
      show ([] : List Int) = runS f (n + 1) g
      rw [runS, fe]
theorem drain_fol {l : Bs} {f : Sn} {g : Int} (hs : srtd l) (hg : ∀ e ∈ l, g ≤ e.1) (h : Fol f g l) : Fol f (g + (drain g l).1.length) (drain g l).2 := fun k v hk => by
  rw [h k v (by omega), drain_iff l g (k, v) hs hg]
  exact ⟨fun z => ⟨z, hk⟩, fun z => z.1⟩
theorem keep_fol {V : Int → Int} {l : Bs} {f : Sn} {g o : Int} {d : List Int} (hs : srtd l) (fv : Fits V l) (h : Fol f g l) (hd : ∀ (i : Nat) (b : Int), d[i]? = some b → b = V (o + i)) : Fol (putS f o d) g (keepA g l o d) := fun k v hk => by
  rw [putS_at d f o hd k, (keepA_iff (V := V) (g := g) (e := (k, v)) d l o hs fv hd).2]
  by_cases q : o ≤ k ∧ k < o + d.length
  · rw [if_pos q]
    have e : o + ((k - o).toNat : Int) = k := by omega
    constructor
    · intro z
      refine .inr ⟨(k - o).toNat, by omega, by omega, ?_⟩
      rw [e, Option.some.inj z]
    · rintro (z | ⟨i, _, _, z⟩)
      · have : v = V k := fv (k, v) z
        rw [this]
      · have z1 : k = o + i := congrArg Prod.fst z
        have z2 : v = V (o + i) := congrArg Prod.snd z
        rw [z2, ← z1]
  · rw [if_neg q, h k v hk]
    constructor
    · exact .inl
    · rintro (z | ⟨i, a, _, z⟩)
      · exact z
      · have z1 : k = o + i := congrArg Prod.fst z
        exact absurd (by omega) q
/-- an end as the law keeps it -/
structure SM where
  out : List Int
  closed : Int
  base : Int
  given : Int
  seen : Sn
  got : Int
  ended : Int
  fin : Option Int
def SM.new : SM := ⟨[], 0, 0, 0, fun _ => none, 0, 0, none⟩
def SM.run (s : SM) (x : Seg) : List Int := runS (putS s.seen x.o x.d) 80 s.got
def SM.take (s : SM) (x : Seg) : SM :=
  let g := s.got + (s.run x).length
  let f := if x.l = 1 then some (x.o + x.d.length) else s.fin
  { s with given := if (s.out.length : Int) < x.t then 1 else s.given, base := max s.base (min x.t s.out.length), seen := putS s.seen x.o x.d, got := g, fin := f, ended := if f = some g then 1 else s.ended }
/-- the same end as an End holds it -/
structure Lik (s : SM) (m : EM) : Prop where
  u : Wtr s.out m
  base : m.base = s.base
  closed : m.closed = s.closed
  given : m.given = s.given
  got : m.got = s.got
  ended : m.ended = s.ended
  fin : m.fin = s.fin
  seen : Fol s.seen m.got m.ahead
  near : ∀ e ∈ m.ahead, e.1 < m.got + 32
theorem Lik.new : Lik SM.new EM.new := ⟨Wtr.new rfl [] rfl, rfl, rfl, rfl, rfl, rfl, rfl, fun k v _ => ⟨fun h => (by cases h), fun h => (by cases h)⟩, fun e h => (by cases h)⟩
theorem Lik.take {s : SM} {m : EM} {W : List Int} {D : Nat → Prop} {e : Prop} {g : Nat} {x : Seg} (h : Lik s m) (r : Rdr W D e m g) (hx : SegOf W x) (ht : (s.out.length : Int) < x.t → s.closed ≠ 0) (hn : x.o + x.d.length ≤ m.got + 32) :
    Lik (s.take x) (m.takeS x) ∧ m.outS x = s.run x := by
  have V0 : Fits (valW W) m.ahead := fun y hy => by
    obtain ⟨k, _, _, _, h4⟩ := (r.mem y).mp hy
    rw [h4]
  have Vd : ∀ (i : Nat) (b : Int), x.d[i]? = some b → b = valW W (x.o + i) := fun i b hb => by
    have := hx.d i b hb
    have o0 := hx.o
    unfold valW
    rw [show (x.o + (i : Int)).toNat = x.o.toNat + i by omega, List.getD_eq_getElem?_getD, this]
    rfl
  have ag : ∀ e ∈ m.ahead, m.got ≤ e.1 := fun y hy => by
    obtain ⟨k, _, b, _, d⟩ := (r.mem y).mp hy
    rw [d, r.got]
    show (g : Int) ≤ k
    omega
  obtain ⟨l, el⟩ : ∃ l, keepA m.got m.ahead x.o x.d = l := ⟨_, rfl⟩
  have ls : srtd l := by rw [← el]; exact keepA_srtd _ _ _ r.s
  have lg : ∀ e ∈ l, m.got ≤ e.1 := by rw [← el]; exact keepA_ge _ _ _ ag
  have lf : Fol (putS s.seen x.o x.d) m.got l := by rw [← el]; exact keep_fol r.s V0 h.seen Vd
  have ln : ∀ e ∈ l, e.1 < m.got + 32 := fun y hy => by
    rw [← el] at hy
    rcases (keepA_iff (V := valW W) (g := m.got) (e := y) x.d m.ahead x.o r.s V0 Vd).2.mp hy with z | ⟨i, a, b, c⟩
    · exact h.near y z
    · rw [c]
      show x.o + (i : Int) < _
      omega
  have few : l.length ≤ 80 := by
    have := srtd_len (lo := m.got) (hi := m.got + 32) ls fun y hy => ⟨lg y hy, ln y hy⟩
    omega
  have er : (drain m.got l).1 = s.run x := by
    unfold SM.run
    rw [← h.got]
    exact drain_run l _ m.got 80 ls lg lf few
  have fol := drain_fol ls lg lf
  have eo : m.outS x = s.run x := by
    rw [← er, ← el]
    rfl
  refine ⟨⟨(h.u.take x).1, ?_, h.closed, ?_, ?_, ?_, ?_, ?_, ?_⟩, eo⟩
  · rw [(h.u.take x).2, h.base]
    rfl
  · show (if m.closed ≠ 0 ∧ m.base + m.pend.length < x.t then 1 else m.given) = if (s.out.length : Int) < x.t then 1 else s.given
    rw [h.u.len, h.closed, h.given]
    by_cases q : (s.out.length : Int) < x.t
    · rw [if_pos ⟨ht q, q⟩, if_pos q]
    · rw [if_neg q, if_neg fun z => q z.2]
  · show m.got + (drain m.got (keepA m.got m.ahead x.o x.d)).1.length = s.got + (s.run x).length
    rw [el, er, h.got]
  · show (if (if x.l = 1 then some (x.o + x.d.length) else m.fin) = some (m.got + ((drain m.got (keepA m.got m.ahead x.o x.d)).1.length : Int)) then (1 : Int) else m.ended) = if (if x.l = 1 then some (x.o + x.d.length) else s.fin) = some (s.got + ((s.run x).length : Int)) then 1 else s.ended
    rw [el, er, h.got, h.fin, h.ended]
  · show (if x.l = 1 then some (x.o + (x.d.length : Int)) else m.fin) = if x.l = 1 then some (x.o + (x.d.length : Int)) else s.fin
    rw [h.fin]
  · show Fol (putS s.seen x.o x.d) (m.got + ((drain m.got (keepA m.got m.ahead x.o x.d)).1.length : Int)) (drain m.got (keepA m.got m.ahead x.o x.d)).2
    rw [el]
    exact fol
  · intro y hy
    have hy : y ∈ (drain m.got (keepA m.got m.ahead x.o x.d)).2 := hy
    show y.1 < m.got + ((drain m.got (keepA m.got m.ahead x.o x.d)).1.length : Int) + 32
    rw [el] at hy ⊢
    have := ln y ((drain_iff l m.got y ls lg).mp hy).1
    omega
/-- what is written -/
theorem Lik.write {s : SM} {m : EM} {d : List Int} (h : Lik s m) (c : s.closed = 0) : Lik { s with out := s.out ++ d } (m.write d) := by
  have hc : m.closed = 0 := h.closed.trans c
  rw [write_eq hc]
  have bl : m.base.toNat ≤ s.out.length := h.u.b1
  refine ⟨⟨h.u.b0, ?_, ?_⟩, h.base, h.closed, h.given, h.got, h.ended, h.fin, h.seen, h.near⟩
  · rw [List.length_append]; exact Nat.le_trans bl (Nat.le_add_right _ _)
  · show m.pend ++ d = (s.out ++ d).drop m.base.toNat
    rw [List.drop_append_of_le_length bl, h.u.p]
/-- closed -/
theorem Lik.close {s : SM} {m : EM} (h : Lik s m) : Lik { s with closed := 1 } m.close := ⟨⟨h.u.b0, h.u.b1, h.u.p⟩, h.base, rfl, h.given, h.got, h.ended, h.fin, h.seen, h.near⟩
/-- the kept rows, told from all that came -/
theorem Lik.kept {s : SM} {m : EM} (h : Lik s m) (hs : srtd m.ahead) (hg : ∀ e ∈ m.ahead, m.got ≤ e.1) {zs : List Int} (st : zs.Pairwise (· < ·)) (all : ∀ k, k ∈ zs ↔ (s.seen k).isSome = true) :
    (zs.filter fun k => decide (s.got ≤ k)).map (fun k => (k, (s.seen k).getD 0)) = m.ahead := by
  refine srtd_eq ?_ hs fun e => ?_
  · unfold srtd
    rw [List.pairwise_map]
    exact st.filter _
  · rw [List.mem_map]
    constructor
    · rintro ⟨k, hk, rfl⟩
      rw [List.mem_filter, decide_eq_true_eq, all] at hk
      obtain ⟨v, hv⟩ := Option.isSome_iff_exists.mp hk.1
      rw [hv]
      exact (h.seen k v (by rw [h.got]; exact hk.2)).mp hv
    · intro he
      have ge := hg e he
      have hv := (h.seen e.1 e.2 ge).mpr he
      refine ⟨e.1, ?_, by rw [hv]; rfl⟩
      rw [List.mem_filter, decide_eq_true_eq, all, hv, ← h.got]
      exact ⟨rfl, ge⟩
end My

set_option Elab.async false
set_option linter.all false
set_option maxRecDepth 100000
set_option maxHeartbeats 4000000
namespace My
open PySem PySem.Spec PyProof.Rows L2 Wp
/-! ### the law's own end, in the state -/
theorem valT_zip {κ : Type} [DecidableEq κ] {k : κ} : ∀ (ks : List κ) (vs : List T) (i : Nat), ks.Nodup → ks.length = vs.length → ks[i]? = some k → valT (ks.zip vs) k = vs[i]?
  | [], [], i, _, _, h => by simp at h
  | [], _ :: _, _, _, h, _ => by simp at h
  | _ :: _, [], _, _, h, _ => by simp at h
  | a :: ks, v :: vs, 0, _, _, h => by
    obtain rfl : a = k := Option.some.inj h
    show valT ((a, v) :: ks.zip vs) a = some v
    rw [valT_cons, if_pos rfl]
  | a :: ks, v :: vs, i + 1, nd, hl, h => by
    have n := List.nodup_cons.mp nd
    have h : ks[i]? = some k := h
    have ne : ¬ a = k := fun z => n.1 (by rw [z]; exact List.mem_of_getElem? h)
    show valT ((a, v) :: ks.zip vs) k = vs[i]?
    rw [valT_cons, if_neg ne]
    exact valT_zip ks vs i n.2 (Nat.succ.inj hl) h
theorem putT_zip {κ : Type} [DecidableEq κ] {k : κ} {w : T} : ∀ (ks : List κ) (vs : List T) (i : Nat), ks.Nodup → ks.length = vs.length → ks[i]? = some k → putT (ks.zip vs) k w = ks.zip (vs.set i w) := fun ks vs i nd hl h => by
  have hi := (List.getElem?_eq_some_iff.mp h).1
  have e := valT_zip ks vs i nd hl h
  unfold putT
  rw [if_pos (by rw [valT_any, e, List.getElem?_eq_getElem (by omega)]; rfl)]
  refine List.ext_getElem? fun j => ?_
  rw [List.getElem?_map]
  by_cases q : j < ks.length
  · have e1 : (ks.zip vs)[j]? = some (ks[j], vs[j]'(by omega)) := List.getElem?_zip_eq_some.mpr ⟨List.getElem?_eq_getElem q, List.getElem?_eq_getElem _⟩
    rw [e1, Option.map_some]
    by_cases z : i = j
    · subst z
      have ek : ks[i] = k := Option.some.inj ((List.getElem?_eq_getElem q).symm.trans h)
      have e2 : (ks.zip (vs.set i w))[i]? = some (ks[i], w) := List.getElem?_zip_eq_some.mpr ⟨List.getElem?_eq_getElem q, List.getElem?_set_self (by omega)⟩
      rw [e2]
      show some (if ks[i] = k then (ks[i], w) else _) = _
      rw [if_pos ek]
    · have nk : ¬ ks[j] = k := fun ek => z ((List.getElem?_inj hi nd).mp (by rw [h, List.getElem?_eq_getElem q, ek]))
      have e2 : (ks.zip (vs.set i w))[j]? = some (ks[j], vs[j]'(by omega)) := List.getElem?_zip_eq_some.mpr ⟨List.getElem?_eq_getElem q, by rw [List.getElem?_set_ne z]; exact List.getElem?_eq_getElem _⟩
      rw [e2]
      show some (if ks[j] = k then _ else (ks[j], _)) = _
      rw [if_neg nk]
  · rw [List.getElem?_eq_none (by rw [List.length_zip]; omega), List.getElem?_eq_none (by rw [List.length_zip, List.length_set]; omega)]
    rfl
theorem merge_zip {ks : List Key} {vs : List T} (nd : ks.Nodup) (hl : ks.length = vs.length) : mergeT [] (ks.zip vs) = ks.zip vs := by
  have go : ∀ (more kvs : List (Key × T)), ((kvs ++ more).map (·.1)).Nodup → more.foldl (fun acc kv => putT acc kv.1 kv.2) kvs = kvs ++ more := by
    intro more
    induction more with
    | nil => intro kvs _; exact (List.append_nil _).symm
    | cons e r ih =>
      intro kvs n
      have ne : ¬ (kvs.any fun kv => decide (kv.1 = e.1)) = true := fun z => by
        obtain ⟨x, hx, q⟩ := List.any_eq_true.mp z
        rw [List.map_append, List.map_cons] at n
        exact (List.nodup_append.mp n).2.2 x.1 (List.mem_map.mpr ⟨x, hx, rfl⟩) e.1 (List.mem_cons_self ..) (of_decide_eq_true q)
      show r.foldl _ (putT kvs e.1 e.2) = _
      unfold putT
      rw [if_neg ne]
      have := ih (kvs ++ [(e.1, e.2)]) (by rw [List.append_assoc]; exact n)
      unfold putT at this
      rw [this, List.append_assoc]
      rfl
  have := go (ks.zip vs) [] (by rw [List.nil_append, List.map_fst_zip (Nat.le_of_eq hl)]; exact nd)
  exact this
def kd : List Key := [Sum.inr "out", Sum.inr "closed", Sum.inr "base", Sum.inr "given", Sum.inr "seen", Sum.inr "got", Sum.inr "ended", Sum.inr "end"]
theorem kd_nd : kd.Nodup := by decide +kernel
def sdL (o c b g s t e f : T) : List (Key × T) := kd.zip [o, c, b, g, s, t, e, f]
section
variable {o c b g s t e f v : T}
theorem sdL_len : (sdL o c b g s t e f).length = 8 := rfl
theorem ix_out : valT (sdL o c b g s t e f) (.inr "out") = some o := valT_zip kd _ 0 kd_nd rfl rfl
theorem ix_closed : valT (sdL o c b g s t e f) (.inr "closed") = some c := valT_zip kd _ 1 kd_nd rfl rfl
theorem ix_base : valT (sdL o c b g s t e f) (.inr "base") = some b := valT_zip kd _ 2 kd_nd rfl rfl
theorem ix_given : valT (sdL o c b g s t e f) (.inr "given") = some g := valT_zip kd _ 3 kd_nd rfl rfl
theorem ix_seen : valT (sdL o c b g s t e f) (.inr "seen") = some s := valT_zip kd _ 4 kd_nd rfl rfl
theorem ix_got : valT (sdL o c b g s t e f) (.inr "got") = some t := valT_zip kd _ 5 kd_nd rfl rfl
theorem ix_ended : valT (sdL o c b g s t e f) (.inr "ended") = some e := valT_zip kd _ 6 kd_nd rfl rfl
theorem ix_end : valT (sdL o c b g s t e f) (.inr "end") = some f := valT_zip kd _ 7 kd_nd rfl rfl
theorem st_closed : putT (sdL o c b g s t e f) (.inr "closed") v = sdL o v b g s t e f := putT_zip kd _ 1 kd_nd rfl rfl
theorem st_base : putT (sdL o c b g s t e f) (.inr "base") v = sdL o c v g s t e f := putT_zip kd _ 2 kd_nd rfl rfl
theorem st_given : putT (sdL o c b g s t e f) (.inr "given") v = sdL o c b v s t e f := putT_zip kd _ 3 kd_nd rfl rfl
theorem st_got : putT (sdL o c b g s t e f) (.inr "got") v = sdL o c b g s v e f := putT_zip kd _ 5 kd_nd rfl rfl
theorem st_ended : putT (sdL o c b g s t e f) (.inr "ended") v = sdL o c b g s t v f := putT_zip kd _ 6 kd_nd rfl rfl
theorem st_end : putT (sdL o c b g s t e f) (.inr "end") v = sdL o c b g s t e v := putT_zip kd _ 7 kd_nd rfl rfl
end
/-- the law's own end: its dict, its list of what is written, its dict of what has come -/
structure SdAt (S : Sta) (a lo ls : Addr) (m : SM) : Prop where
  ob : S a = some (.dct (sdL (.ref lo) (.int m.closed) (.int m.base) (.int m.given) (.ref ls) (.int m.got) (.int m.ended) (finT m.fin)))
  ot : S lo = some (.lst (m.out.map T.int))
  sn : ∃ ks : Bs, S ls = some (.dct (ks.map entI)) ∧ (ks.map (·.1)).Nodup ∧ ∀ k v, m.seen k = some v ↔ (k, v) ∈ ks
def SdA (S : Sta) (a : Addr) (F : List Addr) (m : SM) : Prop := ∃ lo ls, F = [a, lo, ls] ∧ a ≠ lo ∧ a ≠ ls ∧ lo ≠ ls ∧ SdAt S a lo ls m
theorem SdA.keep {S S' : Sta} {a : Addr} {F : List Addr} {m : SM} (h : SdA S a F m) (k : ∀ x o, S x = some o → x ∈ F → S' x = some o) : SdA S' a F m := by
  obtain ⟨lp, la, rfl, n1, n2, n3, ⟨e1, e2, ks, e3, p⟩⟩ := h
  exact ⟨lp, la, rfl, n1, n2, n3, ⟨k _ _ e1 (by simp), k _ _ e2 (by simp), ks, k _ _ e3 (by simp), p⟩⟩
theorem SdA.gr {S S' : Sta} {a : Addr} {F : List Addr} {m : SM} (h : SdA S a F m) (g : Gr S S') : SdA S' a F m := h.keep fun x o e _ => g x o e
theorem SdA.here {S : Sta} {a : Addr} {F : List Addr} {m : SM} (h : SdA S a F m) : ∀ x ∈ F, ∃ o, S x = some o := by
  obtain ⟨lp, la, rfl, n1, n2, n3, ⟨e1, e2, ks, e3, p⟩⟩ := h
  intro x hx
  simp only [List.mem_cons, List.not_mem_nil, or_false] at hx
  rcases hx with rfl | rfl | rfl
  · exact ⟨_, e1⟩
  · exact ⟨_, e2⟩
  · exact ⟨_, e3⟩
end My

set_option Elab.async false
set_option linter.all false
set_option maxRecDepth 100000
set_option maxHeartbeats 4000000
/-! a dict of numbers by numbers, written at a place that may be there -/
namespace My
open PySem PySem.Spec PyProof.Rows L2 Wp
theorem putS_snoc : ∀ (d : List Int) (f : Sn) (o b : Int), putS f o (d ++ [b]) = fun k => if k = o + d.length then some b else putS f o d k
  | [], f, o, b => by
    funext k
    show (if k = o then some b else f k) = if k = o + ((0 : Nat) : Int) then some b else f k
    rw [show o + ((0 : Nat) : Int) = o by omega]
  | c :: d, f, o, b => by
    show putS _ (o + 1) (d ++ [b]) = _
    rw [putS_snoc d _ (o + 1) b]
    funext k
    rw [List.length_cons, show o + 1 + (d.length : Int) = o + ((d.length + 1 : Nat) : Int) by omega]
    rfl
def putB (ks : Bs) (k v : Int) : Bs := if (ks.any fun e => decide (e.1 = k)) = true then ks.map (fun e => if e.1 = k then (e.1, v) else e) else ks ++ [(k, v)]
theorem putB_ent (ks : Bs) (k v : Int) : putT (ks.map entI) (.inl k) (.int v) = (putB ks k v).map entI := by
  have a : ((ks.map entI).any fun kv => decide (kv.1 = Sum.inl k)) = ks.any fun e => decide (e.1 = k) := by
    rw [List.any_map]
    congr 1
    funext e
    show decide ((Sum.inl e.1 : Key) = Sum.inl k) = _
    exact decide_eq_decide.mpr ⟨fun z => Sum.inl.inj z, fun z => congrArg _ z⟩
  unfold putT putB
  rw [a]
  split
  · rw [List.map_map, List.map_map]
    refine List.map_congr_left fun e _ => ?_
    show (if (Sum.inl e.1 : Key) = Sum.inl k then _ else _) = entI (if e.1 = k then (e.1, v) else e)
    by_cases q : e.1 = k
    · rw [if_pos (congrArg _ q), if_pos q]; rfl
    · rw [if_neg fun z => q (Sum.inl.inj z), if_neg q]
  · rw [List.map_append]
    rfl
theorem putB_keys {ks : Bs} {k v : Int} (nd : (ks.map (·.1)).Nodup) : ((putB ks k v).map (·.1)).Nodup := by
  unfold putB
  split
  · rw [List.map_map, show ((·.1) ∘ fun e : Int × Int => if e.1 = k then (e.1, v) else e) = (·.1) from funext fun e => by
      show (if e.1 = k then (e.1, v) else e).1 = e.1
      split <;> rfl]
    exact nd
  · rename_i h
    rw [List.map_append, List.nodup_append]
    refine ⟨nd, List.nodup_cons.mpr ⟨by simp, List.nodup_nil⟩, fun a ha b hb z => h ?_⟩
    rw [List.map_singleton, List.mem_singleton] at hb
    obtain ⟨e, he, rfl⟩ := List.mem_map.mp ha
    exact List.any_eq_true.mpr ⟨e, he, decide_eq_true (z.trans hb)⟩
theorem putB_mem {ks : Bs} {k v j w : Int} : (j, w) ∈ putB ks k v ↔ if j = k then w = v else (j, w) ∈ ks := by
  unfold putB
  split
  · rename_i h
    obtain ⟨x, hx, qx⟩ := List.any_eq_true.mp h
    have qx : x.1 = k := of_decide_eq_true qx
    rw [List.mem_map]
    constructor
    · rintro ⟨e, he, q⟩
      by_cases z : e.1 = k
      · rw [if_pos z] at q
        have q1 : e.1 = j := congrArg Prod.fst q
        have q2 : v = w := congrArg Prod.snd q
        rw [if_pos (by omega)]
        exact q2.symm
      · rw [if_neg z] at q
        rw [q] at he z
        rw [if_neg z]
        exact he
    · by_cases z : j = k
      · rw [if_pos z]
        rintro rfl
        exact ⟨x, hx, by rw [if_pos qx, qx, z]⟩
      · rw [if_neg z]
        intro he
        exact ⟨(j, w), he, if_neg z⟩
  · rename_i h
    have no : ∀ e ∈ ks, e.1 ≠ k := fun e he z => h (List.any_eq_true.mpr ⟨e, he, decide_eq_true z⟩)
    rw [List.mem_append, List.mem_singleton]
    by_cases z : j = k
    · rw [if_pos z]
      constructor
      · rintro (q | q)
        · exact absurd z (no _ q)
        · exact congrArg Prod.snd q
      · rintro rfl
        exact .inr (by rw [z])
    · rw [if_neg z]
      constructor
      · rintro (q | q)
        · exact q
        · exact absurd (congrArg Prod.fst q) z
      · exact .inl
/-- the dict for what has come -/
def DicS (S : Sta) (p : Addr) (f : Sn) : Prop := ∃ ks : Bs, S p = some (.dct (ks.map entI)) ∧ (ks.map (·.1)).Nodup ∧ ∀ k v, f k = some v ↔ (k, v) ∈ ks
theorem dic_put {ks : Bs} {f : Sn} {k v : Int} (sn : ∀ k v, f k = some v ↔ (k, v) ∈ ks) : ∀ j w, (fun j => if j = k then some v else f j) j = some w ↔ (j, w) ∈ putB ks k v := fun j w => by
  rw [putB_mem]
  show (if j = k then some v else f j) = some w ↔ _
  by_cases z : j = k
  · rw [if_pos z, if_pos z]
    exact ⟨fun q => (Option.some.inj q).symm, fun q => by rw [q]⟩
  · rw [if_neg z, if_neg z]
    exact sn j w
theorem few_keys {ks : Bs} (nd : (ks.map (·.1)).Nodup) (b : ∀ e ∈ ks, 0 ≤ e.1 ∧ e.1 < 4000) : ks.length ≤ 4000 := by
  have p : (ks.mergeSort fun a b => decide (a.1 ≤ b.1)).Perm ks := List.mergeSort_perm ks _
  have s : (ks.mergeSort fun a b => decide (a.1 ≤ b.1)).Pairwise fun a b => decide (a.1 ≤ b.1) = true := List.pairwise_mergeSort (fun a b c h1 h2 => by simp only [decide_eq_true_eq] at h1 h2 ⊢; omega) (fun a b => by simp only [Bool.or_eq_true, decide_eq_true_eq]; omega) ks
  have n := (p.map (·.1)).nodup_iff.mpr nd
  rw [List.Nodup, List.pairwise_map] at n
  have z := srtd_len (lo := 0) (hi := 4000) (l := ks.mergeSort fun a b => decide (a.1 ≤ b.1)) ((s.and n).imp fun ⟨h1, h2⟩ => by simp only [decide_eq_true_eq] at h1; omega) fun e he => b e (p.mem_iff.mp he)
  rw [p.length_eq] at z
  omega
theorem runS_len : ∀ (n : Nat) (f : Sn) (t : Int), (runS f n t).length ≤ n
  | 0, _, _ => Nat.le_refl _
  | n + 1, f, t => by
    unfold runS
    cases f t with
    | none => exact Nat.zero_le _
    | some v =>
      show (v :: runS f n (t + 1)).length ≤ n + 1
      rw [List.length_cons]
      have := runS_len n f (t + 1)
      omega
theorem runS_step : ∀ (i : Nat) (f : Sn) (t : Int), runS f (i + 1) t = runS f i t ++ (match f (t + (runS f i t).length) with | none => [] | some v => [v])
  | 0, f, t => by
    show runS f (0 + 1) t = [] ++ (match f (t + ((0 : Nat) : Int)) with | none => [] | some v => [v])
    rw [show t + ((0 : Nat) : Int) = t by omega]
    unfold runS
    cases f t <;> rfl
  | i + 1, f, t => by
    cases e : f t with
    | none =>
      have r : ∀ n, runS f (n + 1) t = [] := fun n => by unfold runS; rw [e]
      rw [r (i + 1), r i]
      show [] = [] ++ (match f (t + ((0 : Nat) : Int)) with | none => [] | some v => [v])
      rw [show t + ((0 : Nat) : Int) = t by omega, e]
      rfl
    | some v =>
      have r : ∀ n, runS f (n + 1) t = v :: runS f n (t + 1) := fun n => by rw [runS, e]
      rw [r (i + 1), r i, runS_step i f (t + 1), List.length_cons, List.cons_append, show t + (((runS f i (t + 1)).length + 1 : Nat) : Int) = t + 1 + ((runS f i (t + 1)).length : Int) by omega]
theorem dic_val {ks : Bs} {f : Sn} (nd : (ks.map (·.1)).Nodup) (sn : ∀ k v, f k = some v ↔ (k, v) ∈ ks) (k : Int) : valT (ks.map entI) (.inl k) = (f k).map T.int := by
  cases e : f k with
  | some v => exact ent_val nd ((sn k v).mp e)
  | none =>
    refine ent_not fun x hx z => ?_
    have : f k = some x.2 := (sn k x.2).mpr (by rw [← z]; exact hx)
    rw [e] at this; cases this
end My

set_option Elab.async false
set_option linter.all false
set_option maxRecDepth 100000
set_option maxHeartbeats 4000000
/-! a dict by numbers, told by what it has at each -/
namespace My
open PySem PySem.Spec PyProof.Rows L2 Wp
/-- two rows in ascending order with the same numbers -/
theorem asc_eq : ∀ {xs ys : List Int}, xs.Pairwise (· < ·) → ys.Pairwise (· < ·) → (∀ k, k ∈ xs ↔ k ∈ ys) → xs = ys := fun {xs ys} hx hy h => by
  have nx : xs.Nodup := hx.imp fun q e => by omega
  have ny : ys.Nodup := hy.imp fun q e => by omega
  have p : xs.Perm ys := (List.perm_ext_iff_of_nodup nx ny).mpr h
  exact p.eq_of_pairwise (fun a b _ _ h1 h2 => absurd (Int.lt_trans h1 h2) (Int.lt_irrefl _)) hx hy
theorem asc_of {xs zs : List Int} (p : xs.Perm zs) (h : xs.Pairwise (· ≤ ·)) (n : zs.Nodup) : xs.Pairwise (· < ·) := by
  have n2 : xs.Nodup := p.nodup_iff.mpr n
  exact (h.and n2).imp fun ⟨a, b⟩ => by omega
structure DG (kvs : List (Key × T)) (g : Int → Option T) (zs : List Int) : Prop where
  v : ∀ k : Int, valT kvs (.inl k) = g k
  z : kvs.map (·.1) = zs.map Sum.inl
  n : zs.Nodup
theorem DG.mem {kvs : List (Key × T)} {g : Int → Option T} {zs : List Int} (h : DG kvs g zs) (k : Int) : k ∈ zs ↔ (g k).isSome = true := by
  rw [← h.v k, valT_mem, h.z, List.mem_map]
  constructor
  · intro z; exact ⟨k, z, rfl⟩
  · rintro ⟨j, hj, e⟩; exact (Sum.inl.inj e) ▸ hj
theorem DG.put {kvs : List (Key × T)} {g : Int → Option T} {zs : List Int} (h : DG kvs g zs) (k : Int) (y : T) : ∃ zs', DG (putT kvs (.inl k) y) (fun j => if j = k then some y else g j) zs' ∧ (putT kvs (.inl k) y).length ≤ kvs.length + 1 := by
  have e := keys_putT kvs (.inl k : Key) y
  have ln : (putT kvs (.inl k : Key) y).length = ((putT kvs (.inl k : Key) y).map (·.1)).length := (List.length_map ..).symm
  have vv : ∀ j : Int, valT (putT kvs (.inl k) y) (.inl j) = if j = k then some y else g j := fun j => by
    rw [valT_put, h.v]
    by_cases q : j = k
    · rw [if_pos q, if_pos (congrArg _ q)]
    · rw [if_neg q, if_neg fun z => q (Sum.inl.inj z)]
  by_cases q : (valT kvs (.inl k : Key)).isSome = true
  · rw [if_pos q] at e
    exact ⟨zs, ⟨vv, e.trans h.z, h.n⟩, by rw [ln, e, List.length_map]; omega⟩
  · rw [if_neg q] at e
    refine ⟨zs ++ [k], ⟨vv, by rw [e, h.z, List.map_append]; rfl, ?_⟩, by rw [ln, e, List.length_append, List.length_map]; simp⟩
    rw [List.nodup_append]
    refine ⟨h.n, List.nodup_cons.mpr ⟨by simp, List.nodup_nil⟩, fun a ha b hb z => q ?_⟩
    rw [List.mem_singleton] at hb
    rw [h.v, ← h.mem, ← hb, ← z]
    exact ha
theorem DG.nil : DG [] (fun _ => none) [] := ⟨fun _ => rfl, rfl, List.nodup_nil⟩
/-- the dict at p -/
def DicG (S : Sta) (p : Addr) (g : Int → Option T) (n : Nat) : Prop := ∃ kvs zs, S p = some (.dct kvs) ∧ DG kvs g zs ∧ kvs.length ≤ n
theorem DicG.mono {S : Sta} {p : Addr} {g : Int → Option T} {n m : Nat} (h : DicG S p g n) (l : n ≤ m) : DicG S p g m := by
  obtain ⟨kvs, zs, e, d, k⟩ := h
  exact ⟨kvs, zs, e, d, Nat.le_trans k l⟩
theorem DicG.at_ {S S' : Sta} {p : Addr} {g : Int → Option T} {n : Nat} (h : DicG S p g n) (e : ∀ o, S p = some o → S' p = some o) : DicG S' p g n := by
  obtain ⟨kvs, zs, e1, d, k⟩ := h
  exact ⟨kvs, zs, e _ e1, d, k⟩
theorem DicS.at_ {S S' : Sta} {p : Addr} {f : Sn} (h : DicS S p f) (e : ∀ o, S p = some o → S' p = some o) : DicS S' p f := by
  obtain ⟨ks, e1, d, k⟩ := h
  exact ⟨ks, e _ e1, d, k⟩
/-- the keys of a dict of numbers -/
theorem ent_keys (ks : Bs) : (ks.map entI).map (·.1) = (ks.map (·.1)).map Sum.inl := by rw [List.map_map, List.map_map]; rfl
theorem dic_key {ks : Bs} {f : Sn} (sn : ∀ k v, f k = some v ↔ (k, v) ∈ ks) (k : Int) : k ∈ ks.map (·.1) ↔ (f k).isSome = true := by
  rw [List.mem_map]
  constructor
  · rintro ⟨e, he, rfl⟩
    rw [(sn e.1 e.2).mpr he]; rfl
  · intro z
    obtain ⟨v, hv⟩ := Option.isSome_iff_exists.mp z
    exact ⟨(k, v), (sn k v).mp hv, rfl⟩
/-- its rows in ascending order -/
theorem dic_rows {ks zs : Bs} {f : Sn} (nd : (ks.map (·.1)).Nodup) (sn : ∀ k v, f k = some v ↔ (k, v) ∈ ks) (p : zs.Perm ks) (h : zs.Pairwise fun e f => e.1 ≤ f.1) : (zs.map (·.1)).Pairwise (· < ·) ∧ (∀ k, k ∈ zs.map (·.1) ↔ (f k).isSome = true) ∧ zs = (zs.map (·.1)).map fun k => (k, (f k).getD 0) := by
  have nz : (zs.map (·.1)).Nodup := (p.map (·.1)).nodup_iff.mpr nd
  have hp : (zs.map (·.1)).Pairwise (· ≤ ·) := by rw [List.pairwise_map]; exact h
  refine ⟨(hp.and nz).imp fun ⟨a, b⟩ => by omega, fun k => ?_, ?_⟩
  · rw [(p.map (·.1)).mem_iff]
    exact dic_key sn k
  · rw [List.map_map]
    have : ∀ e ∈ zs, ((fun k => (k, (f k).getD 0)) ∘ fun x : Int × Int => x.1) e = e := fun e he => by
      have := (sn e.1 e.2).mpr (p.mem_iff.mp he)
      show (e.1, (f e.1).getD 0) = e
      rw [this]; rfl
    exact (List.map_congr_left this).symm ▸ (List.map_id' zs).symm
theorem putFT_le (f : Str) (v : T) : ∀ (fs : List (Str × T)), (putFT f v fs).length ≤ fs.length + 1
  | [] => Nat.le_refl _
  | g :: fs => by
    unfold putFT
    split
    · simp only [List.length_cons]; omega
    · have := putFT_le f v fs
      simp only [List.length_cons]; omega
theorem putFT_lt {f : Str} {v : T} {fs : List (Str × T)} {n : Nat} (h : fs.length < n) : (putFT f v fs).length < n + 1 := Nat.lt_of_le_of_lt (putFT_le f v fs) (Nat.succ_lt_succ h)
/-- a comprehension with a test whose parts change nothing -/
theorem compW_sel {tt : WT} {te : WE} {i : Nat} {σ : Sl} {D : Addr} {Q : T → Sta → Prop} {stb : Sta → Prop} {S : Sta} (f : T → T) (c : T → Bool) (hst : ∀ acc, stb (upS S D (.lst acc))) : ∀ (xs acc : List T),
    (∀ x ∈ xs, ∀ (acc' : List T) (R : Bool → Sta → Prop), R (c x) (upS S D (.lst acc')) → tt (σ.set i (some x)) (upS S D (.lst acc')) R) →
    (∀ x ∈ xs, c x = true → ∀ (acc' : List T) (R : T → Sta → Prop), R (f x) (upS S D (.lst acc')) → te (σ.set i (some x)) (upS S D (.lst acc')) R) →
    acc.length + xs.length ≤ 1000000 → Q (.ref D) (upS S D (.lst (acc ++ (xs.filter c).map f))) → compW (gNm i) tt te stb σ D Q xs (upS S D (.lst acc))
  | [], acc, _, _, _, q => by
    rw [List.filter_nil, List.map_nil, List.append_nil] at q
    exact ⟨hst _, q⟩
  | x :: xs, acc, ht, he, hl, q => by
    rw [List.length_cons] at hl
    refine ⟨hst _, ht x List.mem_cons_self acc _ ?_⟩
    by_cases w : c x = true
    · rw [w]
      refine wif_t (he x List.mem_cons_self w acc _ ⟨acc, upS_same, ?_, ?_⟩)
      · exact Nat.lt_of_lt_of_le (show acc.length < 10000000 by omega) (by rw [sizeLine_eq]; decide)
      · rw [upS_upS]
        refine compW_sel f c hst xs (acc ++ [f x]) (fun y hy => ht y (List.mem_cons_of_mem _ hy)) (fun y hy => he y (List.mem_cons_of_mem _ hy)) ?_ ?_
        · rw [List.length_append, List.length_cons, List.length_nil]; omega
        · rw [List.filter_cons, if_pos w, List.map_cons] at q
          rw [List.append_assoc]
          exact q
    · rw [Bool.not_eq_true] at w
      rw [w]
      refine wif_f (compW_sel f c hst xs acc (fun y hy => ht y (List.mem_cons_of_mem _ hy)) (fun y hy => he y (List.mem_cons_of_mem _ hy)) (by omega) ?_)
      rw [List.filter_cons, if_neg (by rw [w]; decide)] at q
      exact q
/-- a comprehension that leaves some out, no matter which -/
theorem compW_any {tt : WT} {te : WE} {i : Nat} {σ : Sl} {D : Addr} {Q : T → Sta → Prop} {stb : Sta → Prop} {S : Sta} (full : Prop) (hst : ∀ acc, stb (upS S D (.lst acc))) : ∀ (xs acc : List T),
    (∀ x ∈ xs, ∀ (acc' : List T) (R : Bool → Sta → Prop), (∀ b, (full → b = true) → R b (upS S D (.lst acc'))) → tt (σ.set i (some x)) (upS S D (.lst acc')) R) →
    (∀ x ∈ xs, ∀ (acc' : List T) (R : T → Sta → Prop), R x (upS S D (.lst acc')) → te (σ.set i (some x)) (upS S D (.lst acc')) R) →
    acc.length + xs.length ≤ 1000000 → (∀ l : List T, (∀ y ∈ l, y ∈ xs) → l.length ≤ xs.length → (full → l.length = xs.length) → Q (.ref D) (upS S D (.lst (acc ++ l)))) → compW (gNm i) tt te stb σ D Q xs (upS S D (.lst acc))
  | [], acc, _, _, _, q => by
    have := q [] (fun y hy => hy) (Nat.le_refl _) (fun _ => rfl)
    rw [List.append_nil] at this
    exact ⟨hst _, this⟩
  | x :: xs, acc, ht, he, hl, q => by
    rw [List.length_cons] at hl
    refine ⟨hst _, ht x List.mem_cons_self acc _ fun b hb => ?_⟩
    cases b
    · refine wif_f (compW_any full hst xs acc (fun y hy => ht y (List.mem_cons_of_mem _ hy)) (fun y hy => he y (List.mem_cons_of_mem _ hy)) (by omega) fun l hm hn hf => q l (fun y hy => List.mem_cons_of_mem _ (hm y hy)) (by rw [List.length_cons]; omega) fun z => (by cases hb z))
    · refine wif_t (he x List.mem_cons_self acc _ ⟨acc, upS_same, ?_, ?_⟩)
      · exact Nat.lt_of_lt_of_le (show acc.length < 10000000 by omega) (by rw [sizeLine_eq]; decide)
      · rw [upS_upS]
        refine compW_any full hst xs (acc ++ [x]) (fun y hy => ht y (List.mem_cons_of_mem _ hy)) (fun y hy => he y (List.mem_cons_of_mem _ hy)) ?_ fun l hm hn hf => ?_
        · rw [List.length_append, List.length_cons, List.length_nil]; omega
        · have := q (x :: l) (fun y hy => ?_) (by rw [List.length_cons, List.length_cons]; omega) (fun z => by rw [List.length_cons, List.length_cons, hf z])
          · rw [List.append_assoc]; exact this
          · rcases List.mem_cons.mp hy with rfl | z
            · exact List.mem_cons_self ..
            · exact List.mem_cons_of_mem _ (hm y z)
end My

set_option Elab.async false
set_option linter.all false
set_option maxRecDepth 100000
namespace Gn
open PySem PySem.Spec PyProof.Rows L2 Wp
def topS (i : Nat) : Stmt := PySem.Challenge.pw_heldflows_k08_whole_bytes_that_are_taken.main.body.getD i (.Pass ⟨0, 0, 0, 0⟩)
abbrev st_Reader_init : Stmt := inClass (topS 21) 0
abbrev N_Reader_init : List Str := ["self", "row"]
theorem sc_Reader_init : FnScope N_Reader_init ["self", "row"] (defScope st_Reader_init) := ⟨rfl, rfl, rfl, by decide +kernel, rfl, by decide +kernel, by decide +kernel⟩
abbrev st_Reader_is_done : Stmt := inClass (topS 21) 1
abbrev N_Reader_is_done : List Str := ["self"]
theorem sc_Reader_is_done : FnScope N_Reader_is_done ["self"] (defScope st_Reader_is_done) := ⟨rfl, rfl, rfl, by decide +kernel, rfl, by decide +kernel, by decide +kernel⟩
abbrev st_Reader_value : Stmt := inClass (topS 21) 2
abbrev N_Reader_value : List Str := ["self", "levels", "kind"]
theorem sc_Reader_value : FnScope N_Reader_value ["self", "levels"] (defScope st_Reader_value) := ⟨rfl, rfl, rfl, by decide +kernel, rfl, by decide +kernel, by decide +kernel⟩
abbrev st_Reader_inner : Stmt := inClass (topS 21) 3
abbrev N_Reader_inner : List Str := ["self", "levels", "many", "found"]
theorem sc_Reader_inner : FnScope N_Reader_inner ["self", "levels"] (defScope st_Reader_inner) := ⟨rfl, rfl, rfl, by decide +kernel, rfl, by decide +kernel, by decide +kernel⟩
abbrev st_Reader_word : Stmt := inClass (topS 21) 4
abbrev N_Reader_word : List Str := ["self", "many", "code"]
theorem sc_Reader_word : FnScope N_Reader_word ["self"] (defScope st_Reader_word) := ⟨rfl, rfl, rfl, by decide +kernel, rfl, by decide +kernel, by decide +kernel⟩
abbrev st_Reader_number : Stmt := inClass (topS 21) 5
abbrev N_Reader_number : List Str := ["self", "digits", "number", "digit"]
theorem sc_Reader_number : FnScope N_Reader_number ["self"] (defScope st_Reader_number) := ⟨rfl, rfl, rfl, by decide +kernel, rfl, by decide +kernel, by decide +kernel⟩
abbrev st_Reader_byte : Stmt := inClass (topS 21) 6
abbrev N_Reader_byte : List Str := ["self"]
theorem sc_Reader_byte : FnScope N_Reader_byte ["self"] (defScope st_Reader_byte) := ⟨rfl, rfl, rfl, by decide +kernel, rfl, by decide +kernel, by decide +kernel⟩
abbrev st_Reader_part : Stmt := inClass (topS 21) 7
abbrev N_Reader_part : List Str := ["self", "many", "part"]
theorem sc_Reader_part : FnScope N_Reader_part ["self", "many"] (defScope st_Reader_part) := ⟨rfl, rfl, rfl, by decide +kernel, rfl, by decide +kernel, by decide +kernel⟩
abbrev st_is_integer : Stmt := topS 8
abbrev N_is_integer : List Str := ["value", "least", "greatest"]
theorem sc_is_integer : FnScope N_is_integer ["value", "least", "greatest"] (defScope st_is_integer) := ⟨rfl, rfl, rfl, by decide +kernel, rfl, by decide +kernel, by decide +kernel⟩
abbrev st_is_bytes : Stmt := topS 9
abbrev N_is_bytes : List Str := ["value", "item"]
theorem sc_is_bytes : FnScope N_is_bytes ["value"] (defScope st_is_bytes) := ⟨rfl, rfl, rfl, by decide +kernel, rfl, by decide +kernel, by decide +kernel⟩
abbrev st_can_be_written : Stmt := topS 18
abbrev N_can_be_written : List Str := ["value"]
theorem sc_can_be_written : FnScope N_can_be_written ["value"] (defScope st_can_be_written) := ⟨rfl, rfl, rfl, by decide +kernel, rfl, by decide +kernel, by decide +kernel⟩
abbrev st_write : Stmt := topS 19
abbrev N_write : List Str := ["value", "row"]
theorem sc_write : FnScope N_write ["value"] (defScope st_write) := ⟨rfl, rfl, rfl, by decide +kernel, rfl, by decide +kernel, by decide +kernel⟩
abbrev st_read : Stmt := topS 20
abbrev N_read : List Str := ["row", "front", "reader", "value"]
theorem sc_read : FnScope N_read ["row"] (defScope st_read) := ⟨rfl, rfl, rfl, by decide +kernel, rfl, by decide +kernel, by decide +kernel⟩
abbrev st__can_stand : Stmt := topS 22
abbrev N__can_stand : List Str := ["value", "levels", "item"]
theorem sc__can_stand : FnScope N__can_stand ["value", "levels"] (defScope st__can_stand) := ⟨rfl, rfl, rfl, by decide +kernel, rfl, by decide +kernel, by decide +kernel⟩
abbrev st__is_word : Stmt := topS 23
abbrev N__is_word : List Str := ["value", "letter"]
theorem sc__is_word : FnScope N__is_word ["value"] (defScope st__is_word) := ⟨rfl, rfl, rfl, by decide +kernel, rfl, by decide +kernel, by decide +kernel⟩
abbrev st__letter_of : Stmt := topS 24
abbrev N__letter_of : List Str := ["code", "at"]
theorem sc__letter_of : FnScope N__letter_of ["code"] (defScope st__letter_of) := ⟨rfl, rfl, rfl, by decide +kernel, rfl, by decide +kernel, by decide +kernel⟩
abbrev st__put : Stmt := topS 25
abbrev N__put : List Str := ["row", "value", "levels", "letter", "item"]
theorem sc__put : FnScope N__put ["row", "value", "levels"] (defScope st__put) := ⟨rfl, rfl, rfl, by decide +kernel, rfl, by decide +kernel, by decide +kernel⟩
abbrev st__put_number : Stmt := topS 26
abbrev N__put_number : List Str := ["row", "number", "digits"]
theorem sc__put_number : FnScope N__put_number ["row", "number"] (defScope st__put_number) := ⟨rfl, rfl, rfl, by decide +kernel, rfl, by decide +kernel, by decide +kernel⟩
abbrev st__digits_of : Stmt := topS 27
abbrev N__digits_of : List Str := ["number", "digits", "rest"]
theorem sc__digits_of : FnScope N__digits_of ["number"] (defScope st__digits_of) := ⟨rfl, rfl, rfl, by decide +kernel, rfl, by decide +kernel, by decide +kernel⟩
abbrev st__sum_of : Stmt := topS 28
abbrev N__sum_of : List Str := ["row", "total", "place", "byte"]
theorem sc__sum_of : FnScope N__sum_of ["row"] (defScope st__sum_of) := ⟨rfl, rfl, rfl, by decide +kernel, rfl, by decide +kernel, by decide +kernel⟩
abbrev st__law_bag : Stmt := topS 30
abbrev N__law_bag : List Str := ["script", "k", "cell"]
theorem sc__law_bag : FnScope N__law_bag ["script", "k"] (defScope st__law_bag) := ⟨rfl, rfl, rfl, by decide +kernel, rfl, by decide +kernel, by decide +kernel⟩
abbrev st__law_draw : Stmt := topS 31
abbrev N__law_draw : List Str := ["bag", "many", "seed", "rest"]
theorem sc__law_draw : FnScope N__law_draw ["bag", "many"] (defScope st__law_draw) := ⟨rfl, rfl, rfl, by decide +kernel, rfl, by decide +kernel, by decide +kernel⟩
abbrev st__law_word : Stmt := topS 32
abbrev N__law_word : List Str := ["bag", "letters", "k"]
theorem sc__law_word : FnScope N__law_word ["bag"] (defScope st__law_word) := ⟨rfl, rfl, rfl, by decide +kernel, rfl, by decide +kernel, by decide +kernel⟩
abbrev st__law_number : Stmt := topS 33
abbrev N__law_number : List Str := ["bag", "edges"]
theorem sc__law_number : FnScope N__law_number ["bag"] (defScope st__law_number) := ⟨rfl, rfl, rfl, by decide +kernel, rfl, by decide +kernel, by decide +kernel⟩
abbrev st__law_value : Stmt := topS 34
abbrev N__law_value : List Str := ["bag", "fuel", "deep", "pick", "k"]
theorem sc__law_value : FnScope N__law_value ["bag", "fuel", "deep"] (defScope st__law_value) := ⟨rfl, rfl, rfl, by decide +kernel, rfl, by decide +kernel, by decide +kernel⟩
abbrev st__law_summed : Stmt := topS 35
abbrev N__law_summed : List Str := ["row", "total", "above", "k", "rest"]
theorem sc__law_summed : FnScope N__law_summed ["row"] (defScope st__law_summed) := ⟨rfl, rfl, rfl, by decide +kernel, rfl, by decide +kernel, by decide +kernel⟩
abbrev st__law_told : Stmt := topS 36
abbrev N__law_told : List Str := ["row"]
theorem sc__law_told : FnScope N__law_told ["row"] (defScope st__law_told) := ⟨rfl, rfl, rfl, by decide +kernel, rfl, by decide +kernel, by decide +kernel⟩
abbrev st__law_turned : Stmt := topS 37
abbrev N__law_turned : List Str := ["bag", "row", "k", "at", "byte"]
theorem sc__law_turned : FnScope N__law_turned ["bag", "row"] (defScope st__law_turned) := ⟨rfl, rfl, rfl, by decide +kernel, rfl, by decide +kernel, by decide +kernel⟩
abbrev st__law_right : Stmt := topS 38
abbrev N__law_right : List Str := ["row", "found"]
theorem sc__law_right : FnScope N__law_right ["row"] (defScope st__law_right) := ⟨rfl, rfl, rfl, by decide +kernel, rfl, by decide +kernel, by decide +kernel⟩
abbrev st_law : Stmt := topS 39
abbrev N_law : List Str := ["script", "k", "bag", "row", "turn", "many", "deep"]
theorem sc_law : FnScope N_law ["script"] (defScope st_law) := ⟨rfl, rfl, rfl, by decide +kernel, rfl, by decide +kernel, by decide +kernel⟩
def F_Reader (v0 v1 : T) : List (Str × T) := [("row", v0), ("place", v1)]
theorem q_Reader_row_place : (("row" : Str) == ("place" : Str)) = false := by decide +kernel
theorem q_Reader_place_row : (("place" : Str) == ("row" : Str)) = false := by decide +kernel
theorem q_Reader_byte_row : (("byte" : Str) == ("row" : Str)) = false := by decide +kernel
theorem q_Reader_byte_place : (("byte" : Str) == ("place" : Str)) = false := by decide +kernel
theorem q_Reader_inner_row : (("inner" : Str) == ("row" : Str)) = false := by decide +kernel
theorem q_Reader_inner_place : (("inner" : Str) == ("place" : Str)) = false := by decide +kernel
theorem q_Reader_is_done_row : (("is_done" : Str) == ("row" : Str)) = false := by decide +kernel
theorem q_Reader_is_done_place : (("is_done" : Str) == ("place" : Str)) = false := by decide +kernel
theorem q_Reader_number_row : (("number" : Str) == ("row" : Str)) = false := by decide +kernel
theorem q_Reader_number_place : (("number" : Str) == ("place" : Str)) = false := by decide +kernel
theorem q_Reader_part_row : (("part" : Str) == ("row" : Str)) = false := by decide +kernel
theorem q_Reader_part_place : (("part" : Str) == ("place" : Str)) = false := by decide +kernel
theorem q_Reader_value_row : (("value" : Str) == ("row" : Str)) = false := by decide +kernel
theorem q_Reader_value_place : (("value" : Str) == ("place" : Str)) = false := by decide +kernel
theorem q_Reader_word_row : (("word" : Str) == ("row" : Str)) = false := by decide +kernel
theorem q_Reader_word_place : (("word" : Str) == ("place" : Str)) = false := by decide +kernel
theorem e_Reader_row_place : (("row" : Str) = ("place" : Str)) = False := eq_false (by decide +kernel)
theorem e_Reader_place_row : (("place" : Str) = ("row" : Str)) = False := eq_false (by decide +kernel)
theorem lk_Reader_row {v0 v1 : T} : (F_Reader v0 v1).lookup ("row" : Str) = some v0 := by simp only [F_Reader, List.lookup, beq_self_eq_true, q_Reader_row_place]
theorem pt_Reader_row {v0 v1 y : T} : putFT "row" y (F_Reader v0 v1) = F_Reader y v1 := by simp only [F_Reader, putFT, if_true, if_false, e_Reader_place_row]
theorem lk_Reader_place {v0 v1 : T} : (F_Reader v0 v1).lookup ("place" : Str) = some v1 := by simp only [F_Reader, List.lookup, beq_self_eq_true, q_Reader_place_row]
theorem pt_Reader_place {v0 v1 y : T} : putFT "place" y (F_Reader v0 v1) = F_Reader v0 y := by simp only [F_Reader, putFT, if_true, if_false, e_Reader_row_place]
theorem no_Reader_byte {v0 v1 : T} : (F_Reader v0 v1).lookup ("byte" : Str) = none := by simp only [F_Reader, List.lookup, q_Reader_byte_row, q_Reader_byte_place]
theorem no_Reader_inner {v0 v1 : T} : (F_Reader v0 v1).lookup ("inner" : Str) = none := by simp only [F_Reader, List.lookup, q_Reader_inner_row, q_Reader_inner_place]
theorem no_Reader_is_done {v0 v1 : T} : (F_Reader v0 v1).lookup ("is_done" : Str) = none := by simp only [F_Reader, List.lookup, q_Reader_is_done_row, q_Reader_is_done_place]
theorem no_Reader_number {v0 v1 : T} : (F_Reader v0 v1).lookup ("number" : Str) = none := by simp only [F_Reader, List.lookup, q_Reader_number_row, q_Reader_number_place]
theorem no_Reader_part {v0 v1 : T} : (F_Reader v0 v1).lookup ("part" : Str) = none := by simp only [F_Reader, List.lookup, q_Reader_part_row, q_Reader_part_place]
theorem no_Reader_value {v0 v1 : T} : (F_Reader v0 v1).lookup ("value" : Str) = none := by simp only [F_Reader, List.lookup, q_Reader_value_row, q_Reader_value_place]
theorem no_Reader_word {v0 v1 : T} : (F_Reader v0 v1).lookup ("word" : Str) = none := by simp only [F_Reader, List.lookup, q_Reader_word_row, q_Reader_word_place]
theorem ln_Reader {v0 v1 : T} : (F_Reader v0 v1).length = 2 := rfl
theorem mk_Reader {v0 v1 : T} : (putFT "place" v1 (putFT "row" v0 [])) = F_Reader v0 v1 := by simp only [F_Reader, putFT, if_true, if_false, e_Reader_row_place, e_Reader_place_row]
/-- what the top has left -/
structure Facts (K : PySem.W.Frag) (mg : Str → Option Value) (C_Reader : Addr) (C_BadBytes : Addr) : Prop where
  d_Reader_init : DefI K mg C_Reader "Reader" "Reader.__init__" st_Reader_init ["self", "row"]
  d_Reader_is_done : DefM K C_Reader "is_done" "Reader.is_done" st_Reader_is_done ["self"]
  d_Reader_value : DefM K C_Reader "value" "Reader.value" st_Reader_value ["self", "levels"]
  d_Reader_inner : DefM K C_Reader "inner" "Reader.inner" st_Reader_inner ["self", "levels"]
  d_Reader_word : DefM K C_Reader "word" "Reader.word" st_Reader_word ["self"]
  d_Reader_number : DefM K C_Reader "number" "Reader.number" st_Reader_number ["self"]
  d_Reader_byte : DefM K C_Reader "byte" "Reader.byte" st_Reader_byte ["self"]
  d_Reader_part : DefM K C_Reader "part" "Reader.part" st_Reader_part ["self", "many"]
  d_is_integer : DefT K mg "is_integer" st_is_integer ["value", "least", "greatest"]
  d_is_bytes : DefG K mg "is_bytes" st_is_bytes ["value"]
  d_can_be_written : DefT K mg "can_be_written" st_can_be_written ["value"]
  d_write : DefT K mg "write" st_write ["value"]
  d_read : DefT K mg "read" st_read ["row"]
  d__can_stand : DefG K mg "_can_stand" st__can_stand ["value", "levels"]
  d__is_word : DefG K mg "_is_word" st__is_word ["value"]
  d__letter_of : DefT K mg "_letter_of" st__letter_of ["code"]
  d__put : DefT K mg "_put" st__put ["row", "value", "levels"]
  d__put_number : DefT K mg "_put_number" st__put_number ["row", "number"]
  d__digits_of : DefT K mg "_digits_of" st__digits_of ["number"]
  d__sum_of : DefT K mg "_sum_of" st__sum_of ["row"]
  d__law_bag : DefT K mg "_law_bag" st__law_bag ["script", "k"]
  d__law_draw : DefT K mg "_law_draw" st__law_draw ["bag", "many"]
  d__law_word : DefT K mg "_law_word" st__law_word ["bag"]
  d__law_number : DefT K mg "_law_number" st__law_number ["bag"]
  d__law_value : DefT K mg "_law_value" st__law_value ["bag", "fuel", "deep"]
  d__law_summed : DefT K mg "_law_summed" st__law_summed ["row"]
  d__law_told : DefT K mg "_law_told" st__law_told ["row"]
  d__law_turned : DefT K mg "_law_turned" st__law_turned ["bag", "row"]
  d__law_right : DefT K mg "_law_right" st__law_right ["row"]
  d_law : DefT K mg "law" st_law ["script"]
  k_Reader : Cls K C_Reader
  x_BadBytes : ErrC K mg "BadBytes" C_BadBytes
  n_Reader_place : NoAttr K C_Reader "place"
  n_Reader_row : NoAttr K C_Reader "row"
  c_INTEGER : ∃ t, mg "INTEGER" = some (.int 1 t)
  c_LETTERS : ∃ t, mg "LETTERS" = some (.str "abcdefghijklmnopqrstuvwxyz" t)
  c_MOST_BYTES : ∃ t, mg "MOST_BYTES" = some (.int 60000 t)
  c_MOST_INTEGER : ∃ t, mg "MOST_INTEGER" = some (.int 4294967295 t)
  c_MOST_NESTED : ∃ t, mg "MOST_NESTED" = some (.int 16 t)
  c_MOST_WORD : ∃ t, mg "MOST_WORD" = some (.int 12 t)
  c_NONE : ∃ t, mg "NONE" = some (.int 0 t)
  c_SUM_BYTES : ∃ t, mg "SUM_BYTES" = some (.int 2 t)
  c_SUM_DIVISOR : ∃ t, mg "SUM_DIVISOR" = some (.int 65521 t)
  c_TUPLE : ∃ t, mg "TUPLE" = some (.int 3 t)
  c_WORD : ∃ t, mg "WORD" = some (.int 2 t)
  z_all : mg "all" = none
  z_bool : mg "bool" = none
  z_divmod : mg "divmod" = none
  z_enumerate : mg "enumerate" = none
  z_int : mg "int" = none
  z_isinstance : mg "isinstance" = none
  z_len : mg "len" = none
  z_list : mg "list" = none
  z_max : mg "max" = none
  z_min : mg "min" = none
  z_ord : mg "ord" = none
  z_range : mg "range" = none
  z_str : mg "str" = none
  z_sum : mg "sum" = none
  z_tuple : mg "tuple" = none
def b_Reader_init (C_Reader : Addr) (C_BadBytes : Addr) : WS :=
  (wSeq (wFSet C_Reader "row" (wVar 0) (wVar 1))
    (wFSet C_Reader "place" (wVar 0) (wC (.int 0))))
def b_Reader_is_done (C_Reader : Addr) (C_BadBytes : Addr) : WS :=
  (wRet (wOp (rEq false) (wFld C_Reader "place" (wVar 0)) (wCB rLenA (wCons (wFld C_Reader "row" (wVar 0)) wNil))))
def b_Reader_value (C_Reader : Addr) (C_BadBytes : Addr) (s_Reader_byte s_Reader_number s_Reader_word s_Reader_inner : WSp) (EX : EW) : WS :=
  (wSeq (wSet 2 (wMethX EX C_Reader "byte" 1 s_Reader_byte (wVar 0) wNil))
    (wSeq (wIfS (wTest (wOp (rEq false) (wVar 2) (wC (.int 0)))) (wRet (wC .non)) wNext)
    (wSeq (wIfS (wTest (wOp (rEq false) (wVar 2) (wC (.int 1)))) (wRet (wMethX EX C_Reader "number" 1 s_Reader_number (wVar 0) wNil)) wNext)
    (wSeq (wIfS (wTest (wOp (rEq false) (wVar 2) (wC (.int 2)))) (wRet (wMethX EX C_Reader "word" 1 s_Reader_word (wVar 0) wNil)) wNext)
    (wSeq (wIfS (wAnd (wTest (wOp (rEq false) (wVar 2) (wC (.int 3)))) (wTest (wOp rGt (wVar 1) (wC (.int 0))))) (wRet (wMethX EX C_Reader "inner" 2 s_Reader_inner (wVar 0) (wCons (wOp rSub (wVar 1) (wC (.int 1))) wNil))) wNext)
    (wRaise EX C_BadBytes))))))
def l1_Reader_inner (C_Reader : Addr) (C_BadBytes : Addr) (s_Reader_number s_Reader_value : WSp) (EX : EW) : WT :=
  (wTest (wOp rLt (wCB rLenA (wCons (wVar 3) wNil)) (wVar 2)))
def l2_Reader_inner (C_Reader : Addr) (C_BadBytes : Addr) (s_Reader_number s_Reader_value : WSp) (EX : EW) : WS :=
  (wDrop (wMt rAppendT (wVar 3) (wCons (wMethX EX C_Reader "value" 2 s_Reader_value (wVar 0) (wCons (wVar 1) wNil)) wNil)))
def b_Reader_inner (C_Reader : Addr) (C_BadBytes : Addr) (s_Reader_number s_Reader_value : WSp) (EX : EW) : WS :=
  (wSeq (wSet 2 (wMethX EX C_Reader "number" 1 s_Reader_number (wVar 0) wNil))
    (wSeq (wSet 3 (wLst wNil))
    (wSeq (wWhile (l1_Reader_inner C_Reader C_BadBytes s_Reader_number s_Reader_value EX) (l2_Reader_inner C_Reader C_BadBytes s_Reader_number s_Reader_value EX))
    (wRet (wCB rTupOf (wCons (wVar 3) wNil))))))
def l1_Reader_word (C_Reader : Addr) (C_BadBytes : Addr) (s_Reader_number s_Reader_part s__letter_of : WSp) (EX : EW) : WE :=
  (wCallX EX 1 s__letter_of (wCons (wVar 2) wNil))
def b_Reader_word (C_Reader : Addr) (C_BadBytes : Addr) (s_Reader_number s_Reader_part s__letter_of : WSp) (EX : EW) : WS :=
  (wSeq (wSet 1 (wMethX EX C_Reader "number" 1 s_Reader_number (wVar 0) wNil))
    (wSeq (wIfS (wNot (wTest (wChain rLe rLe (wC (.int 1)) (wVar 1) (wC (.int 12))))) (wRaise EX C_BadBytes) wNext)
    (wRet (wJoin (wC (.str "")) (wLcX EX (iAnyW (wMethX EX C_Reader "part" 2 s_Reader_part (wVar 0) (wCons (wVar 1) wNil))) (gNm 2) wYes (fun EX => (l1_Reader_word C_Reader C_BadBytes s_Reader_number s_Reader_part s__letter_of EX)) [2])))))
def l1_Reader_number (C_Reader : Addr) (C_BadBytes : Addr) (s_Reader_part s_Reader_byte : WSp) (EX : EW) : WS :=
  (wSet 2 (wOp rAdd (wOp rMul (wC (.int 256)) (wVar 2)) (wVar 3)))
def b_Reader_number (C_Reader : Addr) (C_BadBytes : Addr) (s_Reader_part s_Reader_byte : WSp) (EX : EW) : WS :=
  (wSeq (wSet 1 (wMethX EX C_Reader "part" 2 s_Reader_part (wVar 0) (wCons (wMethX EX C_Reader "byte" 1 s_Reader_byte (wVar 0) wNil) wNil)))
    (wSeq (wIfS (wTest (wOp (rEq false) (wSl (wVar 1) wNoPart (wPart (wC (.int 1)))) (wTup (wCons (wC (.int 0)) wNil)))) (wRaise EX C_BadBytes) wNext)
    (wSeq (wSet 2 (wC (.int 0)))
    (wSeq (wFor (iAnyW (wVar 1)) (gNm 3) (l1_Reader_number C_Reader C_BadBytes s_Reader_part s_Reader_byte EX))
    (wSeq (wIfS (wTest (wOp rGt (wVar 2) (wC (.int 4294967295)))) (wRaise EX C_BadBytes) wNext)
    (wRet (wVar 2)))))))
def b_Reader_byte (C_Reader : Addr) (C_BadBytes : Addr) (s_Reader_part : WSp) (EX : EW) : WS :=
  (wRet (wOp rIxA (wMethX EX C_Reader "part" 2 s_Reader_part (wVar 0) (wCons (wC (.int 1)) wNil)) (wC (.int 0))))
def b_Reader_part (C_Reader : Addr) (C_BadBytes : Addr) (EX : EW) : WS :=
  (wSeq (wSet 2 (wSl (wFld C_Reader "row" (wVar 0)) (wPart (wFld C_Reader "place" (wVar 0))) (wPart (wOp rAdd (wFld C_Reader "place" (wVar 0)) (wVar 1)))))
    (wSeq (wIfS (wTest (wOp rLt (wCB rLenA (wCons (wVar 2) wNil)) (wVar 1))) (wRaise EX C_BadBytes) wNext)
    (wSeq (wFAug C_Reader "place" rAddI (wVar 0) (wVar 1))
    (wRet (wVar 2)))))
def b_is_integer (C_Reader : Addr) (C_BadBytes : Addr) : WS :=
  (wRet (wAndV (wIsi "int" (wVar 0)) (wAndV (wNotV (wIsi "bool" (wVar 0))) (wChain rLe rLe (wVar 1) (wVar 0) (wVar 2)))))
def l1_is_bytes (C_Reader : Addr) (C_BadBytes : Addr) (s_is_integer : WSp) : WE :=
  (wCall 3 s_is_integer (wCons (wVar 1) (wCons (wC (.int 0)) (wCons (wC (.int 255)) wNil))))
def b_is_bytes (C_Reader : Addr) (C_BadBytes : Addr) (s_is_integer : WSp) : WS :=
  (wRet (wAndV (wIsi "tuple" (wVar 0)) (wAll (iAnyW (wVar 0)) (gNm 1) (l1_is_bytes C_Reader C_BadBytes s_is_integer) [1])))
def b_can_be_written (C_Reader : Addr) (C_BadBytes : Addr) (s__can_stand : WSp) : WS :=
  (wRet (wCall 2 s__can_stand (wCons (wVar 0) (wCons (wC (.int 16)) wNil))))
def b_write (C_Reader : Addr) (C_BadBytes : Addr) (s__put s__sum_of : WSp) : WS :=
  (wSeq (wSet 1 (wLst wNil))
    (wSeq (wDrop (wCall 3 s__put (wCons (wVar 1) (wCons (wVar 0) (wCons (wC (.int 16)) wNil)))))
    (wRet (wOp rAdd (wCB rTupOf (wCons (wVar 1) wNil)) (wCall 1 s__sum_of (wCons (wVar 1) wNil))))))
def b_read (C_Reader : Addr) (C_BadBytes : Addr) (s_is_bytes s__sum_of s_Reader_init s_Reader_value s_Reader_is_done : WSp) (EX : EW) : WS :=
  (wSeq (wIfS (wOr (wNot (wTest (wIsi "tuple" (wVar 0)))) (wOr (wTest (wOp rGt (wCB rLenA (wCons (wVar 0) wNil)) (wC (.int 60000)))) (wNot (wTest (wCall 1 s_is_bytes (wCons (wVar 0) wNil)))))) (wRaise EX C_BadBytes) wNext)
    (wSeq (wSet 1 (wSl (wVar 0) wNoPart (wPart (wNeg (wC (.int 2))))))
    (wSeq (wIfS (wTest (wOp (rEq true) (wSl (wVar 0) (wPart (wNeg (wC (.int 2)))) wNoPart) (wCall 1 s__sum_of (wCons (wVar 1) wNil)))) (wRaise EX C_BadBytes) wNext)
    (wSeq (wSet 2 (wMake C_Reader 2 s_Reader_init (wCons (wVar 1) wNil)))
    (wSeq (wSet 3 (wMethX EX C_Reader "value" 2 s_Reader_value (wVar 2) (wCons (wC (.int 16)) wNil)))
    (wSeq (wIfS (wNot (wTest (wMeth C_Reader "is_done" 1 s_Reader_is_done (wVar 2) wNil))) (wRaise EX C_BadBytes) wNext)
    (wRet (wVar 3))))))))
def l1__can_stand (C_Reader : Addr) (C_BadBytes : Addr) (s__can_stand s_is_integer s__is_word : WSp) : WE :=
  (wCall 2 s__can_stand (wCons (wVar 2) (wCons (wOp rSub (wVar 1) (wC (.int 1))) wNil)))
def b__can_stand (C_Reader : Addr) (C_BadBytes : Addr) (s__can_stand s_is_integer s__is_word : WSp) : WS :=
  (wSeq (wIfS (wTest (wIsi "tuple" (wVar 0))) (wRet (wAndV (wOp rGt (wVar 1) (wC (.int 0))) (wAll (iAnyW (wVar 0)) (gNm 2) (l1__can_stand C_Reader C_BadBytes s__can_stand s_is_integer s__is_word) [2]))) wNext)
    (wRet (wOrV (wOp (rIsN false) (wVar 0) (wC .non)) (wOrV (wCall 3 s_is_integer (wCons (wVar 0) (wCons (wC (.int 0)) (wCons (wC (.int 4294967295)) wNil)))) (wCall 1 s__is_word (wCons (wVar 0) wNil))))))
def l1__is_word (C_Reader : Addr) (C_BadBytes : Addr) : WE :=
  (wChain rLe rLe (wC (.str "a")) (wVar 1) (wC (.str "z")))
def b__is_word (C_Reader : Addr) (C_BadBytes : Addr) : WS :=
  (wSeq (wIfS (wOr (wNot (wTest (wIsi "str" (wVar 0)))) (wNot (wTest (wChain rLe rLe (wC (.int 1)) (wCB rLenA (wCons (wVar 0) wNil)) (wC (.int 12)))))) (wRet (wC (.bl false))) wNext)
    (wRet (wAll (iAnyW (wVar 0)) (gNm 1) (l1__is_word C_Reader C_BadBytes) [1])))
def b__letter_of (C_Reader : Addr) (C_BadBytes : Addr) (EX : EW) : WS :=
  (wSeq (wSet 1 (wOp rSub (wVar 0) (wCB rOrd (wCons (wC (.str "a")) wNil))))
    (wSeq (wIfS (wNot (wTest (wChain rLe rLt (wC (.int 0)) (wVar 1) (wCB rLenA (wCons (wC (.str "abcdefghijklmnopqrstuvwxyz")) wNil))))) (wRaise EX C_BadBytes) wNext)
    (wRet (wOp rIxA (wC (.str "abcdefghijklmnopqrstuvwxyz")) (wVar 1)))))
def l1__put (C_Reader : Addr) (C_BadBytes : Addr) (s_is_integer s__put_number s__is_word s__put : WSp) : WE :=
  (wCB rOrd (wCons (wVar 3) wNil))
def l2__put (C_Reader : Addr) (C_BadBytes : Addr) (s_is_integer s__put_number s__is_word s__put : WSp) : WS :=
  (wDrop (wCall 3 s__put (wCons (wVar 0) (wCons (wVar 4) (wCons (wOp rSub (wVar 2) (wC (.int 1))) wNil)))))
def b__put (C_Reader : Addr) (C_BadBytes : Addr) (s_is_integer s__put_number s__is_word s__put : WSp) : WS :=
  (wSeq (wIfS (wTest (wOp (rIsN false) (wVar 1) (wC .non))) (wDrop (wMt rAppendT (wVar 0) (wCons (wC (.int 0)) wNil))) (wIfS (wTest (wCall 3 s_is_integer (wCons (wVar 1) (wCons (wC (.int 0)) (wCons (wC (.int 4294967295)) wNil))))) (wSeq (wDrop (wMt rAppendT (wVar 0) (wCons (wC (.int 1)) wNil)))
    (wDrop (wCall 2 s__put_number (wCons (wVar 0) (wCons (wVar 1) wNil))))) (wIfS (wTest (wCall 1 s__is_word (wCons (wVar 1) wNil))) (wSeq (wDrop (wMt rAppendT (wVar 0) (wCons (wC (.int 2)) wNil)))
    (wSeq (wDrop (wCall 2 s__put_number (wCons (wVar 0) (wCons (wCB rLenA (wCons (wVar 1) wNil)) wNil))))
    (wDrop (wMt rExtendT (wVar 0) (wCons (wLc (iAnyW (wVar 1)) (gNm 3) wYes (l1__put C_Reader C_BadBytes s_is_integer s__put_number s__is_word s__put) [3]) wNil))))) (wIfS (wAnd (wTest (wIsi "tuple" (wVar 1))) (wTest (wOp rGt (wVar 2) (wC (.int 0))))) (wSeq (wDrop (wMt rAppendT (wVar 0) (wCons (wC (.int 3)) wNil)))
    (wSeq (wDrop (wCall 2 s__put_number (wCons (wVar 0) (wCons (wCB rLenA (wCons (wVar 1) wNil)) wNil))))
    (wFor (iAnyW (wVar 1)) (gNm 4) (l2__put C_Reader C_BadBytes s_is_integer s__put_number s__is_word s__put)))) wNever))))
    (wIfS (wTest (wOp rGt (wCB rLenA (wCons (wVar 0) wNil)) (wOp rSub (wC (.int 60000)) (wC (.int 2))))) wNever wNext))
def b__put_number (C_Reader : Addr) (C_BadBytes : Addr) (s__digits_of : WSp) : WS :=
  (wSeq (wSet 2 (wCall 1 s__digits_of (wCons (wVar 1) wNil)))
    (wSeq (wDrop (wMt rAppendT (wVar 0) (wCons (wCB rLenA (wCons (wVar 2) wNil)) wNil)))
    (wDrop (wMt rExtendT (wVar 0) (wCons (wVar 2) wNil)))))
def l1__digits_of (C_Reader : Addr) (C_BadBytes : Addr) : WT :=
  (wTest (wOp rGt (wVar 2) (wC (.int 0))))
def l2__digits_of (C_Reader : Addr) (C_BadBytes : Addr) : WS :=
  (wSeq (wDrop (wMt rAppendT (wVar 1) (wCons (wOp rMod (wVar 2) (wC (.int 256))) wNil)))
    (wSet 2 (wOp rFdiv (wVar 2) (wC (.int 256)))))
def b__digits_of (C_Reader : Addr) (C_BadBytes : Addr) : WS :=
  (wSeq (wSet 1 (wLst wNil))
    (wSeq (wSet 2 (wVar 0))
    (wSeq (wWhile (l1__digits_of C_Reader C_BadBytes) (l2__digits_of C_Reader C_BadBytes))
    (wSeq (wDrop (wMt rReverseT (wVar 1) wNil))
    (wRet (wVar 1))))))
def l1__sum_of (C_Reader : Addr) (C_BadBytes : Addr) : WE :=
  (wOp rMul (wVar 2) (wVar 3))
def b__sum_of (C_Reader : Addr) (C_BadBytes : Addr) : WS :=
  (wSeq (wSet 1 (wCB rSumI (wCons (wLc (iEnuW (wVar 0) (wC (.int 1))) (gTp 2 (gC (gNm 2) (gC (gNm 3) gN0))) wYes (l1__sum_of C_Reader C_BadBytes) [2, 3]) wNil)))
    (wRet (wCB rDivmod (wCons (wOp rMod (wVar 1) (wC (.int 65521))) (wCons (wC (.int 256)) wNil)))))
def b__law_bag (C_Reader : Addr) (C_BadBytes : Addr) : WS :=
  (wSeq (wSet 2 (wC (.int 0)))
    (wSeq (wIfS (wTest (wOp rLt (wVar 1) (wCB rLenA (wCons (wVar 0) wNil)))) (wSet 2 (wCB rInt1 (wCons (wOp rIxA (wVar 0) (wVar 1)) wNil))) wNext)
    (wSeq (wIfS (wTest (wOp rGeI (wVar 2) (wOp rPow (wC (.int 10)) (wC (.int 18))))) (wRet (wLst (wCons (wVar 2) (wCons (wVar 2) (wCons (wVar 1) wNil))))) wNext)
    (wRet (wLst (wCons (wC (.int 0)) (wCons (wVar 2) (wCons (wVar 1) wNil))))))))
def b__law_draw (C_Reader : Addr) (C_BadBytes : Addr) : WS :=
  (wSeq (wIfS (wTest (wOp (rEq false) (wOp rIxA (wVar 0) (wC (.int 0))) (wC (.int 0)))) (wSeq (wSet 2 (wOp rMod (wCB rInt1 (wCons (wOp rAdd (wOp rAdd (wOp rMul (wOp rIxA (wVar 0) (wC (.int 1))) (wC (.int 48271))) (wOp rMul (wOp rIxA (wVar 0) (wC (.int 2))) (wC (.int 69621)))) (wC (.int 11))) wNil)) (wC (.int 2147483647))))
    (wSeq (wAsg (wOp rAdd (wOp rMul (wVar 2) (wC (.int 2147483629))) (wOp rMod (wCB rInt1 (wCons (wOp rAdd (wOp rMul (wVar 2) (wVar 2)) (wOp rMul (wOp rIxA (wVar 0) (wC (.int 2))) (wC (.int 16807)))) wNil)) (wC (.int 2147483629)))) (gIxA (wVar 0) (wC (.int 0))))
    (wAsg (wVar 2) (gIxA (wVar 0) (wC (.int 1)))))) wNext)
    (wSeq (wSet 3 (wOp rIxA (wVar 0) (wC (.int 0))))
    (wSeq (wAsg (wOp rFdiv (wVar 3) (wVar 1)) (gIxA (wVar 0) (wC (.int 0))))
    (wRet (wOp rMod (wCB rInt1 (wCons (wVar 3) wNil)) (wVar 1))))))
def l1__law_word (C_Reader : Addr) (C_BadBytes : Addr) (s__law_draw : WSp) : WE :=
  (wOp rIxA (wVar 1) (wCall 2 s__law_draw (wCons (wVar 0) (wCons (wC (.int 26)) wNil))))
def b__law_word (C_Reader : Addr) (C_BadBytes : Addr) (s__law_draw : WSp) : WS :=
  (wSeq (wSet 1 (wC (.str "abcdefghijklmnopqrstuvwxyz")))
    (wRet (wJoin (wC (.str "")) (wLc (iRg1 (wCons (wOp rIxA (wLst (wCons (wC (.int 1)) (wCons (wC (.int 2)) (wCons (wC (.int 3)) (wCons (wC (.int 5)) (wCons (wC (.int 11)) (wCons (wC (.int 12)) wNil))))))) (wCall 2 s__law_draw (wCons (wVar 0) (wCons (wC (.int 6)) wNil)))) wNil)) (gNm 2) wYes (l1__law_word C_Reader C_BadBytes s__law_draw) [2]))))
def b__law_number (C_Reader : Addr) (C_BadBytes : Addr) (s__law_draw : WSp) : WS :=
  (wSeq (wSet 1 (wLst (wCons (wC (.int 0)) (wCons (wC (.int 1)) (wCons (wC (.int 2)) (wCons (wC (.int 127)) (wCons (wC (.int 128)) (wCons (wC (.int 255)) (wCons (wC (.int 256)) (wCons (wC (.int 257)) (wCons (wC (.int 65535)) (wCons (wC (.int 65536)) (wCons (wC (.int 16777215)) (wCons (wC (.int 16777216)) (wCons (wC (.int 4294967295)) wNil)))))))))))))))
    (wRet (wOp rIxA (wLst (wCons (wOp rIxA (wVar 1) (wCall 2 s__law_draw (wCons (wVar 0) (wCons (wC (.int 13)) wNil)))) (wCons (wCall 2 s__law_draw (wCons (wVar 0) (wCons (wC (.int 256)) wNil))) (wCons (wCall 2 s__law_draw (wCons (wVar 0) (wCons (wC (.int 4294967296)) wNil))) (wCons (wCall 2 s__law_draw (wCons (wVar 0) (wCons (wC (.int 70000)) wNil))) wNil))))) (wCall 2 s__law_draw (wCons (wVar 0) (wCons (wC (.int 4)) wNil))))))
def l1__law_value (C_Reader : Addr) (C_BadBytes : Addr) (s__law_draw s__law_word s__law_number s__law_value : WSp) : WE :=
  (wCall 3 s__law_value (wCons (wVar 0) (wCons (wVar 1) (wCons (wOp rSub (wVar 2) (wC (.int 1))) wNil))))
def b__law_value (C_Reader : Addr) (C_BadBytes : Addr) (s__law_draw s__law_word s__law_number s__law_value : WSp) : WS :=
  (wSeq (wAsg (wOp rSub (wOp rIxA (wVar 1) (wC (.int 0))) (wC (.int 1))) (gIxA (wVar 1) (wC (.int 0))))
    (wSeq (wSet 3 (wCall 2 s__law_draw (wCons (wVar 0) (wCons (wC (.int 8)) wNil))))
    (wSeq (wIfS (wTest (wOp (rEq false) (wVar 3) (wC (.int 0)))) (wRet (wC .non)) wNext)
    (wSeq (wIfS (wTest (wOp (rEq false) (wVar 3) (wC (.int 1)))) (wRet (wCall 1 s__law_word (wCons (wVar 0) wNil))) wNext)
    (wSeq (wIfS (wOr (wTest (wOp rLt (wVar 3) (wC (.int 4)))) (wOr (wTest (wOp (rEq false) (wVar 2) (wC (.int 0)))) (wTest (wOp rLe (wOp rIxA (wVar 1) (wC (.int 0))) (wC (.int 0)))))) (wRet (wCall 1 s__law_number (wCons (wVar 0) wNil))) wNext)
    (wRet (wCB rTupOf (wCons (wLc (iRg1 (wCons (wCall 2 s__law_draw (wCons (wVar 0) (wCons (wC (.int 6)) wNil))) wNil)) (gNm 4) wYes (l1__law_value C_Reader C_BadBytes s__law_draw s__law_word s__law_number s__law_value) [4]) wNil))))))))
def l1__law_summed (C_Reader : Addr) (C_BadBytes : Addr) : WS :=
  (wSeq (wSet 2 (wOp rAdd (wVar 2) (wOp rIxA (wVar 0) (wOp rSub (wOp rSub (wCB rLenA (wCons (wVar 0) wNil)) (wC (.int 1))) (wVar 3)))))
    (wSet 1 (wOp rAdd (wVar 1) (wVar 2))))
def b__law_summed (C_Reader : Addr) (C_BadBytes : Addr) : WS :=
  (wSeq (wSet 1 (wC (.int 0)))
    (wSeq (wSet 2 (wC (.int 0)))
    (wSeq (wFor (iRg1 (wCons (wCB rLenA (wCons (wVar 0) wNil)) wNil)) (gNm 3) (l1__law_summed C_Reader C_BadBytes))
    (wSeq (wSet 4 (wOp rMod (wCB rInt1 (wCons (wVar 1) wNil)) (wC (.int 65521))))
    (wRet (wOp rAdd (wVar 0) (wLst (wCons (wOp rFdiv (wVar 4) (wC (.int 256))) (wCons (wOp rMod (wCB rInt1 (wCons (wVar 4) wNil)) (wC (.int 256))) wNil)))))))))
def b__law_told (C_Reader : Addr) (C_BadBytes : Addr) (s_read : WSp) : WS :=
  (wTry C_BadBytes (fun EX => (wRet (wLst (wCons (wCallX EX 1 s_read (wCons (wVar 0) wNil)) wNil)))) (wRet (wLst wNil)))
def l1__law_turned (C_Reader : Addr) (C_BadBytes : Addr) (s__law_draw : WSp) : WE :=
  (wOp rIxA (wLst (wCons (wC (.int 0)) (wCons (wC (.int 1)) (wCons (wC (.int 2)) (wCons (wC (.int 3)) (wCons (wC (.int 97)) (wCons (wCall 2 s__law_draw (wCons (wVar 0) (wCons (wC (.int 256)) wNil))) wNil))))))) (wCall 2 s__law_draw (wCons (wVar 0) (wCons (wC (.int 6)) wNil))))
def l2__law_turned (C_Reader : Addr) (C_BadBytes : Addr) (s__law_draw : WSp) : WS :=
  (wSeq (wSet 3 (wCall 2 s__law_draw (wCons (wVar 0) (wCons (wOp rAdd (wCB rLenA (wCons (wVar 1) wNil)) (wC (.int 1))) wNil))))
    (wSeq (wSet 4 (wOp rIxA (wLst (wCons (wC (.int 0)) (wCons (wC (.int 1)) (wCons (wC (.int 2)) (wCons (wC (.int 3)) (wCons (wC (.int 4)) (wCons (wC (.int 97)) (wCons (wC (.int 122)) (wCons (wC (.int 123)) (wCons (wC (.int 255)) (wCons (wCall 2 s__law_draw (wCons (wVar 0) (wCons (wC (.int 256)) wNil))) wNil))))))))))) (wCall 2 s__law_draw (wCons (wVar 0) (wCons (wC (.int 10)) wNil)))))
    (wSet 1 (wOp rIxA (wLst (wCons (wOp rAdd (wSl (wVar 1) wNoPart (wPart (wVar 3))) (wSl (wVar 1) (wPart (wOp rAdd (wVar 3) (wC (.int 1)))) wNoPart)) (wCons (wOp rAdd (wOp rAdd (wSl (wVar 1) wNoPart (wPart (wVar 3))) (wLst (wCons (wVar 4) wNil))) (wSl (wVar 1) (wPart (wVar 3)) wNoPart)) (wCons (wOp rAdd (wOp rAdd (wSl (wVar 1) wNoPart (wPart (wVar 3))) (wLst (wCons (wVar 4) wNil))) (wSl (wVar 1) (wPart (wOp rAdd (wVar 3) (wC (.int 1)))) wNoPart)) wNil)))) (wCall 2 s__law_draw (wCons (wVar 0) (wCons (wC (.int 3)) wNil)))))))
def b__law_turned (C_Reader : Addr) (C_BadBytes : Addr) (s__law_draw : WSp) : WS :=
  (wSeq (wIfS (wTest (wOp (rEq false) (wCall 2 s__law_draw (wCons (wVar 0) (wCons (wC (.int 4)) wNil))) (wC (.int 0)))) (wRet (wLc (iRg1 (wCons (wOp rAdd (wC (.int 1)) (wCall 2 s__law_draw (wCons (wVar 0) (wCons (wC (.int 30)) wNil)))) wNil)) (gNm 2) wYes (l1__law_turned C_Reader C_BadBytes s__law_draw) [2])) wNext)
    (wSeq (wFor (iRg1 (wCons (wOp rAdd (wC (.int 1)) (wCall 2 s__law_draw (wCons (wVar 0) (wCons (wC (.int 3)) wNil)))) wNil)) (gNm 2) (l2__law_turned C_Reader C_BadBytes s__law_draw))
    (wRet (wVar 1))))
def b__law_right (C_Reader : Addr) (C_BadBytes : Addr) (s__law_summed s__law_told s_can_be_written s_write : WSp) : WS :=
  (wSeq (wSet 0 (wCB rTupOf (wCons (wCall 1 s__law_summed (wCons (wVar 0) wNil)) wNil)))
    (wSeq (wSet 1 (wCall 1 s__law_told (wCons (wVar 0) wNil)))
    (wSeq (wIfS (wTest (wOp (rEq false) (wCB rLenA (wCons (wVar 1) wNil)) (wC (.int 0)))) (wRet (wC (.bl true))) wNext)
    (wRet (wAndV (wOp (rBIs false) (wCall 1 s_can_be_written (wCons (wOp rIxA (wVar 1) (wC (.int 0))) wNil)) (wC (.bl true))) (wOp (rEq false) (wCall 1 s_write (wCons (wOp rIxA (wVar 1) (wC (.int 0))) wNil)) (wVar 0)))))))
def l1_law (C_Reader : Addr) (C_BadBytes : Addr) (s__law_bag s_write s__law_value s__law_draw s__law_right s__law_turned s__law_told s__law_summed : WSp) : WS :=
  (wIfS (wNot (wTest (wCall 1 s__law_right (wCons (wCall 2 s__law_turned (wCons (wVar 2) (wCons (wVar 3) wNil))) wNil)))) (wRet (wC (.bl false))) wNext)
def l2_law (C_Reader : Addr) (C_BadBytes : Addr) (s__law_bag s_write s__law_value s__law_draw s__law_right s__law_turned s__law_told s__law_summed : WSp) : WS :=
  (wSeq (wSet 2 (wCall 2 s__law_bag (wCons (wVar 0) (wCons (wVar 1) wNil))))
    (wSeq (wSet 3 (wSl (wCB rListOf (wCons (wCall 1 s_write (wCons (wCall 3 s__law_value (wCons (wVar 2) (wCons (wLst (wCons (wC (.int 30)) wNil)) (wCons (wCall 2 s__law_draw (wCons (wVar 2) (wCons (wC (.int 8)) wNil))) wNil)))) wNil)) wNil)) wNoPart (wPart (wNeg (wC (.int 2))))))
    (wSeq (wFor (iRg1 (wCons (wC (.int 12)) wNil)) (gNm 4) (l1_law C_Reader C_BadBytes s__law_bag s_write s__law_value s__law_draw s__law_right s__law_turned s__law_told s__law_summed))
    (wSeq (wSet 5 (wOp rAdd (wC (.int 14)) (wCall 2 s__law_draw (wCons (wVar 2) (wCons (wC (.int 5)) wNil)))))
    (wSeq (wSet 6 (wOp rAdd (wOp rMulB (wLst (wCons (wC (.int 3)) (wCons (wC (.int 1)) (wCons (wC (.int 1)) wNil)))) (wOp rSub (wVar 5) (wC (.int 1)))) (wLst (wCons (wC (.int 3)) (wCons (wC (.int 0)) wNil)))))
    (wIfS (wOr (wNot (wTest (wCall 1 s__law_right (wCons (wVar 6) wNil)))) (wTest (wOp (rEq true) (wCB rLenA (wCons (wCall 1 s__law_told (wCons (wCB rTupOf (wCons (wCall 1 s__law_summed (wCons (wVar 6) wNil)) wNil)) wNil)) wNil)) (wCB rInt1 (wCons (wOp rLe (wVar 5) (wC (.int 16))) wNil))))) (wRet (wC (.bl false))) wNext))))))
def b_law (C_Reader : Addr) (C_BadBytes : Addr) (s__law_bag s_write s__law_value s__law_draw s__law_right s__law_turned s__law_told s__law_summed : WSp) : WS :=
  (wSeq (wFor (iRg1 (wCons (wCB rMax2 (wCons (wC (.int 1)) (wCons (wCB rMin2 (wCons (wC (.int 3)) (wCons (wCB rLenA (wCons (wVar 0) wNil)) wNil))) wNil))) wNil)) (gNm 1) (l2_law C_Reader C_BadBytes s__law_bag s_write s__law_value s__law_draw s__law_right s__law_turned s__law_told s__law_summed))
    (wRet (wC (.bl true))))
section
variable {C_Reader : Addr} {C_BadBytes : Addr} {P : Program} {w : World} {K : PySem.W.Frag} {mg : Str → Option Value} {base : Heap}
theorem fn_Reader_init (T : Facts K mg C_Reader C_BadBytes) {k : Nat} {f : Addr} {fd : FuncData} {tl : List Addr}  {sp : WSp} (F : Fun K "__init__" "Reader.__init__" st_Reader_init f fd) 
    (hw : ∀ ts S Q E, ts.length = 2 → sp ts S Q E → b_Reader_init C_Reader C_BadBytes  { nx := fun _ S' => Q .non S', rt := Q } (startT N_Reader_init ts) S) :
    FnOk P w K mg base CX0 (k + 1) f fd ["self", "row"] (Lsp tl K 2 sp) :=
  fnT F sc_Reader_init (fun cdv A outer s H E hr hcd ht => (jss_cons (js_fset T.k_Reader T.n_Reader_row (j_var 0) (j_var 1))
    (jss_one (js_fset T.k_Reader T.n_Reader_place (j_var 0) j_int)))) hw
theorem fn_Reader_is_done (T : Facts K mg C_Reader C_BadBytes) {k : Nat} {f : Addr} {fd : FuncData} {tl : List Addr}  {sp : WSp} (F : Fun K "is_done" "Reader.is_done" st_Reader_is_done f fd) 
    (hw : ∀ ts S Q E, ts.length = 1 → sp ts S Q E → b_Reader_is_done C_Reader C_BadBytes  { nx := fun _ S' => Q .non S', rt := Q } (startT N_Reader_is_done ts) S) :
    FnOk P w K mg base CX0 (k + 1) f fd ["self"] (Lsp tl K 1 sp) :=
  fnT F sc_Reader_is_done (fun cdv A outer s H E hr hcd ht => (jss_one (js_ret (j_cmp (o_eq hr.units) (j_fld T.k_Reader T.n_Reader_place (j_var 0)) (j_callB c_lenA (by rfl) T.z_len PySem.boot_len (ja_cons (j_fld T.k_Reader T.n_Reader_row (j_var 0)) ja_nil)) (nomark _))))) hw
theorem fn_Reader_value (T : Facts K mg C_Reader C_BadBytes) {k : Nat} {f : Addr} {fd : FuncData} {tl : List Addr} {s_Reader_byte s_Reader_number s_Reader_word s_Reader_inner : WSp} {sp : WSp} (F : Fun K "value" "Reader.value" st_Reader_value f fd) (M_Reader_byte : CalMX P w K mg base tl k C_Reader "byte" ["self"] s_Reader_byte) (M_Reader_number : CalMX P w K mg base tl k C_Reader "number" ["self"] s_Reader_number) (M_Reader_word : CalMX P w K mg base tl k C_Reader "word" ["self"] s_Reader_word) (M_Reader_inner : CalMX P w K mg base tl k C_Reader "inner" ["self", "levels"] s_Reader_inner)
    (hw : ∀ ts S Q E, ts.length = 2 → sp ts S Q E → b_Reader_value C_Reader C_BadBytes s_Reader_byte s_Reader_number s_Reader_word s_Reader_inner (fun C _ S' => E C S') { nx := fun _ S' => Q .non S', rt := Q } (startT N_Reader_value ts) S) :
    FnOk P w K mg base (L2.CX P w) (k + 1) f fd ["self", "levels"] (Lsp tl K 2 sp) :=
  fnTX F sc_Reader_value (fun cdv A outer s H E EX hr hcd ht tk => (jss_cons (js_set (i := 2) sc_Reader_value.nd rfl (by first | exact .inl rfl | exact .inr rfl) (j_methX0 M_Reader_byte T.k_Reader tk ht hr (j_var 0)))
    (jss_cons (js_if (jt_cmp (o_eq hr.units) (j_var 2) (j_cI (by rfl) T.c_NONE) (nomark _)) (jss_one (js_ret j_non)) jss_nil)
    (jss_cons (js_if (jt_cmp (o_eq hr.units) (j_var 2) (j_cI (by rfl) T.c_INTEGER) (nomark _)) (jss_one (js_ret (j_methX0 M_Reader_number T.k_Reader tk ht hr (j_var 0)))) jss_nil)
    (jss_cons (js_if (jt_cmp (o_eq hr.units) (j_var 2) (j_cI (by rfl) T.c_WORD) (nomark _)) (jss_one (js_ret (j_methX0 M_Reader_word T.k_Reader tk ht hr (j_var 0)))) jss_nil)
    (jss_cons (js_if (JW.jt (jw_and (jt_cmp (o_eq hr.units) (j_var 2) (j_cI (by rfl) T.c_TUPLE) (nomark _)) (jw_and1 (jt_cmp o_gtA (j_var 1) j_int (nomark _))))) (jss_one (js_ret (j_methX M_Reader_inner T.k_Reader tk ht hr (j_var 0) (ja_cons (j_op o_sub (j_var 1) j_int) ja_nil)))) jss_nil)
    (jss_one (js_raise rfl tk T.x_BadBytes (by rfl))))))))) hw
theorem fn_Reader_inner (T : Facts K mg C_Reader C_BadBytes) {k : Nat} {f : Addr} {fd : FuncData} {tl : List Addr} {s_Reader_number s_Reader_value : WSp} {sp : WSp} (F : Fun K "inner" "Reader.inner" st_Reader_inner f fd) (M_Reader_number : CalMX P w K mg base tl k C_Reader "number" ["self"] s_Reader_number) (M_Reader_value : CalMX P w K mg base tl k C_Reader "value" ["self", "levels"] s_Reader_value)
    (hw : ∀ ts S Q E, ts.length = 2 → sp ts S Q E → b_Reader_inner C_Reader C_BadBytes s_Reader_number s_Reader_value (fun C _ S' => E C S') { nx := fun _ S' => Q .non S', rt := Q } (startT N_Reader_inner ts) S) :
    FnOk P w K mg base (L2.CX P w) (k + 1) f fd ["self", "levels"] (Lsp tl K 2 sp) :=
  fnTX F sc_Reader_inner (fun cdv A outer s H E EX hr hcd ht tk => (jss_cons (js_set (i := 2) sc_Reader_inner.nd rfl (by first | exact .inl rfl | exact .inr rfl) (j_methX0 M_Reader_number T.k_Reader tk ht hr (j_var 0)))
    (jss_cons (js_set (i := 3) sc_Reader_inner.nd rfl (by first | exact .inl rfl | exact .inr rfl) (j_lst ja_nil))
    (jss_cons (js_while (passes_of rfl) (jt_cmp o_lt (j_callB c_lenA (by rfl) T.z_len PySem.boot_len (ja_cons (j_var 3) ja_nil)) (j_var 2) (nomark _)) (jss_one (js_expr (j_mtL PySem.F.slot_list_append PySem.F.type_list_append m_append (j_var 3) (ja_cons (j_methX M_Reader_value T.k_Reader tk ht hr (j_var 0) (ja_cons (j_var 1) ja_nil)) ja_nil)))))
    (jss_one (js_ret (j_callTy c_tup (by rfl) T.z_tuple (by rfl) (ja_cons (j_var 3) ja_nil)))))))) hw
theorem fn_Reader_word (T : Facts K mg C_Reader C_BadBytes) {k : Nat} {f : Addr} {fd : FuncData} {tl : List Addr} {s_Reader_number s_Reader_part s__letter_of : WSp} {sp : WSp} (F : Fun K "word" "Reader.word" st_Reader_word f fd) (M_Reader_number : CalMX P w K mg base tl k C_Reader "number" ["self"] s_Reader_number) (M_Reader_part : CalMX P w K mg base tl k C_Reader "part" ["self", "many"] s_Reader_part) (C__letter_of : CalX P w K mg base tl k "_letter_of" ["code"] s__letter_of)
    (hw : ∀ ts S Q E, ts.length = 1 → sp ts S Q E → b_Reader_word C_Reader C_BadBytes s_Reader_number s_Reader_part s__letter_of (fun C _ S' => E C S') { nx := fun _ S' => Q .non S', rt := Q } (startT N_Reader_word ts) S) :
    FnOk P w K mg base (L2.CX P w) (k + 1) f fd ["self"] (Lsp tl K 1 sp) :=
  fnTX F sc_Reader_word (fun cdv A outer s H E EX hr hcd ht tk => (jss_cons (js_set (i := 1) sc_Reader_word.nd rfl (by first | exact .inl rfl | exact .inr rfl) (j_methX0 M_Reader_number T.k_Reader tk ht hr (j_var 0)))
    (jss_cons (js_if (jt_not (jt_chain o_le o_le j_int (j_var 1) (j_cI (by rfl) T.c_MOST_WORD))) (jss_one (js_raise rfl tk T.x_BadBytes (by rfl))) jss_nil)
    (jss_one (js_ret (j_join j_str (j_lcX (own := [("code", 2)]) rfl rfl tk rfl sc_Reader_word.nd (ji_any (j_methX M_Reader_part T.k_Reader tk ht hr (j_var 0) (ja_cons (j_var 1) ja_nil))) (blkOk_by (N := N_Reader_word) (sc := defScope st_Reader_word) (by decide +kernel)) (fun _ _ _ _ _ => (jg_name (i := 2) (vs := [2]) sc_Reader_word.nd rfl (by first | exact .inl rfl | exact .inr rfl) (by decide))) (fun _ _ _ _ _ => jts_nil) (fun B1 EB _ _ _ _ _ _ eb hp => have ht : ∀ P ∈ tl, GxR.TabG B1 P := fun P hP => eb.tabs P (ht P hP); (j_callE C__letter_of hp ht hr (by rfl) (ja_cons (j_var 2) ja_nil)))))))))) hw
theorem fn_Reader_number (T : Facts K mg C_Reader C_BadBytes) {k : Nat} {f : Addr} {fd : FuncData} {tl : List Addr} {s_Reader_part s_Reader_byte : WSp} {sp : WSp} (F : Fun K "number" "Reader.number" st_Reader_number f fd) (M_Reader_part : CalMX P w K mg base tl k C_Reader "part" ["self", "many"] s_Reader_part) (M_Reader_byte : CalMX P w K mg base tl k C_Reader "byte" ["self"] s_Reader_byte)
    (hw : ∀ ts S Q E, ts.length = 1 → sp ts S Q E → b_Reader_number C_Reader C_BadBytes s_Reader_part s_Reader_byte (fun C _ S' => E C S') { nx := fun _ S' => Q .non S', rt := Q } (startT N_Reader_number ts) S) :
    FnOk P w K mg base (L2.CX P w) (k + 1) f fd ["self"] (Lsp tl K 1 sp) :=
  fnTX F sc_Reader_number (fun cdv A outer s H E EX hr hcd ht tk => (jss_cons (js_set (i := 1) sc_Reader_number.nd rfl (by first | exact .inl rfl | exact .inr rfl) (j_methX M_Reader_part T.k_Reader tk ht hr (j_var 0) (ja_cons (j_methX0 M_Reader_byte T.k_Reader tk ht hr (j_var 0)) ja_nil)))
    (jss_cons (js_if (jt_cmp (o_eq hr.units) (j_slice (j_var 1) jo_none (jo_some j_int)) (j_tup (ja_cons j_int ja_nil)) (nomark _)) (jss_one (js_raise rfl tk T.x_BadBytes (by rfl))) jss_nil)
    (jss_cons (js_set (i := 2) sc_Reader_number.nd rfl (by first | exact .inl rfl | exact .inr rfl) j_int)
    (jss_cons (js_for (passes_of rfl) rfl (ji_any (j_var 1)) (jg_name (i := 3) (vs := [3]) sc_Reader_number.nd rfl (by first | exact .inl rfl | exact .inr rfl) (by decide))
    (jss_one (js_set (i := 2) sc_Reader_number.nd rfl (by first | exact .inl rfl | exact .inr rfl) (j_op o_add (j_op o_mul j_int (j_var 2)) (j_var 3)))))
    (jss_cons (js_if (jt_cmp o_gtA (j_var 2) (j_cI (by rfl) T.c_MOST_INTEGER) (nomark _)) (jss_one (js_raise rfl tk T.x_BadBytes (by rfl))) jss_nil)
    (jss_one (js_ret (j_var 2))))))))) hw
theorem fn_Reader_byte (T : Facts K mg C_Reader C_BadBytes) {k : Nat} {f : Addr} {fd : FuncData} {tl : List Addr} {s_Reader_part : WSp} {sp : WSp} (F : Fun K "byte" "Reader.byte" st_Reader_byte f fd) (M_Reader_part : CalMX P w K mg base tl k C_Reader "part" ["self", "many"] s_Reader_part)
    (hw : ∀ ts S Q E, ts.length = 1 → sp ts S Q E → b_Reader_byte C_Reader C_BadBytes s_Reader_part (fun C _ S' => E C S') { nx := fun _ S' => Q .non S', rt := Q } (startT N_Reader_byte ts) S) :
    FnOk P w K mg base (L2.CX P w) (k + 1) f fd ["self"] (Lsp tl K 1 sp) :=
  fnTX F sc_Reader_byte (fun cdv A outer s H E EX hr hcd ht tk => (jss_one (js_ret (j_ixA (hu_of hr) (j_methX M_Reader_part T.k_Reader tk ht hr (j_var 0) (ja_cons j_int ja_nil)) j_int (fun _ _ => rfl))))) hw
theorem fn_Reader_part (T : Facts K mg C_Reader C_BadBytes) {k : Nat} {f : Addr} {fd : FuncData} {tl : List Addr}  {sp : WSp} (F : Fun K "part" "Reader.part" st_Reader_part f fd) 
    (hw : ∀ ts S Q E, ts.length = 2 → sp ts S Q E → b_Reader_part C_Reader C_BadBytes  (fun C _ S' => E C S') { nx := fun _ S' => Q .non S', rt := Q } (startT N_Reader_part ts) S) :
    FnOk P w K mg base (L2.CX P w) (k + 1) f fd ["self", "many"] (Lsp tl K 2 sp) :=
  fnTX F sc_Reader_part (fun cdv A outer s H E EX hr hcd ht tk => (jss_cons (js_set (i := 2) sc_Reader_part.nd rfl (by first | exact .inl rfl | exact .inr rfl) (j_slice (j_fld T.k_Reader T.n_Reader_row (j_var 0)) (jo_some (j_fld T.k_Reader T.n_Reader_place (j_var 0))) (jo_some (j_op o_add (j_fld T.k_Reader T.n_Reader_place (j_var 0)) (j_var 1)))))
    (jss_cons (js_if (jt_cmp o_lt (j_callB c_lenA (by rfl) T.z_len PySem.boot_len (ja_cons (j_var 2) ja_nil)) (j_var 1) (nomark _)) (jss_one (js_raise rfl tk T.x_BadBytes (by rfl))) jss_nil)
    (jss_cons (js_faug T.k_Reader T.n_Reader_place (j_var 0) (j_var 1) io_add)
    (jss_one (js_ret (j_var 2))))))) hw
theorem fn_is_integer (T : Facts K mg C_Reader C_BadBytes) {k : Nat} {f : Addr} {fd : FuncData} {tl : List Addr}  {sp : WSp} (F : Fun K "is_integer" "is_integer" st_is_integer f fd) 
    (hw : ∀ ts S Q E, ts.length = 3 → sp ts S Q E → b_is_integer C_Reader C_BadBytes  { nx := fun _ S' => Q .non S', rt := Q } (startT N_is_integer ts) S) :
    FnOk P w K mg base CX0 (k + 1) f fd ["value", "least", "greatest"] (Lsp tl K 3 sp) :=
  fnT F sc_is_integer (fun cdv A outer s H E hr hcd ht => (jss_one (js_ret (j_and (j_isi (cs := "int") (by rfl) T.z_isinstance (by rfl) (j_var 0) (by rfl) T.z_int (by rfl) (by decide)) (j_and (j_not (j_isi (cs := "bool") (by rfl) T.z_isinstance (by rfl) (j_var 0) (by rfl) T.z_bool (by rfl) (by decide))) (j_one (j_chain o_le o_le (j_var 1) (j_var 0) (j_var 2)))))))) hw
theorem fn_is_bytes (T : Facts K mg C_Reader C_BadBytes) {k : Nat} {f : Addr} {fd : FuncData} {tl : List Addr} {s_is_integer : WSp} {sp : WSp} (F : Fun K "is_bytes" "is_bytes" st_is_bytes f fd) {cT PT : Addr} (t1 : Tab1 base mg tl fd cT PT) (C_is_integer : Cal P w K mg base tl k "is_integer" ["value", "least", "greatest"] s_is_integer)
    (hw : ∀ ts S Q E, ts.length = 1 → sp ts S Q E → b_is_bytes C_Reader C_BadBytes s_is_integer { nx := fun _ S' => Q .non S', rt := Q } (startT N_is_bytes ts) S) :
    FnOk P w K mg base CX0 (k + 2) f fd ["value"] (Lsp tl K 1 sp) :=
  fnT F sc_is_bytes (fun cdv A outer s H E hr1 hcd ht => have hr := Room.mono hr1 (Nat.le_succ k); (jss_one (js_ret (j_and (j_isi (cs := "tuple") (by rfl) T.z_isinstance (by rfl) (j_var 0) (by rfl) T.z_tuple (by rfl) (by decide)) (j_one (j_all (own := [("item", 1)]) hr1 t1 hcd ht rfl sc_is_bytes.nd (blkOk_by (N := N_is_bytes) (sc := defScope st_is_bytes) (by decide +kernel)) (by decide +kernel) (ji_any (j_var 0)) (fun _ => rfl) (fun _ _ _ _ _ _ _ hr => (jg_name (i := 1) (vs := [1]) sc_is_bytes.nd rfl (by first | exact .inl rfl | exact .inr rfl) (by decide))) (fun _ _ _ _ _ _ _ hr => (j_c C_is_integer ht hr (by rfl) (ja_cons (j_var 1) (ja_cons j_int (ja_cons j_int ja_nil))))) (by rfl) T.z_all)))))) hw
theorem fn_can_be_written (T : Facts K mg C_Reader C_BadBytes) {k : Nat} {f : Addr} {fd : FuncData} {tl : List Addr} {s__can_stand : WSp} {sp : WSp} (F : Fun K "can_be_written" "can_be_written" st_can_be_written f fd) (C__can_stand : Cal P w K mg base tl k "_can_stand" ["value", "levels"] s__can_stand)
    (hw : ∀ ts S Q E, ts.length = 1 → sp ts S Q E → b_can_be_written C_Reader C_BadBytes s__can_stand { nx := fun _ S' => Q .non S', rt := Q } (startT N_can_be_written ts) S) :
    FnOk P w K mg base CX0 (k + 1) f fd ["value"] (Lsp tl K 1 sp) :=
  fnT F sc_can_be_written (fun cdv A outer s H E hr hcd ht => (jss_one (js_ret (j_c C__can_stand ht hr (by rfl) (ja_cons (j_var 0) (ja_cons (j_cI (by rfl) T.c_MOST_NESTED) ja_nil)))))) hw
theorem fn_write (T : Facts K mg C_Reader C_BadBytes) {k : Nat} {f : Addr} {fd : FuncData} {tl : List Addr} {s__put s__sum_of : WSp} {sp : WSp} (F : Fun K "write" "write" st_write f fd) (C__put : Cal P w K mg base tl k "_put" ["row", "value", "levels"] s__put) (C__sum_of : Cal P w K mg base tl k "_sum_of" ["row"] s__sum_of)
    (hw : ∀ ts S Q E, ts.length = 1 → sp ts S Q E → b_write C_Reader C_BadBytes s__put s__sum_of { nx := fun _ S' => Q .non S', rt := Q } (startT N_write ts) S) :
    FnOk P w K mg base CX0 (k + 1) f fd ["value"] (Lsp tl K 1 sp) :=
  fnT F sc_write (fun cdv A outer s H E hr hcd ht => (jss_cons (js_set (i := 1) sc_write.nd rfl (by first | exact .inl rfl | exact .inr rfl) (j_lst ja_nil))
    (jss_cons (js_expr (j_c C__put ht hr (by rfl) (ja_cons (j_var 1) (ja_cons (j_var 0) (ja_cons (j_cI (by rfl) T.c_MOST_NESTED) ja_nil)))))
    (jss_one (js_ret (j_op o_add (j_callTy c_tup (by rfl) T.z_tuple (by rfl) (ja_cons (j_var 1) ja_nil)) (j_c C__sum_of ht hr (by rfl) (ja_cons (j_var 1) ja_nil)))))))) hw
theorem fn_read (T : Facts K mg C_Reader C_BadBytes) {k : Nat} {f : Addr} {fd : FuncData} {tl : List Addr} {s_is_bytes s__sum_of s_Reader_init s_Reader_value s_Reader_is_done : WSp} {sp : WSp} (F : Fun K "read" "read" st_read f fd) (C_is_bytes : Cal P w K mg base tl k "is_bytes" ["value"] s_is_bytes) (C__sum_of : Cal P w K mg base tl k "_sum_of" ["row"] s__sum_of) (I_Reader_init : CalI P w K mg base tl k C_Reader "Reader" ["self", "row"] s_Reader_init) (M_Reader_value : CalMX P w K mg base tl k C_Reader "value" ["self", "levels"] s_Reader_value) (M_Reader_is_done : CalM P w K mg base tl k C_Reader "is_done" ["self"] s_Reader_is_done)
    (hw : ∀ ts S Q E, ts.length = 1 → sp ts S Q E → b_read C_Reader C_BadBytes s_is_bytes s__sum_of s_Reader_init s_Reader_value s_Reader_is_done (fun C _ S' => E C S') { nx := fun _ S' => Q .non S', rt := Q } (startT N_read ts) S) :
    FnOk P w K mg base (L2.CX P w) (k + 2) f fd ["row"] (Lsp tl K 1 sp) :=
  fnTX F sc_read (fun cdv A outer s H E EX hr1 hcd ht tk => have hr := Room.mono hr1 (Nat.le_succ k); (jss_cons (js_if (JW.jt (jw_or (jt_not (jt_val (j_isi (cs := "tuple") (by rfl) T.z_isinstance (by rfl) (j_var 0) (by rfl) T.z_tuple (by rfl) (by decide)))) (jw_or (jt_cmp o_gtA (j_callB c_lenA (by rfl) T.z_len PySem.boot_len (ja_cons (j_var 0) ja_nil)) (j_cI (by rfl) T.c_MOST_BYTES) (nomark _)) (jw_or1 (jt_not (jt_val (j_c C_is_bytes ht hr (by rfl) (ja_cons (j_var 0) ja_nil)))))))) (jss_one (js_raise rfl tk T.x_BadBytes (by rfl))) jss_nil)
    (jss_cons (js_set (i := 1) sc_read.nd rfl (by first | exact .inl rfl | exact .inr rfl) (j_slice (j_var 0) jo_none (jo_some (j_neg (j_cI (by rfl) T.c_SUM_BYTES)))))
    (jss_cons (js_if (jt_cmp (o_ne hr.units) (j_slice (j_var 0) (jo_some (j_neg (j_cI (by rfl) T.c_SUM_BYTES))) jo_none) (j_c C__sum_of ht hr (by rfl) (ja_cons (j_var 1) ja_nil)) (nomark _)) (jss_one (js_raise rfl tk T.x_BadBytes (by rfl))) jss_nil)
    (jss_cons (js_set (i := 2) sc_read.nd rfl (by first | exact .inl rfl | exact .inr rfl) (j_make I_Reader_init ht hr1 (by rfl) (ja_cons (j_var 1) ja_nil)))
    (jss_cons (js_set (i := 3) sc_read.nd rfl (by first | exact .inl rfl | exact .inr rfl) (j_methX M_Reader_value T.k_Reader tk ht hr (j_var 2) (ja_cons (j_cI (by rfl) T.c_MOST_NESTED) ja_nil)))
    (jss_cons (js_if (jt_not (jt_val (j_meth0 M_Reader_is_done T.k_Reader ht hr (j_var 2)))) (jss_one (js_raise rfl tk T.x_BadBytes (by rfl))) jss_nil)
    (jss_one (js_ret (j_var 3)))))))))) hw
theorem fn__can_stand (T : Facts K mg C_Reader C_BadBytes) {k : Nat} {f : Addr} {fd : FuncData} {tl : List Addr} {s__can_stand s_is_integer s__is_word : WSp} {sp : WSp} (F : Fun K "_can_stand" "_can_stand" st__can_stand f fd) {cT PT : Addr} (t1 : Tab1 base mg tl fd cT PT) (C__can_stand : Cal P w K mg base tl k "_can_stand" ["value", "levels"] s__can_stand) (C_is_integer : Cal P w K mg base tl k "is_integer" ["value", "least", "greatest"] s_is_integer) (C__is_word : Cal P w K mg base tl k "_is_word" ["value"] s__is_word)
    (hw : ∀ ts S Q E, ts.length = 2 → sp ts S Q E → b__can_stand C_Reader C_BadBytes s__can_stand s_is_integer s__is_word { nx := fun _ S' => Q .non S', rt := Q } (startT N__can_stand ts) S) :
    FnOk P w K mg base CX0 (k + 2) f fd ["value", "levels"] (Lsp tl K 2 sp) :=
  fnT F sc__can_stand (fun cdv A outer s H E hr1 hcd ht => have hr := Room.mono hr1 (Nat.le_succ k); (jss_cons (js_if (jt_val (j_isi (cs := "tuple") (by rfl) T.z_isinstance (by rfl) (j_var 0) (by rfl) T.z_tuple (by rfl) (by decide))) (jss_one (js_ret (j_and (j_cmp o_gtA (j_var 1) j_int (nomark _)) (j_one (j_all (own := [("item", 2)]) hr1 t1 hcd ht rfl sc__can_stand.nd (blkOk_by (N := N__can_stand) (sc := defScope st__can_stand) (by decide +kernel)) (by decide +kernel) (ji_any (j_var 0)) (fun _ => rfl) (fun _ _ _ _ _ _ _ hr => (jg_name (i := 2) (vs := [2]) sc__can_stand.nd rfl (by first | exact .inl rfl | exact .inr rfl) (by decide))) (fun _ _ _ _ _ _ _ hr => (j_c C__can_stand ht hr (by rfl) (ja_cons (j_var 2) (ja_cons (j_op o_sub (j_var 1) j_int) ja_nil)))) (by rfl) T.z_all))))) jss_nil)
    (jss_one (js_ret (j_or (j_cmp o_isN (j_var 0) j_non (nomark _)) (j_or (j_c C_is_integer ht hr (by rfl) (ja_cons (j_var 0) (ja_cons j_int (ja_cons (j_cI (by rfl) T.c_MOST_INTEGER) ja_nil)))) (j_one (j_c C__is_word ht hr (by rfl) (ja_cons (j_var 0) ja_nil))))))))) hw
theorem fn__is_word (T : Facts K mg C_Reader C_BadBytes) {k : Nat} {f : Addr} {fd : FuncData} {tl : List Addr}  {sp : WSp} (F : Fun K "_is_word" "_is_word" st__is_word f fd) {cT PT : Addr} (t1 : Tab1 base mg tl fd cT PT) 
    (hw : ∀ ts S Q E, ts.length = 1 → sp ts S Q E → b__is_word C_Reader C_BadBytes  { nx := fun _ S' => Q .non S', rt := Q } (startT N__is_word ts) S) :
    FnOk P w K mg base CX0 (k + 2) f fd ["value"] (Lsp tl K 1 sp) :=
  fnT F sc__is_word (fun cdv A outer s H E hr1 hcd ht => have hr := Room.mono hr1 (Nat.le_succ k); (jss_cons (js_if (JW.jt (jw_or (jt_not (jt_val (j_isi (cs := "str") (by rfl) T.z_isinstance (by rfl) (j_var 0) (by rfl) T.z_str (by rfl) (by decide)))) (jw_or1 (jt_not (jt_chain o_le o_le j_int (j_callB c_lenA (by rfl) T.z_len PySem.boot_len (ja_cons (j_var 0) ja_nil)) (j_cI (by rfl) T.c_MOST_WORD)))))) (jss_one (js_ret j_bl)) jss_nil)
    (jss_one (js_ret (j_all (own := [("letter", 1)]) hr1 t1 hcd ht rfl sc__is_word.nd (blkOk_by (N := N__is_word) (sc := defScope st__is_word) (by decide +kernel)) (by decide +kernel) (ji_any (j_var 0)) (fun _ => rfl) (fun _ _ _ _ _ _ _ hr => (jg_name (i := 1) (vs := [1]) sc__is_word.nd rfl (by first | exact .inl rfl | exact .inr rfl) (by decide))) (fun _ _ _ _ _ _ _ hr => (j_chain o_le o_le j_str (j_var 1) j_str)) (by rfl) T.z_all))))) hw
theorem fn__letter_of (T : Facts K mg C_Reader C_BadBytes) {k : Nat} {f : Addr} {fd : FuncData} {tl : List Addr}  {sp : WSp} (F : Fun K "_letter_of" "_letter_of" st__letter_of f fd) 
    (hw : ∀ ts S Q E, ts.length = 1 → sp ts S Q E → b__letter_of C_Reader C_BadBytes  (fun C _ S' => E C S') { nx := fun _ S' => Q .non S', rt := Q } (startT N__letter_of ts) S) :
    FnOk P w K mg base (L2.CX P w) (k + 1) f fd ["code"] (Lsp tl K 1 sp) :=
  fnTX F sc__letter_of (fun cdv A outer s H E EX hr hcd ht tk => (jss_cons (js_set (i := 1) sc__letter_of.nd rfl (by first | exact .inl rfl | exact .inr rfl) (j_op o_sub (j_var 0) (j_callB c_ord (by rfl) T.z_ord (by rfl) (ja_cons j_str ja_nil))))
    (jss_cons (js_if (jt_not (jt_chain o_le o_lt j_int (j_var 1) (j_callB c_lenA (by rfl) T.z_len PySem.boot_len (ja_cons (j_cS (by rfl) T.c_LETTERS) ja_nil)))) (jss_one (js_raise rfl tk T.x_BadBytes (by rfl))) jss_nil)
    (jss_one (js_ret (j_ixA (hu_of hr) (j_cS (by rfl) T.c_LETTERS) (j_var 1) (fun _ _ => rfl))))))) hw
theorem fn__put (T : Facts K mg C_Reader C_BadBytes) {k : Nat} {f : Addr} {fd : FuncData} {tl : List Addr} {s_is_integer s__put_number s__is_word s__put : WSp} {sp : WSp} (F : Fun K "_put" "_put" st__put f fd) (C_is_integer : Cal P w K mg base tl k "is_integer" ["value", "least", "greatest"] s_is_integer) (C__put_number : Cal P w K mg base tl k "_put_number" ["row", "number"] s__put_number) (C__is_word : Cal P w K mg base tl k "_is_word" ["value"] s__is_word) (C__put : Cal P w K mg base tl k "_put" ["row", "value", "levels"] s__put)
    (hw : ∀ ts S Q E, ts.length = 3 → sp ts S Q E → b__put C_Reader C_BadBytes s_is_integer s__put_number s__is_word s__put { nx := fun _ S' => Q .non S', rt := Q } (startT N__put ts) S) :
    FnOk P w K mg base CX0 (k + 1) f fd ["row", "value", "levels"] (Lsp tl K 3 sp) :=
  fnT F sc__put (fun cdv A outer s H E hr hcd ht => (jss_cons (js_if (jt_cmp o_isN (j_var 1) j_non (nomark _)) (jss_one (js_expr (j_mtL PySem.F.slot_list_append PySem.F.type_list_append m_append (j_var 0) (ja_cons (j_cI (by rfl) T.c_NONE) ja_nil)))) (jss_one (js_if (jt_val (j_c C_is_integer ht hr (by rfl) (ja_cons (j_var 1) (ja_cons j_int (ja_cons (j_cI (by rfl) T.c_MOST_INTEGER) ja_nil))))) (jss_cons (js_expr (j_mtL PySem.F.slot_list_append PySem.F.type_list_append m_append (j_var 0) (ja_cons (j_cI (by rfl) T.c_INTEGER) ja_nil)))
    (jss_one (js_expr (j_c C__put_number ht hr (by rfl) (ja_cons (j_var 0) (ja_cons (j_var 1) ja_nil)))))) (jss_one (js_if (jt_val (j_c C__is_word ht hr (by rfl) (ja_cons (j_var 1) ja_nil))) (jss_cons (js_expr (j_mtL PySem.F.slot_list_append PySem.F.type_list_append m_append (j_var 0) (ja_cons (j_cI (by rfl) T.c_WORD) ja_nil)))
    (jss_cons (js_expr (j_c C__put_number ht hr (by rfl) (ja_cons (j_var 0) (ja_cons (j_callB c_lenA (by rfl) T.z_len PySem.boot_len (ja_cons (j_var 1) ja_nil)) ja_nil))))
    (jss_one (js_expr (j_mtL PySem.F.slot_list_extend PySem.F.type_list_extend m_extend (j_var 0) (ja_cons (j_lc (own := [("letter", 3)]) rfl sc__put.nd (ji_any (j_var 1)) (blkOk_by (N := N__put) (sc := defScope st__put) (by decide +kernel)) (fun _ _ _ _ _ => (jg_name (i := 3) (vs := [3]) sc__put.nd rfl (by first | exact .inl rfl | exact .inr rfl) (by decide))) (fun _ _ _ _ _ => jts_nil) (fun _ _ _ _ _ => (j_callB c_ord (by rfl) T.z_ord (by rfl) (ja_cons (j_var 3) ja_nil)))) ja_nil)))))) (jss_one (js_if (JW.jt (jw_and (jt_val (j_isi (cs := "tuple") (by rfl) T.z_isinstance (by rfl) (j_var 1) (by rfl) T.z_tuple (by rfl) (by decide))) (jw_and1 (jt_cmp o_gtA (j_var 2) j_int (nomark _))))) (jss_cons (js_expr (j_mtL PySem.F.slot_list_append PySem.F.type_list_append m_append (j_var 0) (ja_cons (j_cI (by rfl) T.c_TUPLE) ja_nil)))
    (jss_cons (js_expr (j_c C__put_number ht hr (by rfl) (ja_cons (j_var 0) (ja_cons (j_callB c_lenA (by rfl) T.z_len PySem.boot_len (ja_cons (j_var 1) ja_nil)) ja_nil))))
    (jss_one (js_for PassesOwn.never rfl (ji_any (j_var 1)) (jg_name (i := 4) (vs := [4]) sc__put.nd rfl (by first | exact .inl rfl | exact .inr rfl) (by decide))
    (jss_one (js_expr (j_c C__put ht hr (by rfl) (ja_cons (j_var 0) (ja_cons (j_var 4) (ja_cons (j_op o_sub (j_var 2) j_int) ja_nil)))))))))) (jss_one js_never))))))))
    (jss_one (js_if (jt_cmp o_gtA (j_callB c_lenA (by rfl) T.z_len PySem.boot_len (ja_cons (j_var 0) ja_nil)) (j_op o_sub (j_cI (by rfl) T.c_MOST_BYTES) (j_cI (by rfl) T.c_SUM_BYTES)) (nomark _)) (jss_one js_never) jss_nil)))) hw
theorem fn__put_number (T : Facts K mg C_Reader C_BadBytes) {k : Nat} {f : Addr} {fd : FuncData} {tl : List Addr} {s__digits_of : WSp} {sp : WSp} (F : Fun K "_put_number" "_put_number" st__put_number f fd) (C__digits_of : Cal P w K mg base tl k "_digits_of" ["number"] s__digits_of)
    (hw : ∀ ts S Q E, ts.length = 2 → sp ts S Q E → b__put_number C_Reader C_BadBytes s__digits_of { nx := fun _ S' => Q .non S', rt := Q } (startT N__put_number ts) S) :
    FnOk P w K mg base CX0 (k + 1) f fd ["row", "number"] (Lsp tl K 2 sp) :=
  fnT F sc__put_number (fun cdv A outer s H E hr hcd ht => (jss_cons (js_set (i := 2) sc__put_number.nd rfl (by first | exact .inl rfl | exact .inr rfl) (j_c C__digits_of ht hr (by rfl) (ja_cons (j_var 1) ja_nil)))
    (jss_cons (js_expr (j_mtL PySem.F.slot_list_append PySem.F.type_list_append m_append (j_var 0) (ja_cons (j_callB c_lenA (by rfl) T.z_len PySem.boot_len (ja_cons (j_var 2) ja_nil)) ja_nil)))
    (jss_one (js_expr (j_mtL PySem.F.slot_list_extend PySem.F.type_list_extend m_extend (j_var 0) (ja_cons (j_var 2) ja_nil))))))) hw
theorem fn__digits_of (T : Facts K mg C_Reader C_BadBytes) {k : Nat} {f : Addr} {fd : FuncData} {tl : List Addr}  {sp : WSp} (F : Fun K "_digits_of" "_digits_of" st__digits_of f fd) 
    (hw : ∀ ts S Q E, ts.length = 1 → sp ts S Q E → b__digits_of C_Reader C_BadBytes  { nx := fun _ S' => Q .non S', rt := Q } (startT N__digits_of ts) S) :
    FnOk P w K mg base CX0 (k + 1) f fd ["number"] (Lsp tl K 1 sp) :=
  fnT F sc__digits_of (fun cdv A outer s H E hr hcd ht => (jss_cons (js_set (i := 1) sc__digits_of.nd rfl (by first | exact .inl rfl | exact .inr rfl) (j_lst ja_nil))
    (jss_cons (js_set (i := 2) sc__digits_of.nd rfl (by first | exact .inl rfl | exact .inr rfl) (j_var 0))
    (jss_cons (js_while PassesOwn.never (jt_cmp o_gtA (j_var 2) j_int (nomark _)) (jss_cons (js_expr (j_mtL PySem.F.slot_list_append PySem.F.type_list_append m_append (j_var 1) (ja_cons (j_op o_mod (j_var 2) j_int) ja_nil)))
    (jss_one (js_set (i := 2) sc__digits_of.nd rfl (by first | exact .inl rfl | exact .inr rfl) (j_op o_fdiv (j_var 2) j_int)))))
    (jss_cons (js_expr (j_mtL0 PySem.F.slot_list_reverse PySem.F.type_list_reverse m_reverse (j_var 1)))
    (jss_one (js_ret (j_var 1)))))))) hw
theorem fn__sum_of (T : Facts K mg C_Reader C_BadBytes) {k : Nat} {f : Addr} {fd : FuncData} {tl : List Addr}  {sp : WSp} (F : Fun K "_sum_of" "_sum_of" st__sum_of f fd) 
    (hw : ∀ ts S Q E, ts.length = 1 → sp ts S Q E → b__sum_of C_Reader C_BadBytes  { nx := fun _ S' => Q .non S', rt := Q } (startT N__sum_of ts) S) :
    FnOk P w K mg base CX0 (k + 1) f fd ["row"] (Lsp tl K 1 sp) :=
  fnT F sc__sum_of (fun cdv A outer s H E hr hcd ht => (jss_cons (js_set (i := 1) sc__sum_of.nd rfl (by first | exact .inl rfl | exact .inr rfl) (j_callB (c_sumI rfl) (by rfl) T.z_sum (by rfl) (ja_cons (j_lc (own := [("place", 2), ("byte", 3)]) rfl sc__sum_of.nd (ji_enu (by rfl) T.z_enumerate (j_var 0) j_int) (blkOk_by (N := N__sum_of) (sc := defScope st__sum_of) (by decide +kernel)) (fun _ _ _ _ _ => (jg_tup rfl (jgs_cons (jg_name (i := 2) (vs := [2, 3]) sc__sum_of.nd rfl (by first | exact .inl rfl | exact .inr rfl) (by decide)) (jgs_cons (jg_name (i := 3) (vs := [2, 3]) sc__sum_of.nd rfl (by first | exact .inl rfl | exact .inr rfl) (by decide)) jgs_nil)))) (fun _ _ _ _ _ => jts_nil) (fun _ _ _ _ _ => (j_op o_mul (j_var 2) (j_var 3)))) ja_nil)))
    (jss_one (js_ret (j_callB c_divmod (by rfl) T.z_divmod (by rfl) (ja_cons (j_op o_mod (j_var 1) (j_cI (by rfl) T.c_SUM_DIVISOR)) (ja_cons j_int ja_nil))))))) hw
theorem fn__law_bag (T : Facts K mg C_Reader C_BadBytes) {k : Nat} {f : Addr} {fd : FuncData} {tl : List Addr}  {sp : WSp} (F : Fun K "_law_bag" "_law_bag" st__law_bag f fd) 
    (hw : ∀ ts S Q E, ts.length = 2 → sp ts S Q E → b__law_bag C_Reader C_BadBytes  { nx := fun _ S' => Q .non S', rt := Q } (startT N__law_bag ts) S) :
    FnOk P w K mg base CX0 (k + 1) f fd ["script", "k"] (Lsp tl K 2 sp) :=
  fnT F sc__law_bag (fun cdv A outer s H E hr hcd ht => (jss_cons (js_set (i := 2) sc__law_bag.nd rfl (by first | exact .inl rfl | exact .inr rfl) j_int)
    (jss_cons (js_if (jt_cmp o_lt (j_var 1) (j_callB c_lenA (by rfl) T.z_len PySem.boot_len (ja_cons (j_var 0) ja_nil)) (nomark _)) (jss_one (js_set (i := 2) sc__law_bag.nd rfl (by first | exact .inl rfl | exact .inr rfl) (j_callTy c_int (by rfl) T.z_int (by rfl) (ja_cons (j_ixA (hu_of hr) (j_var 0) (j_var 1) (fun _ _ => rfl)) ja_nil)))) jss_nil)
    (jss_cons (js_if (jt_cmp o_ge (j_var 2) (j_op o_pow j_int j_int) (nomark _)) (jss_one (js_ret (j_lst (ja_cons (j_var 2) (ja_cons (j_var 2) (ja_cons (j_var 1) ja_nil)))))) jss_nil)
    (jss_one (js_ret (j_lst (ja_cons j_int (ja_cons (j_var 2) (ja_cons (j_var 1) ja_nil)))))))))) hw
theorem fn__law_draw (T : Facts K mg C_Reader C_BadBytes) {k : Nat} {f : Addr} {fd : FuncData} {tl : List Addr}  {sp : WSp} (F : Fun K "_law_draw" "_law_draw" st__law_draw f fd) 
    (hw : ∀ ts S Q E, ts.length = 2 → sp ts S Q E → b__law_draw C_Reader C_BadBytes  { nx := fun _ S' => Q .non S', rt := Q } (startT N__law_draw ts) S) :
    FnOk P w K mg base CX0 (k + 1) f fd ["bag", "many"] (Lsp tl K 2 sp) :=
  fnT F sc__law_draw (fun cdv A outer s H E hr hcd ht => (jss_cons (js_if (jt_cmp (o_eq hr.units) (j_ixA (hu_of hr) (j_var 0) j_int (fun _ _ => rfl)) j_int (nomark _)) (jss_cons (js_set (i := 2) sc__law_draw.nd rfl (by first | exact .inl rfl | exact .inr rfl) (j_op o_mod (j_callTy c_int (by rfl) T.z_int (by rfl) (ja_cons (j_op o_add (j_op o_add (j_op o_mul (j_ixA (hu_of hr) (j_var 0) j_int (fun _ _ => rfl)) j_int) (j_op o_mul (j_ixA (hu_of hr) (j_var 0) j_int (fun _ _ => rfl)) j_int)) j_int) ja_nil)) j_int))
    (jss_cons (js_asg (j_op o_add (j_op o_mul (j_var 2) j_int) (j_op o_mod (j_callTy c_int (by rfl) T.z_int (by rfl) (ja_cons (j_op o_add (j_op o_mul (j_var 2) (j_var 2)) (j_op o_mul (j_ixA (hu_of hr) (j_var 0) j_int (fun _ _ => rfl)) j_int)) ja_nil)) j_int)) (jg_ixA (hu_of hr) (j_var 0) j_int))
    (jss_one (js_asg (j_var 2) (jg_ixA (hu_of hr) (j_var 0) j_int))))) jss_nil)
    (jss_cons (js_set (i := 3) sc__law_draw.nd rfl (by first | exact .inl rfl | exact .inr rfl) (j_ixA (hu_of hr) (j_var 0) j_int (fun _ _ => rfl)))
    (jss_cons (js_asg (j_op o_fdiv (j_var 3) (j_var 1)) (jg_ixA (hu_of hr) (j_var 0) j_int))
    (jss_one (js_ret (j_op o_mod (j_callTy c_int (by rfl) T.z_int (by rfl) (ja_cons (j_var 3) ja_nil)) (j_var 1)))))))) hw
theorem fn__law_word (T : Facts K mg C_Reader C_BadBytes) {k : Nat} {f : Addr} {fd : FuncData} {tl : List Addr} {s__law_draw : WSp} {sp : WSp} (F : Fun K "_law_word" "_law_word" st__law_word f fd) (C__law_draw : Cal P w K mg base tl k "_law_draw" ["bag", "many"] s__law_draw)
    (hw : ∀ ts S Q E, ts.length = 1 → sp ts S Q E → b__law_word C_Reader C_BadBytes s__law_draw { nx := fun _ S' => Q .non S', rt := Q } (startT N__law_word ts) S) :
    FnOk P w K mg base CX0 (k + 1) f fd ["bag"] (Lsp tl K 1 sp) :=
  fnT F sc__law_word (fun cdv A outer s H E hr hcd ht => (jss_cons (js_set (i := 1) sc__law_word.nd rfl (by first | exact .inl rfl | exact .inr rfl) j_str)
    (jss_one (js_ret (j_join j_str (j_lc (own := [("k", 2)]) rfl sc__law_word.nd (ji_rg1 (by rfl) T.z_range (ja_cons (j_ixA (hu_of hr) (j_lst (ja_cons j_int (ja_cons j_int (ja_cons j_int (ja_cons j_int (ja_cons j_int (ja_cons j_int ja_nil))))))) (j_c C__law_draw ht hr (by rfl) (ja_cons (j_var 0) (ja_cons j_int ja_nil))) (fun _ _ => rfl)) ja_nil)) (blkOk_by (N := N__law_word) (sc := defScope st__law_word) (by decide +kernel)) (fun _ _ _ _ _ => (jg_name (i := 2) (vs := [2]) sc__law_word.nd rfl (by first | exact .inl rfl | exact .inr rfl) (by decide))) (fun _ _ _ _ _ => jts_nil) (fun _ _ _ _ _ => (j_ixA (hu_of hr) (j_var 1) (j_c C__law_draw ht hr (by rfl) (ja_cons (j_var 0) (ja_cons j_int ja_nil))) (fun _ _ => rfl))))))))) hw
theorem fn__law_number (T : Facts K mg C_Reader C_BadBytes) {k : Nat} {f : Addr} {fd : FuncData} {tl : List Addr} {s__law_draw : WSp} {sp : WSp} (F : Fun K "_law_number" "_law_number" st__law_number f fd) (C__law_draw : Cal P w K mg base tl k "_law_draw" ["bag", "many"] s__law_draw)
    (hw : ∀ ts S Q E, ts.length = 1 → sp ts S Q E → b__law_number C_Reader C_BadBytes s__law_draw { nx := fun _ S' => Q .non S', rt := Q } (startT N__law_number ts) S) :
    FnOk P w K mg base CX0 (k + 1) f fd ["bag"] (Lsp tl K 1 sp) :=
  fnT F sc__law_number (fun cdv A outer s H E hr hcd ht => (jss_cons (js_set (i := 1) sc__law_number.nd rfl (by first | exact .inl rfl | exact .inr rfl) (j_lst (ja_cons j_int (ja_cons j_int (ja_cons j_int (ja_cons j_int (ja_cons j_int (ja_cons j_int (ja_cons j_int (ja_cons j_int (ja_cons j_int (ja_cons j_int (ja_cons j_int (ja_cons j_int (ja_cons j_int ja_nil)))))))))))))))
    (jss_one (js_ret (j_ixA (hu_of hr) (j_lst (ja_cons (j_ixA (hu_of hr) (j_var 1) (j_c C__law_draw ht hr (by rfl) (ja_cons (j_var 0) (ja_cons j_int ja_nil))) (fun _ _ => rfl)) (ja_cons (j_c C__law_draw ht hr (by rfl) (ja_cons (j_var 0) (ja_cons j_int ja_nil))) (ja_cons (j_c C__law_draw ht hr (by rfl) (ja_cons (j_var 0) (ja_cons j_int ja_nil))) (ja_cons (j_c C__law_draw ht hr (by rfl) (ja_cons (j_var 0) (ja_cons j_int ja_nil))) ja_nil))))) (j_c C__law_draw ht hr (by rfl) (ja_cons (j_var 0) (ja_cons j_int ja_nil))) (fun _ _ => rfl)))))) hw
theorem fn__law_value (T : Facts K mg C_Reader C_BadBytes) {k : Nat} {f : Addr} {fd : FuncData} {tl : List Addr} {s__law_draw s__law_word s__law_number s__law_value : WSp} {sp : WSp} (F : Fun K "_law_value" "_law_value" st__law_value f fd) (C__law_draw : Cal P w K mg base tl k "_law_draw" ["bag", "many"] s__law_draw) (C__law_word : Cal P w K mg base tl k "_law_word" ["bag"] s__law_word) (C__law_number : Cal P w K mg base tl k "_law_number" ["bag"] s__law_number) (C__law_value : Cal P w K mg base tl k "_law_value" ["bag", "fuel", "deep"] s__law_value)
    (hw : ∀ ts S Q E, ts.length = 3 → sp ts S Q E → b__law_value C_Reader C_BadBytes s__law_draw s__law_word s__law_number s__law_value { nx := fun _ S' => Q .non S', rt := Q } (startT N__law_value ts) S) :
    FnOk P w K mg base CX0 (k + 1) f fd ["bag", "fuel", "deep"] (Lsp tl K 3 sp) :=
  fnT F sc__law_value (fun cdv A outer s H E hr hcd ht => (jss_cons (js_asg (j_op o_sub (j_ixA (hu_of hr) (j_var 1) j_int (fun _ _ => rfl)) j_int) (jg_ixA (hu_of hr) (j_var 1) j_int))
    (jss_cons (js_set (i := 3) sc__law_value.nd rfl (by first | exact .inl rfl | exact .inr rfl) (j_c C__law_draw ht hr (by rfl) (ja_cons (j_var 0) (ja_cons j_int ja_nil))))
    (jss_cons (js_if (jt_cmp (o_eq hr.units) (j_var 3) j_int (nomark _)) (jss_one (js_ret j_non)) jss_nil)
    (jss_cons (js_if (jt_cmp (o_eq hr.units) (j_var 3) j_int (nomark _)) (jss_one (js_ret (j_c C__law_word ht hr (by rfl) (ja_cons (j_var 0) ja_nil)))) jss_nil)
    (jss_cons (js_if (JW.jt (jw_or (jt_cmp o_lt (j_var 3) j_int (nomark _)) (jw_or (jt_cmp (o_eq hr.units) (j_var 2) j_int (nomark _)) (jw_or1 (jt_cmp o_le (j_ixA (hu_of hr) (j_var 1) j_int (fun _ _ => rfl)) j_int (nomark _)))))) (jss_one (js_ret (j_c C__law_number ht hr (by rfl) (ja_cons (j_var 0) ja_nil)))) jss_nil)
    (jss_one (js_ret (j_callTy c_tup (by rfl) T.z_tuple (by rfl) (ja_cons (j_lc (own := [("k", 4)]) rfl sc__law_value.nd (ji_rg1 (by rfl) T.z_range (ja_cons (j_c C__law_draw ht hr (by rfl) (ja_cons (j_var 0) (ja_cons j_int ja_nil))) ja_nil)) (blkOk_by (N := N__law_value) (sc := defScope st__law_value) (by decide +kernel)) (fun _ _ _ _ _ => (jg_name (i := 4) (vs := [4]) sc__law_value.nd rfl (by first | exact .inl rfl | exact .inr rfl) (by decide))) (fun _ _ _ _ _ => jts_nil) (fun _ _ _ _ _ => (j_c C__law_value ht hr (by rfl) (ja_cons (j_var 0) (ja_cons (j_var 1) (ja_cons (j_op o_sub (j_var 2) j_int) ja_nil)))))) ja_nil)))))))))) hw
theorem fn__law_summed (T : Facts K mg C_Reader C_BadBytes) {k : Nat} {f : Addr} {fd : FuncData} {tl : List Addr}  {sp : WSp} (F : Fun K "_law_summed" "_law_summed" st__law_summed f fd) 
    (hw : ∀ ts S Q E, ts.length = 1 → sp ts S Q E → b__law_summed C_Reader C_BadBytes  { nx := fun _ S' => Q .non S', rt := Q } (startT N__law_summed ts) S) :
    FnOk P w K mg base CX0 (k + 1) f fd ["row"] (Lsp tl K 1 sp) :=
  fnT F sc__law_summed (fun cdv A outer s H E hr hcd ht => (jss_cons (js_set (i := 1) sc__law_summed.nd rfl (by first | exact .inl rfl | exact .inr rfl) j_int)
    (jss_cons (js_set (i := 2) sc__law_summed.nd rfl (by first | exact .inl rfl | exact .inr rfl) j_int)
    (jss_cons (js_for PassesOwn.never rfl (ji_rg1 (by rfl) T.z_range (ja_cons (j_callB c_lenA (by rfl) T.z_len PySem.boot_len (ja_cons (j_var 0) ja_nil)) ja_nil)) (jg_name (i := 3) (vs := [3]) sc__law_summed.nd rfl (by first | exact .inl rfl | exact .inr rfl) (by decide))
    (jss_cons (js_set (i := 2) sc__law_summed.nd rfl (by first | exact .inl rfl | exact .inr rfl) (j_op o_add (j_var 2) (j_ixA (hu_of hr) (j_var 0) (j_op o_sub (j_op o_sub (j_callB c_lenA (by rfl) T.z_len PySem.boot_len (ja_cons (j_var 0) ja_nil)) j_int) (j_var 3)) (fun _ _ => rfl))))
    (jss_one (js_set (i := 1) sc__law_summed.nd rfl (by first | exact .inl rfl | exact .inr rfl) (j_op o_add (j_var 1) (j_var 2))))))
    (jss_cons (js_set (i := 4) sc__law_summed.nd rfl (by first | exact .inl rfl | exact .inr rfl) (j_op o_mod (j_callTy c_int (by rfl) T.z_int (by rfl) (ja_cons (j_var 1) ja_nil)) j_int))
    (jss_one (js_ret (j_op o_add (j_var 0) (j_lst (ja_cons (j_op o_fdiv (j_var 4) j_int) (ja_cons (j_op o_mod (j_callTy c_int (by rfl) T.z_int (by rfl) (ja_cons (j_var 4) ja_nil)) j_int) ja_nil))))))))))) hw
theorem fn__law_told (T : Facts K mg C_Reader C_BadBytes) {k : Nat} {f : Addr} {fd : FuncData} {tl : List Addr} {s_read : WSp} {sp : WSp} (F : Fun K "_law_told" "_law_told" st__law_told f fd) (C_read : CalX P w K mg base tl k "read" ["row"] s_read)
    (hw : ∀ ts S Q E, ts.length = 1 → sp ts S Q E → b__law_told C_Reader C_BadBytes s_read { nx := fun _ S' => Q .non S', rt := Q } (startT N__law_told ts) S) :
    FnOk P w K mg base CX0 (k + 1) f fd ["row"] (Lsp tl K 1 sp) :=
  fnT F sc__law_told (fun cdv A outer s H E hr hcd ht => (jss_one (js_try rfl rfl T.x_BadBytes (by rfl) (fun B1 EX pn xe eb tk hp => by have ht := fun P hP => eb.tabs P (ht P hP); exact (jss_one (js_ret (j_lst (ja_cons (j_callX C_read tk ht hr (by rfl) (ja_cons (j_var 0) ja_nil)) ja_nil))))) (fun B1 a1 pn eb => (jss_one (js_ret (j_lst ja_nil))))))) hw
theorem fn__law_turned (T : Facts K mg C_Reader C_BadBytes) {k : Nat} {f : Addr} {fd : FuncData} {tl : List Addr} {s__law_draw : WSp} {sp : WSp} (F : Fun K "_law_turned" "_law_turned" st__law_turned f fd) (C__law_draw : Cal P w K mg base tl k "_law_draw" ["bag", "many"] s__law_draw)
    (hw : ∀ ts S Q E, ts.length = 2 → sp ts S Q E → b__law_turned C_Reader C_BadBytes s__law_draw { nx := fun _ S' => Q .non S', rt := Q } (startT N__law_turned ts) S) :
    FnOk P w K mg base CX0 (k + 1) f fd ["bag", "row"] (Lsp tl K 2 sp) :=
  fnT F sc__law_turned (fun cdv A outer s H E hr hcd ht => (jss_cons (js_if (jt_cmp (o_eq hr.units) (j_c C__law_draw ht hr (by rfl) (ja_cons (j_var 0) (ja_cons j_int ja_nil))) j_int (nomark _)) (jss_one (js_ret (j_lc (own := [("k", 2)]) rfl sc__law_turned.nd (ji_rg1 (by rfl) T.z_range (ja_cons (j_op o_add j_int (j_c C__law_draw ht hr (by rfl) (ja_cons (j_var 0) (ja_cons j_int ja_nil)))) ja_nil)) (blkOk_by (N := N__law_turned) (sc := defScope st__law_turned) (by decide +kernel)) (fun _ _ _ _ _ => (jg_name (i := 2) (vs := [2]) sc__law_turned.nd rfl (by first | exact .inl rfl | exact .inr rfl) (by decide))) (fun _ _ _ _ _ => jts_nil) (fun _ _ _ _ _ => (j_ixA (hu_of hr) (j_lst (ja_cons j_int (ja_cons j_int (ja_cons j_int (ja_cons j_int (ja_cons j_int (ja_cons (j_c C__law_draw ht hr (by rfl) (ja_cons (j_var 0) (ja_cons j_int ja_nil))) ja_nil))))))) (j_c C__law_draw ht hr (by rfl) (ja_cons (j_var 0) (ja_cons j_int ja_nil))) (fun _ _ => rfl)))))) jss_nil)
    (jss_cons (js_for PassesOwn.never rfl (ji_rg1 (by rfl) T.z_range (ja_cons (j_op o_add j_int (j_c C__law_draw ht hr (by rfl) (ja_cons (j_var 0) (ja_cons j_int ja_nil)))) ja_nil)) (jg_name (i := 2) (vs := [2]) sc__law_turned.nd rfl (by first | exact .inl rfl | exact .inr rfl) (by decide))
    (jss_cons (js_set (i := 3) sc__law_turned.nd rfl (by first | exact .inl rfl | exact .inr rfl) (j_c C__law_draw ht hr (by rfl) (ja_cons (j_var 0) (ja_cons (j_op o_add (j_callB c_lenA (by rfl) T.z_len PySem.boot_len (ja_cons (j_var 1) ja_nil)) j_int) ja_nil))))
    (jss_cons (js_set (i := 4) sc__law_turned.nd rfl (by first | exact .inl rfl | exact .inr rfl) (j_ixA (hu_of hr) (j_lst (ja_cons j_int (ja_cons j_int (ja_cons j_int (ja_cons j_int (ja_cons j_int (ja_cons j_int (ja_cons j_int (ja_cons j_int (ja_cons j_int (ja_cons (j_c C__law_draw ht hr (by rfl) (ja_cons (j_var 0) (ja_cons j_int ja_nil))) ja_nil))))))))))) (j_c C__law_draw ht hr (by rfl) (ja_cons (j_var 0) (ja_cons j_int ja_nil))) (fun _ _ => rfl)))
    (jss_one (js_set (i := 1) sc__law_turned.nd rfl (by first | exact .inl rfl | exact .inr rfl) (j_ixA (hu_of hr) (j_lst (ja_cons (j_op o_add (j_slice (j_var 1) jo_none (jo_some (j_var 3))) (j_slice (j_var 1) (jo_some (j_op o_add (j_var 3) j_int)) jo_none)) (ja_cons (j_op o_add (j_op o_add (j_slice (j_var 1) jo_none (jo_some (j_var 3))) (j_lst (ja_cons (j_var 4) ja_nil))) (j_slice (j_var 1) (jo_some (j_var 3)) jo_none)) (ja_cons (j_op o_add (j_op o_add (j_slice (j_var 1) jo_none (jo_some (j_var 3))) (j_lst (ja_cons (j_var 4) ja_nil))) (j_slice (j_var 1) (jo_some (j_op o_add (j_var 3) j_int)) jo_none)) ja_nil)))) (j_c C__law_draw ht hr (by rfl) (ja_cons (j_var 0) (ja_cons j_int ja_nil))) (fun _ _ => rfl)))))))
    (jss_one (js_ret (j_var 1)))))) hw
theorem fn__law_right (T : Facts K mg C_Reader C_BadBytes) {k : Nat} {f : Addr} {fd : FuncData} {tl : List Addr} {s__law_summed s__law_told s_can_be_written s_write : WSp} {sp : WSp} (F : Fun K "_law_right" "_law_right" st__law_right f fd) (C__law_summed : Cal P w K mg base tl k "_law_summed" ["row"] s__law_summed) (C__law_told : Cal P w K mg base tl k "_law_told" ["row"] s__law_told) (C_can_be_written : Cal P w K mg base tl k "can_be_written" ["value"] s_can_be_written) (C_write : Cal P w K mg base tl k "write" ["value"] s_write)
    (hw : ∀ ts S Q E, ts.length = 1 → sp ts S Q E → b__law_right C_Reader C_BadBytes s__law_summed s__law_told s_can_be_written s_write { nx := fun _ S' => Q .non S', rt := Q } (startT N__law_right ts) S) :
    FnOk P w K mg base CX0 (k + 1) f fd ["row"] (Lsp tl K 1 sp) :=
  fnT F sc__law_right (fun cdv A outer s H E hr hcd ht => (jss_cons (js_set (i := 0) sc__law_right.nd rfl (by first | exact .inl rfl | exact .inr rfl) (j_callTy c_tup (by rfl) T.z_tuple (by rfl) (ja_cons (j_c C__law_summed ht hr (by rfl) (ja_cons (j_var 0) ja_nil)) ja_nil)))
    (jss_cons (js_set (i := 1) sc__law_right.nd rfl (by first | exact .inl rfl | exact .inr rfl) (j_c C__law_told ht hr (by rfl) (ja_cons (j_var 0) ja_nil)))
    (jss_cons (js_if (jt_cmp (o_eq hr.units) (j_callB c_lenA (by rfl) T.z_len PySem.boot_len (ja_cons (j_var 1) ja_nil)) j_int (nomark _)) (jss_one (js_ret j_bl)) jss_nil)
    (jss_one (js_ret (j_and (j_cmp o_isB (j_c C_can_be_written ht hr (by rfl) (ja_cons (j_ixA (hu_of hr) (j_var 1) j_int (fun _ _ => rfl)) ja_nil)) j_bl (nomark _)) (j_one (j_cmp (o_eq hr.units) (j_c C_write ht hr (by rfl) (ja_cons (j_ixA (hu_of hr) (j_var 1) j_int (fun _ _ => rfl)) ja_nil)) (j_var 0) (nomark _)))))))))) hw
theorem fn_law (T : Facts K mg C_Reader C_BadBytes) {k : Nat} {f : Addr} {fd : FuncData} {tl : List Addr} {s__law_bag s_write s__law_value s__law_draw s__law_right s__law_turned s__law_told s__law_summed : WSp} {sp : WSp} (F : Fun K "law" "law" st_law f fd) (C__law_bag : Cal P w K mg base tl k "_law_bag" ["script", "k"] s__law_bag) (C_write : Cal P w K mg base tl k "write" ["value"] s_write) (C__law_value : Cal P w K mg base tl k "_law_value" ["bag", "fuel", "deep"] s__law_value) (C__law_draw : Cal P w K mg base tl k "_law_draw" ["bag", "many"] s__law_draw) (C__law_right : Cal P w K mg base tl k "_law_right" ["row"] s__law_right) (C__law_turned : Cal P w K mg base tl k "_law_turned" ["bag", "row"] s__law_turned) (C__law_told : Cal P w K mg base tl k "_law_told" ["row"] s__law_told) (C__law_summed : Cal P w K mg base tl k "_law_summed" ["row"] s__law_summed)
    (hw : ∀ ts S Q E, ts.length = 1 → sp ts S Q E → b_law C_Reader C_BadBytes s__law_bag s_write s__law_value s__law_draw s__law_right s__law_turned s__law_told s__law_summed { nx := fun _ S' => Q .non S', rt := Q } (startT N_law ts) S) :
    FnOk P w K mg base CX0 (k + 1) f fd ["script"] (Lsp tl K 1 sp) :=
  fnT F sc_law (fun cdv A outer s H E hr hcd ht => (jss_cons (js_for PassesOwn.never rfl (ji_rg1 (by rfl) T.z_range (ja_cons (j_callB (c_max2 rfl) (by rfl) T.z_max (by rfl) (ja_cons j_int (ja_cons (j_callB (c_min2 rfl) (by rfl) T.z_min (by rfl) (ja_cons j_int (ja_cons (j_callB c_lenA (by rfl) T.z_len PySem.boot_len (ja_cons (j_var 0) ja_nil)) ja_nil))) ja_nil))) ja_nil)) (jg_name (i := 1) (vs := [1]) sc_law.nd rfl (by first | exact .inl rfl | exact .inr rfl) (by decide))
    (jss_cons (js_set (i := 2) sc_law.nd rfl (by first | exact .inl rfl | exact .inr rfl) (j_c C__law_bag ht hr (by rfl) (ja_cons (j_var 0) (ja_cons (j_var 1) ja_nil))))
    (jss_cons (js_set (i := 3) sc_law.nd rfl (by first | exact .inl rfl | exact .inr rfl) (j_slice (j_callTy c_list (by rfl) T.z_list (by rfl) (ja_cons (j_c C_write ht hr (by rfl) (ja_cons (j_c C__law_value ht hr (by rfl) (ja_cons (j_var 2) (ja_cons (j_lst (ja_cons j_int ja_nil)) (ja_cons (j_c C__law_draw ht hr (by rfl) (ja_cons (j_var 2) (ja_cons j_int ja_nil))) ja_nil)))) ja_nil)) ja_nil)) jo_none (jo_some (j_neg j_int))))
    (jss_cons (js_for PassesOwn.never rfl (ji_rg1 (by rfl) T.z_range (ja_cons j_int ja_nil)) (jg_name (i := 4) (vs := [4]) sc_law.nd rfl (by first | exact .inl rfl | exact .inr rfl) (by decide))
    (jss_one (js_if (jt_not (jt_val (j_c C__law_right ht hr (by rfl) (ja_cons (j_c C__law_turned ht hr (by rfl) (ja_cons (j_var 2) (ja_cons (j_var 3) ja_nil))) ja_nil)))) (jss_one (js_ret j_bl)) jss_nil)))
    (jss_cons (js_set (i := 5) sc_law.nd rfl (by first | exact .inl rfl | exact .inr rfl) (j_op o_add j_int (j_c C__law_draw ht hr (by rfl) (ja_cons (j_var 2) (ja_cons j_int ja_nil)))))
    (jss_cons (js_set (i := 6) sc_law.nd rfl (by first | exact .inl rfl | exact .inr rfl) (j_op o_add (j_op o_mulB (j_lst (ja_cons j_int (ja_cons j_int (ja_cons j_int ja_nil)))) (j_op o_sub (j_var 5) j_int)) (j_lst (ja_cons j_int (ja_cons j_int ja_nil)))))
    (jss_one (js_if (JW.jt (jw_or (jt_not (jt_val (j_c C__law_right ht hr (by rfl) (ja_cons (j_var 6) ja_nil)))) (jw_or1 (jt_cmp (o_ne hr.units) (j_callB c_lenA (by rfl) T.z_len PySem.boot_len (ja_cons (j_c C__law_told ht hr (by rfl) (ja_cons (j_callTy c_tup (by rfl) T.z_tuple (by rfl) (ja_cons (j_c C__law_summed ht hr (by rfl) (ja_cons (j_var 6) ja_nil)) ja_nil)) ja_nil)) ja_nil)) (j_callTy c_int (by rfl) T.z_int (by rfl) (ja_cons (j_cmp o_le (j_var 5) j_int (nomark _)) ja_nil)) (nomark _))))) (jss_one (js_ret j_bl)) jss_nil))))))))
    (jss_one (js_ret j_bl)))) hw
end
set_option maxHeartbeats 0 in
theorem facts_mk {K : PySem.W.Frag} {h : Heap} {mg : Str → Option Value} (X : K.In h) (G : h.Ns mainGlobals mg)
    {C_Reader : Addr} (aC_Reader : PySem.W.nsIn K mainGlobals "Reader" = some (some (.ref C_Reader))) (pg_Reader : PySem.W.plainGet K C_Reader Str.empty = true) (hd_Reader : PySem.W.hasDictIn K C_Reader = true) (po_Reader : PySem.W.plainOver K C_Reader = true) (sa_Reader : PySem.W.findIn K (.ref C_Reader) "__setattr__" = some (some (.builtin "object.__setattr__"))) (mk_Reader : PySem.W.makesIn K C_Reader = true) (kc_Reader : PySem.W.keepIn K (.ref C_Reader) = true)
    {C_BadBytes : Addr} (eg_BadBytes : PySem.W.nsIn K mainGlobals "BadBytes" = some (some (.ref C_BadBytes))) (xx_BadBytes : PySem.W.excIn K C_BadBytes [.type "ValueError", .type "Exception", .type "BaseException", .type "object"] "ValueError.__new__" = true) (ek_BadBytes : PySem.W.keepIn K (.ref C_BadBytes) = true) (eb_BadBytes : PySem.W.subIn K (.ref C_BadBytes) (.type "BaseException") = some true) (et_BadBytes : PySem.W.typeIn K (.ref C_BadBytes) = some (.type "type")) (ei_BadBytes : PySem.W.isClsIn K C_BadBytes = true) (ss_BadBytes : PySem.W.subIn K (.ref C_BadBytes) (.ref C_BadBytes) = some true)
    (nA_Reader_place : PySem.W.findIn K (.ref C_Reader) "place" = some none)
    (nA_Reader_row : PySem.W.findIn K (.ref C_Reader) "row" = some none)
    {f0 : Addr} {od0 an0 : Option Addr} {sl0 : Array (Option Value)} {oc0 kV0 dc0 pm0 cd0 ct0 : Value}
    (a0 : PySem.W.findIn K (.ref C_Reader) "__init__" = some (some (.ref f0))) (i0 : PySem.W.isFn K (.ref f0) = true) (l0 : K.lookup f0 = some ⟨oc0, od0, .func (PySem.W.fnOf "__init__" "Reader.__init__" (defArgs st_Reader_init) (defBody st_Reader_init) (defScope st_Reader_init) .none kV0 dc0 pm0 an0 cd0 ct0), sl0⟩) (c0 : PySem.W.codeIn K cd0 "Reader.__init__" = true) (k0 : PySem.W.keepIn K (.ref f0) = true)
    {f1 : Addr} {od1 an1 : Option Addr} {sl1 : Array (Option Value)} {oc1 kV1 dc1 pm1 cd1 ct1 : Value}
    (a1 : PySem.W.findIn K (.ref C_Reader) "is_done" = some (some (.ref f1))) (i1 : PySem.W.isFn K (.ref f1) = true) (l1 : K.lookup f1 = some ⟨oc1, od1, .func (PySem.W.fnOf "is_done" "Reader.is_done" (defArgs st_Reader_is_done) (defBody st_Reader_is_done) (defScope st_Reader_is_done) .none kV1 dc1 pm1 an1 cd1 ct1), sl1⟩) (c1 : PySem.W.codeIn K cd1 "Reader.is_done" = true) (k1 : PySem.W.keepIn K (.ref f1) = true)
    {f2 : Addr} {od2 an2 : Option Addr} {sl2 : Array (Option Value)} {oc2 kV2 dc2 pm2 cd2 ct2 : Value}
    (a2 : PySem.W.findIn K (.ref C_Reader) "value" = some (some (.ref f2))) (i2 : PySem.W.isFn K (.ref f2) = true) (l2 : K.lookup f2 = some ⟨oc2, od2, .func (PySem.W.fnOf "value" "Reader.value" (defArgs st_Reader_value) (defBody st_Reader_value) (defScope st_Reader_value) .none kV2 dc2 pm2 an2 cd2 ct2), sl2⟩) (c2 : PySem.W.codeIn K cd2 "Reader.value" = true) (k2 : PySem.W.keepIn K (.ref f2) = true)
    {f3 : Addr} {od3 an3 : Option Addr} {sl3 : Array (Option Value)} {oc3 kV3 dc3 pm3 cd3 ct3 : Value}
    (a3 : PySem.W.findIn K (.ref C_Reader) "inner" = some (some (.ref f3))) (i3 : PySem.W.isFn K (.ref f3) = true) (l3 : K.lookup f3 = some ⟨oc3, od3, .func (PySem.W.fnOf "inner" "Reader.inner" (defArgs st_Reader_inner) (defBody st_Reader_inner) (defScope st_Reader_inner) .none kV3 dc3 pm3 an3 cd3 ct3), sl3⟩) (c3 : PySem.W.codeIn K cd3 "Reader.inner" = true) (k3 : PySem.W.keepIn K (.ref f3) = true)
    {f4 : Addr} {od4 an4 : Option Addr} {sl4 : Array (Option Value)} {oc4 kV4 dc4 pm4 cd4 ct4 : Value}
    (a4 : PySem.W.findIn K (.ref C_Reader) "word" = some (some (.ref f4))) (i4 : PySem.W.isFn K (.ref f4) = true) (l4 : K.lookup f4 = some ⟨oc4, od4, .func (PySem.W.fnOf "word" "Reader.word" (defArgs st_Reader_word) (defBody st_Reader_word) (defScope st_Reader_word) .none kV4 dc4 pm4 an4 cd4 ct4), sl4⟩) (c4 : PySem.W.codeIn K cd4 "Reader.word" = true) (k4 : PySem.W.keepIn K (.ref f4) = true)
    {f5 : Addr} {od5 an5 : Option Addr} {sl5 : Array (Option Value)} {oc5 kV5 dc5 pm5 cd5 ct5 : Value}
    (a5 : PySem.W.findIn K (.ref C_Reader) "number" = some (some (.ref f5))) (i5 : PySem.W.isFn K (.ref f5) = true) (l5 : K.lookup f5 = some ⟨oc5, od5, .func (PySem.W.fnOf "number" "Reader.number" (defArgs st_Reader_number) (defBody st_Reader_number) (defScope st_Reader_number) .none kV5 dc5 pm5 an5 cd5 ct5), sl5⟩) (c5 : PySem.W.codeIn K cd5 "Reader.number" = true) (k5 : PySem.W.keepIn K (.ref f5) = true)
    {f6 : Addr} {od6 an6 : Option Addr} {sl6 : Array (Option Value)} {oc6 kV6 dc6 pm6 cd6 ct6 : Value}
    (a6 : PySem.W.findIn K (.ref C_Reader) "byte" = some (some (.ref f6))) (i6 : PySem.W.isFn K (.ref f6) = true) (l6 : K.lookup f6 = some ⟨oc6, od6, .func (PySem.W.fnOf "byte" "Reader.byte" (defArgs st_Reader_byte) (defBody st_Reader_byte) (defScope st_Reader_byte) .none kV6 dc6 pm6 an6 cd6 ct6), sl6⟩) (c6 : PySem.W.codeIn K cd6 "Reader.byte" = true) (k6 : PySem.W.keepIn K (.ref f6) = true)
    {f7 : Addr} {od7 an7 : Option Addr} {sl7 : Array (Option Value)} {oc7 kV7 dc7 pm7 cd7 ct7 : Value}
    (a7 : PySem.W.findIn K (.ref C_Reader) "part" = some (some (.ref f7))) (i7 : PySem.W.isFn K (.ref f7) = true) (l7 : K.lookup f7 = some ⟨oc7, od7, .func (PySem.W.fnOf "part" "Reader.part" (defArgs st_Reader_part) (defBody st_Reader_part) (defScope st_Reader_part) .none kV7 dc7 pm7 an7 cd7 ct7), sl7⟩) (c7 : PySem.W.codeIn K cd7 "Reader.part" = true) (k7 : PySem.W.keepIn K (.ref f7) = true)
    {f8 : Addr} {od8 an8 : Option Addr} {sl8 : Array (Option Value)} {oc8 kV8 dc8 pm8 cd8 ct8 : Value}
    (a8 : PySem.W.nsIn K mainGlobals "is_integer" = some (some (.ref f8))) (l8 : K.lookup f8 = some ⟨oc8, od8, .func (PySem.W.fnOf "is_integer" "is_integer" (defArgs st_is_integer) (defBody st_is_integer) (defScope st_is_integer) .none kV8 dc8 pm8 an8 cd8 ct8), sl8⟩) (c8 : PySem.W.codeIn K cd8 "is_integer" = true) (k8 : PySem.W.keepIn K (.ref f8) = true)
    {f9 : Addr} {od9 an9 : Option Addr} {sl9 : Array (Option Value)} {oc9 kV9 dc9 pm9 cd9 ct9 : Value}
    (a9 : PySem.W.nsIn K mainGlobals "is_bytes" = some (some (.ref f9))) (l9 : K.lookup f9 = some ⟨oc9, od9, .func (PySem.W.fnOf "is_bytes" "is_bytes" (defArgs st_is_bytes) (defBody st_is_bytes) (defScope st_is_bytes) .none kV9 dc9 pm9 an9 cd9 ct9), sl9⟩) (c9 : PySem.W.codeIn K cd9 "is_bytes" = true) (k9 : PySem.W.keepIn K (.ref f9) = true)
    {cc9 PP9 : Addr} {te9 : Value} {td9 : Option Addr} {tv9 : Array Value} {ts9 : Array (Option Value)} (x9 : cd9 = .ref cc9) (y9 : K.lookup cc9 = some ⟨te9, td9, .fields tv9, ts9⟩) (u9 : tv9[11]? = some (.ref PP9)) (v9 : (K.lookup PP9).isNone = true)
    {f10 : Addr} {od10 an10 : Option Addr} {sl10 : Array (Option Value)} {oc10 kV10 dc10 pm10 cd10 ct10 : Value}
    (a10 : PySem.W.nsIn K mainGlobals "can_be_written" = some (some (.ref f10))) (l10 : K.lookup f10 = some ⟨oc10, od10, .func (PySem.W.fnOf "can_be_written" "can_be_written" (defArgs st_can_be_written) (defBody st_can_be_written) (defScope st_can_be_written) .none kV10 dc10 pm10 an10 cd10 ct10), sl10⟩) (c10 : PySem.W.codeIn K cd10 "can_be_written" = true) (k10 : PySem.W.keepIn K (.ref f10) = true)
    {f11 : Addr} {od11 an11 : Option Addr} {sl11 : Array (Option Value)} {oc11 kV11 dc11 pm11 cd11 ct11 : Value}
    (a11 : PySem.W.nsIn K mainGlobals "write" = some (some (.ref f11))) (l11 : K.lookup f11 = some ⟨oc11, od11, .func (PySem.W.fnOf "write" "write" (defArgs st_write) (defBody st_write) (defScope st_write) .none kV11 dc11 pm11 an11 cd11 ct11), sl11⟩) (c11 : PySem.W.codeIn K cd11 "write" = true) (k11 : PySem.W.keepIn K (.ref f11) = true)
    {f12 : Addr} {od12 an12 : Option Addr} {sl12 : Array (Option Value)} {oc12 kV12 dc12 pm12 cd12 ct12 : Value}
    (a12 : PySem.W.nsIn K mainGlobals "read" = some (some (.ref f12))) (l12 : K.lookup f12 = some ⟨oc12, od12, .func (PySem.W.fnOf "read" "read" (defArgs st_read) (defBody st_read) (defScope st_read) .none kV12 dc12 pm12 an12 cd12 ct12), sl12⟩) (c12 : PySem.W.codeIn K cd12 "read" = true) (k12 : PySem.W.keepIn K (.ref f12) = true)
    {f13 : Addr} {od13 an13 : Option Addr} {sl13 : Array (Option Value)} {oc13 kV13 dc13 pm13 cd13 ct13 : Value}
    (a13 : PySem.W.nsIn K mainGlobals "_can_stand" = some (some (.ref f13))) (l13 : K.lookup f13 = some ⟨oc13, od13, .func (PySem.W.fnOf "_can_stand" "_can_stand" (defArgs st__can_stand) (defBody st__can_stand) (defScope st__can_stand) .none kV13 dc13 pm13 an13 cd13 ct13), sl13⟩) (c13 : PySem.W.codeIn K cd13 "_can_stand" = true) (k13 : PySem.W.keepIn K (.ref f13) = true)
    {cc13 PP13 : Addr} {te13 : Value} {td13 : Option Addr} {tv13 : Array Value} {ts13 : Array (Option Value)} (x13 : cd13 = .ref cc13) (y13 : K.lookup cc13 = some ⟨te13, td13, .fields tv13, ts13⟩) (u13 : tv13[11]? = some (.ref PP13)) (v13 : (K.lookup PP13).isNone = true)
    {f14 : Addr} {od14 an14 : Option Addr} {sl14 : Array (Option Value)} {oc14 kV14 dc14 pm14 cd14 ct14 : Value}
    (a14 : PySem.W.nsIn K mainGlobals "_is_word" = some (some (.ref f14))) (l14 : K.lookup f14 = some ⟨oc14, od14, .func (PySem.W.fnOf "_is_word" "_is_word" (defArgs st__is_word) (defBody st__is_word) (defScope st__is_word) .none kV14 dc14 pm14 an14 cd14 ct14), sl14⟩) (c14 : PySem.W.codeIn K cd14 "_is_word" = true) (k14 : PySem.W.keepIn K (.ref f14) = true)
    {cc14 PP14 : Addr} {te14 : Value} {td14 : Option Addr} {tv14 : Array Value} {ts14 : Array (Option Value)} (x14 : cd14 = .ref cc14) (y14 : K.lookup cc14 = some ⟨te14, td14, .fields tv14, ts14⟩) (u14 : tv14[11]? = some (.ref PP14)) (v14 : (K.lookup PP14).isNone = true)
    {f15 : Addr} {od15 an15 : Option Addr} {sl15 : Array (Option Value)} {oc15 kV15 dc15 pm15 cd15 ct15 : Value}
    (a15 : PySem.W.nsIn K mainGlobals "_letter_of" = some (some (.ref f15))) (l15 : K.lookup f15 = some ⟨oc15, od15, .func (PySem.W.fnOf "_letter_of" "_letter_of" (defArgs st__letter_of) (defBody st__letter_of) (defScope st__letter_of) .none kV15 dc15 pm15 an15 cd15 ct15), sl15⟩) (c15 : PySem.W.codeIn K cd15 "_letter_of" = true) (k15 : PySem.W.keepIn K (.ref f15) = true)
    {f16 : Addr} {od16 an16 : Option Addr} {sl16 : Array (Option Value)} {oc16 kV16 dc16 pm16 cd16 ct16 : Value}
    (a16 : PySem.W.nsIn K mainGlobals "_put" = some (some (.ref f16))) (l16 : K.lookup f16 = some ⟨oc16, od16, .func (PySem.W.fnOf "_put" "_put" (defArgs st__put) (defBody st__put) (defScope st__put) .none kV16 dc16 pm16 an16 cd16 ct16), sl16⟩) (c16 : PySem.W.codeIn K cd16 "_put" = true) (k16 : PySem.W.keepIn K (.ref f16) = true)
    {f17 : Addr} {od17 an17 : Option Addr} {sl17 : Array (Option Value)} {oc17 kV17 dc17 pm17 cd17 ct17 : Value}
    (a17 : PySem.W.nsIn K mainGlobals "_put_number" = some (some (.ref f17))) (l17 : K.lookup f17 = some ⟨oc17, od17, .func (PySem.W.fnOf "_put_number" "_put_number" (defArgs st__put_number) (defBody st__put_number) (defScope st__put_number) .none kV17 dc17 pm17 an17 cd17 ct17), sl17⟩) (c17 : PySem.W.codeIn K cd17 "_put_number" = true) (k17 : PySem.W.keepIn K (.ref f17) = true)
    {f18 : Addr} {od18 an18 : Option Addr} {sl18 : Array (Option Value)} {oc18 kV18 dc18 pm18 cd18 ct18 : Value}
    (a18 : PySem.W.nsIn K mainGlobals "_digits_of" = some (some (.ref f18))) (l18 : K.lookup f18 = some ⟨oc18, od18, .func (PySem.W.fnOf "_digits_of" "_digits_of" (defArgs st__digits_of) (defBody st__digits_of) (defScope st__digits_of) .none kV18 dc18 pm18 an18 cd18 ct18), sl18⟩) (c18 : PySem.W.codeIn K cd18 "_digits_of" = true) (k18 : PySem.W.keepIn K (.ref f18) = true)
    {f19 : Addr} {od19 an19 : Option Addr} {sl19 : Array (Option Value)} {oc19 kV19 dc19 pm19 cd19 ct19 : Value}
    (a19 : PySem.W.nsIn K mainGlobals "_sum_of" = some (some (.ref f19))) (l19 : K.lookup f19 = some ⟨oc19, od19, .func (PySem.W.fnOf "_sum_of" "_sum_of" (defArgs st__sum_of) (defBody st__sum_of) (defScope st__sum_of) .none kV19 dc19 pm19 an19 cd19 ct19), sl19⟩) (c19 : PySem.W.codeIn K cd19 "_sum_of" = true) (k19 : PySem.W.keepIn K (.ref f19) = true)
    {f20 : Addr} {od20 an20 : Option Addr} {sl20 : Array (Option Value)} {oc20 kV20 dc20 pm20 cd20 ct20 : Value}
    (a20 : PySem.W.nsIn K mainGlobals "_law_bag" = some (some (.ref f20))) (l20 : K.lookup f20 = some ⟨oc20, od20, .func (PySem.W.fnOf "_law_bag" "_law_bag" (defArgs st__law_bag) (defBody st__law_bag) (defScope st__law_bag) .none kV20 dc20 pm20 an20 cd20 ct20), sl20⟩) (c20 : PySem.W.codeIn K cd20 "_law_bag" = true) (k20 : PySem.W.keepIn K (.ref f20) = true)
    {f21 : Addr} {od21 an21 : Option Addr} {sl21 : Array (Option Value)} {oc21 kV21 dc21 pm21 cd21 ct21 : Value}
    (a21 : PySem.W.nsIn K mainGlobals "_law_draw" = some (some (.ref f21))) (l21 : K.lookup f21 = some ⟨oc21, od21, .func (PySem.W.fnOf "_law_draw" "_law_draw" (defArgs st__law_draw) (defBody st__law_draw) (defScope st__law_draw) .none kV21 dc21 pm21 an21 cd21 ct21), sl21⟩) (c21 : PySem.W.codeIn K cd21 "_law_draw" = true) (k21 : PySem.W.keepIn K (.ref f21) = true)
    {f22 : Addr} {od22 an22 : Option Addr} {sl22 : Array (Option Value)} {oc22 kV22 dc22 pm22 cd22 ct22 : Value}
    (a22 : PySem.W.nsIn K mainGlobals "_law_word" = some (some (.ref f22))) (l22 : K.lookup f22 = some ⟨oc22, od22, .func (PySem.W.fnOf "_law_word" "_law_word" (defArgs st__law_word) (defBody st__law_word) (defScope st__law_word) .none kV22 dc22 pm22 an22 cd22 ct22), sl22⟩) (c22 : PySem.W.codeIn K cd22 "_law_word" = true) (k22 : PySem.W.keepIn K (.ref f22) = true)
    {f23 : Addr} {od23 an23 : Option Addr} {sl23 : Array (Option Value)} {oc23 kV23 dc23 pm23 cd23 ct23 : Value}
    (a23 : PySem.W.nsIn K mainGlobals "_law_number" = some (some (.ref f23))) (l23 : K.lookup f23 = some ⟨oc23, od23, .func (PySem.W.fnOf "_law_number" "_law_number" (defArgs st__law_number) (defBody st__law_number) (defScope st__law_number) .none kV23 dc23 pm23 an23 cd23 ct23), sl23⟩) (c23 : PySem.W.codeIn K cd23 "_law_number" = true) (k23 : PySem.W.keepIn K (.ref f23) = true)
    {f24 : Addr} {od24 an24 : Option Addr} {sl24 : Array (Option Value)} {oc24 kV24 dc24 pm24 cd24 ct24 : Value}
    (a24 : PySem.W.nsIn K mainGlobals "_law_value" = some (some (.ref f24))) (l24 : K.lookup f24 = some ⟨oc24, od24, .func (PySem.W.fnOf "_law_value" "_law_value" (defArgs st__law_value) (defBody st__law_value) (defScope st__law_value) .none kV24 dc24 pm24 an24 cd24 ct24), sl24⟩) (c24 : PySem.W.codeIn K cd24 "_law_value" = true) (k24 : PySem.W.keepIn K (.ref f24) = true)
    {f25 : Addr} {od25 an25 : Option Addr} {sl25 : Array (Option Value)} {oc25 kV25 dc25 pm25 cd25 ct25 : Value}
    (a25 : PySem.W.nsIn K mainGlobals "_law_summed" = some (some (.ref f25))) (l25 : K.lookup f25 = some ⟨oc25, od25, .func (PySem.W.fnOf "_law_summed" "_law_summed" (defArgs st__law_summed) (defBody st__law_summed) (defScope st__law_summed) .none kV25 dc25 pm25 an25 cd25 ct25), sl25⟩) (c25 : PySem.W.codeIn K cd25 "_law_summed" = true) (k25 : PySem.W.keepIn K (.ref f25) = true)
    {f26 : Addr} {od26 an26 : Option Addr} {sl26 : Array (Option Value)} {oc26 kV26 dc26 pm26 cd26 ct26 : Value}
    (a26 : PySem.W.nsIn K mainGlobals "_law_told" = some (some (.ref f26))) (l26 : K.lookup f26 = some ⟨oc26, od26, .func (PySem.W.fnOf "_law_told" "_law_told" (defArgs st__law_told) (defBody st__law_told) (defScope st__law_told) .none kV26 dc26 pm26 an26 cd26 ct26), sl26⟩) (c26 : PySem.W.codeIn K cd26 "_law_told" = true) (k26 : PySem.W.keepIn K (.ref f26) = true)
    {f27 : Addr} {od27 an27 : Option Addr} {sl27 : Array (Option Value)} {oc27 kV27 dc27 pm27 cd27 ct27 : Value}
    (a27 : PySem.W.nsIn K mainGlobals "_law_turned" = some (some (.ref f27))) (l27 : K.lookup f27 = some ⟨oc27, od27, .func (PySem.W.fnOf "_law_turned" "_law_turned" (defArgs st__law_turned) (defBody st__law_turned) (defScope st__law_turned) .none kV27 dc27 pm27 an27 cd27 ct27), sl27⟩) (c27 : PySem.W.codeIn K cd27 "_law_turned" = true) (k27 : PySem.W.keepIn K (.ref f27) = true)
    {f28 : Addr} {od28 an28 : Option Addr} {sl28 : Array (Option Value)} {oc28 kV28 dc28 pm28 cd28 ct28 : Value}
    (a28 : PySem.W.nsIn K mainGlobals "_law_right" = some (some (.ref f28))) (l28 : K.lookup f28 = some ⟨oc28, od28, .func (PySem.W.fnOf "_law_right" "_law_right" (defArgs st__law_right) (defBody st__law_right) (defScope st__law_right) .none kV28 dc28 pm28 an28 cd28 ct28), sl28⟩) (c28 : PySem.W.codeIn K cd28 "_law_right" = true) (k28 : PySem.W.keepIn K (.ref f28) = true)
    {f29 : Addr} {od29 an29 : Option Addr} {sl29 : Array (Option Value)} {oc29 kV29 dc29 pm29 cd29 ct29 : Value}
    (a29 : PySem.W.nsIn K mainGlobals "law" = some (some (.ref f29))) (l29 : K.lookup f29 = some ⟨oc29, od29, .func (PySem.W.fnOf "law" "law" (defArgs st_law) (defBody st_law) (defScope st_law) .none kV29 dc29 pm29 an29 cd29 ct29), sl29⟩) (c29 : PySem.W.codeIn K cd29 "law" = true) (k29 : PySem.W.keepIn K (.ref f29) = true)
    {t_INTEGER : Tok} (n_INTEGER : PySem.W.nsIn K mainGlobals "INTEGER" = some (some (.int 1 t_INTEGER)))
    {t_LETTERS : Tok} (n_LETTERS : PySem.W.nsIn K mainGlobals "LETTERS" = some (some (.str "abcdefghijklmnopqrstuvwxyz" t_LETTERS)))
    {t_MOST_BYTES : Tok} (n_MOST_BYTES : PySem.W.nsIn K mainGlobals "MOST_BYTES" = some (some (.int 60000 t_MOST_BYTES)))
    {t_MOST_INTEGER : Tok} (n_MOST_INTEGER : PySem.W.nsIn K mainGlobals "MOST_INTEGER" = some (some (.int 4294967295 t_MOST_INTEGER)))
    {t_MOST_NESTED : Tok} (n_MOST_NESTED : PySem.W.nsIn K mainGlobals "MOST_NESTED" = some (some (.int 16 t_MOST_NESTED)))
    {t_MOST_WORD : Tok} (n_MOST_WORD : PySem.W.nsIn K mainGlobals "MOST_WORD" = some (some (.int 12 t_MOST_WORD)))
    {t_NONE : Tok} (n_NONE : PySem.W.nsIn K mainGlobals "NONE" = some (some (.int 0 t_NONE)))
    {t_SUM_BYTES : Tok} (n_SUM_BYTES : PySem.W.nsIn K mainGlobals "SUM_BYTES" = some (some (.int 2 t_SUM_BYTES)))
    {t_SUM_DIVISOR : Tok} (n_SUM_DIVISOR : PySem.W.nsIn K mainGlobals "SUM_DIVISOR" = some (some (.int 65521 t_SUM_DIVISOR)))
    {t_TUPLE : Tok} (n_TUPLE : PySem.W.nsIn K mainGlobals "TUPLE" = some (some (.int 3 t_TUPLE)))
    {t_WORD : Tok} (n_WORD : PySem.W.nsIn K mainGlobals "WORD" = some (some (.int 2 t_WORD)))
    (z_all : PySem.W.nsIn K mainGlobals "all" = some none)
    (z_bool : PySem.W.nsIn K mainGlobals "bool" = some none)
    (z_divmod : PySem.W.nsIn K mainGlobals "divmod" = some none)
    (z_enumerate : PySem.W.nsIn K mainGlobals "enumerate" = some none)
    (z_int : PySem.W.nsIn K mainGlobals "int" = some none)
    (z_isinstance : PySem.W.nsIn K mainGlobals "isinstance" = some none)
    (z_len : PySem.W.nsIn K mainGlobals "len" = some none)
    (z_list : PySem.W.nsIn K mainGlobals "list" = some none)
    (z_max : PySem.W.nsIn K mainGlobals "max" = some none)
    (z_min : PySem.W.nsIn K mainGlobals "min" = some none)
    (z_ord : PySem.W.nsIn K mainGlobals "ord" = some none)
    (z_range : PySem.W.nsIn K mainGlobals "range" = some none)
    (z_str : PySem.W.nsIn K mainGlobals "str" = some none)
    (z_sum : PySem.W.nsIn K mainGlobals "sum" = some none)
    (z_tuple : PySem.W.nsIn K mainGlobals "tuple" = some none) : Facts K mg C_Reader C_BadBytes where
  d_Reader_init := defI_mk a0 i0 mk_Reader kc_Reader (PySem.W.mg_of X G aC_Reader) l0 c0 k0 fun _ _ _ _ _ _ us hl => match us, hl with | [_, _], _ => rfl
  d_Reader_is_done := defM_mk a1 i1 l1 c1 k1 fun _ _ _ _ _ _ us hl => match us, hl with | [_], _ => rfl
  d_Reader_value := defM_mk a2 i2 l2 c2 k2 fun _ _ _ _ _ _ us hl => match us, hl with | [_, _], _ => rfl
  d_Reader_inner := defM_mk a3 i3 l3 c3 k3 fun _ _ _ _ _ _ us hl => match us, hl with | [_, _], _ => rfl
  d_Reader_word := defM_mk a4 i4 l4 c4 k4 fun _ _ _ _ _ _ us hl => match us, hl with | [_], _ => rfl
  d_Reader_number := defM_mk a5 i5 l5 c5 k5 fun _ _ _ _ _ _ us hl => match us, hl with | [_], _ => rfl
  d_Reader_byte := defM_mk a6 i6 l6 c6 k6 fun _ _ _ _ _ _ us hl => match us, hl with | [_], _ => rfl
  d_Reader_part := defM_mk a7 i7 l7 c7 k7 fun _ _ _ _ _ _ us hl => match us, hl with | [_, _], _ => rfl
  d_is_integer := defT_mk (PySem.W.mg_of X G a8) l8 c8 k8 fun _ _ _ _ _ _ us hl => match us, hl with | [_, _, _], _ => rfl
  d_is_bytes := defG_mk (PySem.W.mg_of X G a9) l9 c9 k9 x9 y9 u9 v9 fun _ _ _ _ _ _ us hl => match us, hl with | [_], _ => rfl
  d_can_be_written := defT_mk (PySem.W.mg_of X G a10) l10 c10 k10 fun _ _ _ _ _ _ us hl => match us, hl with | [_], _ => rfl
  d_write := defT_mk (PySem.W.mg_of X G a11) l11 c11 k11 fun _ _ _ _ _ _ us hl => match us, hl with | [_], _ => rfl
  d_read := defT_mk (PySem.W.mg_of X G a12) l12 c12 k12 fun _ _ _ _ _ _ us hl => match us, hl with | [_], _ => rfl
  d__can_stand := defG_mk (PySem.W.mg_of X G a13) l13 c13 k13 x13 y13 u13 v13 fun _ _ _ _ _ _ us hl => match us, hl with | [_, _], _ => rfl
  d__is_word := defG_mk (PySem.W.mg_of X G a14) l14 c14 k14 x14 y14 u14 v14 fun _ _ _ _ _ _ us hl => match us, hl with | [_], _ => rfl
  d__letter_of := defT_mk (PySem.W.mg_of X G a15) l15 c15 k15 fun _ _ _ _ _ _ us hl => match us, hl with | [_], _ => rfl
  d__put := defT_mk (PySem.W.mg_of X G a16) l16 c16 k16 fun _ _ _ _ _ _ us hl => match us, hl with | [_, _, _], _ => rfl
  d__put_number := defT_mk (PySem.W.mg_of X G a17) l17 c17 k17 fun _ _ _ _ _ _ us hl => match us, hl with | [_, _], _ => rfl
  d__digits_of := defT_mk (PySem.W.mg_of X G a18) l18 c18 k18 fun _ _ _ _ _ _ us hl => match us, hl with | [_], _ => rfl
  d__sum_of := defT_mk (PySem.W.mg_of X G a19) l19 c19 k19 fun _ _ _ _ _ _ us hl => match us, hl with | [_], _ => rfl
  d__law_bag := defT_mk (PySem.W.mg_of X G a20) l20 c20 k20 fun _ _ _ _ _ _ us hl => match us, hl with | [_, _], _ => rfl
  d__law_draw := defT_mk (PySem.W.mg_of X G a21) l21 c21 k21 fun _ _ _ _ _ _ us hl => match us, hl with | [_, _], _ => rfl
  d__law_word := defT_mk (PySem.W.mg_of X G a22) l22 c22 k22 fun _ _ _ _ _ _ us hl => match us, hl with | [_], _ => rfl
  d__law_number := defT_mk (PySem.W.mg_of X G a23) l23 c23 k23 fun _ _ _ _ _ _ us hl => match us, hl with | [_], _ => rfl
  d__law_value := defT_mk (PySem.W.mg_of X G a24) l24 c24 k24 fun _ _ _ _ _ _ us hl => match us, hl with | [_, _, _], _ => rfl
  d__law_summed := defT_mk (PySem.W.mg_of X G a25) l25 c25 k25 fun _ _ _ _ _ _ us hl => match us, hl with | [_], _ => rfl
  d__law_told := defT_mk (PySem.W.mg_of X G a26) l26 c26 k26 fun _ _ _ _ _ _ us hl => match us, hl with | [_], _ => rfl
  d__law_turned := defT_mk (PySem.W.mg_of X G a27) l27 c27 k27 fun _ _ _ _ _ _ us hl => match us, hl with | [_, _], _ => rfl
  d__law_right := defT_mk (PySem.W.mg_of X G a28) l28 c28 k28 fun _ _ _ _ _ _ us hl => match us, hl with | [_], _ => rfl
  d_law := defT_mk (PySem.W.mg_of X G a29) l29 c29 k29 fun _ _ _ _ _ _ us hl => match us, hl with | [_], _ => rfl
  k_Reader := ⟨pg_Reader, hd_Reader, po_Reader, sa_Reader⟩
  x_BadBytes := ⟨PySem.W.mg_of X G eg_BadBytes, xx_BadBytes, ek_BadBytes, eb_BadBytes, et_BadBytes, exm_own eb_BadBytes ei_BadBytes et_BadBytes ss_BadBytes⟩
  n_Reader_place := nA_Reader_place
  n_Reader_row := nA_Reader_row
  c_INTEGER := ⟨t_INTEGER, PySem.W.mg_of X G n_INTEGER⟩
  c_LETTERS := ⟨t_LETTERS, PySem.W.mg_of X G n_LETTERS⟩
  c_MOST_BYTES := ⟨t_MOST_BYTES, PySem.W.mg_of X G n_MOST_BYTES⟩
  c_MOST_INTEGER := ⟨t_MOST_INTEGER, PySem.W.mg_of X G n_MOST_INTEGER⟩
  c_MOST_NESTED := ⟨t_MOST_NESTED, PySem.W.mg_of X G n_MOST_NESTED⟩
  c_MOST_WORD := ⟨t_MOST_WORD, PySem.W.mg_of X G n_MOST_WORD⟩
  c_NONE := ⟨t_NONE, PySem.W.mg_of X G n_NONE⟩
  c_SUM_BYTES := ⟨t_SUM_BYTES, PySem.W.mg_of X G n_SUM_BYTES⟩
  c_SUM_DIVISOR := ⟨t_SUM_DIVISOR, PySem.W.mg_of X G n_SUM_DIVISOR⟩
  c_TUPLE := ⟨t_TUPLE, PySem.W.mg_of X G n_TUPLE⟩
  c_WORD := ⟨t_WORD, PySem.W.mg_of X G n_WORD⟩
  z_all := PySem.W.mg_none_of X G z_all
  z_bool := PySem.W.mg_none_of X G z_bool
  z_divmod := PySem.W.mg_none_of X G z_divmod
  z_enumerate := PySem.W.mg_none_of X G z_enumerate
  z_int := PySem.W.mg_none_of X G z_int
  z_isinstance := PySem.W.mg_none_of X G z_isinstance
  z_len := PySem.W.mg_none_of X G z_len
  z_list := PySem.W.mg_none_of X G z_list
  z_max := PySem.W.mg_none_of X G z_max
  z_min := PySem.W.mg_none_of X G z_min
  z_ord := PySem.W.mg_none_of X G z_ord
  z_range := PySem.W.mg_none_of X G z_range
  z_str := PySem.W.mg_none_of X G z_str
  z_sum := PySem.W.mg_none_of X G z_sum
  z_tuple := PySem.W.mg_none_of X G z_tuple
end Gn

set_option Elab.async false
set_option linter.all false
set_option maxRecDepth 100000
set_option maxHeartbeats 8000000
namespace My
open PySem PySem.Spec PyProof.Rows L2 Wp Gn
local macro_rules | `(tactic| walk_at "go") => `(tactic| (with_reducible refine goS_i ?_))
local macro_rules | `(tactic| walk_at "wp") => `(tactic| simp (disch := omega) only [Wp.wSeq, Wp.wNext, Wp.wSet, Wp.wVar, Wp.wC, Wp.wOp, Wp.wRet, Wp.wIfS, Wp.wTest, Wp.wCall, Wp.wCons, Wp.wNil, Wp.wTup, Wp.wLst, Wp.wAsg, Wp.gTp, Wp.gC, Wp.gNm, Wp.gN0, Wp.gIx, Wp.rSet, Wp.rAdd, Wp.rMul, Wp.rMod, Wp.rSub, Wp.rFdiv, Wp.rPow, Wp.rInt, Wp.rIx, Wp.rLt, Wp.rLe, Wp.rCmp, Wp.rGeI, Wp.rGtI, Wp.wCB, Wp.rLen, Wp.rLen1, Wp.rInt1, Wp.rMax2, Wp.rMin2, Wp.rTupOf, Wp.rListOf,
  Wp.wIsi, Wp.rBIs, Wp.rIsN, Wp.isNon, Wp.wMt, Wp.rAppendT, Wp.rExtendT, Wp.rReverseT, Wp.wNot, Wp.wOr, Wp.wAnd, Wp.wAndV, Wp.wOrV, Wp.wNotV, Wp.wFor, Wp.iRg1, Wp.iRg2, Wp.iAnyW, Wp.wAll, Wp.wChain, Wp.wSl, Wp.wNoPart, Wp.wPart, Wp.rSl, Wp.wNeg, Wp.rNeg, Wp.wLc, Wp.wYes, Wp.wDrop, Wp.wipeT, Wp.wAug, List.map, List.set_cons_zero, List.set_cons_succ, List.getElem?_cons_zero, List.getElem?_cons_succ, List.length_cons, List.length_nil, List.cons_append, List.nil_append, List.replicate, Wp.startT,
  true_and, and_true, Wp.wif_true, Wp.wif_false, Wp.ex_some, Wp.ex_some1, Wp.ex_eq, Wp.ex_lst, Wp.ex_lst0, Wp.rEq_int, Bool.false_bne, Bool.true_bne, Int.reduceLT, Int.reduceLE, Int.reduceAdd, Nat.reduceAdd, Nat.reduceSub, eq_self, ite_true, ite_false, beq_self_eq_true, Bool.not_true, Bool.not_false, Wp.isB_0, Wp.isB_1, Wp.isB_2, Wp.isB_3, Wp.isB_4, Wp.isB_5, Wp.isB_6, Wp.isB_7, Wp.isB_8, Wp.isB_9, Wp.isB_10, Wp.isB_11, Wp.isB_12, Wp.isB_13, Wp.isB_14, Wp.isB_15, Wp.isB_16, Wp.isB_17, Wp.isB_18, Wp.isB_19, Wp.isB_20, Wp.isB_21, Wp.isB_22, Wp.isB_23, Wp.isB_24, Wp.isB_25, Wp.isB_26, Wp.isB_27, Wp.isB_28, Wp.isB_29, Wp.isB_30, Wp.isB_31, Wp.isB_32, Wp.isB_33, Wp.isB_34, Wp.isB_35, Wp.cmul_l, Wp.cmul_r, Wp.cpow_lit, Wp.size_le, Wp.size_lt, Wp.atI_0, Wp.atI_1, Wp.atI_2, Wp.atI_3, Wp.atI_4, Wp.atI_5, Wp.atI_6, Wp.ixN_0, Wp.ixN_1, Wp.ixN_2, Wp.itemsT, Wp.tyT, reduceIte, Wp.wFld, Wp.wFSet, Wp.wFAug, Wp.wMeth, Wp.wMake, Wp.rIxA, Wp.rInA, Wp.rSetA, Wp.ixA, Wp.inA, Wp.setA, Wp.lenA, Wp.getD, Option.map_some, Option.bind_some, Option.getD_some,  Wp.gIxA, Wp.wDNew, Wp.wDNewT, Wp.rLenA, Wp.rSortD, Wp.rMaxL, Wp.rPopL, Wp.rGet1, Wp.rGet2, Wp.wGet1, Wp.wGet2, Wp.wPop1, Wp.wPop2, Wp.wDel, Wp.isDT, Wp.keyT, Wp.keysT, Wp.keysL, Wp.ex_ins, Wp.ex_dct, Wp.wIf, Wp.rGt, Wp.wTry, Wp.wMethX, Wp.wCallX, Wp.wRaise, Wp.rAddI, Int.cast_ofNat_Int, Int.reduceBEq, lk_Reader_row, pt_Reader_row, lk_Reader_place, pt_Reader_place, no_Reader_byte, no_Reader_inner, no_Reader_is_done, no_Reader_number, no_Reader_part, no_Reader_value, no_Reader_word, ln_Reader, mk_Reader, Wp.rMulB, Wp.upS, Wp.upS_upS, *])
local macro_rules | `(tactic| walk_at "run") => `(tactic| repeat (first | walk_at "wp" | walk_at "go"))
local macro_rules | `(tactic| walk_at "wq") => `(tactic| simp (disch := omega) only [Wp.wSeq, Wp.wNext, Wp.wSet, Wp.wVar, Wp.wC, Wp.wOp, Wp.wRet, Wp.wIfS, Wp.wTest, Wp.wCall, Wp.wCons, Wp.wNil, Wp.wTup, Wp.wLst, Wp.wAsg, Wp.gTp, Wp.gC, Wp.gNm, Wp.gN0, Wp.gIx, Wp.rSet, Wp.rAdd, Wp.rMul, Wp.rMod, Wp.rSub, Wp.rFdiv, Wp.rPow, Wp.rInt, Wp.rIx, Wp.rLt, Wp.rLe, Wp.rCmp, Wp.rGeI, Wp.rGtI, Wp.wCB, Wp.rLen, Wp.rLen1, Wp.rInt1, Wp.rMax2, Wp.rMin2, Wp.rTupOf, Wp.rListOf,
  Wp.wIsi, Wp.rBIs, Wp.rIsN, Wp.isNon, Wp.wMt, Wp.rAppendT, Wp.rExtendT, Wp.rReverseT, Wp.wNot, Wp.wOr, Wp.wAnd, Wp.wAndV, Wp.wOrV, Wp.wNotV, Wp.wFor, Wp.iRg1, Wp.iRg2, Wp.iAnyW, Wp.wAll, Wp.wChain, Wp.wSl, Wp.wNoPart, Wp.wPart, Wp.rSl, Wp.wNeg, Wp.rNeg, Wp.wLc, Wp.wYes, Wp.wDrop, Wp.wipeT, Wp.wAug, List.map, List.set_cons_zero, List.set_cons_succ, List.getElem?_cons_zero, List.getElem?_cons_succ, List.length_cons, List.length_nil, List.cons_append, List.nil_append, List.replicate, Wp.startT,
  true_and, and_true, Wp.wif_true, Wp.wif_false, Wp.ex_some, Wp.ex_some1, Wp.ex_eq, Wp.ex_lst, Wp.ex_lst0, Wp.rEq_int, Bool.false_bne, Bool.true_bne, Int.reduceLT, Int.reduceLE, Int.reduceAdd, Nat.reduceAdd, Nat.reduceSub, eq_self, ite_true, ite_false, beq_self_eq_true, Bool.not_true, Bool.not_false, Wp.isB_0, Wp.isB_1, Wp.isB_2, Wp.isB_3, Wp.isB_4, Wp.isB_5, Wp.isB_6, Wp.isB_7, Wp.isB_8, Wp.isB_9, Wp.isB_10, Wp.isB_11, Wp.isB_12, Wp.isB_13, Wp.isB_14, Wp.isB_15, Wp.isB_16, Wp.isB_17, Wp.isB_18, Wp.isB_19, Wp.isB_20, Wp.isB_21, Wp.isB_22, Wp.isB_23, Wp.isB_24, Wp.isB_25, Wp.isB_26, Wp.isB_27, Wp.isB_28, Wp.isB_29, Wp.isB_30, Wp.isB_31, Wp.isB_32, Wp.isB_33, Wp.isB_34, Wp.isB_35, Wp.cmul_l, Wp.cmul_r, Wp.cpow_lit, Wp.size_le, Wp.size_lt, Wp.atI_0, Wp.atI_1, Wp.atI_2, Wp.atI_3, Wp.atI_4, Wp.atI_5, Wp.atI_6, Wp.ixN_0, Wp.ixN_1, Wp.ixN_2, Wp.itemsT, Wp.tyT, reduceIte, Wp.wFld, Wp.wFSet, Wp.wFAug, Wp.wMeth, Wp.wMake, Wp.rIxA, Wp.rInA, Wp.rSetA, Wp.ixA, Wp.inA, Wp.setA, Wp.lenA, Wp.getD, Option.map_some, Option.bind_some, Option.getD_some,  Wp.gIxA, Wp.wDNew, Wp.wDNewT, Wp.rLenA, Wp.rSortD, Wp.rMaxL, Wp.rPopL, Wp.rGet1, Wp.rGet2, Wp.wGet1, Wp.wGet2, Wp.wPop1, Wp.wPop2, Wp.wDel, Wp.isDT, Wp.keyT, Wp.keysT, Wp.keysL, Wp.ex_ins, Wp.ex_dct, Wp.wIf, Wp.rGt, Wp.wTry, Wp.wMethX, Wp.wCallX, Wp.wRaise, Wp.rAddI, Int.cast_ofNat_Int, Int.reduceBEq, lk_Reader_row, pt_Reader_row, lk_Reader_place, pt_Reader_place, no_Reader_byte, no_Reader_inner, no_Reader_is_done, no_Reader_number, no_Reader_part, no_Reader_value, no_Reader_word, ln_Reader, mk_Reader, Wp.rMulB, *])
local macro_rules | `(tactic| walk_at "r2") => `(tactic| repeat (first | walk_at "wq" | walk_at "go"))
local macro_rules | `(tactic| walk_at "w0") => `(tactic| simp (disch := omega) only [Wp.wSeq, Wp.wNext, Wp.wSet, Wp.wVar, Wp.wC, Wp.wOp, Wp.wRet, Wp.wIfS, Wp.wTest, Wp.wCall, Wp.wCons, Wp.wNil, Wp.wTup, Wp.wLst, Wp.wAsg, Wp.gTp, Wp.gC, Wp.gNm, Wp.gN0, Wp.gIx, Wp.rSet, Wp.rAdd, Wp.rMul, Wp.rMod, Wp.rSub, Wp.rFdiv, Wp.rPow, Wp.rInt, Wp.rIx, Wp.rLt, Wp.rLe, Wp.rCmp, Wp.rGeI, Wp.rGtI, Wp.wCB, Wp.rLen, Wp.rLen1, Wp.rInt1, Wp.rMax2, Wp.rMin2, Wp.rTupOf, Wp.rListOf,
  Wp.wIsi, Wp.rBIs, Wp.rIsN, Wp.isNon, Wp.wMt, Wp.rAppendT, Wp.rExtendT, Wp.rReverseT, Wp.wNot, Wp.wOr, Wp.wAnd, Wp.wAndV, Wp.wOrV, Wp.wNotV, Wp.wFor, Wp.iRg1, Wp.iRg2, Wp.iAnyW, Wp.wAll, Wp.wChain, Wp.wSl, Wp.wNoPart, Wp.wPart, Wp.rSl, Wp.wNeg, Wp.rNeg, Wp.wLc, Wp.wYes, Wp.wDrop, Wp.wipeT, Wp.wAug, List.map, List.set_cons_zero, List.set_cons_succ, List.getElem?_cons_zero, List.getElem?_cons_succ, List.length_cons, List.length_nil, List.cons_append, List.nil_append, List.replicate, Wp.startT,
  true_and, and_true, Wp.wif_true, Wp.wif_false, Wp.ex_some, Wp.ex_some1, Wp.ex_eq, Wp.ex_lst, Wp.ex_lst0, Wp.rEq_int, Bool.false_bne, Bool.true_bne, Int.reduceLT, Int.reduceLE, Int.reduceAdd, Nat.reduceAdd, Nat.reduceSub, eq_self, ite_true, ite_false, beq_self_eq_true, Bool.not_true, Bool.not_false, Wp.isB_0, Wp.isB_1, Wp.isB_2, Wp.isB_3, Wp.isB_4, Wp.isB_5, Wp.isB_6, Wp.isB_7, Wp.isB_8, Wp.isB_9, Wp.isB_10, Wp.isB_11, Wp.isB_12, Wp.isB_13, Wp.isB_14, Wp.isB_15, Wp.isB_16, Wp.isB_17, Wp.isB_18, Wp.isB_19, Wp.isB_20, Wp.isB_21, Wp.isB_22, Wp.isB_23, Wp.isB_24, Wp.isB_25, Wp.isB_26, Wp.isB_27, Wp.isB_28, Wp.isB_29, Wp.isB_30, Wp.isB_31, Wp.isB_32, Wp.isB_33, Wp.isB_34, Wp.isB_35, Wp.cmul_l, Wp.cmul_r, Wp.cpow_lit, Wp.size_le, Wp.size_lt, Wp.atI_0, Wp.atI_1, Wp.atI_2, Wp.atI_3, Wp.atI_4, Wp.atI_5, Wp.atI_6, Wp.ixN_0, Wp.ixN_1, Wp.ixN_2, Wp.itemsT, Wp.tyT, reduceIte, Wp.wFld, Wp.wFSet, Wp.wFAug, Wp.wMeth, Wp.wMake, Wp.rIxA, Wp.rInA, Wp.rSetA, Wp.ixA, Wp.inA, Wp.setA, Wp.lenA, Wp.getD, Option.map_some, Option.bind_some, Option.getD_some,  Wp.gIxA, Wp.wDNew, Wp.wDNewT, Wp.rLenA, Wp.rSortD, Wp.rMaxL, Wp.rPopL, Wp.rGet1, Wp.rGet2, Wp.wGet1, Wp.wGet2, Wp.wPop1, Wp.wPop2, Wp.wDel, Wp.isDT, Wp.keyT, Wp.keysT, Wp.keysL, Wp.ex_ins, Wp.ex_dct, Wp.wIf, Wp.rGt, Wp.wTry, Wp.wMethX, Wp.wCallX, Wp.wRaise, Wp.rAddI, Int.cast_ofNat_Int, Int.reduceBEq, lk_Reader_row, pt_Reader_row, lk_Reader_place, pt_Reader_place, no_Reader_byte, no_Reader_inner, no_Reader_is_done, no_Reader_number, no_Reader_part, no_Reader_value, no_Reader_word, ln_Reader, mk_Reader, Wp.rMulB])
local macro_rules | `(tactic| walk_at "r0") => `(tactic| repeat (first | walk_at "w0" | walk_at "go"))
variable {C CB : Addr}
theorem lenA_ref {S : Sta} {p : Addr} {ts : List T} (h : S p = some (.lst ts)) : lenA S (.ref p) = some (ts.length : Int) := by simp only [lenA, h]
/-! ### values -/
inductive Kn (S : Sta) : T → Prop
  | non : Kn S .non
  | bl (b : Bool) : Kn S (.bl b)
  | int (i : Int) : Kn S (.int i)
  | str (x : Str) (h : PyData.strOk x = true) : Kn S (.str x)
  | ref (p : Addr) (xs : List T) (h : S p = some (.lst xs)) : Kn S (.ref p)
  | tup (ts : List T) (hl : ts.length ≤ 60000) (h : ∀ t ∈ ts, Kn S t) : Kn S (.tup ts)
theorem Kn.mono {S S' : Sta} (k : ∀ p xs, S p = some (.lst xs) → ∃ ys, S' p = some (.lst ys)) {t : T} (h : Kn S t) : Kn S' t := by
  induction h with
  | non => exact .non
  | bl b => exact .bl b
  | int i => exact .int i
  | str x h => exact .str x h
  | ref p xs h =>
    obtain ⟨ys, e⟩ := k p xs h
    exact .ref p ys e
  | tup ts hl h ih => exact .tup ts hl ih
/-! ### what the program's tests tell -/
def isI : T → Int → Int → Bool
  | .int i, a, b => decide (a ≤ i) && decide (i ≤ b)
  | _, _, _ => false
def spIsI : WSp := fun ts S Q _ => match ts with
  | [v, .int a, .int b] => Kn S v ∧ Q (.bl (isI v a b)) S
  | _ => False
theorem hw_is_integer : ∀ ts S Q E, ts.length = 3 → spIsI ts S Q E → (b_is_integer C CB) { nx := fun _ S' => Q .non S', rt := Q } (Wp.startT N_is_integer ts) S := by
  intro ts S Q E _ h
  match ts, h with
  | [v, .int a, .int b], ⟨kn, h⟩ =>
    unfold b_is_integer N_is_integer
    cases kn with
    | int i =>
      simp only [isI] at h
      walk_at "r2"
      refine if_dec (fun h1 => ?_) (fun h1 => ?_)
      · simp only [h1, decide_true, Bool.true_and] at h
        exact h
      · simp only [h1, decide_false, Bool.false_and] at h
        exact h
    | _ => 
      simp only [isI] at h
      walk_at "r2"
/-! ### words, digits -/
def isLet (c : Nat) : Bool := decide (97 ≤ c) && decide (c ≤ 122)
def isWd : T → Bool
  | .str x => (decide (1 ≤ (x.length : Int)) && decide ((x.length : Int) ≤ 12)) && x.cps.toList.all isLet
  | _ => false
def spWd : WSp := fun ts S Q _ => match ts with
  | [v] => Kn S v ∧ (∀ x, v = .str x → x.length ≤ 100000) ∧ Q (.bl (isWd v)) S
  | _ => False
theorem le_let (c : Nat) : ((!decide (([c] : List Nat) < [97])) && !decide (([122] : List Nat) < [c])) = isLet c := by
  have h1 : (([c] : List Nat) < [97]) ↔ c < 97 := by
    constructor
    · intro h; cases h with
      | rel h => exact h
      | cons h => cases h
    · intro h; exact .rel h
  have h2 : (([122] : List Nat) < [c]) ↔ 122 < c := by
    constructor
    · intro h; cases h with
      | rel h => exact h
      | cons h => cases h
    · intro h; exact .rel h
  unfold isLet
  simp only [h1, h2]
  by_cases a : c < 97 <;> by_cases b : 122 < c <;> simp [a, b] <;> omega
theorem all_let (S : Sta) (Q : T → Sta → Prop) (a0 : Option T) : ∀ (cs : List Nat) (y : Option T), Q (.bl (cs.all isLet)) S → allW (gNm 1) (l1__is_word C CB) (fun _ => True) [a0, y] Q (cs.map fun c => T.str ⟨#[c]⟩) S
  | [], y, q => ⟨trivial, q⟩
  | c :: cs, y, q => by
    refine ⟨trivial, ?_⟩
    have ih := all_let S Q a0 cs y
    generalize allW (gNm 1) (l1__is_word C CB) (fun _ => True) [a0, y] Q (List.map (fun c => T.str ⟨#[c]⟩) cs) = LP at ih ⊢
    have q2 : Q (.bl false) S ∨ (isLet c = true ∧ Q (.bl (cs.all isLet)) S) := by
      rw [List.all_cons] at q
      cases h : isLet c with
      | false => rw [h, Bool.false_and] at q; exact .inl q
      | true => rw [h, Bool.true_and] at q; exact .inr ⟨rfl, q⟩
    have hl := le_let c
    rw [List.all_cons] at q
    have e0 : (("a" : Str)).cps.toList = [97] := by decide +kernel
    unfold l1__is_word
    walk_at "r2"
    have e1 : (("z" : Str)).cps.toList = [122] := by decide +kernel
    refine if_bool (fun h1 => ?_) (fun h1 => ?_)
    · show wif (!decide ((("z" : Str)).cps.toList < [c])) _ _
      rw [e1]
      rw [h1, Bool.true_and] at hl
      rw [hl]
      refine if_bool (fun h2 => ?_) (fun h2 => ?_)
      · rw [h2, Bool.true_and] at q
        exact ih q
      · rw [h2, Bool.false_and] at q
        exact q
    · rw [h1, Bool.false_and] at hl
      rw [← hl, Bool.false_and] at q
      exact q
theorem hw_is_word : ∀ ts S Q E, ts.length = 1 → spWd ts S Q E → (b__is_word C CB) { nx := fun _ S' => Q .non S', rt := Q } (Wp.startT N__is_word ts) S := by
  intro ts S Q E _ h
  match ts, h with
  | [v], ⟨kn, hx, h⟩ =>
    unfold b__is_word N__is_word
    cases kn with
    | str x hs =>
      have hlen := hx x rfl
      simp only [isWd] at h
      have hsz : x.length ≤ sizeLine := Nat.le_trans hlen (by rw [sizeLine_eq]; decide)
      walk_at "r2"
      refine if_dec (fun h1 => ?_) (fun h1 => ?_)
      · rw [decide_eq_true h1, Bool.true_and] at h
        refine if_bool (fun h2 => ?_) (fun h2 => ?_)
        · have h3 : decide ((x.length : Int) ≤ 12) = false := by simpa using h2
          rw [h3, Bool.false_and] at h
          exact h
        · have h3 : decide ((x.length : Int) ≤ 12) = true := by simpa using h2
          rw [h3, Bool.true_and] at h
          walk_at "r2"
          exact all_let S Q _ _ _ h
      · rw [decide_eq_false h1, Bool.false_and, Bool.false_and] at h
        exact h
    | _ =>
      simp only [isWd] at h
      walk_at "r2"
/-- the digits of n in base 256, the lowest first -/
def digsR (n : Nat) : List Int := if h : n = 0 then [] else ((n % 256 : Nat) : Int) :: digsR (n / 256)
termination_by n
decreasing_by exact Nat.div_lt_self (by omega) (by omega)
def digs (n : Nat) : List Int := (digsR n).reverse
def spDig : WSp := fun ts S Q _ => match ts with
  | [.int n] => 0 ≤ n ∧ n < 2 ^ 40 ∧ ∀ q, S q = none → Q (.ref q) (upS S q (.lst ((digs n.toNat).map T.int)))
  | _ => False
theorem digsR_len : ∀ (k n : Nat), n < 256 ^ k → (digsR n).length ≤ k
  | 0, n, h => by
    have : n = 0 := by simpa using h
    subst this
    rw [digsR]
    simp
  | k + 1, n, h => by
    rw [digsR]
    split
    · simp
    · have := digsR_len k (n / 256) (by rw [Nat.pow_succ] at h; omega)
      simp only [List.length_cons]
      omega
theorem hw_digits_of : ∀ ts S Q E, ts.length = 1 → spDig ts S Q E → (b__digits_of C CB) { nx := fun _ S' => Q .non S', rt := Q } (Wp.startT N__digits_of ts) S := by
  intro ts S Q E _ h
  match ts, h with
  | [.int n], ⟨h0, h1, h⟩ =>
    unfold b__digits_of N__digits_of
    walk_at "r2"
    intro q hq
    have hf := h q hq
    clear h
    walk_at "r2"
    refine ⟨fun m σ S' => ∃ (r : Nat) (acc : List Int), m = r ∧ σ = [some (.int n), some (.ref q), some (.int r)] ∧ S' = upS S q (.lst (acc.map T.int)) ∧ acc.length + (digsR r).length ≤ 5 ∧ acc ++ digsR r = digsR n.toNat,
      ⟨n.toNat, n.toNat, [], rfl, by rw [Int.toNat_of_nonneg h0], rfl, by have := digsR_len 5 n.toNat (by omega); simpa using this, rfl⟩, fun m σ S' hW => ?_⟩
    obtain ⟨r, acc, rfl, rfl, rfl, hl, he⟩ := hW
    unfold l1__digits_of l2__digits_of
    walk_at "r2"
    refine if_dec (fun hm => ?_) (fun hm => ?_)
    · have hm2 : m ≠ 0 := by omega
      have ed : digsR m = ((m % 256 : Nat) : Int) :: digsR (m / 256) := by rw [digsR, dif_neg hm2]
      rw [ed] at hl he
      simp only [List.length_cons] at hl
      refine ⟨⟨_, upS_same⟩, _, upS_same, Nat.lt_of_le_of_lt (show (acc.map T.int).length ≤ 5 by rw [List.length_map]; omega) (by rw [sizeLine_eq]; decide), ?_⟩
      rw [upS_upS]
      refine ⟨_, rfl, ⟨by omega, by omega⟩, m / 256, by omega, m / 256, acc ++ [((m % 256 : Nat) : Int)], rfl, ?_, ?_, ?_, ?_⟩
      · show [some (T.int n), some (T.ref q), some (T.int ((m : Int) / 256))] = _
        rw [show ((m : Int) / 256) = ((m / 256 : Nat) : Int) by omega]
      · rw [List.map_append, show ((m : Int) % 256) = ((m % 256 : Nat) : Int) by omega]
        rfl
      · simp only [List.length_append, List.length_cons, List.length_nil]
        omega
      · rw [List.append_assoc]
        exact he
    · have hm2 : m = 0 := by omega
      subst hm2
      have ed : digsR 0 = [] := by rw [digsR, dif_pos rfl]
      rw [ed, List.append_nil] at he
      refine ⟨⟨_, upS_same⟩, _, upS_same, ?_⟩
      rw [upS_upS, ← List.map_reverse, he]
      exact ⟨_, rfl, hf⟩
def spPn : WSp := fun ts S Q _ => match ts with
  | [.ref p, .int n] => 0 ≤ n ∧ n < 2 ^ 32 ∧ ∃ xs : List Int, S p = some (.lst (xs.map T.int)) ∧ xs.length ≤ 100000 ∧ ∀ S', (∀ a o, S a = some o → a ≠ p → S' a = some o) → S' p = some (.lst ((xs ++ (((digs n.toNat).length : Nat) : Int) :: digs n.toNat).map T.int)) → Q .non S'
  | _ => False
theorem digs_len {n : Nat} (h : n < 2 ^ 32) : (digs n).length ≤ 4 := by
  unfold digs
  rw [List.length_reverse]
  exact digsR_len 4 n (by omega)
theorem hw_put_number : ∀ ts S Q E, ts.length = 2 → spPn ts S Q E → (b__put_number C CB) spDig { nx := fun _ S' => Q .non S', rt := Q } (Wp.startT N__put_number ts) S := by
  intro ts S Q E _ h
  match ts, h with
  | [.ref p, .int n], ⟨h0, h1, xs, hp, hl, h⟩ =>
    have hd := digs_len (n := n.toNat) (by omega)
    unfold b__put_number N__put_number
    refine ⟨.int n, rfl, rfl, h0, by omega, fun q hq => ?_⟩
    have hqp : q ≠ p := fun e => by rw [e, hp] at hq; cases hq
    have hpq := hqp.symm
    refine goS_i ⟨.ref p, rfl, ⟨_, by rw [upS_ne hpq]; exact hp⟩, _, rfl, ⟨_, lenA_ref upS_same, _, by rw [upS_ne hpq]; exact hp, Nat.lt_of_le_of_lt (show (xs.map T.int).length ≤ 100000 by rw [List.length_map]; exact hl) (by rw [sizeLine_eq]; decide), ?_⟩⟩
    refine goS_i ⟨.ref p, rfl, ⟨_, upS_same⟩, _, rfl, _, upS_same, (digs n.toNat).map T.int, by rw [upS_ne hqp, upS_same], ?_, ?_⟩
    · rw [sizeLine_eq]
      simp only [List.length_append, List.length_map, List.length_cons, List.length_nil]
      omega
    · refine goS_i (h _ (fun a o e ne => ?_) ?_)
      · rw [upS_upS, upS_ne ne, upS_ne (fun z => by rw [z, hq] at e; cases e)]
        exact e
      · rw [upS_upS, upS_same]
        simp
end My

set_option Elab.async false
set_option linter.all false
set_option maxRecDepth 100000
set_option maxHeartbeats 8000000
namespace My
open PySem PySem.Spec PyProof.Rows L2 Wp Gn
local macro_rules | `(tactic| walk_at "go") => `(tactic| (with_reducible refine goS_i ?_))
local macro_rules | `(tactic| walk_at "wp") => `(tactic| simp (disch := omega) only [Wp.wSeq, Wp.wNext, Wp.wSet, Wp.wVar, Wp.wC, Wp.wOp, Wp.wRet, Wp.wIfS, Wp.wTest, Wp.wCall, Wp.wCons, Wp.wNil, Wp.wTup, Wp.wLst, Wp.wAsg, Wp.gTp, Wp.gC, Wp.gNm, Wp.gN0, Wp.gIx, Wp.rSet, Wp.rAdd, Wp.rMul, Wp.rMod, Wp.rSub, Wp.rFdiv, Wp.rPow, Wp.rInt, Wp.rIx, Wp.rLt, Wp.rLe, Wp.rCmp, Wp.rGeI, Wp.rGtI, Wp.wCB, Wp.rLen, Wp.rLen1, Wp.rInt1, Wp.rMax2, Wp.rMin2, Wp.rTupOf, Wp.rListOf,
  Wp.wIsi, Wp.rBIs, Wp.rIsN, Wp.isNon, Wp.wMt, Wp.rAppendT, Wp.rExtendT, Wp.rReverseT, Wp.wNot, Wp.wOr, Wp.wAnd, Wp.wAndV, Wp.wOrV, Wp.wNotV, Wp.wFor, Wp.iRg1, Wp.iRg2, Wp.iAnyW, Wp.wAll, Wp.wChain, Wp.wSl, Wp.wNoPart, Wp.wPart, Wp.rSl, Wp.wNeg, Wp.rNeg, Wp.wLc, Wp.wYes, Wp.wDrop, Wp.wipeT, Wp.wAug, List.map, List.set_cons_zero, List.set_cons_succ, List.getElem?_cons_zero, List.getElem?_cons_succ, List.length_cons, List.length_nil, List.cons_append, List.nil_append, List.replicate, Wp.startT,
  true_and, and_true, Wp.wif_true, Wp.wif_false, Wp.ex_some, Wp.ex_some1, Wp.ex_eq, Wp.ex_lst, Wp.ex_lst0, Wp.rEq_int, Bool.false_bne, Bool.true_bne, Int.reduceLT, Int.reduceLE, Int.reduceAdd, Nat.reduceAdd, Nat.reduceSub, eq_self, ite_true, ite_false, beq_self_eq_true, Bool.not_true, Bool.not_false, Wp.isB_0, Wp.isB_1, Wp.isB_2, Wp.isB_3, Wp.isB_4, Wp.isB_5, Wp.isB_6, Wp.isB_7, Wp.isB_8, Wp.isB_9, Wp.isB_10, Wp.isB_11, Wp.isB_12, Wp.isB_13, Wp.isB_14, Wp.isB_15, Wp.isB_16, Wp.isB_17, Wp.isB_18, Wp.isB_19, Wp.isB_20, Wp.isB_21, Wp.isB_22, Wp.isB_23, Wp.isB_24, Wp.isB_25, Wp.isB_26, Wp.isB_27, Wp.isB_28, Wp.isB_29, Wp.isB_30, Wp.isB_31, Wp.isB_32, Wp.isB_33, Wp.isB_34, Wp.isB_35, Wp.cmul_l, Wp.cmul_r, Wp.cpow_lit, Wp.size_le, Wp.size_lt, Wp.atI_0, Wp.atI_1, Wp.atI_2, Wp.atI_3, Wp.atI_4, Wp.atI_5, Wp.atI_6, Wp.ixN_0, Wp.ixN_1, Wp.ixN_2, Wp.itemsT, Wp.tyT, reduceIte, Wp.wFld, Wp.wFSet, Wp.wFAug, Wp.wMeth, Wp.wMake, Wp.rIxA, Wp.rInA, Wp.rSetA, Wp.ixA, Wp.inA, Wp.setA, Wp.lenA, Wp.getD, Option.map_some, Option.bind_some, Option.getD_some,  Wp.gIxA, Wp.wDNew, Wp.wDNewT, Wp.rLenA, Wp.rSortD, Wp.rMaxL, Wp.rPopL, Wp.rGet1, Wp.rGet2, Wp.wGet1, Wp.wGet2, Wp.wPop1, Wp.wPop2, Wp.wDel, Wp.isDT, Wp.keyT, Wp.keysT, Wp.keysL, Wp.ex_ins, Wp.ex_dct, Wp.wIf, Wp.rGt, Wp.wTry, Wp.wMethX, Wp.wCallX, Wp.wRaise, Wp.rAddI, Int.cast_ofNat_Int, Int.reduceBEq, lk_Reader_row, pt_Reader_row, lk_Reader_place, pt_Reader_place, no_Reader_byte, no_Reader_inner, no_Reader_is_done, no_Reader_number, no_Reader_part, no_Reader_value, no_Reader_word, ln_Reader, mk_Reader, Wp.rMulB, Wp.upS, Wp.upS_upS, *])
local macro_rules | `(tactic| walk_at "run") => `(tactic| repeat (first | walk_at "wp" | walk_at "go"))
local macro_rules | `(tactic| walk_at "wq") => `(tactic| simp (disch := omega) only [Wp.wSeq, Wp.wNext, Wp.wSet, Wp.wVar, Wp.wC, Wp.wOp, Wp.wRet, Wp.wIfS, Wp.wTest, Wp.wCall, Wp.wCons, Wp.wNil, Wp.wTup, Wp.wLst, Wp.wAsg, Wp.gTp, Wp.gC, Wp.gNm, Wp.gN0, Wp.gIx, Wp.rSet, Wp.rAdd, Wp.rMul, Wp.rMod, Wp.rSub, Wp.rFdiv, Wp.rPow, Wp.rInt, Wp.rIx, Wp.rLt, Wp.rLe, Wp.rCmp, Wp.rGeI, Wp.rGtI, Wp.wCB, Wp.rLen, Wp.rLen1, Wp.rInt1, Wp.rMax2, Wp.rMin2, Wp.rTupOf, Wp.rListOf,
  Wp.wIsi, Wp.rBIs, Wp.rIsN, Wp.isNon, Wp.wMt, Wp.rAppendT, Wp.rExtendT, Wp.rReverseT, Wp.wNot, Wp.wOr, Wp.wAnd, Wp.wAndV, Wp.wOrV, Wp.wNotV, Wp.wFor, Wp.iRg1, Wp.iRg2, Wp.iAnyW, Wp.wAll, Wp.wChain, Wp.wSl, Wp.wNoPart, Wp.wPart, Wp.rSl, Wp.wNeg, Wp.rNeg, Wp.wLc, Wp.wYes, Wp.wDrop, Wp.wipeT, Wp.wAug, List.map, List.set_cons_zero, List.set_cons_succ, List.getElem?_cons_zero, List.getElem?_cons_succ, List.length_cons, List.length_nil, List.cons_append, List.nil_append, List.replicate, Wp.startT,
  true_and, and_true, Wp.wif_true, Wp.wif_false, Wp.ex_some, Wp.ex_some1, Wp.ex_eq, Wp.ex_lst, Wp.ex_lst0, Wp.rEq_int, Bool.false_bne, Bool.true_bne, Int.reduceLT, Int.reduceLE, Int.reduceAdd, Nat.reduceAdd, Nat.reduceSub, eq_self, ite_true, ite_false, beq_self_eq_true, Bool.not_true, Bool.not_false, Wp.isB_0, Wp.isB_1, Wp.isB_2, Wp.isB_3, Wp.isB_4, Wp.isB_5, Wp.isB_6, Wp.isB_7, Wp.isB_8, Wp.isB_9, Wp.isB_10, Wp.isB_11, Wp.isB_12, Wp.isB_13, Wp.isB_14, Wp.isB_15, Wp.isB_16, Wp.isB_17, Wp.isB_18, Wp.isB_19, Wp.isB_20, Wp.isB_21, Wp.isB_22, Wp.isB_23, Wp.isB_24, Wp.isB_25, Wp.isB_26, Wp.isB_27, Wp.isB_28, Wp.isB_29, Wp.isB_30, Wp.isB_31, Wp.isB_32, Wp.isB_33, Wp.isB_34, Wp.isB_35, Wp.cmul_l, Wp.cmul_r, Wp.cpow_lit, Wp.size_le, Wp.size_lt, Wp.atI_0, Wp.atI_1, Wp.atI_2, Wp.atI_3, Wp.atI_4, Wp.atI_5, Wp.atI_6, Wp.ixN_0, Wp.ixN_1, Wp.ixN_2, Wp.itemsT, Wp.tyT, reduceIte, Wp.wFld, Wp.wFSet, Wp.wFAug, Wp.wMeth, Wp.wMake, Wp.rIxA, Wp.rInA, Wp.rSetA, Wp.ixA, Wp.inA, Wp.setA, Wp.lenA, Wp.getD, Option.map_some, Option.bind_some, Option.getD_some,  Wp.gIxA, Wp.wDNew, Wp.wDNewT, Wp.rLenA, Wp.rSortD, Wp.rMaxL, Wp.rPopL, Wp.rGet1, Wp.rGet2, Wp.wGet1, Wp.wGet2, Wp.wPop1, Wp.wPop2, Wp.wDel, Wp.isDT, Wp.keyT, Wp.keysT, Wp.keysL, Wp.ex_ins, Wp.ex_dct, Wp.wIf, Wp.rGt, Wp.wTry, Wp.wMethX, Wp.wCallX, Wp.wRaise, Wp.rAddI, Int.cast_ofNat_Int, Int.reduceBEq, lk_Reader_row, pt_Reader_row, lk_Reader_place, pt_Reader_place, no_Reader_byte, no_Reader_inner, no_Reader_is_done, no_Reader_number, no_Reader_part, no_Reader_value, no_Reader_word, ln_Reader, mk_Reader, Wp.rMulB, *])
local macro_rules | `(tactic| walk_at "r2") => `(tactic| repeat (first | walk_at "wq" | walk_at "go"))
local macro_rules | `(tactic| walk_at "w0") => `(tactic| simp (disch := omega) only [Wp.wSeq, Wp.wNext, Wp.wSet, Wp.wVar, Wp.wC, Wp.wOp, Wp.wRet, Wp.wIfS, Wp.wTest, Wp.wCall, Wp.wCons, Wp.wNil, Wp.wTup, Wp.wLst, Wp.wAsg, Wp.gTp, Wp.gC, Wp.gNm, Wp.gN0, Wp.gIx, Wp.rSet, Wp.rAdd, Wp.rMul, Wp.rMod, Wp.rSub, Wp.rFdiv, Wp.rPow, Wp.rInt, Wp.rIx, Wp.rLt, Wp.rLe, Wp.rCmp, Wp.rGeI, Wp.rGtI, Wp.wCB, Wp.rLen, Wp.rLen1, Wp.rInt1, Wp.rMax2, Wp.rMin2, Wp.rTupOf, Wp.rListOf,
  Wp.wIsi, Wp.rBIs, Wp.rIsN, Wp.isNon, Wp.wMt, Wp.rAppendT, Wp.rExtendT, Wp.rReverseT, Wp.wNot, Wp.wOr, Wp.wAnd, Wp.wAndV, Wp.wOrV, Wp.wNotV, Wp.wFor, Wp.iRg1, Wp.iRg2, Wp.iAnyW, Wp.wAll, Wp.wChain, Wp.wSl, Wp.wNoPart, Wp.wPart, Wp.rSl, Wp.wNeg, Wp.rNeg, Wp.wLc, Wp.wYes, Wp.wDrop, Wp.wipeT, Wp.wAug, List.map, List.set_cons_zero, List.set_cons_succ, List.getElem?_cons_zero, List.getElem?_cons_succ, List.length_cons, List.length_nil, List.cons_append, List.nil_append, List.replicate, Wp.startT,
  true_and, and_true, Wp.wif_true, Wp.wif_false, Wp.ex_some, Wp.ex_some1, Wp.ex_eq, Wp.ex_lst, Wp.ex_lst0, Wp.rEq_int, Bool.false_bne, Bool.true_bne, Int.reduceLT, Int.reduceLE, Int.reduceAdd, Nat.reduceAdd, Nat.reduceSub, eq_self, ite_true, ite_false, beq_self_eq_true, Bool.not_true, Bool.not_false, Wp.isB_0, Wp.isB_1, Wp.isB_2, Wp.isB_3, Wp.isB_4, Wp.isB_5, Wp.isB_6, Wp.isB_7, Wp.isB_8, Wp.isB_9, Wp.isB_10, Wp.isB_11, Wp.isB_12, Wp.isB_13, Wp.isB_14, Wp.isB_15, Wp.isB_16, Wp.isB_17, Wp.isB_18, Wp.isB_19, Wp.isB_20, Wp.isB_21, Wp.isB_22, Wp.isB_23, Wp.isB_24, Wp.isB_25, Wp.isB_26, Wp.isB_27, Wp.isB_28, Wp.isB_29, Wp.isB_30, Wp.isB_31, Wp.isB_32, Wp.isB_33, Wp.isB_34, Wp.isB_35, Wp.cmul_l, Wp.cmul_r, Wp.cpow_lit, Wp.size_le, Wp.size_lt, Wp.atI_0, Wp.atI_1, Wp.atI_2, Wp.atI_3, Wp.atI_4, Wp.atI_5, Wp.atI_6, Wp.ixN_0, Wp.ixN_1, Wp.ixN_2, Wp.itemsT, Wp.tyT, reduceIte, Wp.wFld, Wp.wFSet, Wp.wFAug, Wp.wMeth, Wp.wMake, Wp.rIxA, Wp.rInA, Wp.rSetA, Wp.ixA, Wp.inA, Wp.setA, Wp.lenA, Wp.getD, Option.map_some, Option.bind_some, Option.getD_some,  Wp.gIxA, Wp.wDNew, Wp.wDNewT, Wp.rLenA, Wp.rSortD, Wp.rMaxL, Wp.rPopL, Wp.rGet1, Wp.rGet2, Wp.wGet1, Wp.wGet2, Wp.wPop1, Wp.wPop2, Wp.wDel, Wp.isDT, Wp.keyT, Wp.keysT, Wp.keysL, Wp.ex_ins, Wp.ex_dct, Wp.wIf, Wp.rGt, Wp.wTry, Wp.wMethX, Wp.wCallX, Wp.wRaise, Wp.rAddI, Int.cast_ofNat_Int, Int.reduceBEq, lk_Reader_row, pt_Reader_row, lk_Reader_place, pt_Reader_place, no_Reader_byte, no_Reader_inner, no_Reader_is_done, no_Reader_number, no_Reader_part, no_Reader_value, no_Reader_word, ln_Reader, mk_Reader, Wp.rMulB])
local macro_rules | `(tactic| walk_at "r0") => `(tactic| repeat (first | walk_at "w0" | walk_at "go"))
variable {C CB : Addr}
/-! ### values that can be written, and their bytes -/
def nb (n : Nat) : List Int := (((digs n).length : Nat) : Int) :: digs n
mutual
def parts : T → List Int
  | .non => [0]
  | .int i => 1 :: nb i.toNat
  | .str x => 2 :: (nb x.length ++ x.cps.toList.map fun (c : Nat) => (c : Int))
  | .tup ts => 3 :: (nb ts.length ++ partsL ts)
  | .bl _ => []
  | .fl _ => []
  | .ref _ => []
  | .pt _ => []
def partsL : List T → List Int
  | [] => []
  | t :: ts => parts t ++ partsL ts
end
inductive Vl : Nat → T → Prop
  | non (d : Nat) : Vl d .non
  | int (d : Nat) (i : Int) (h0 : 0 ≤ i) (h1 : i ≤ 4294967295) : Vl d (.int i)
  | str (d : Nat) (x : Str) (h : isWd (.str x) = true) (hs : PyData.strOk x = true) : Vl d (.str x)
  | tup (d : Nat) (ts : List T) (hl : ts.length ≤ 9000) (h : ∀ t ∈ ts, Vl d t) : Vl (d + 1) (.tup ts)
theorem Vl.kn {d : Nat} {t : T} (h : Vl d t) (S : Sta) : Kn S t := by
  induction h with
  | non d => exact .non
  | int d i _ _ => exact .int i
  | str d x _ hs => exact .str x hs
  | tup d ts hl h ih => exact .tup ts (by omega) ih
theorem wd_len {x : Str} (h : isWd (.str x) = true) : 1 ≤ x.length ∧ x.length ≤ 12 := by
  simp only [isWd, Bool.and_eq_true, decide_eq_true_eq] at h
  omega
/-- all else is kept -/
def Kp (p : Addr) (S S' : Sta) : Prop := ∀ a o, S a = some o → a ≠ p → S' a = some o
theorem Kp.trans {p : Addr} {S S1 S2 : Sta} (a : Kp p S S1) (b : Kp p S1 S2) : Kp p S S2 := fun x o h n => b x o (a x o h n) n
theorem kp_up {p : Addr} {S : Sta} {o : O} : Kp p S (upS S p o) := fun a u e n => by rw [upS_ne n]; exact e
def spPut (d : Nat) : WSp := fun ts S Q _ => match ts with
  | [.ref p, v, .int lv] => Vl d v ∧ (d : Int) ≤ lv ∧ ∃ xs : List Int, S p = some (.lst (xs.map T.int)) ∧ xs.length + (parts v).length ≤ 59998 ∧ ∀ S', Kp p S S' → S' p = some (.lst ((xs ++ parts v).map T.int)) → Q .non S'
  | _ => False
theorem put_end (p : Addr) (a1 a2 a3 a4 : Option T) (Q : T → Sta → Prop) (S : Sta) (ys : List Int) (hp : S p = some (.lst (ys.map T.int))) (hl : ys.length ≤ 59998) (h : Q .non S) :
    goS ((wIfS (wTest (wOp rGt (wCB rLenA (wCons (wVar 0) wNil)) (wOp Wp.rSub (wC (.int 60000)) (wC (.int 2))))) wNever wNext) { nx := fun _ S' => Q .non S', rt := Q }) [some (.ref p), a1, a2, a3, a4] S := by
  have e : itemsT S (.ref p) = some (ys.map T.int) := itemsT_ref hp
  refine ⟨.ref p, rfl, _, lenA_ref hp, trivial, ?_⟩
  change wif (decide ((60000 - 2 : Int) < ((ys.map T.int).length : Int))) (wNever { nx := fun _ S' => Q .non S', rt := Q } [some (.ref p), a1, a2, a3, a4] S) (wNext { nx := fun _ S' => Q .non S', rt := Q } [some (.ref p), a1, a2, a3, a4] S)
  rw [decide_eq_false (by rw [List.length_map]; omega)]
  exact wif_f h
theorem app1 (p : Addr) {S : Sta} {xs : List Int} (hp : S p = some (.lst (xs.map T.int))) (hl : xs.length ≤ 60000) (n : Int) (σ : Sl) (hσ : σ[0]? = some (some (.ref p))) (F : Sl → Sta → Prop) (D : WEnds) (hD : D.nx = F)
    (h : ∀ S', Kp p S S' → S' p = some (.lst ((xs ++ [n]).map T.int)) → F σ S') : (wDrop (wMt rAppendT (wVar 0) (wCons (wC (.int n)) wNil))) D σ S := by
  refine ⟨.ref p, hσ, ⟨_, hp⟩, _, hp, Nat.lt_of_le_of_lt (show (xs.map T.int).length ≤ 60000 by rw [List.length_map]; exact hl) (by rw [sizeLine_eq]; decide), ?_⟩
  show D.nx σ _
  rw [hD]
  exact h _ kp_up (by rw [upS_same, List.map_append]; rfl)
theorem put_loop (d : Nat) (p : Addr) (a1 : Option T) (lv : Int) (a3 : Option T) (hlv : ((d : Nat) : Int) ≤ lv - 1) (Dn : WEnds) (S0 : Sta) (zs : List Int) :
    ∀ (ts : List T) (xs : List Int) (S : Sta) (a4 : Option T), (∀ t ∈ ts, Vl d t) → Kp p S0 S → S p = some (.lst (xs.map T.int)) → xs.length + (partsL ts).length ≤ 59998 → xs ++ partsL ts = zs →
      (∀ S' a4, Kp p S0 S' → S' p = some (.lst (zs.map T.int)) → Dn.nx [some (.ref p), a1, some (.int lv), a3, a4] S') →
      loopW (gNm 4) ((l2__put C CB) spIsI spPn spWd (spPut d)) (fun _ => True) Dn ts [some (.ref p), a1, some (.int lv), a3, a4] S
  | [], xs, S, a4, _, hk, hp, hl, he, hn => ⟨trivial, hn S a4 hk (by rw [← he, partsL, List.append_nil]; exact hp)⟩
  | t :: ts, xs, S, a4, hv, hk, hp, hl, he, hn => by
    refine ⟨trivial, ?_⟩
    rw [partsL, List.length_append] at hl
    rw [partsL, ← List.append_assoc] at he
    have ih := fun S' hk' hp' => put_loop d p a1 lv a3 hlv Dn S0 zs ts (xs ++ parts t) S' (some t) (fun u hu => hv u (List.mem_cons_of_mem _ hu)) hk' hp' (by rw [List.length_append]; omega) he hn
    unfold l2__put
    refine ⟨.ref p, rfl, t, rfl, .int lv, rfl, trivial, rfl, hv t List.mem_cons_self, hlv, xs, hp, by omega, fun S' k' p' => ?_⟩
    exact ih S' (hk.trans k') p'
theorem isWd_tup {ts : List T} : isWd (.tup ts) = false := rfl
/-- the letters' codes -/
theorem comp_ord (sub : WSp) (Q : T → Sta → Prop) (S : Sta) (D : Addr) (cs : List Nat) (a0 a1 a2 a4 : Option T) (hl : cs.length ≤ 1000) (h : Q (.ref D) (upS S D (.lst ((cs.map fun (c : Nat) => (c : Int)).map T.int)))) :
    compW (gNm 3) wYes ((l1__put C CB) spIsI spPn spWd sub) (fun _ => True) [a0, a1, a2, none, a4] D Q (cs.map fun c => T.str ⟨#[c]⟩) (upS S D (.lst [])) := by
  refine compW_pure (fun x => match x with | .str z => .int (z.cps.getD 0 0 : Nat) | _ => .non) (fun _ => trivial) _ [] _ (fun x hx acc R q => ?_) ?_ ?_
  · obtain ⟨c, _, rfl⟩ := List.mem_map.mp hx
    unfold l1__put
    exact ⟨_, rfl, rfl, q⟩
  · rw [List.length_map]
    simp only [List.length_nil]
    omega
  · rw [List.nil_append, List.map_map]
    rw [List.map_map] at h
    exact h
theorem hw_put (d : Nat) (sub : WSp) (hsub : ∀ e, d = e + 1 → sub = spPut e) : ∀ ts S Q E, ts.length = 3 → spPut d ts S Q E → (b__put C CB) spIsI spPn spWd sub { nx := fun _ S' => Q .non S', rt := Q } (Wp.startT N__put ts) S := by
  intro ts S Q E _ h
  match ts, h with
  | [.ref p, v, .int lv], ⟨hv, hd, xs, hp, hl, h⟩ =>
    unfold b__put N__put
    have kn := fun S => hv.kn S
    have hend : ∀ (a1 a2 a3 a4 : Option T) (S' : Sta), Kp p S S' → S' p = some (.lst ((xs ++ parts v).map T.int)) →
        goS ((wIfS (wTest (wOp rGt (wCB rLenA (wCons (wVar 0) wNil)) (wOp Wp.rSub (wC (.int 60000)) (wC (.int 2))))) wNever wNext) { nx := fun _ S' => Q .non S', rt := Q }) [some (.ref p), a1, a2, a3, a4] S' := fun a1 a2 a3 a4 S' k' p' =>
      put_end p a1 a2 a3 a4 Q S' _ p' (by rw [List.length_append]; exact hl) (h S' k' p')
    cases hv with
    | non =>
      refine ⟨.non, rfl, ?_⟩
      refine wif_t ?_
      rw [parts] at hend hl
      exact app1 p hp (by omega) 0 _ rfl _ _ rfl fun S' k' p' => hend _ _ _ _ S' k' p'
    | int _ i h0 h1 =>
      refine ⟨.int i, rfl, ?_⟩
      refine wif_f ?_
      refine ⟨.int i, rfl, rfl, .int i, ?_⟩
      have ei : isI (.int i) 0 4294967295 = true := by simp only [isI, h0, h1, decide_true, Bool.and_self]
      rw [ei]
      refine wif_t ?_
      rw [parts] at hend hl
      simp only [List.length_cons, nb] at hl
      refine app1 p hp (by omega) 1 _ rfl _ _ rfl fun S1 k1 p1 => ?_
      refine ⟨.ref p, rfl, .int i, rfl, rfl, h0, by omega, xs ++ [1], p1, by simp only [List.length_append, List.length_cons, List.length_nil]; omega, fun S2 k2 p2 => ?_⟩
      exact hend _ _ _ _ S2 (k1.trans k2) (by rw [p2]; simp [nb])
    | str _ x hw hs =>
      obtain ⟨w1, w2⟩ := wd_len hw
      refine ⟨.str x, rfl, ?_⟩
      refine wif_f ?_
      refine ⟨.str x, rfl, rfl, .str x hs, ?_⟩
      refine wif_f ?_
      refine ⟨.str x, rfl, rfl, .str x hs, fun y e => by cases e; omega, ?_⟩
      rw [hw]
      refine wif_t ?_
      rw [parts] at hend hl
      simp only [List.length_cons, List.length_append, List.length_map, nb] at hl
      refine app1 p hp (by omega) 2 _ rfl _ _ rfl fun S1 k1 p1 => ?_
      refine ⟨.ref p, rfl, .str x, rfl, _, if_pos (Nat.le_trans w2 (by rw [sizeLine_eq]; decide)), rfl, Int.natCast_nonneg _, by omega, xs ++ [2], p1, by simp only [List.length_append, List.length_cons, List.length_nil]; omega, fun S2 k2 p2 => ?_⟩
      refine goS_i ⟨.ref p, rfl, ⟨_, p2⟩, .str x, rfl, fun D hD => ?_⟩
      have hDp : D ≠ p := fun e => by rw [e, p2] at hD; cases hD
      have hcs : x.cps.toList.length = x.length := Array.length_toList ..
      refine comp_ord sub _ S2 D x.cps.toList _ _ _ _ (by omega) ?_
      refine ⟨_, by rw [upS_ne hDp.symm]; exact p2, _, upS_same, ?_, ?_⟩
      · rw [sizeLine_eq]
        simp only [List.length_append, List.length_map, List.length_cons, List.length_nil]
        have := digs_len (n := ((x.length : Nat) : Int).toNat) (by omega)
        omega
      · refine hend _ _ _ _ _ (Kp.trans k1 (Kp.trans (show Kp p S1 S2 from k2) fun a o e ne => ?_)) ?_
        · rw [upS_ne ne, upS_ne (fun z => by rw [z, hD] at e; cases e)]
          exact e
        · rw [upS_same, ← List.map_append]
          all_goals simp [nb]
    | tup e ts' hts hall =>
      cases hsub e rfl
      have kt : ∀ S, Kn S (.tup ts') := kn
      refine ⟨.tup ts', rfl, ?_⟩
      refine wif_f ?_
      refine ⟨.tup ts', rfl, rfl, kt _, ?_⟩
      refine wif_f ?_
      refine ⟨.tup ts', rfl, rfl, kt _, (fun y e => by cases e), ?_⟩
      refine wif_f ?_
      refine ⟨.tup ts', rfl, _, rfl, ?_⟩
      rw [isB_27]
      refine wif_t ?_
      refine ⟨.int lv, rfl, ?_⟩
      refine if_dec (fun _ => ?_) (fun z => absurd (show (0 : Int) < lv by omega) z)
      rw [parts] at hend hl
      simp only [List.length_cons, List.length_append, nb] at hl
      refine app1 p hp (by omega) 3 _ rfl _ _ rfl fun S1 k1 p1 => ?_
      refine ⟨.ref p, rfl, .tup ts', rfl, _, rfl, rfl, Int.natCast_nonneg _, by omega, xs ++ [3], p1, by simp only [List.length_append, List.length_cons, List.length_nil]; omega, fun S2 k2 p2 => ?_⟩
      refine goS_i ⟨.tup ts', rfl, ?_⟩
      refine put_loop e p _ lv _ (by omega) _ S (xs ++ 3 :: (nb ts'.length ++ partsL ts')) ts' _ S2 _ hall (k1.trans k2) p2 ?_ ?_ fun S3 a4 k3 p3 => hend _ _ _ _ S3 k3 p3
      · simp only [List.length_append, List.length_cons, List.length_nil, Int.toNat_natCast]
        omega
      · simp [nb]
end My

set_option Elab.async false
set_option linter.all false
set_option maxRecDepth 100000
set_option maxHeartbeats 8000000
namespace My
open PySem PySem.Spec PyProof.Rows L2 Wp Gn
local macro_rules | `(tactic| walk_at "go") => `(tactic| (with_reducible refine goS_i ?_))
local macro_rules | `(tactic| walk_at "wp") => `(tactic| simp (disch := omega) only [Wp.wSeq, Wp.wNext, Wp.wSet, Wp.wVar, Wp.wC, Wp.wOp, Wp.wRet, Wp.wIfS, Wp.wTest, Wp.wCall, Wp.wCons, Wp.wNil, Wp.wTup, Wp.wLst, Wp.wAsg, Wp.gTp, Wp.gC, Wp.gNm, Wp.gN0, Wp.gIx, Wp.rSet, Wp.rAdd, Wp.rMul, Wp.rMod, Wp.rSub, Wp.rFdiv, Wp.rPow, Wp.rInt, Wp.rIx, Wp.rLt, Wp.rLe, Wp.rCmp, Wp.rGeI, Wp.rGtI, Wp.wCB, Wp.rLen, Wp.rLen1, Wp.rInt1, Wp.rMax2, Wp.rMin2, Wp.rTupOf, Wp.rListOf,
  Wp.wIsi, Wp.rBIs, Wp.rIsN, Wp.isNon, Wp.wMt, Wp.rAppendT, Wp.rExtendT, Wp.rReverseT, Wp.wNot, Wp.wOr, Wp.wAnd, Wp.wAndV, Wp.wOrV, Wp.wNotV, Wp.wFor, Wp.iRg1, Wp.iRg2, Wp.iAnyW, Wp.wAll, Wp.wChain, Wp.wSl, Wp.wNoPart, Wp.wPart, Wp.rSl, Wp.wNeg, Wp.rNeg, Wp.wLc, Wp.wYes, Wp.wDrop, Wp.wipeT, Wp.wAug, List.map, List.set_cons_zero, List.set_cons_succ, List.getElem?_cons_zero, List.getElem?_cons_succ, List.length_cons, List.length_nil, List.cons_append, List.nil_append, List.replicate, Wp.startT,
  true_and, and_true, Wp.wif_true, Wp.wif_false, Wp.ex_some, Wp.ex_some1, Wp.ex_eq, Wp.ex_lst, Wp.ex_lst0, Wp.rEq_int, Bool.false_bne, Bool.true_bne, Int.reduceLT, Int.reduceLE, Int.reduceAdd, Nat.reduceAdd, Nat.reduceSub, eq_self, ite_true, ite_false, beq_self_eq_true, Bool.not_true, Bool.not_false, Wp.isB_0, Wp.isB_1, Wp.isB_2, Wp.isB_3, Wp.isB_4, Wp.isB_5, Wp.isB_6, Wp.isB_7, Wp.isB_8, Wp.isB_9, Wp.isB_10, Wp.isB_11, Wp.isB_12, Wp.isB_13, Wp.isB_14, Wp.isB_15, Wp.isB_16, Wp.isB_17, Wp.isB_18, Wp.isB_19, Wp.isB_20, Wp.isB_21, Wp.isB_22, Wp.isB_23, Wp.isB_24, Wp.isB_25, Wp.isB_26, Wp.isB_27, Wp.isB_28, Wp.isB_29, Wp.isB_30, Wp.isB_31, Wp.isB_32, Wp.isB_33, Wp.isB_34, Wp.isB_35, Wp.cmul_l, Wp.cmul_r, Wp.cpow_lit, Wp.size_le, Wp.size_lt, Wp.atI_0, Wp.atI_1, Wp.atI_2, Wp.atI_3, Wp.atI_4, Wp.atI_5, Wp.atI_6, Wp.ixN_0, Wp.ixN_1, Wp.ixN_2, Wp.itemsT, Wp.tyT, reduceIte, Wp.wFld, Wp.wFSet, Wp.wFAug, Wp.wMeth, Wp.wMake, Wp.rIxA, Wp.rInA, Wp.rSetA, Wp.ixA, Wp.inA, Wp.setA, Wp.lenA, Wp.getD, Option.map_some, Option.bind_some, Option.getD_some,  Wp.gIxA, Wp.wDNew, Wp.wDNewT, Wp.rLenA, Wp.rSortD, Wp.rMaxL, Wp.rPopL, Wp.rGet1, Wp.rGet2, Wp.wGet1, Wp.wGet2, Wp.wPop1, Wp.wPop2, Wp.wDel, Wp.isDT, Wp.keyT, Wp.keysT, Wp.keysL, Wp.ex_ins, Wp.ex_dct, Wp.wIf, Wp.rGt, Wp.wTry, Wp.wMethX, Wp.wCallX, Wp.wRaise, Wp.rAddI, Int.cast_ofNat_Int, Int.reduceBEq, lk_Reader_row, pt_Reader_row, lk_Reader_place, pt_Reader_place, no_Reader_byte, no_Reader_inner, no_Reader_is_done, no_Reader_number, no_Reader_part, no_Reader_value, no_Reader_word, ln_Reader, mk_Reader, Wp.rMulB, Wp.upS, Wp.upS_upS, *])
local macro_rules | `(tactic| walk_at "run") => `(tactic| repeat (first | walk_at "wp" | walk_at "go"))
local macro_rules | `(tactic| walk_at "wq") => `(tactic| simp (disch := omega) only [Wp.wSeq, Wp.wNext, Wp.wSet, Wp.wVar, Wp.wC, Wp.wOp, Wp.wRet, Wp.wIfS, Wp.wTest, Wp.wCall, Wp.wCons, Wp.wNil, Wp.wTup, Wp.wLst, Wp.wAsg, Wp.gTp, Wp.gC, Wp.gNm, Wp.gN0, Wp.gIx, Wp.rSet, Wp.rAdd, Wp.rMul, Wp.rMod, Wp.rSub, Wp.rFdiv, Wp.rPow, Wp.rInt, Wp.rIx, Wp.rLt, Wp.rLe, Wp.rCmp, Wp.rGeI, Wp.rGtI, Wp.wCB, Wp.rLen, Wp.rLen1, Wp.rInt1, Wp.rMax2, Wp.rMin2, Wp.rTupOf, Wp.rListOf,
  Wp.wIsi, Wp.rBIs, Wp.rIsN, Wp.isNon, Wp.wMt, Wp.rAppendT, Wp.rExtendT, Wp.rReverseT, Wp.wNot, Wp.wOr, Wp.wAnd, Wp.wAndV, Wp.wOrV, Wp.wNotV, Wp.wFor, Wp.iRg1, Wp.iRg2, Wp.iAnyW, Wp.wAll, Wp.wChain, Wp.wSl, Wp.wNoPart, Wp.wPart, Wp.rSl, Wp.wNeg, Wp.rNeg, Wp.wLc, Wp.wYes, Wp.wDrop, Wp.wipeT, Wp.wAug, List.map, List.set_cons_zero, List.set_cons_succ, List.getElem?_cons_zero, List.getElem?_cons_succ, List.length_cons, List.length_nil, List.cons_append, List.nil_append, List.replicate, Wp.startT,
  true_and, and_true, Wp.wif_true, Wp.wif_false, Wp.ex_some, Wp.ex_some1, Wp.ex_eq, Wp.ex_lst, Wp.ex_lst0, Wp.rEq_int, Bool.false_bne, Bool.true_bne, Int.reduceLT, Int.reduceLE, Int.reduceAdd, Nat.reduceAdd, Nat.reduceSub, eq_self, ite_true, ite_false, beq_self_eq_true, Bool.not_true, Bool.not_false, Wp.isB_0, Wp.isB_1, Wp.isB_2, Wp.isB_3, Wp.isB_4, Wp.isB_5, Wp.isB_6, Wp.isB_7, Wp.isB_8, Wp.isB_9, Wp.isB_10, Wp.isB_11, Wp.isB_12, Wp.isB_13, Wp.isB_14, Wp.isB_15, Wp.isB_16, Wp.isB_17, Wp.isB_18, Wp.isB_19, Wp.isB_20, Wp.isB_21, Wp.isB_22, Wp.isB_23, Wp.isB_24, Wp.isB_25, Wp.isB_26, Wp.isB_27, Wp.isB_28, Wp.isB_29, Wp.isB_30, Wp.isB_31, Wp.isB_32, Wp.isB_33, Wp.isB_34, Wp.isB_35, Wp.cmul_l, Wp.cmul_r, Wp.cpow_lit, Wp.size_le, Wp.size_lt, Wp.atI_0, Wp.atI_1, Wp.atI_2, Wp.atI_3, Wp.atI_4, Wp.atI_5, Wp.atI_6, Wp.ixN_0, Wp.ixN_1, Wp.ixN_2, Wp.itemsT, Wp.tyT, reduceIte, Wp.wFld, Wp.wFSet, Wp.wFAug, Wp.wMeth, Wp.wMake, Wp.rIxA, Wp.rInA, Wp.rSetA, Wp.ixA, Wp.inA, Wp.setA, Wp.lenA, Wp.getD, Option.map_some, Option.bind_some, Option.getD_some,  Wp.gIxA, Wp.wDNew, Wp.wDNewT, Wp.rLenA, Wp.rSortD, Wp.rMaxL, Wp.rPopL, Wp.rGet1, Wp.rGet2, Wp.wGet1, Wp.wGet2, Wp.wPop1, Wp.wPop2, Wp.wDel, Wp.isDT, Wp.keyT, Wp.keysT, Wp.keysL, Wp.ex_ins, Wp.ex_dct, Wp.wIf, Wp.rGt, Wp.wTry, Wp.wMethX, Wp.wCallX, Wp.wRaise, Wp.rAddI, Int.cast_ofNat_Int, Int.reduceBEq, lk_Reader_row, pt_Reader_row, lk_Reader_place, pt_Reader_place, no_Reader_byte, no_Reader_inner, no_Reader_is_done, no_Reader_number, no_Reader_part, no_Reader_value, no_Reader_word, ln_Reader, mk_Reader, Wp.rMulB, *])
local macro_rules | `(tactic| walk_at "r2") => `(tactic| repeat (first | walk_at "wq" | walk_at "go"))
local macro_rules | `(tactic| walk_at "w0") => `(tactic| simp (disch := omega) only [Wp.wSeq, Wp.wNext, Wp.wSet, Wp.wVar, Wp.wC, Wp.wOp, Wp.wRet, Wp.wIfS, Wp.wTest, Wp.wCall, Wp.wCons, Wp.wNil, Wp.wTup, Wp.wLst, Wp.wAsg, Wp.gTp, Wp.gC, Wp.gNm, Wp.gN0, Wp.gIx, Wp.rSet, Wp.rAdd, Wp.rMul, Wp.rMod, Wp.rSub, Wp.rFdiv, Wp.rPow, Wp.rInt, Wp.rIx, Wp.rLt, Wp.rLe, Wp.rCmp, Wp.rGeI, Wp.rGtI, Wp.wCB, Wp.rLen, Wp.rLen1, Wp.rInt1, Wp.rMax2, Wp.rMin2, Wp.rTupOf, Wp.rListOf,
  Wp.wIsi, Wp.rBIs, Wp.rIsN, Wp.isNon, Wp.wMt, Wp.rAppendT, Wp.rExtendT, Wp.rReverseT, Wp.wNot, Wp.wOr, Wp.wAnd, Wp.wAndV, Wp.wOrV, Wp.wNotV, Wp.wFor, Wp.iRg1, Wp.iRg2, Wp.iAnyW, Wp.wAll, Wp.wChain, Wp.wSl, Wp.wNoPart, Wp.wPart, Wp.rSl, Wp.wNeg, Wp.rNeg, Wp.wLc, Wp.wYes, Wp.wDrop, Wp.wipeT, Wp.wAug, List.map, List.set_cons_zero, List.set_cons_succ, List.getElem?_cons_zero, List.getElem?_cons_succ, List.length_cons, List.length_nil, List.cons_append, List.nil_append, List.replicate, Wp.startT,
  true_and, and_true, Wp.wif_true, Wp.wif_false, Wp.ex_some, Wp.ex_some1, Wp.ex_eq, Wp.ex_lst, Wp.ex_lst0, Wp.rEq_int, Bool.false_bne, Bool.true_bne, Int.reduceLT, Int.reduceLE, Int.reduceAdd, Nat.reduceAdd, Nat.reduceSub, eq_self, ite_true, ite_false, beq_self_eq_true, Bool.not_true, Bool.not_false, Wp.isB_0, Wp.isB_1, Wp.isB_2, Wp.isB_3, Wp.isB_4, Wp.isB_5, Wp.isB_6, Wp.isB_7, Wp.isB_8, Wp.isB_9, Wp.isB_10, Wp.isB_11, Wp.isB_12, Wp.isB_13, Wp.isB_14, Wp.isB_15, Wp.isB_16, Wp.isB_17, Wp.isB_18, Wp.isB_19, Wp.isB_20, Wp.isB_21, Wp.isB_22, Wp.isB_23, Wp.isB_24, Wp.isB_25, Wp.isB_26, Wp.isB_27, Wp.isB_28, Wp.isB_29, Wp.isB_30, Wp.isB_31, Wp.isB_32, Wp.isB_33, Wp.isB_34, Wp.isB_35, Wp.cmul_l, Wp.cmul_r, Wp.cpow_lit, Wp.size_le, Wp.size_lt, Wp.atI_0, Wp.atI_1, Wp.atI_2, Wp.atI_3, Wp.atI_4, Wp.atI_5, Wp.atI_6, Wp.ixN_0, Wp.ixN_1, Wp.ixN_2, Wp.itemsT, Wp.tyT, reduceIte, Wp.wFld, Wp.wFSet, Wp.wFAug, Wp.wMeth, Wp.wMake, Wp.rIxA, Wp.rInA, Wp.rSetA, Wp.ixA, Wp.inA, Wp.setA, Wp.lenA, Wp.getD, Option.map_some, Option.bind_some, Option.getD_some,  Wp.gIxA, Wp.wDNew, Wp.wDNewT, Wp.rLenA, Wp.rSortD, Wp.rMaxL, Wp.rPopL, Wp.rGet1, Wp.rGet2, Wp.wGet1, Wp.wGet2, Wp.wPop1, Wp.wPop2, Wp.wDel, Wp.isDT, Wp.keyT, Wp.keysT, Wp.keysL, Wp.ex_ins, Wp.ex_dct, Wp.wIf, Wp.rGt, Wp.wTry, Wp.wMethX, Wp.wCallX, Wp.wRaise, Wp.rAddI, Int.cast_ofNat_Int, Int.reduceBEq, lk_Reader_row, pt_Reader_row, lk_Reader_place, pt_Reader_place, no_Reader_byte, no_Reader_inner, no_Reader_is_done, no_Reader_number, no_Reader_part, no_Reader_value, no_Reader_word, ln_Reader, mk_Reader, Wp.rMulB])
local macro_rules | `(tactic| walk_at "r0") => `(tactic| repeat (first | walk_at "w0" | walk_at "go"))
variable {C CB : Addr}
def wsum (k : Int) : List Int → Int
  | [] => 0
  | x :: xs => k * x + wsum (k + 1) xs
def sumBytes (xs : List Int) : List Int := [wsum 1 xs % 65521 / 256, wsum 1 xs % 65521 % 256]
def Gr (S S' : Sta) : Prop := ∀ a o, S a = some o → S' a = some o
theorem Gr.refl (S : Sta) : Gr S S := fun _ _ h => h
theorem Gr.trans {S S1 S2 : Sta} (a : Gr S S1) (b : Gr S1 S2) : Gr S S2 := fun x o h => b x o (a x o h)
theorem gr_new {S : Sta} {q : Addr} {o : O} (h : S q = none) : Gr S (upS S q o) := fun a u e => by
  unfold upS; rw [if_neg (fun z => by rw [z, h] at e; cases e)]; exact e
theorem al_ {S : Sta} {q : Addr} {o : O} (h : S q = none) : ∃ S1 : Sta, upS S q o = S1 ∧ Gr S S1 ∧ S1 q = some o := ⟨_, rfl, gr_new h, upS_same⟩
def prods (k : Int) : List Int → List Int
  | [] => []
  | x :: xs => k * x :: prods (k + 1) xs
theorem prods_sum : ∀ (xs : List Int) (k : Int), (prods k xs).sum = wsum k xs
  | [], _ => rfl
  | x :: xs, k => by rw [prods, wsum, List.sum_cons, prods_sum xs]
theorem prods_len : ∀ (xs : List Int) (k : Int), (prods k xs).length = xs.length
  | [], _ => rfl
  | x :: xs, k => by rw [prods, List.length_cons, List.length_cons, prods_len xs]
theorem pairs_cons (k : Int) (t : T) (ts : List T) : pairsT k (t :: ts) = .tup [.int k, t] :: pairsT (k + 1) ts := by
  unfold pairsT
  rw [List.mapIdx_cons]
  congr 1
  · simp
  · apply List.ext_getElem?
    intro i
    simp only [List.getElem?_mapIdx]
    congr 1
    funext u
    congr 3
    omega
theorem comp_sum (p D : Addr) (vals : List T) (hpD : p ≠ D) (a0 a1 : Option T) (Q : T → Sta → Prop) (S0 : Sta) (hp : S0 p = some (.lst vals)) : ∀ (xs : List Int) (k : Int) (acc : List Int), 0 ≤ k → k + xs.length ≤ 1000000 → acc.length + xs.length ≤ 1000000 → (∀ x ∈ xs, 0 ≤ x ∧ x ≤ 255) →
    Q (.ref D) (upS S0 D (.lst ((acc ++ prods k xs).map T.int))) → compW (gTp 2 (gC (gNm 2) (gC (gNm 3) gN0))) wYes (l1__sum_of C CB) (fun S' => S' p = some (.lst vals)) [a0, a1, none, none] D Q (pairsT k (xs.map T.int)) (upS S0 D (.lst (acc.map T.int)))
  | [], k, acc, _, _, _, _, q => ⟨(upS_ne hpD).trans hp, by rw [prods, List.append_nil] at q; exact q⟩
  | x :: xs, k, acc, h0, h1, h2, h3, q => by
    rw [List.map_cons, pairs_cons]
    rw [List.length_cons] at h1 h2
    have hx := h3 x List.mem_cons_self
    refine ⟨(upS_ne hpD).trans hp, rfl, ⟨rfl, ?_⟩⟩
    refine wif_t ?_
    refine ⟨.int k, rfl, .int x, rfl, .inl ⟨by omega, by omega⟩, ?_⟩
    refine ⟨_, upS_same, Nat.lt_of_le_of_lt (show (acc.map T.int).length ≤ 1000000 by rw [List.length_map]; omega) (by rw [sizeLine_eq]; decide), ?_⟩
    rw [upS_upS]
    have ih := comp_sum p D vals hpD a0 a1 Q S0 hp xs (k + 1) (acc ++ [k * x]) (by omega) (by omega) (by simp only [List.length_append, List.length_cons, List.length_nil]; omega) (fun y hy => h3 y (List.mem_cons_of_mem _ hy)) (by rw [List.append_assoc]; exact q)
    rw [List.map_append] at ih
    exact ih
def spSum : WSp := fun ts S Q _ => match ts with
  | [.ref p] => ∃ xs : List Int, S p = some (.lst (xs.map T.int)) ∧ xs.length ≤ 60000 ∧ (∀ x ∈ xs, 0 ≤ x ∧ x ≤ 255) ∧ ∀ S', Gr S S' → Q (.tup ((sumBytes xs).map T.int)) S'
  | _ => False
theorem hw_sum_of : ∀ ts S Q E, ts.length = 1 → spSum ts S Q E → (b__sum_of C CB) { nx := fun _ S' => Q .non S', rt := Q } (Wp.startT N__sum_of ts) S := by
  intro ts S Q E _ h
  match ts, h with
  | [.ref p], ⟨xs, hp, hl, hb, h⟩ =>
    unfold b__sum_of N__sum_of
    refine ⟨.ref p, rfl, ⟨by omega, by omega⟩, _, hp, fun D hD => ?_⟩
    have hpD : p ≠ D := fun e => by rw [← e, hp] at hD; cases hD
    refine comp_sum p D _ hpD _ _ _ S hp xs 1 [] (by omega) (by omega) (by simp only [List.length_nil]; omega) hb ?_
    rw [List.nil_append]
    refine ⟨prods 1 xs, upS_same, ?_⟩
    rw [prods_sum]
    refine goS_i ⟨_, rfl, ?_⟩
    refine ⟨by omega, ⟨by omega, by omega⟩, ?_⟩
    exact h _ (gr_new hD)
theorem Vl.up {d : Nat} {t : T} (h : Vl d t) : ∀ {e : Nat}, d ≤ e → Vl e t := by
  induction h with
  | non d => intro e _; exact .non e
  | int d i h0 h1 => intro e _; exact .int e i h0 h1
  | str d x h hs => intro e _; exact .str e x h hs
  | tup d ts hl h ih =>
    intro e he
    obtain ⟨f, rfl⟩ : ∃ f, e = f + 1 := ⟨e - 1, by omega⟩
    exact .tup f ts hl fun t ht => ih t ht (by omega)
def isByte (x : Int) : Prop := 0 ≤ x ∧ x ≤ 255
theorem digsR_byte (n : Nat) : ∀ x ∈ digsR n, isByte x := by
  induction n using Nat.strongRecOn with
  | ind n ih =>
    intro x hx
    rw [digsR] at hx
    split at hx
    · cases hx
    · rename_i hn
      rcases List.mem_cons.mp hx with e | e
      · subst e; constructor <;> omega
      · exact ih (n / 256) (Nat.div_lt_self (by omega) (by omega)) x e
theorem nb_byte {n : Nat} (h : n < 2 ^ 32) : ∀ x ∈ nb n, isByte x := fun x hx => by
  rcases List.mem_cons.mp hx with e | e
  · have := digs_len h
    subst e
    constructor <;> omega
  · exact digsR_byte n x (List.mem_reverse.mp e)
theorem partsL_byte {d : Nat} : ∀ ts : List T, (∀ t ∈ ts, ∀ x ∈ parts t, isByte x) → ∀ x ∈ partsL ts, isByte x
  | [], _, x, hx => by rw [partsL] at hx; cases hx
  | t :: ts, h, x, hx => by
    rw [partsL] at hx
    rcases List.mem_append.mp hx with e | e
    · exact h t List.mem_cons_self x e
    · exact partsL_byte (d := d) ts (fun u hu => h u (List.mem_cons_of_mem _ hu)) x e
theorem parts_byte {d : Nat} {t : T} (h : Vl d t) : ∀ x ∈ parts t, isByte x := by
  induction h with
  | non d => intro x hx; rw [parts] at hx; rw [List.mem_singleton.mp hx]; constructor <;> omega
  | int d i h0 h1 =>
    intro x hx
    rw [parts] at hx
    rcases List.mem_cons.mp hx with e | e
    · subst e; constructor <;> omega
    · exact nb_byte (by omega) x e
  | str d x hw hs =>
    have hl := wd_len hw
    intro y hy
    rw [parts] at hy
    rcases List.mem_cons.mp hy with e | e
    · subst e; constructor <;> omega
    rcases List.mem_append.mp e with e | e
    · exact nb_byte (by omega) y e
    · obtain ⟨c, hc, rfl⟩ := List.mem_map.mp e
      simp only [isWd, Bool.and_eq_true, List.all_eq_true] at hw
      have := hw.2 c hc
      simp only [isLet, Bool.and_eq_true, decide_eq_true_eq] at this
      constructor <;> omega
  | tup d ts hl h ih =>
    intro y hy
    rw [parts] at hy
    rcases List.mem_cons.mp hy with e | e
    · subst e; constructor <;> omega
    rcases List.mem_append.mp e with e | e
    · exact nb_byte (by omega) y e
    · exact partsL_byte (d := d) ts ih y e
def spWr : WSp := fun ts S Q _ => match ts with
  | [v] => Vl 16 v ∧ (parts v).length ≤ 59998 ∧ ∀ S', Gr S S' → Q (.tup ((parts v ++ sumBytes (parts v)).map T.int)) S'
  | _ => False
theorem hw_write : ∀ ts S Q E, ts.length = 1 → spWr ts S Q E → (b_write C CB) (spPut 16) spSum { nx := fun _ S' => Q .non S', rt := Q } (Wp.startT N_write ts) S := by
  intro ts S Q E _ h
  match ts, h with
  | [v], ⟨hv, hl, h⟩ =>
    unfold b_write N_write
    refine ⟨by rw [sizeLine_eq]; decide, fun q hq => ?_⟩
    refine goS_i ⟨.ref q, rfl, v, rfl, rfl, hv, by omega, [], upS_same, by simpa using hl, fun S1 k1 p1 => ?_⟩
    have g1 : Gr S S1 := fun a o e => k1 a o (gr_new hq a o e) fun z => by rw [z, hq] at e; cases e
    rw [List.nil_append] at p1
    refine goS_i ⟨.ref q, rfl, _, itemsT_ref p1, .ref q, rfl, rfl, _, p1, by omega, fun x hx => parts_byte hv x hx, fun S2 g2 => ?_⟩
    refine ⟨?_, ?_⟩
    · rw [sizeLine_eq]
      simp only [List.length_map, sumBytes, List.length_cons, List.length_nil]
      omega
    · rw [← List.map_append]
      exact h S2 (g1.trans g2)
/-! ### the law's own bytes -/
theorem digsR_pos {n : Nat} (h : n ≠ 0) : digsR n = ((n % 256 : Nat) : Int) :: digsR (n / 256) := by rw [digsR, dif_neg h]
theorem digsR_zero : digsR 0 = [] := by rw [digsR, dif_pos rfl]
end My

set_option Elab.async false
set_option linter.all false
set_option maxRecDepth 100000
set_option maxHeartbeats 8000000
namespace My
open PySem PySem.Spec PyProof.Rows L2 Wp Gn
local macro_rules | `(tactic| walk_at "go") => `(tactic| (with_reducible refine goS_i ?_))
local macro_rules | `(tactic| walk_at "wp") => `(tactic| simp (disch := omega) only [Wp.wSeq, Wp.wNext, Wp.wSet, Wp.wVar, Wp.wC, Wp.wOp, Wp.wRet, Wp.wIfS, Wp.wTest, Wp.wCall, Wp.wCons, Wp.wNil, Wp.wTup, Wp.wLst, Wp.wAsg, Wp.gTp, Wp.gC, Wp.gNm, Wp.gN0, Wp.gIx, Wp.rSet, Wp.rAdd, Wp.rMul, Wp.rMod, Wp.rSub, Wp.rFdiv, Wp.rPow, Wp.rInt, Wp.rIx, Wp.rLt, Wp.rLe, Wp.rCmp, Wp.rGeI, Wp.rGtI, Wp.wCB, Wp.rLen, Wp.rLen1, Wp.rInt1, Wp.rMax2, Wp.rMin2, Wp.rTupOf, Wp.rListOf,
  Wp.wIsi, Wp.rBIs, Wp.rIsN, Wp.isNon, Wp.wMt, Wp.rAppendT, Wp.rExtendT, Wp.rReverseT, Wp.wNot, Wp.wOr, Wp.wAnd, Wp.wAndV, Wp.wOrV, Wp.wNotV, Wp.wFor, Wp.iRg1, Wp.iRg2, Wp.iAnyW, Wp.wAll, Wp.wChain, Wp.wSl, Wp.wNoPart, Wp.wPart, Wp.rSl, Wp.wNeg, Wp.rNeg, Wp.wLc, Wp.wYes, Wp.wDrop, Wp.wipeT, Wp.wAug, List.map, List.set_cons_zero, List.set_cons_succ, List.getElem?_cons_zero, List.getElem?_cons_succ, List.length_cons, List.length_nil, List.cons_append, List.nil_append, List.replicate, Wp.startT,
  true_and, and_true, Wp.wif_true, Wp.wif_false, Wp.ex_some, Wp.ex_some1, Wp.ex_eq, Wp.ex_lst, Wp.ex_lst0, Wp.rEq_int, Bool.false_bne, Bool.true_bne, Int.reduceLT, Int.reduceLE, Int.reduceAdd, Nat.reduceAdd, Nat.reduceSub, eq_self, ite_true, ite_false, beq_self_eq_true, Bool.not_true, Bool.not_false, Wp.isB_0, Wp.isB_1, Wp.isB_2, Wp.isB_3, Wp.isB_4, Wp.isB_5, Wp.isB_6, Wp.isB_7, Wp.isB_8, Wp.isB_9, Wp.isB_10, Wp.isB_11, Wp.isB_12, Wp.isB_13, Wp.isB_14, Wp.isB_15, Wp.isB_16, Wp.isB_17, Wp.isB_18, Wp.isB_19, Wp.isB_20, Wp.isB_21, Wp.isB_22, Wp.isB_23, Wp.isB_24, Wp.isB_25, Wp.isB_26, Wp.isB_27, Wp.isB_28, Wp.isB_29, Wp.isB_30, Wp.isB_31, Wp.isB_32, Wp.isB_33, Wp.isB_34, Wp.isB_35, Wp.cmul_l, Wp.cmul_r, Wp.cpow_lit, Wp.size_le, Wp.size_lt, Wp.atI_0, Wp.atI_1, Wp.atI_2, Wp.atI_3, Wp.atI_4, Wp.atI_5, Wp.atI_6, Wp.ixN_0, Wp.ixN_1, Wp.ixN_2, Wp.itemsT, Wp.tyT, reduceIte, Wp.wFld, Wp.wFSet, Wp.wFAug, Wp.wMeth, Wp.wMake, Wp.rIxA, Wp.rInA, Wp.rSetA, Wp.ixA, Wp.inA, Wp.setA, Wp.lenA, Wp.getD, Option.map_some, Option.bind_some, Option.getD_some,  Wp.gIxA, Wp.wDNew, Wp.wDNewT, Wp.rLenA, Wp.rSortD, Wp.rMaxL, Wp.rPopL, Wp.rGet1, Wp.rGet2, Wp.wGet1, Wp.wGet2, Wp.wPop1, Wp.wPop2, Wp.wDel, Wp.isDT, Wp.keyT, Wp.keysT, Wp.keysL, Wp.ex_ins, Wp.ex_dct, Wp.wIf, Wp.rGt, Wp.wTry, Wp.wMethX, Wp.wCallX, Wp.wRaise, Wp.rAddI, Int.cast_ofNat_Int, Int.reduceBEq, lk_Reader_row, pt_Reader_row, lk_Reader_place, pt_Reader_place, no_Reader_byte, no_Reader_inner, no_Reader_is_done, no_Reader_number, no_Reader_part, no_Reader_value, no_Reader_word, ln_Reader, mk_Reader, Wp.rMulB, Wp.upS, Wp.upS_upS, *])
local macro_rules | `(tactic| walk_at "run") => `(tactic| repeat (first | walk_at "wp" | walk_at "go"))
local macro_rules | `(tactic| walk_at "wq") => `(tactic| simp (disch := omega) only [Wp.wSeq, Wp.wNext, Wp.wSet, Wp.wVar, Wp.wC, Wp.wOp, Wp.wRet, Wp.wIfS, Wp.wTest, Wp.wCall, Wp.wCons, Wp.wNil, Wp.wTup, Wp.wLst, Wp.wAsg, Wp.gTp, Wp.gC, Wp.gNm, Wp.gN0, Wp.gIx, Wp.rSet, Wp.rAdd, Wp.rMul, Wp.rMod, Wp.rSub, Wp.rFdiv, Wp.rPow, Wp.rInt, Wp.rIx, Wp.rLt, Wp.rLe, Wp.rCmp, Wp.rGeI, Wp.rGtI, Wp.wCB, Wp.rLen, Wp.rLen1, Wp.rInt1, Wp.rMax2, Wp.rMin2, Wp.rTupOf, Wp.rListOf,
  Wp.wIsi, Wp.rBIs, Wp.rIsN, Wp.isNon, Wp.wMt, Wp.rAppendT, Wp.rExtendT, Wp.rReverseT, Wp.wNot, Wp.wOr, Wp.wAnd, Wp.wAndV, Wp.wOrV, Wp.wNotV, Wp.wFor, Wp.iRg1, Wp.iRg2, Wp.iAnyW, Wp.wAll, Wp.wChain, Wp.wSl, Wp.wNoPart, Wp.wPart, Wp.rSl, Wp.wNeg, Wp.rNeg, Wp.wLc, Wp.wYes, Wp.wDrop, Wp.wipeT, Wp.wAug, List.map, List.set_cons_zero, List.set_cons_succ, List.getElem?_cons_zero, List.getElem?_cons_succ, List.length_cons, List.length_nil, List.cons_append, List.nil_append, List.replicate, Wp.startT,
  true_and, and_true, Wp.wif_true, Wp.wif_false, Wp.ex_some, Wp.ex_some1, Wp.ex_eq, Wp.ex_lst, Wp.ex_lst0, Wp.rEq_int, Bool.false_bne, Bool.true_bne, Int.reduceLT, Int.reduceLE, Int.reduceAdd, Nat.reduceAdd, Nat.reduceSub, eq_self, ite_true, ite_false, beq_self_eq_true, Bool.not_true, Bool.not_false, Wp.isB_0, Wp.isB_1, Wp.isB_2, Wp.isB_3, Wp.isB_4, Wp.isB_5, Wp.isB_6, Wp.isB_7, Wp.isB_8, Wp.isB_9, Wp.isB_10, Wp.isB_11, Wp.isB_12, Wp.isB_13, Wp.isB_14, Wp.isB_15, Wp.isB_16, Wp.isB_17, Wp.isB_18, Wp.isB_19, Wp.isB_20, Wp.isB_21, Wp.isB_22, Wp.isB_23, Wp.isB_24, Wp.isB_25, Wp.isB_26, Wp.isB_27, Wp.isB_28, Wp.isB_29, Wp.isB_30, Wp.isB_31, Wp.isB_32, Wp.isB_33, Wp.isB_34, Wp.isB_35, Wp.cmul_l, Wp.cmul_r, Wp.cpow_lit, Wp.size_le, Wp.size_lt, Wp.atI_0, Wp.atI_1, Wp.atI_2, Wp.atI_3, Wp.atI_4, Wp.atI_5, Wp.atI_6, Wp.ixN_0, Wp.ixN_1, Wp.ixN_2, Wp.itemsT, Wp.tyT, reduceIte, Wp.wFld, Wp.wFSet, Wp.wFAug, Wp.wMeth, Wp.wMake, Wp.rIxA, Wp.rInA, Wp.rSetA, Wp.ixA, Wp.inA, Wp.setA, Wp.lenA, Wp.getD, Option.map_some, Option.bind_some, Option.getD_some,  Wp.gIxA, Wp.wDNew, Wp.wDNewT, Wp.rLenA, Wp.rSortD, Wp.rMaxL, Wp.rPopL, Wp.rGet1, Wp.rGet2, Wp.wGet1, Wp.wGet2, Wp.wPop1, Wp.wPop2, Wp.wDel, Wp.isDT, Wp.keyT, Wp.keysT, Wp.keysL, Wp.ex_ins, Wp.ex_dct, Wp.wIf, Wp.rGt, Wp.wTry, Wp.wMethX, Wp.wCallX, Wp.wRaise, Wp.rAddI, Int.cast_ofNat_Int, Int.reduceBEq, lk_Reader_row, pt_Reader_row, lk_Reader_place, pt_Reader_place, no_Reader_byte, no_Reader_inner, no_Reader_is_done, no_Reader_number, no_Reader_part, no_Reader_value, no_Reader_word, ln_Reader, mk_Reader, Wp.rMulB, *])
local macro_rules | `(tactic| walk_at "r2") => `(tactic| repeat (first | walk_at "wq" | walk_at "go"))
local macro_rules | `(tactic| walk_at "w0") => `(tactic| simp (disch := omega) only [Wp.wSeq, Wp.wNext, Wp.wSet, Wp.wVar, Wp.wC, Wp.wOp, Wp.wRet, Wp.wIfS, Wp.wTest, Wp.wCall, Wp.wCons, Wp.wNil, Wp.wTup, Wp.wLst, Wp.wAsg, Wp.gTp, Wp.gC, Wp.gNm, Wp.gN0, Wp.gIx, Wp.rSet, Wp.rAdd, Wp.rMul, Wp.rMod, Wp.rSub, Wp.rFdiv, Wp.rPow, Wp.rInt, Wp.rIx, Wp.rLt, Wp.rLe, Wp.rCmp, Wp.rGeI, Wp.rGtI, Wp.wCB, Wp.rLen, Wp.rLen1, Wp.rInt1, Wp.rMax2, Wp.rMin2, Wp.rTupOf, Wp.rListOf,
  Wp.wIsi, Wp.rBIs, Wp.rIsN, Wp.isNon, Wp.wMt, Wp.rAppendT, Wp.rExtendT, Wp.rReverseT, Wp.wNot, Wp.wOr, Wp.wAnd, Wp.wAndV, Wp.wOrV, Wp.wNotV, Wp.wFor, Wp.iRg1, Wp.iRg2, Wp.iAnyW, Wp.wAll, Wp.wChain, Wp.wSl, Wp.wNoPart, Wp.wPart, Wp.rSl, Wp.wNeg, Wp.rNeg, Wp.wLc, Wp.wYes, Wp.wDrop, Wp.wipeT, Wp.wAug, List.map, List.set_cons_zero, List.set_cons_succ, List.getElem?_cons_zero, List.getElem?_cons_succ, List.length_cons, List.length_nil, List.cons_append, List.nil_append, List.replicate, Wp.startT,
  true_and, and_true, Wp.wif_true, Wp.wif_false, Wp.ex_some, Wp.ex_some1, Wp.ex_eq, Wp.ex_lst, Wp.ex_lst0, Wp.rEq_int, Bool.false_bne, Bool.true_bne, Int.reduceLT, Int.reduceLE, Int.reduceAdd, Nat.reduceAdd, Nat.reduceSub, eq_self, ite_true, ite_false, beq_self_eq_true, Bool.not_true, Bool.not_false, Wp.isB_0, Wp.isB_1, Wp.isB_2, Wp.isB_3, Wp.isB_4, Wp.isB_5, Wp.isB_6, Wp.isB_7, Wp.isB_8, Wp.isB_9, Wp.isB_10, Wp.isB_11, Wp.isB_12, Wp.isB_13, Wp.isB_14, Wp.isB_15, Wp.isB_16, Wp.isB_17, Wp.isB_18, Wp.isB_19, Wp.isB_20, Wp.isB_21, Wp.isB_22, Wp.isB_23, Wp.isB_24, Wp.isB_25, Wp.isB_26, Wp.isB_27, Wp.isB_28, Wp.isB_29, Wp.isB_30, Wp.isB_31, Wp.isB_32, Wp.isB_33, Wp.isB_34, Wp.isB_35, Wp.cmul_l, Wp.cmul_r, Wp.cpow_lit, Wp.size_le, Wp.size_lt, Wp.atI_0, Wp.atI_1, Wp.atI_2, Wp.atI_3, Wp.atI_4, Wp.atI_5, Wp.atI_6, Wp.ixN_0, Wp.ixN_1, Wp.ixN_2, Wp.itemsT, Wp.tyT, reduceIte, Wp.wFld, Wp.wFSet, Wp.wFAug, Wp.wMeth, Wp.wMake, Wp.rIxA, Wp.rInA, Wp.rSetA, Wp.ixA, Wp.inA, Wp.setA, Wp.lenA, Wp.getD, Option.map_some, Option.bind_some, Option.getD_some,  Wp.gIxA, Wp.wDNew, Wp.wDNewT, Wp.rLenA, Wp.rSortD, Wp.rMaxL, Wp.rPopL, Wp.rGet1, Wp.rGet2, Wp.wGet1, Wp.wGet2, Wp.wPop1, Wp.wPop2, Wp.wDel, Wp.isDT, Wp.keyT, Wp.keysT, Wp.keysL, Wp.ex_ins, Wp.ex_dct, Wp.wIf, Wp.rGt, Wp.wTry, Wp.wMethX, Wp.wCallX, Wp.wRaise, Wp.rAddI, Int.cast_ofNat_Int, Int.reduceBEq, lk_Reader_row, pt_Reader_row, lk_Reader_place, pt_Reader_place, no_Reader_byte, no_Reader_inner, no_Reader_is_done, no_Reader_number, no_Reader_part, no_Reader_value, no_Reader_word, ln_Reader, mk_Reader, Wp.rMulB])
local macro_rules | `(tactic| walk_at "r0") => `(tactic| repeat (first | walk_at "w0" | walk_at "go"))
variable {C CB : Addr}
theorem off_ {p D : Addr} (h : D ≠ p) : Off none p D := ⟨h, fun q z => by cases z⟩
theorem ix_str {S : Sta} {z : Str} {i : Int} {c : Nat} (hl : z.length ≤ sizeLine) (e : atI z.cps.toList i = some c) : ixA S (.str z) (.int i) = some (.str ⟨#[c]⟩) := by
  simp only [ixA, if_pos hl, e, Option.map_some]
def spDr : WSp := fun ts S Q _ => match ts with
  | [.ref p, .int m] => IsBag none S p ∧ 0 < m ∧ m < 2 ^ 62 ∧ ∀ (r : Int) (S' : Sta), 0 ≤ r → r < m → Grb none p S S' → Q (.int r) S'
  | _ => False
theorem hw_dr : ∀ ts S Q E, ts.length = 2 → spDr ts S Q E → b__law_draw C CB { nx := fun _ S' => Q .non S', rt := Q } (Wp.startT N__law_draw ts) S := by
  intro ts S Q E hl h
  match ts, h, hl with
  | [.ref p, .int m], ⟨hb, h0, h1, h⟩, hl => exact hw_draw3A [.ref p, .int m] S Q E hl ⟨none, rfl, hb, h0, h1, h⟩
theorem Grb.new {p q : Addr} {S S1 S2 : Sta} {o : O} (h : IsBag none S p) (hq : S q = none) (e : S1 q = some o) (g : Grb none p S1 S2) : S2 q = some o := g.keep q o e (new_ne h hq)
theorem edge_in {r : Int} (h0 : 0 ≤ r) (h1 : r < 13) : ∃ n : Int, atI [T.int 0, .int 1, .int 2, .int 127, .int 128, .int 255, .int 256, .int 257, .int 65535, .int 65536, .int 16777215, .int 16777216, .int 4294967295] r = some (.int n) ∧ 0 ≤ n ∧ n ≤ 4294967295 := by
  have : r = 0 ∨ r = 1 ∨ r = 2 ∨ r = 3 ∨ r = 4 ∨ r = 5 ∨ r = 6 ∨ r = 7 ∨ r = 8 ∨ r = 9 ∨ r = 10 ∨ r = 11 ∨ r = 12 := by omega
  rcases this with h | h | h | h | h | h | h | h | h | h | h | h | h <;> subst h <;> exact ⟨_, rfl, by decide, by decide⟩
theorem four_in {r a b c d : Int} (h0 : 0 ≤ r) (h1 : r < 4) : ∃ n : Int, atI [T.int a, .int b, .int c, .int d] r = some (.int n) ∧ (n = a ∨ n = b ∨ n = c ∨ n = d) := by
  have : r = 0 ∨ r = 1 ∨ r = 2 ∨ r = 3 := by omega
  rcases this with h | h | h | h <;> subst h <;> exact ⟨_, rfl, by simp⟩
def spNum : WSp := fun ts S Q _ => match ts with
  | [.ref p] => IsBag none S p ∧ ∀ (n : Int) (S' : Sta), 0 ≤ n → n ≤ 4294967295 → Grb none p S S' → Q (.int n) S'
  | _ => False
theorem hw_law_number : ∀ ts S Q E, ts.length = 1 → spNum ts S Q E → (b__law_number C CB) spDr { nx := fun _ S' => Q .non S', rt := Q } (Wp.startT N__law_number ts) S := by
  intro ts S Q E _ h
  match ts, h with
  | [.ref p], ⟨hb, h⟩ =>
    unfold b__law_number N__law_number
    walk_at "r2"
    intro q hq
    obtain ⟨S1, w, g, e⟩ := al_ hq
    rw [w]
    walk_at "r2"
    refine ⟨hb.gr g, by decide, by decide, fun r1 S2 h0 h1 g2 => ?_⟩
    have e2 := Grb.new hb hq e g2
    obtain ⟨n1, x1, l1, u1⟩ := edge_in h0 h1
    walk_at "r2"
    refine ⟨g2.bag, by decide, by decide, fun r2 S3 h20 h21 g3 => ?_⟩
    refine ⟨g3.bag, by decide, by decide, fun r3 S4 h30 h31 g4 => ?_⟩
    refine ⟨g4.bag, by decide, by decide, fun r4 S5 h40 h41 g5 => ?_⟩
    intro q2 hq2
    obtain ⟨S6, w6, g6, e6⟩ := al_ (o := .lst [.int n1, .int r2, .int r3, .int r4]) hq2
    rw [w6]
    refine ⟨g5.bag.gr g6, by decide, by decide, fun r5 S7 h50 h51 g7 => ?_⟩
    have e7 := Grb.new g5.bag hq2 e6 g7
    obtain ⟨n5, x5, c5⟩ := four_in (a := n1) (b := r2) (c := r3) (d := r4) h50 h51
    walk_at "r2"
    refine h _ _ ?_ ?_ ((Gr.grb hb g).trans (g2.trans (g3.trans (g4.trans (g5.trans ((Gr.grb g5.bag g6).trans g7))))))
    · rcases c5 with h | h | h | h <;> omega
    · rcases c5 with h | h | h | h <;> omega
theorem IsBag.up {S : Sta} {p q : Addr} {o : O} (h : IsBag none S p) (n : q ≠ p) : IsBag none (upS S q o) p := by
  obtain ⟨a, b, c, e⟩ := h
  exact ⟨a, b, c, by rw [upS_ne n.symm]; exact e⟩
def chT (c : Nat) : T := .str ⟨#[c]⟩
theorem joinL_one : ∀ ns : List Nat, TL.joinL [] (ns.map fun c => [c]) = ns
  | [] => rfl
  | [c] => rfl
  | c :: d :: r => by
    have ih := joinL_one (d :: r)
    show [c] ++ ([] ++ TL.joinL [] ((d :: r).map fun c => [c])) = c :: d :: r
    rw [ih]; rfl
theorem join_ch (ns : List Nat) : (Txt.join ("" : Str) (ns.map fun c => (⟨#[c]⟩ : Str))).cps.toList = ns := by
  have h := TL.tl_join ("" : Str) (ns.map fun c => (⟨#[c]⟩ : Str))
  rw [← TL.join_eq, List.map_map] at h
  exact h.trans (joinL_one ns)
theorem abc_in {r : Int} (h0 : 0 ≤ r) (h1 : r < 26) : ∃ c, atI (("abcdefghijklmnopqrstuvwxyz" : Str).cps.toList) r = some c ∧ isLet c = true := by
  obtain ⟨c, hc, hm⟩ := atI_in (xs := ("abcdefghijklmnopqrstuvwxyz" : Str).cps.toList) h0 (by
    have : (("abcdefghijklmnopqrstuvwxyz" : Str).cps.toList).length = 26 := by decide +kernel
    omega)
  refine ⟨c, hc, ?_⟩
  have : ∀ c ∈ ("abcdefghijklmnopqrstuvwxyz" : Str).cps.toList, isLet c = true := by decide +kernel
  exact this c hm
theorem comp_word (p D : Addr) (Q : T → Sta → Prop) (hDp : D ≠ p) (S0 : Sta) (hQ : ∀ (ns : List Nat) S', Grb none p S0 S' → S' D = some (.lst (ns.map chT)) → (∀ c ∈ ns, isLet c = true) → 1 ≤ ns.length → ns.length ≤ 12 → Q (.ref D) S') (hn : S0 D = none) :
    ∀ (xs : List T) (ns : List Nat) (S : Sta), Grb none p S0 S → S D = some (.lst (ns.map chT)) → (∀ c ∈ ns, isLet c = true) → 1 ≤ ns.length + xs.length → ns.length + xs.length ≤ 12 →
      compW (gNm 2) wYes ((l1__law_word C CB) spDr) (fun _ => True) [some (.ref p), some (.str "abcdefghijklmnopqrstuvwxyz"), none] D Q xs S
  | [], ns, S, g, hD, hc, h1, h2 => ⟨trivial, hQ ns S g hD hc (by simpa using h1) (by simpa using h2)⟩
  | x :: xs, ns, S, g, hD, hc, h1, h2 => by
    refine ⟨trivial, ?_⟩
    have ih := comp_word p D Q hDp S0 hQ hn xs
    generalize compW (gNm 2) wYes ((l1__law_word C CB) spDr) (fun _ => True) [some (.ref p), some (.str "abcdefghijklmnopqrstuvwxyz"), none] D Q xs = LP at ih ⊢
    refine wif_t ?_
    show ((l1__law_word C CB) spDr) [some (.ref p), some (.str "abcdefghijklmnopqrstuvwxyz"), some x] S _
    unfold l1__law_word
    rw [List.length_cons] at h1 h2
    refine ⟨_, rfl, _, rfl, rfl, g.bag, by decide, by decide, fun r S1 r0 r1 g1 => ?_⟩
    obtain ⟨c, e, hl⟩ := abc_in r0 r1
    refine ⟨.str ⟨#[c]⟩, ix_str (by rw [sizeLine_eq]; decide +kernel) e, ?_⟩
    refine ⟨ns.map chT, g1.keep _ _ hD hDp, Nat.lt_of_le_of_lt (show (ns.map chT).length ≤ 100 by rw [List.length_map]; omega) (by rw [sizeLine_eq]; decide), ?_⟩
    refine ih (ns ++ [c]) _ ⟨fun a o ea n => ?_, (g.trans g1).bag.up (off_ hDp)⟩ (by rw [upS_same, List.map_append]; rfl) (fun t ht => ?_) (by simp only [List.length_append, List.length_cons, List.length_nil]; omega) (by simp only [List.length_append, List.length_cons, List.length_nil]; omega)
    · rw [upS_ne (fun z => by rw [z, hn] at ea; cases ea)]
      exact (g.trans g1).keep a o ea n
    · rcases List.mem_append.mp ht with ht | ht
      · exact hc t ht
      · rw [List.mem_singleton.mp ht]; exact hl
theorem six_in {r : Int} (h0 : 0 ≤ r) (h1 : r < 6) : ∃ n : Int, atI [T.int 1, .int 2, .int 3, .int 5, .int 11, .int 12] r = some (.int n) ∧ 1 ≤ n ∧ n ≤ 12 := by
  have : r = 0 ∨ r = 1 ∨ r = 2 ∨ r = 3 ∨ r = 4 ∨ r = 5 := by omega
  rcases this with h | h | h | h | h | h <;> subst h <;> exact ⟨_, rfl, by decide, by decide⟩
def spWord : WSp := fun ts S Q _ => match ts with
  | [.ref p] => IsBag none S p ∧ ∀ (x : Str) (S' : Sta), isWd (.str x) = true → PyData.strOk x = true → Grb none p S S' → Q (.str x) S'
  | _ => False
theorem sum_ch : ∀ ns : List Nat, (List.map (fun y : Str => y.length) (ns.map fun c => (⟨#[c]⟩ : Str))).sum = ns.length
  | [] => rfl
  | c :: r => by
    have := sum_ch r
    simp only [List.map_cons, List.sum_cons, List.length_cons]
    rw [this, show (⟨#[c]⟩ : Str).length = 1 from rfl]; omega
theorem hw_law_word : ∀ ts S Q E, ts.length = 1 → spWord ts S Q E → (b__law_word C CB) spDr { nx := fun _ S' => Q .non S', rt := Q } (Wp.startT N__law_word ts) S := by
  intro ts S Q E _ h
  match ts, h with
  | [.ref p], ⟨hb, h⟩ =>
    unfold b__law_word N__law_word
    walk_at "r2"
    simp only [wJoin, wC, wLc, iRg1]
    walk_at "r2"
    intro q hq
    obtain ⟨S1, w, g, e⟩ := al_ hq
    rw [w]
    refine ⟨hb.gr g, by decide, by decide, fun r1 S2 h0 h1 g2 => ?_⟩
    have e2 := Grb.new hb hq e g2
    obtain ⟨n1, x1, l1, u1⟩ := six_in h0 h1
    walk_at "r2"
    refine ⟨by omega, by omega, fun D hD => ?_⟩
    have hDp := new_ne g2.bag hD
    have gT := (Gr.grb hb g).trans g2
    refine comp_word p D _ hDp S (fun ns S3 g3 hD3 hc hl1 hl2 => ?_) ?_ _ [] _ (gT.trans (Gr.grb g2.bag (gr_new hD))) upS_same (by simp) (by rw [rangeT_len]; simp only [List.length_nil]; omega) (by rw [rangeT_len]; simp only [List.length_nil]; omega)
    · refine ⟨ns.map fun c => (⟨#[c]⟩ : Str), ?_, ?_, ?_⟩
      · refine (itemsT_ref hD3).trans ?_
        rw [List.map_map]; rfl
      · rw [sum_ch, List.length_map]
        show ns.length + ns.length * 0 ≤ _
        omega
      · refine h _ _ ?_ ?_ g3
        · have hj := join_ch ns
          simp only [isWd]
          have hlen : (Txt.join ("" : Str) (ns.map fun c => (⟨#[c]⟩ : Str))).length = ns.length := by
            show (Txt.join ("" : Str) (ns.map fun c => (⟨#[c]⟩ : Str))).cps.size = ns.length
            rw [← Array.length_toList, hj]
          rw [hlen, hj, decide_eq_true (by omega), decide_eq_true (by omega)]
          exact List.all_eq_true.mpr hc
        · have hj := join_ch ns
          unfold PyData.strOk
          rw [← Array.all_toList, hj]
          refine List.all_eq_true.mpr fun c hcm => ?_
          have := hc c hcm
          simp only [isLet, Bool.and_eq_true, decide_eq_true_eq] at this
          exact decide_eq_true (by omega)
    · cases hs : S D with
      | none => rfl
      | some o => exact absurd (gT.keep D o hs hDp) (by rw [hD]; exact fun z => by cases z)
end My

set_option Elab.async false
set_option linter.all false
set_option maxRecDepth 100000
set_option maxHeartbeats 8000000
namespace My
open PySem PySem.Spec PyProof.Rows L2 Wp Gn
local macro_rules | `(tactic| walk_at "go") => `(tactic| (with_reducible refine goS_i ?_))
local macro_rules | `(tactic| walk_at "wp") => `(tactic| simp (disch := omega) only [Wp.wSeq, Wp.wNext, Wp.wSet, Wp.wVar, Wp.wC, Wp.wOp, Wp.wRet, Wp.wIfS, Wp.wTest, Wp.wCall, Wp.wCons, Wp.wNil, Wp.wTup, Wp.wLst, Wp.wAsg, Wp.gTp, Wp.gC, Wp.gNm, Wp.gN0, Wp.gIx, Wp.rSet, Wp.rAdd, Wp.rMul, Wp.rMod, Wp.rSub, Wp.rFdiv, Wp.rPow, Wp.rInt, Wp.rIx, Wp.rLt, Wp.rLe, Wp.rCmp, Wp.rGeI, Wp.rGtI, Wp.wCB, Wp.rLen, Wp.rLen1, Wp.rInt1, Wp.rMax2, Wp.rMin2, Wp.rTupOf, Wp.rListOf,
  Wp.wIsi, Wp.rBIs, Wp.rIsN, Wp.isNon, Wp.wMt, Wp.rAppendT, Wp.rExtendT, Wp.rReverseT, Wp.wNot, Wp.wOr, Wp.wAnd, Wp.wAndV, Wp.wOrV, Wp.wNotV, Wp.wFor, Wp.iRg1, Wp.iRg2, Wp.iAnyW, Wp.wAll, Wp.wChain, Wp.wSl, Wp.wNoPart, Wp.wPart, Wp.rSl, Wp.wNeg, Wp.rNeg, Wp.wLc, Wp.wYes, Wp.wDrop, Wp.wipeT, Wp.wAug, List.map, List.set_cons_zero, List.set_cons_succ, List.getElem?_cons_zero, List.getElem?_cons_succ, List.length_cons, List.length_nil, List.cons_append, List.nil_append, List.replicate, Wp.startT,
  true_and, and_true, Wp.wif_true, Wp.wif_false, Wp.ex_some, Wp.ex_some1, Wp.ex_eq, Wp.ex_lst, Wp.ex_lst0, Wp.rEq_int, Bool.false_bne, Bool.true_bne, Int.reduceLT, Int.reduceLE, Int.reduceAdd, Nat.reduceAdd, Nat.reduceSub, eq_self, ite_true, ite_false, beq_self_eq_true, Bool.not_true, Bool.not_false, Wp.isB_0, Wp.isB_1, Wp.isB_2, Wp.isB_3, Wp.isB_4, Wp.isB_5, Wp.isB_6, Wp.isB_7, Wp.isB_8, Wp.isB_9, Wp.isB_10, Wp.isB_11, Wp.isB_12, Wp.isB_13, Wp.isB_14, Wp.isB_15, Wp.isB_16, Wp.isB_17, Wp.isB_18, Wp.isB_19, Wp.isB_20, Wp.isB_21, Wp.isB_22, Wp.isB_23, Wp.isB_24, Wp.isB_25, Wp.isB_26, Wp.isB_27, Wp.isB_28, Wp.isB_29, Wp.isB_30, Wp.isB_31, Wp.isB_32, Wp.isB_33, Wp.isB_34, Wp.isB_35, Wp.cmul_l, Wp.cmul_r, Wp.cpow_lit, Wp.size_le, Wp.size_lt, Wp.atI_0, Wp.atI_1, Wp.atI_2, Wp.atI_3, Wp.atI_4, Wp.atI_5, Wp.atI_6, Wp.ixN_0, Wp.ixN_1, Wp.ixN_2, Wp.itemsT, Wp.tyT, reduceIte, Wp.wFld, Wp.wFSet, Wp.wFAug, Wp.wMeth, Wp.wMake, Wp.rIxA, Wp.rInA, Wp.rSetA, Wp.ixA, Wp.inA, Wp.setA, Wp.lenA, Wp.getD, Option.map_some, Option.bind_some, Option.getD_some,  Wp.gIxA, Wp.wDNew, Wp.wDNewT, Wp.rLenA, Wp.rSortD, Wp.rMaxL, Wp.rPopL, Wp.rGet1, Wp.rGet2, Wp.wGet1, Wp.wGet2, Wp.wPop1, Wp.wPop2, Wp.wDel, Wp.isDT, Wp.keyT, Wp.keysT, Wp.keysL, Wp.ex_ins, Wp.ex_dct, Wp.wIf, Wp.rGt, Wp.wTry, Wp.wMethX, Wp.wCallX, Wp.wRaise, Wp.rAddI, Int.cast_ofNat_Int, Int.reduceBEq, lk_Reader_row, pt_Reader_row, lk_Reader_place, pt_Reader_place, no_Reader_byte, no_Reader_inner, no_Reader_is_done, no_Reader_number, no_Reader_part, no_Reader_value, no_Reader_word, ln_Reader, mk_Reader, Wp.rMulB, Wp.upS, Wp.upS_upS, *])
local macro_rules | `(tactic| walk_at "run") => `(tactic| repeat (first | walk_at "wp" | walk_at "go"))
local macro_rules | `(tactic| walk_at "wq") => `(tactic| simp (disch := omega) only [Wp.wSeq, Wp.wNext, Wp.wSet, Wp.wVar, Wp.wC, Wp.wOp, Wp.wRet, Wp.wIfS, Wp.wTest, Wp.wCall, Wp.wCons, Wp.wNil, Wp.wTup, Wp.wLst, Wp.wAsg, Wp.gTp, Wp.gC, Wp.gNm, Wp.gN0, Wp.gIx, Wp.rSet, Wp.rAdd, Wp.rMul, Wp.rMod, Wp.rSub, Wp.rFdiv, Wp.rPow, Wp.rInt, Wp.rIx, Wp.rLt, Wp.rLe, Wp.rCmp, Wp.rGeI, Wp.rGtI, Wp.wCB, Wp.rLen, Wp.rLen1, Wp.rInt1, Wp.rMax2, Wp.rMin2, Wp.rTupOf, Wp.rListOf,
  Wp.wIsi, Wp.rBIs, Wp.rIsN, Wp.isNon, Wp.wMt, Wp.rAppendT, Wp.rExtendT, Wp.rReverseT, Wp.wNot, Wp.wOr, Wp.wAnd, Wp.wAndV, Wp.wOrV, Wp.wNotV, Wp.wFor, Wp.iRg1, Wp.iRg2, Wp.iAnyW, Wp.wAll, Wp.wChain, Wp.wSl, Wp.wNoPart, Wp.wPart, Wp.rSl, Wp.wNeg, Wp.rNeg, Wp.wLc, Wp.wYes, Wp.wDrop, Wp.wipeT, Wp.wAug, List.map, List.set_cons_zero, List.set_cons_succ, List.getElem?_cons_zero, List.getElem?_cons_succ, List.length_cons, List.length_nil, List.cons_append, List.nil_append, List.replicate, Wp.startT,
  true_and, and_true, Wp.wif_true, Wp.wif_false, Wp.ex_some, Wp.ex_some1, Wp.ex_eq, Wp.ex_lst, Wp.ex_lst0, Wp.rEq_int, Bool.false_bne, Bool.true_bne, Int.reduceLT, Int.reduceLE, Int.reduceAdd, Nat.reduceAdd, Nat.reduceSub, eq_self, ite_true, ite_false, beq_self_eq_true, Bool.not_true, Bool.not_false, Wp.isB_0, Wp.isB_1, Wp.isB_2, Wp.isB_3, Wp.isB_4, Wp.isB_5, Wp.isB_6, Wp.isB_7, Wp.isB_8, Wp.isB_9, Wp.isB_10, Wp.isB_11, Wp.isB_12, Wp.isB_13, Wp.isB_14, Wp.isB_15, Wp.isB_16, Wp.isB_17, Wp.isB_18, Wp.isB_19, Wp.isB_20, Wp.isB_21, Wp.isB_22, Wp.isB_23, Wp.isB_24, Wp.isB_25, Wp.isB_26, Wp.isB_27, Wp.isB_28, Wp.isB_29, Wp.isB_30, Wp.isB_31, Wp.isB_32, Wp.isB_33, Wp.isB_34, Wp.isB_35, Wp.cmul_l, Wp.cmul_r, Wp.cpow_lit, Wp.size_le, Wp.size_lt, Wp.atI_0, Wp.atI_1, Wp.atI_2, Wp.atI_3, Wp.atI_4, Wp.atI_5, Wp.atI_6, Wp.ixN_0, Wp.ixN_1, Wp.ixN_2, Wp.itemsT, Wp.tyT, reduceIte, Wp.wFld, Wp.wFSet, Wp.wFAug, Wp.wMeth, Wp.wMake, Wp.rIxA, Wp.rInA, Wp.rSetA, Wp.ixA, Wp.inA, Wp.setA, Wp.lenA, Wp.getD, Option.map_some, Option.bind_some, Option.getD_some,  Wp.gIxA, Wp.wDNew, Wp.wDNewT, Wp.rLenA, Wp.rSortD, Wp.rMaxL, Wp.rPopL, Wp.rGet1, Wp.rGet2, Wp.wGet1, Wp.wGet2, Wp.wPop1, Wp.wPop2, Wp.wDel, Wp.isDT, Wp.keyT, Wp.keysT, Wp.keysL, Wp.ex_ins, Wp.ex_dct, Wp.wIf, Wp.rGt, Wp.wTry, Wp.wMethX, Wp.wCallX, Wp.wRaise, Wp.rAddI, Int.cast_ofNat_Int, Int.reduceBEq, lk_Reader_row, pt_Reader_row, lk_Reader_place, pt_Reader_place, no_Reader_byte, no_Reader_inner, no_Reader_is_done, no_Reader_number, no_Reader_part, no_Reader_value, no_Reader_word, ln_Reader, mk_Reader, Wp.rMulB, *])
local macro_rules | `(tactic| walk_at "r2") => `(tactic| repeat (first | walk_at "wq" | walk_at "go"))
local macro_rules | `(tactic| walk_at "w0") => `(tactic| simp (disch := omega) only [Wp.wSeq, Wp.wNext, Wp.wSet, Wp.wVar, Wp.wC, Wp.wOp, Wp.wRet, Wp.wIfS, Wp.wTest, Wp.wCall, Wp.wCons, Wp.wNil, Wp.wTup, Wp.wLst, Wp.wAsg, Wp.gTp, Wp.gC, Wp.gNm, Wp.gN0, Wp.gIx, Wp.rSet, Wp.rAdd, Wp.rMul, Wp.rMod, Wp.rSub, Wp.rFdiv, Wp.rPow, Wp.rInt, Wp.rIx, Wp.rLt, Wp.rLe, Wp.rCmp, Wp.rGeI, Wp.rGtI, Wp.wCB, Wp.rLen, Wp.rLen1, Wp.rInt1, Wp.rMax2, Wp.rMin2, Wp.rTupOf, Wp.rListOf,
  Wp.wIsi, Wp.rBIs, Wp.rIsN, Wp.isNon, Wp.wMt, Wp.rAppendT, Wp.rExtendT, Wp.rReverseT, Wp.wNot, Wp.wOr, Wp.wAnd, Wp.wAndV, Wp.wOrV, Wp.wNotV, Wp.wFor, Wp.iRg1, Wp.iRg2, Wp.iAnyW, Wp.wAll, Wp.wChain, Wp.wSl, Wp.wNoPart, Wp.wPart, Wp.rSl, Wp.wNeg, Wp.rNeg, Wp.wLc, Wp.wYes, Wp.wDrop, Wp.wipeT, Wp.wAug, List.map, List.set_cons_zero, List.set_cons_succ, List.getElem?_cons_zero, List.getElem?_cons_succ, List.length_cons, List.length_nil, List.cons_append, List.nil_append, List.replicate, Wp.startT,
  true_and, and_true, Wp.wif_true, Wp.wif_false, Wp.ex_some, Wp.ex_some1, Wp.ex_eq, Wp.ex_lst, Wp.ex_lst0, Wp.rEq_int, Bool.false_bne, Bool.true_bne, Int.reduceLT, Int.reduceLE, Int.reduceAdd, Nat.reduceAdd, Nat.reduceSub, eq_self, ite_true, ite_false, beq_self_eq_true, Bool.not_true, Bool.not_false, Wp.isB_0, Wp.isB_1, Wp.isB_2, Wp.isB_3, Wp.isB_4, Wp.isB_5, Wp.isB_6, Wp.isB_7, Wp.isB_8, Wp.isB_9, Wp.isB_10, Wp.isB_11, Wp.isB_12, Wp.isB_13, Wp.isB_14, Wp.isB_15, Wp.isB_16, Wp.isB_17, Wp.isB_18, Wp.isB_19, Wp.isB_20, Wp.isB_21, Wp.isB_22, Wp.isB_23, Wp.isB_24, Wp.isB_25, Wp.isB_26, Wp.isB_27, Wp.isB_28, Wp.isB_29, Wp.isB_30, Wp.isB_31, Wp.isB_32, Wp.isB_33, Wp.isB_34, Wp.isB_35, Wp.cmul_l, Wp.cmul_r, Wp.cpow_lit, Wp.size_le, Wp.size_lt, Wp.atI_0, Wp.atI_1, Wp.atI_2, Wp.atI_3, Wp.atI_4, Wp.atI_5, Wp.atI_6, Wp.ixN_0, Wp.ixN_1, Wp.ixN_2, Wp.itemsT, Wp.tyT, reduceIte, Wp.wFld, Wp.wFSet, Wp.wFAug, Wp.wMeth, Wp.wMake, Wp.rIxA, Wp.rInA, Wp.rSetA, Wp.ixA, Wp.inA, Wp.setA, Wp.lenA, Wp.getD, Option.map_some, Option.bind_some, Option.getD_some,  Wp.gIxA, Wp.wDNew, Wp.wDNewT, Wp.rLenA, Wp.rSortD, Wp.rMaxL, Wp.rPopL, Wp.rGet1, Wp.rGet2, Wp.wGet1, Wp.wGet2, Wp.wPop1, Wp.wPop2, Wp.wDel, Wp.isDT, Wp.keyT, Wp.keysT, Wp.keysL, Wp.ex_ins, Wp.ex_dct, Wp.wIf, Wp.rGt, Wp.wTry, Wp.wMethX, Wp.wCallX, Wp.wRaise, Wp.rAddI, Int.cast_ofNat_Int, Int.reduceBEq, lk_Reader_row, pt_Reader_row, lk_Reader_place, pt_Reader_place, no_Reader_byte, no_Reader_inner, no_Reader_is_done, no_Reader_number, no_Reader_part, no_Reader_value, no_Reader_word, ln_Reader, mk_Reader, Wp.rMulB])
local macro_rules | `(tactic| walk_at "r0") => `(tactic| repeat (first | walk_at "w0" | walk_at "go"))
variable {C CB : Addr}
/-- all stays but the bag at p and the fuel at f -/
structure Gv (p f : Addr) (S S' : Sta) : Prop where
  keep : ∀ a o, S a = some o → a ≠ p → a ≠ f → S' a = some o
  bag : IsBag none S' p
theorem Gv.trans {p f : Addr} {S S1 S2 : Sta} (a : Gv p f S S1) (b : Gv p f S1 S2) : Gv p f S S2 := ⟨fun x o h n m => b.keep x o (a.keep x o h n m) n m, b.bag⟩
theorem _root_.Wp.Grb.gv {p f : Addr} {S S1 : Sta} (a : Grb none p S S1) : Gv p f S S1 := ⟨fun x o h n _ => a.keep x o h n, a.bag⟩
theorem partsL_app : ∀ a b : List T, partsL (a ++ b) = partsL a ++ partsL b
  | [], b => by simp [partsL]
  | x :: a, b => by simp [partsL, partsL_app a b]
def spVal (d : Nat) : WSp := fun ts S Q _ => match ts with
  | [.ref p, .ref f, .int l] => l = (d : Int) ∧ IsBag none S p ∧ f ≠ p ∧ ∃ fu : Int, S f = some (.lst [.int fu]) ∧ fu ≤ 40 ∧ -100 ≤ fu ∧
      ∀ (v : T) (S' : Sta) (fu' : Int), Vl d v → ((parts v).length : Int) ≤ 20 * (fu - fu') → fu' < fu → (2 ≤ fu → -4 * (d : Int) ≤ fu') → (fu ≤ 1 → fu' = fu - 1) → Gv p f S S' → S' f = some (.lst [.int fu']) → Q v S'
  | _ => False
theorem comp_val (d : Nat) (hd : d ≤ 8) (p f D : Addr) (a3 : Option T) (Q : T → Sta → Prop) (hDp : D ≠ p) (hDf : D ≠ f) (hfp : f ≠ p) (S0 : Sta) (hn : S0 D = none) (g0 : Int) (h40 : g0 ≤ 40)
    (hQ : ∀ (acc : List T) S' (g : Int), Gv p f S0 S' → S' D = some (.lst acc) → S' f = some (.lst [.int g]) → (∀ t ∈ acc, Vl d t) → acc.length ≤ 5 → ((partsL acc).length : Int) ≤ 20 * (g0 - g) → 1 - 4 * (d : Int) - (acc.length : Int) ≤ g → g ≤ g0 → Q (.ref D) S') :
    ∀ (xs acc : List T) (S : Sta) (g : Int), Gv p f S0 S → S D = some (.lst acc) → S f = some (.lst [.int g]) → (∀ t ∈ acc, Vl d t) → acc.length + xs.length ≤ 5 → ((partsL acc).length : Int) ≤ 20 * (g0 - g) → 1 - 4 * (d : Int) - (acc.length : Int) ≤ g → g ≤ g0 →
      compW (gNm 4) wYes ((l1__law_value C CB) spDr spWord spNum (spVal d)) (fun _ => True) [some (.ref p), some (.ref f), some (.int ((d : Int) + 1)), a3, none] D Q xs S
  | [], acc, S, g, k1, k2, k3, k4, k5, k6, k7, k8 => ⟨trivial, hQ acc S g k1 k2 k3 k4 (by simpa using k5) k6 k7 k8⟩
  | x :: xs, acc, S, g, k1, k2, k3, k4, k5, k6, k7, k8 => by
    refine ⟨trivial, ?_⟩
    have ih := comp_val d hd p f D a3 Q hDp hDf hfp S0 hn g0 h40 hQ xs
    generalize compW (gNm 4) wYes ((l1__law_value C CB) spDr spWord spNum (spVal d)) (fun _ => True) [some (.ref p), some (.ref f), some (.int ((d : Int) + 1)), a3, none] D Q xs = LP at ih ⊢
    refine wif_t ?_
    show ((l1__law_value C CB) spDr spWord spNum (spVal d)) [some (.ref p), some (.ref f), some (.int ((d : Int) + 1)), a3, some x] S _
    unfold l1__law_value
    rw [List.length_cons] at k5
    refine ⟨_, rfl, _, rfl, _, rfl, trivial, rfl, by omega, k1.bag, hfp, g, k3, by omega, by omega, fun v S1 g1 m1 m2 m3 m4 m5 m6 m7 => ?_⟩
    refine ⟨acc, m6.keep _ _ k2 hDp hDf, Nat.lt_of_le_of_lt (show acc.length ≤ 100 by omega) (by rw [sizeLine_eq]; decide), ?_⟩
    refine ih (acc ++ [v]) _ g1 ⟨fun a o ea n n2 => ?_, (k1.trans m6).bag.up (off_ hDp)⟩ upS_same (by rw [upS_ne hDf.symm]; exact m7) (fun t ht => ?_) (by simp only [List.length_append, List.length_cons, List.length_nil]; omega) ?_ ?_ (by omega)
    · rw [upS_ne (fun z => by rw [z, hn] at ea; cases ea)]
      exact (k1.trans m6).keep a o ea n n2
    · rcases List.mem_append.mp ht with ht | ht
      · exact k4 t ht
      · rw [List.mem_singleton.mp ht]; exact m1
    · rw [partsL_app, List.length_append]
      simp only [partsL, List.append_nil]
      omega
    · simp only [List.length_append, List.length_cons, List.length_nil]
      by_cases h2 : 2 ≤ g
      · have := m4 h2
        omega
      · have := m5 (by omega)
        omega
theorem hw_law_value (d : Nat) (hd : d ≤ 9) (sub : WSp) (hsub : ∀ e, d = e + 1 → sub = spVal e) : ∀ ts S Q E, ts.length = 3 → spVal d ts S Q E → (b__law_value C CB) spDr spWord spNum sub { nx := fun _ S' => Q .non S', rt := Q } (Wp.startT N__law_value ts) S := by
  intro ts S Q E _ h
  match ts, h with
  | [.ref p, .ref f, .int l], ⟨hl, hb, hfp, fu, hf, h40, h100, h⟩ =>
    subst hl
    unfold b__law_value N__law_value
    walk_at "r2"
    have hb1 := hb.up (o := .lst [.int (fu - 1)]) (off_ hfp)
    generalize hS1 : upS S f (.lst [.int (fu - 1)]) = S1 at *
    have hf1 : S1 f = some (.lst [.int (fu - 1)]) := by rw [← hS1]; exact upS_same
    have g1 : Gv p f S S1 := ⟨fun a o e n n2 => by rw [← hS1, upS_ne n2]; exact e, hb1⟩
    refine ⟨hb1, by decide, by decide, fun r S2 h0 h1 g2 => ?_⟩
    have hf2 := g2.keep _ _ hf1 hfp
    have gT := g1.trans (g2.gv (f := f))
    walk_at "r2"
    have num : ∀ (n : Int) (S3 : Sta), 0 ≤ n → n ≤ 4294967295 → Grb none p S2 S3 → Q (.int n) S3 := fun n S3 n0 n1 g3 => by
      refine h _ _ (fu - 1) (.int _ n n0 n1) ?_ (by omega) (fun _ => by omega) (fun _ => rfl) (gT.trans (g3.gv (f := f))) (g3.keep _ _ hf2 hfp)
      have := digs_len (n := n.toNat) (by omega)
      simp only [parts, nb, List.length_cons]
      omega
    refine if_bool (fun _ => ?_) (fun _ => ?_)
    · exact h _ _ (fu - 1) (.non _) (by simp only [parts, List.length_cons, List.length_nil]; omega) (by omega) (fun _ => by omega) (fun _ => rfl) gT hf2
    refine goS_i ?_
    simp only [wSeq]
    walk_at "r2"
    refine if_bool (fun _ => ?_) (fun _ => ?_)
    · refine ⟨g2.bag, fun x S3 x1 x2 g3 => ?_⟩
      refine h _ _ (fu - 1) (.str _ x x1 x2) ?_ (by omega) (fun _ => by omega) (fun _ => rfl) (gT.trans (g3.gv (f := f))) (g3.keep _ _ hf2 hfp)
      have hl := wd_len x1
      have := digs_len (n := x.length) (by omega)
      simp only [parts, nb, List.length_cons, List.length_append, List.length_map, Array.length_toList]
      have : x.cps.size = x.length := rfl
      omega
    refine goS_i ?_
    simp only [wSeq]
    walk_at "r2"
    refine if_bool (fun _ => ⟨g2.bag, num⟩) (fun _ => ?_)
    refine if_bool (fun _ => ⟨g2.bag, num⟩) (fun z => ?_)
    refine if_dec (fun _ => ⟨g2.bag, num⟩) (fun hfu => ?_)
    have hd0 : ((d : Int) == 0) = false := z
    match d, hd, hsub, h, hd0 with
    | 0, _, _, _, z => exact absurd z (by decide)
    | e + 1, hd, hsub, h, _ =>
      rw [hsub e rfl]
      refine goS_i ?_
      simp only [wRet, wCB, wCons, wNil, wLc, iRg1]
      refine ⟨_, rfl, rfl, g2.bag, by decide, by decide, fun m S3 m0 m1 g3 => ?_⟩
      refine ⟨by omega, by omega, fun D hD => ?_⟩
      have hDp := new_ne g3.bag hD
      have hf3 := g3.keep _ _ hf2 hfp
      have hDf : D ≠ f := fun z => by rw [z, hf3] at hD; cases hD
      have gT3 := gT.trans (g3.gv (f := f))
      have hS0 : S D = none := by
        cases hs : S D with
        | none => rfl
        | some o => exact absurd (gT3.keep D o hs hDp hDf) (by rw [hD]; exact fun z => by cases z)
      refine comp_val e (by omega) p f D _ _ hDp hDf hfp S hS0 (fu - 1) (by omega) (fun acc S4 g k1 k2 k3 k4 k5 k6 k7 k8 => ?_) _ [] _ (fu - 1) ⟨fun a o ea n n2 => (gr_new hD) _ _ (gT3.keep a o ea n n2), g3.bag.up (off_ hDp)⟩ upS_same (by rw [upS_ne hDf.symm]; exact hf3) (by simp) (by rw [rangeT_len]; simp only [List.length_nil]; omega) (by simp only [partsL, List.length_nil]; omega) (by simp only [List.length_nil]; omega) (by omega)
      refine ⟨acc, itemsT_ref k2, ?_⟩
      refine h _ _ g (.tup e acc (by omega) k4) ?_ (by omega) (fun _ => by omega) (fun _ => by omega) k1 k3
      have := digs_len (n := acc.length) (by omega)
      simp only [parts, nb, List.length_cons, List.length_append]
      omega
end My

set_option Elab.async false
set_option linter.all false
set_option maxRecDepth 100000
set_option maxHeartbeats 8000000
namespace My
open PySem PySem.Spec PyProof.Rows L2 Wp Gn
local macro_rules | `(tactic| walk_at "go") => `(tactic| (with_reducible refine goS_i ?_))
local macro_rules | `(tactic| walk_at "wp") => `(tactic| simp (disch := omega) only [Wp.wSeq, Wp.wNext, Wp.wSet, Wp.wVar, Wp.wC, Wp.wOp, Wp.wRet, Wp.wIfS, Wp.wTest, Wp.wCall, Wp.wCons, Wp.wNil, Wp.wTup, Wp.wLst, Wp.wAsg, Wp.gTp, Wp.gC, Wp.gNm, Wp.gN0, Wp.gIx, Wp.rSet, Wp.rAdd, Wp.rMul, Wp.rMod, Wp.rSub, Wp.rFdiv, Wp.rPow, Wp.rInt, Wp.rIx, Wp.rLt, Wp.rLe, Wp.rCmp, Wp.rGeI, Wp.rGtI, Wp.wCB, Wp.rLen, Wp.rLen1, Wp.rInt1, Wp.rMax2, Wp.rMin2, Wp.rTupOf, Wp.rListOf,
  Wp.wIsi, Wp.rBIs, Wp.rIsN, Wp.isNon, Wp.wMt, Wp.rAppendT, Wp.rExtendT, Wp.rReverseT, Wp.wNot, Wp.wOr, Wp.wAnd, Wp.wAndV, Wp.wOrV, Wp.wNotV, Wp.wFor, Wp.iRg1, Wp.iRg2, Wp.iAnyW, Wp.wAll, Wp.wChain, Wp.wSl, Wp.wNoPart, Wp.wPart, Wp.rSl, Wp.wNeg, Wp.rNeg, Wp.wLc, Wp.wYes, Wp.wDrop, Wp.wipeT, Wp.wAug, List.map, List.set_cons_zero, List.set_cons_succ, List.getElem?_cons_zero, List.getElem?_cons_succ, List.length_cons, List.length_nil, List.cons_append, List.nil_append, List.replicate, Wp.startT,
  true_and, and_true, Wp.wif_true, Wp.wif_false, Wp.ex_some, Wp.ex_some1, Wp.ex_eq, Wp.ex_lst, Wp.ex_lst0, Wp.rEq_int, Bool.false_bne, Bool.true_bne, Int.reduceLT, Int.reduceLE, Int.reduceAdd, Nat.reduceAdd, Nat.reduceSub, eq_self, ite_true, ite_false, beq_self_eq_true, Bool.not_true, Bool.not_false, Wp.isB_0, Wp.isB_1, Wp.isB_2, Wp.isB_3, Wp.isB_4, Wp.isB_5, Wp.isB_6, Wp.isB_7, Wp.isB_8, Wp.isB_9, Wp.isB_10, Wp.isB_11, Wp.isB_12, Wp.isB_13, Wp.isB_14, Wp.isB_15, Wp.isB_16, Wp.isB_17, Wp.isB_18, Wp.isB_19, Wp.isB_20, Wp.isB_21, Wp.isB_22, Wp.isB_23, Wp.isB_24, Wp.isB_25, Wp.isB_26, Wp.isB_27, Wp.isB_28, Wp.isB_29, Wp.isB_30, Wp.isB_31, Wp.isB_32, Wp.isB_33, Wp.isB_34, Wp.isB_35, Wp.cmul_l, Wp.cmul_r, Wp.cpow_lit, Wp.size_le, Wp.size_lt, Wp.atI_0, Wp.atI_1, Wp.atI_2, Wp.atI_3, Wp.atI_4, Wp.atI_5, Wp.atI_6, Wp.ixN_0, Wp.ixN_1, Wp.ixN_2, Wp.itemsT, Wp.tyT, reduceIte, Wp.wFld, Wp.wFSet, Wp.wFAug, Wp.wMeth, Wp.wMake, Wp.rIxA, Wp.rInA, Wp.rSetA, Wp.ixA, Wp.inA, Wp.setA, Wp.lenA, Wp.getD, Option.map_some, Option.bind_some, Option.getD_some,  Wp.gIxA, Wp.wDNew, Wp.wDNewT, Wp.rLenA, Wp.rSortD, Wp.rMaxL, Wp.rPopL, Wp.rGet1, Wp.rGet2, Wp.wGet1, Wp.wGet2, Wp.wPop1, Wp.wPop2, Wp.wDel, Wp.isDT, Wp.keyT, Wp.keysT, Wp.keysL, Wp.ex_ins, Wp.ex_dct, Wp.wIf, Wp.rGt, Wp.wTry, Wp.wMethX, Wp.wCallX, Wp.wRaise, Wp.rAddI, Int.cast_ofNat_Int, Int.reduceBEq, lk_Reader_row, pt_Reader_row, lk_Reader_place, pt_Reader_place, no_Reader_byte, no_Reader_inner, no_Reader_is_done, no_Reader_number, no_Reader_part, no_Reader_value, no_Reader_word, ln_Reader, mk_Reader, Wp.rMulB, Wp.upS, Wp.upS_upS, *])
local macro_rules | `(tactic| walk_at "run") => `(tactic| repeat (first | walk_at "wp" | walk_at "go"))
local macro_rules | `(tactic| walk_at "wq") => `(tactic| simp (disch := omega) only [Wp.wSeq, Wp.wNext, Wp.wSet, Wp.wVar, Wp.wC, Wp.wOp, Wp.wRet, Wp.wIfS, Wp.wTest, Wp.wCall, Wp.wCons, Wp.wNil, Wp.wTup, Wp.wLst, Wp.wAsg, Wp.gTp, Wp.gC, Wp.gNm, Wp.gN0, Wp.gIx, Wp.rSet, Wp.rAdd, Wp.rMul, Wp.rMod, Wp.rSub, Wp.rFdiv, Wp.rPow, Wp.rInt, Wp.rIx, Wp.rLt, Wp.rLe, Wp.rCmp, Wp.rGeI, Wp.rGtI, Wp.wCB, Wp.rLen, Wp.rLen1, Wp.rInt1, Wp.rMax2, Wp.rMin2, Wp.rTupOf, Wp.rListOf,
  Wp.wIsi, Wp.rBIs, Wp.rIsN, Wp.isNon, Wp.wMt, Wp.rAppendT, Wp.rExtendT, Wp.rReverseT, Wp.wNot, Wp.wOr, Wp.wAnd, Wp.wAndV, Wp.wOrV, Wp.wNotV, Wp.wFor, Wp.iRg1, Wp.iRg2, Wp.iAnyW, Wp.wAll, Wp.wChain, Wp.wSl, Wp.wNoPart, Wp.wPart, Wp.rSl, Wp.wNeg, Wp.rNeg, Wp.wLc, Wp.wYes, Wp.wDrop, Wp.wipeT, Wp.wAug, List.map, List.set_cons_zero, List.set_cons_succ, List.getElem?_cons_zero, List.getElem?_cons_succ, List.length_cons, List.length_nil, List.cons_append, List.nil_append, List.replicate, Wp.startT,
  true_and, and_true, Wp.wif_true, Wp.wif_false, Wp.ex_some, Wp.ex_some1, Wp.ex_eq, Wp.ex_lst, Wp.ex_lst0, Wp.rEq_int, Bool.false_bne, Bool.true_bne, Int.reduceLT, Int.reduceLE, Int.reduceAdd, Nat.reduceAdd, Nat.reduceSub, eq_self, ite_true, ite_false, beq_self_eq_true, Bool.not_true, Bool.not_false, Wp.isB_0, Wp.isB_1, Wp.isB_2, Wp.isB_3, Wp.isB_4, Wp.isB_5, Wp.isB_6, Wp.isB_7, Wp.isB_8, Wp.isB_9, Wp.isB_10, Wp.isB_11, Wp.isB_12, Wp.isB_13, Wp.isB_14, Wp.isB_15, Wp.isB_16, Wp.isB_17, Wp.isB_18, Wp.isB_19, Wp.isB_20, Wp.isB_21, Wp.isB_22, Wp.isB_23, Wp.isB_24, Wp.isB_25, Wp.isB_26, Wp.isB_27, Wp.isB_28, Wp.isB_29, Wp.isB_30, Wp.isB_31, Wp.isB_32, Wp.isB_33, Wp.isB_34, Wp.isB_35, Wp.cmul_l, Wp.cmul_r, Wp.cpow_lit, Wp.size_le, Wp.size_lt, Wp.atI_0, Wp.atI_1, Wp.atI_2, Wp.atI_3, Wp.atI_4, Wp.atI_5, Wp.atI_6, Wp.ixN_0, Wp.ixN_1, Wp.ixN_2, Wp.itemsT, Wp.tyT, reduceIte, Wp.wFld, Wp.wFSet, Wp.wFAug, Wp.wMeth, Wp.wMake, Wp.rIxA, Wp.rInA, Wp.rSetA, Wp.ixA, Wp.inA, Wp.setA, Wp.lenA, Wp.getD, Option.map_some, Option.bind_some, Option.getD_some,  Wp.gIxA, Wp.wDNew, Wp.wDNewT, Wp.rLenA, Wp.rSortD, Wp.rMaxL, Wp.rPopL, Wp.rGet1, Wp.rGet2, Wp.wGet1, Wp.wGet2, Wp.wPop1, Wp.wPop2, Wp.wDel, Wp.isDT, Wp.keyT, Wp.keysT, Wp.keysL, Wp.ex_ins, Wp.ex_dct, Wp.wIf, Wp.rGt, Wp.wTry, Wp.wMethX, Wp.wCallX, Wp.wRaise, Wp.rAddI, Int.cast_ofNat_Int, Int.reduceBEq, lk_Reader_row, pt_Reader_row, lk_Reader_place, pt_Reader_place, no_Reader_byte, no_Reader_inner, no_Reader_is_done, no_Reader_number, no_Reader_part, no_Reader_value, no_Reader_word, ln_Reader, mk_Reader, Wp.rMulB, *])
local macro_rules | `(tactic| walk_at "r2") => `(tactic| repeat (first | walk_at "wq" | walk_at "go"))
local macro_rules | `(tactic| walk_at "w0") => `(tactic| simp (disch := omega) only [Wp.wSeq, Wp.wNext, Wp.wSet, Wp.wVar, Wp.wC, Wp.wOp, Wp.wRet, Wp.wIfS, Wp.wTest, Wp.wCall, Wp.wCons, Wp.wNil, Wp.wTup, Wp.wLst, Wp.wAsg, Wp.gTp, Wp.gC, Wp.gNm, Wp.gN0, Wp.gIx, Wp.rSet, Wp.rAdd, Wp.rMul, Wp.rMod, Wp.rSub, Wp.rFdiv, Wp.rPow, Wp.rInt, Wp.rIx, Wp.rLt, Wp.rLe, Wp.rCmp, Wp.rGeI, Wp.rGtI, Wp.wCB, Wp.rLen, Wp.rLen1, Wp.rInt1, Wp.rMax2, Wp.rMin2, Wp.rTupOf, Wp.rListOf,
  Wp.wIsi, Wp.rBIs, Wp.rIsN, Wp.isNon, Wp.wMt, Wp.rAppendT, Wp.rExtendT, Wp.rReverseT, Wp.wNot, Wp.wOr, Wp.wAnd, Wp.wAndV, Wp.wOrV, Wp.wNotV, Wp.wFor, Wp.iRg1, Wp.iRg2, Wp.iAnyW, Wp.wAll, Wp.wChain, Wp.wSl, Wp.wNoPart, Wp.wPart, Wp.rSl, Wp.wNeg, Wp.rNeg, Wp.wLc, Wp.wYes, Wp.wDrop, Wp.wipeT, Wp.wAug, List.map, List.set_cons_zero, List.set_cons_succ, List.getElem?_cons_zero, List.getElem?_cons_succ, List.length_cons, List.length_nil, List.cons_append, List.nil_append, List.replicate, Wp.startT,
  true_and, and_true, Wp.wif_true, Wp.wif_false, Wp.ex_some, Wp.ex_some1, Wp.ex_eq, Wp.ex_lst, Wp.ex_lst0, Wp.rEq_int, Bool.false_bne, Bool.true_bne, Int.reduceLT, Int.reduceLE, Int.reduceAdd, Nat.reduceAdd, Nat.reduceSub, eq_self, ite_true, ite_false, beq_self_eq_true, Bool.not_true, Bool.not_false, Wp.isB_0, Wp.isB_1, Wp.isB_2, Wp.isB_3, Wp.isB_4, Wp.isB_5, Wp.isB_6, Wp.isB_7, Wp.isB_8, Wp.isB_9, Wp.isB_10, Wp.isB_11, Wp.isB_12, Wp.isB_13, Wp.isB_14, Wp.isB_15, Wp.isB_16, Wp.isB_17, Wp.isB_18, Wp.isB_19, Wp.isB_20, Wp.isB_21, Wp.isB_22, Wp.isB_23, Wp.isB_24, Wp.isB_25, Wp.isB_26, Wp.isB_27, Wp.isB_28, Wp.isB_29, Wp.isB_30, Wp.isB_31, Wp.isB_32, Wp.isB_33, Wp.isB_34, Wp.isB_35, Wp.cmul_l, Wp.cmul_r, Wp.cpow_lit, Wp.size_le, Wp.size_lt, Wp.atI_0, Wp.atI_1, Wp.atI_2, Wp.atI_3, Wp.atI_4, Wp.atI_5, Wp.atI_6, Wp.ixN_0, Wp.ixN_1, Wp.ixN_2, Wp.itemsT, Wp.tyT, reduceIte, Wp.wFld, Wp.wFSet, Wp.wFAug, Wp.wMeth, Wp.wMake, Wp.rIxA, Wp.rInA, Wp.rSetA, Wp.ixA, Wp.inA, Wp.setA, Wp.lenA, Wp.getD, Option.map_some, Option.bind_some, Option.getD_some,  Wp.gIxA, Wp.wDNew, Wp.wDNewT, Wp.rLenA, Wp.rSortD, Wp.rMaxL, Wp.rPopL, Wp.rGet1, Wp.rGet2, Wp.wGet1, Wp.wGet2, Wp.wPop1, Wp.wPop2, Wp.wDel, Wp.isDT, Wp.keyT, Wp.keysT, Wp.keysL, Wp.ex_ins, Wp.ex_dct, Wp.wIf, Wp.rGt, Wp.wTry, Wp.wMethX, Wp.wCallX, Wp.wRaise, Wp.rAddI, Int.cast_ofNat_Int, Int.reduceBEq, lk_Reader_row, pt_Reader_row, lk_Reader_place, pt_Reader_place, no_Reader_byte, no_Reader_inner, no_Reader_is_done, no_Reader_number, no_Reader_part, no_Reader_value, no_Reader_word, ln_Reader, mk_Reader, Wp.rMulB])
local macro_rules | `(tactic| walk_at "r0") => `(tactic| repeat (first | walk_at "w0" | walk_at "go"))
variable {C CB : Addr}
/-! ### reading: the row from a place on is the beginning of what is awaited -/
structure Fit (R : List Int) (p : Nat) (L : List Int) : Prop where
  le : p ≤ R.length
  pre : ∃ tl, R.drop p ++ tl = L
theorem Fit.step {R A B : List Int} {p : Nat} (h : Fit R p (A ++ B)) (l : p + A.length ≤ R.length) : (R.drop p).take A.length = A ∧ Fit R (p + A.length) B := by
  obtain ⟨tl, e⟩ := h.pre
  have hd : A.length ≤ (R.drop p).length := by rw [List.length_drop]; have := h.le; omega
  have e1 : (R.drop p).take A.length = A := by
    have := congrArg (List.take A.length) e
    rw [List.take_append_of_le_length hd, List.take_left' rfl] at this
    exact this
  refine ⟨e1, l, tl, ?_⟩
  have := congrArg (List.drop A.length) e
  rw [List.drop_append_of_le_length hd, List.drop_left' rfl, List.drop_drop] at this
  exact this
theorem Fit.cons {R B : List Int} {b : Int} {p : Nat} (h : Fit R p (b :: B)) (l : p < R.length) : R[p]? = some b ∧ Fit R (p + 1) B := by
  have h2 : Fit R p ([b] ++ B) := h
  obtain ⟨e, f⟩ := h2.step (A := [b]) (show p + 1 ≤ R.length by omega)
  refine ⟨?_, f⟩
  have e : (R.drop p).take 1 = [b] := e
  have := congrArg (fun l : List Int => l[0]?) e
  simpa [List.getElem?_take, List.getElem?_drop] using this
theorem Fit.cut {R A B : List Int} {p : Nat} (h : Fit R p (A ++ B)) (l : R.length < p + A.length) : ∃ tl, R.drop p ++ tl = A := by
  obtain ⟨tl, e⟩ := h.pre
  have hd : (R.drop p).length ≤ A.length := by rw [List.length_drop]; omega
  refine ⟨A.drop (R.drop p).length, ?_⟩
  have := congrArg (List.take (R.drop p).length) e
  rw [List.take_left' rfl, List.take_append_of_le_length hd] at this
  conv => lhs; rw [this]
  rw [show (A.take (R.drop p).length).length = (R.drop p).length by rw [List.length_take]; omega, List.take_append_drop]
theorem digs_head {n : Nat} {b : Int} {r : List Int} (h : digs n = b :: r) : b ≠ 0 := by
  have go : ∀ n : Nat, ∀ b : Int, (digsR n).getLast? = some b → b ≠ 0 := by
    intro n
    induction n using Nat.strongRecOn with
    | _ n ih =>
      intro b hb
      by_cases z : n = 0
      · rw [z, digsR_zero] at hb; cases hb
      · rw [digsR_pos z] at hb
        by_cases y : n / 256 = 0
        · rw [y, digsR_zero] at hb
          have hb : ((n % 256 : Nat) : Int) = b := by simpa using hb
          omega
        · have ne : digsR (n / 256) ≠ [] := by rw [digsR_pos y]; simp
          rw [List.getLast?_cons, ] at hb
          cases q : (digsR (n / 256)).getLast? with
          | none => exact absurd (List.getLast?_eq_none_iff.mp q) ne
          | some c =>
            rw [q] at hb
            have : c = b := by simpa using hb
            exact this ▸ ih (n / 256) (Nat.div_lt_self (by omega) (by omega)) c q
  refine go n b ?_
  have : (digs n).head? = some b := by rw [h]; rfl
  unfold digs at this
  rwa [List.head?_reverse] at this
/-- the number that digits tell -/
def numI (s : Int) : List Int → Int
  | [] => s
  | d :: r => numI (256 * s + d) r
theorem numI_app : ∀ (a b : List Int) (s : Int), numI s (a ++ b) = numI (numI s a) b
  | [], _, _ => rfl
  | d :: a, b, s => numI_app a b (256 * s + d)
theorem numI_digs (n : Nat) : numI 0 (digs n) = n := by
  induction n using Nat.strongRecOn with
  | _ n ih =>
    unfold digs
    by_cases z : n = 0
    · rw [z, digsR_zero]; rfl
    · rw [digsR_pos z, List.reverse_cons, numI_app]
      have := ih (n / 256) (Nat.div_lt_self (by omega) (by omega))
      unfold digs at this
      rw [this]
      show 256 * ((n / 256 : Nat) : Int) + ((n % 256 : Nat) : Int) = n
      omega
end My

set_option Elab.async false
set_option linter.all false
set_option maxRecDepth 100000
set_option maxHeartbeats 8000000
namespace My
open PySem PySem.Spec PyProof.Rows L2 Wp Gn
local macro_rules | `(tactic| walk_at "go") => `(tactic| (with_reducible refine goS_i ?_))
local macro_rules | `(tactic| walk_at "wp") => `(tactic| simp (disch := omega) only [Wp.wSeq, Wp.wNext, Wp.wSet, Wp.wVar, Wp.wC, Wp.wOp, Wp.wRet, Wp.wIfS, Wp.wTest, Wp.wCall, Wp.wCons, Wp.wNil, Wp.wTup, Wp.wLst, Wp.wAsg, Wp.gTp, Wp.gC, Wp.gNm, Wp.gN0, Wp.gIx, Wp.rSet, Wp.rAdd, Wp.rMul, Wp.rMod, Wp.rSub, Wp.rFdiv, Wp.rPow, Wp.rInt, Wp.rIx, Wp.rLt, Wp.rLe, Wp.rCmp, Wp.rGeI, Wp.rGtI, Wp.wCB, Wp.rLen, Wp.rLen1, Wp.rInt1, Wp.rMax2, Wp.rMin2, Wp.rTupOf, Wp.rListOf,
  Wp.wIsi, Wp.rBIs, Wp.rIsN, Wp.isNon, Wp.wMt, Wp.rAppendT, Wp.rExtendT, Wp.rReverseT, Wp.wNot, Wp.wOr, Wp.wAnd, Wp.wAndV, Wp.wOrV, Wp.wNotV, Wp.wFor, Wp.iRg1, Wp.iRg2, Wp.iAnyW, Wp.wAll, Wp.wChain, Wp.wSl, Wp.wNoPart, Wp.wPart, Wp.rSl, Wp.wNeg, Wp.rNeg, Wp.wLc, Wp.wYes, Wp.wDrop, Wp.wipeT, Wp.wAug, List.map, List.set_cons_zero, List.set_cons_succ, List.getElem?_cons_zero, List.getElem?_cons_succ, List.length_cons, List.length_nil, List.cons_append, List.nil_append, List.replicate, Wp.startT,
  true_and, and_true, Wp.wif_true, Wp.wif_false, Wp.ex_some, Wp.ex_some1, Wp.ex_eq, Wp.ex_lst, Wp.ex_lst0, Wp.rEq_int, Bool.false_bne, Bool.true_bne, Int.reduceLT, Int.reduceLE, Int.reduceAdd, Nat.reduceAdd, Nat.reduceSub, eq_self, ite_true, ite_false, beq_self_eq_true, Bool.not_true, Bool.not_false, Wp.isB_0, Wp.isB_1, Wp.isB_2, Wp.isB_3, Wp.isB_4, Wp.isB_5, Wp.isB_6, Wp.isB_7, Wp.isB_8, Wp.isB_9, Wp.isB_10, Wp.isB_11, Wp.isB_12, Wp.isB_13, Wp.isB_14, Wp.isB_15, Wp.isB_16, Wp.isB_17, Wp.isB_18, Wp.isB_19, Wp.isB_20, Wp.isB_21, Wp.isB_22, Wp.isB_23, Wp.isB_24, Wp.isB_25, Wp.isB_26, Wp.isB_27, Wp.isB_28, Wp.isB_29, Wp.isB_30, Wp.isB_31, Wp.isB_32, Wp.isB_33, Wp.isB_34, Wp.isB_35, Wp.cmul_l, Wp.cmul_r, Wp.cpow_lit, Wp.size_le, Wp.size_lt, Wp.atI_0, Wp.atI_1, Wp.atI_2, Wp.atI_3, Wp.atI_4, Wp.atI_5, Wp.atI_6, Wp.ixN_0, Wp.ixN_1, Wp.ixN_2, Wp.itemsT, Wp.tyT, reduceIte, Wp.wFld, Wp.wFSet, Wp.wFAug, Wp.wMeth, Wp.wMake, Wp.rIxA, Wp.rInA, Wp.rSetA, Wp.ixA, Wp.inA, Wp.setA, Wp.lenA, Wp.getD, Option.map_some, Option.bind_some, Option.getD_some,  Wp.gIxA, Wp.wDNew, Wp.wDNewT, Wp.rLenA, Wp.rSortD, Wp.rMaxL, Wp.rPopL, Wp.rGet1, Wp.rGet2, Wp.wGet1, Wp.wGet2, Wp.wPop1, Wp.wPop2, Wp.wDel, Wp.isDT, Wp.keyT, Wp.keysT, Wp.keysL, Wp.ex_ins, Wp.ex_dct, Wp.wIf, Wp.rGt, Wp.wTry, Wp.wMethX, Wp.wCallX, Wp.wRaise, Wp.rAddI, Int.cast_ofNat_Int, Int.reduceBEq, lk_Reader_row, pt_Reader_row, lk_Reader_place, pt_Reader_place, no_Reader_byte, no_Reader_inner, no_Reader_is_done, no_Reader_number, no_Reader_part, no_Reader_value, no_Reader_word, ln_Reader, mk_Reader, Wp.rMulB, Wp.upS, Wp.upS_upS, *])
local macro_rules | `(tactic| walk_at "run") => `(tactic| repeat (first | walk_at "wp" | walk_at "go"))
local macro_rules | `(tactic| walk_at "wq") => `(tactic| simp (disch := omega) only [Wp.wSeq, Wp.wNext, Wp.wSet, Wp.wVar, Wp.wC, Wp.wOp, Wp.wRet, Wp.wIfS, Wp.wTest, Wp.wCall, Wp.wCons, Wp.wNil, Wp.wTup, Wp.wLst, Wp.wAsg, Wp.gTp, Wp.gC, Wp.gNm, Wp.gN0, Wp.gIx, Wp.rSet, Wp.rAdd, Wp.rMul, Wp.rMod, Wp.rSub, Wp.rFdiv, Wp.rPow, Wp.rInt, Wp.rIx, Wp.rLt, Wp.rLe, Wp.rCmp, Wp.rGeI, Wp.rGtI, Wp.wCB, Wp.rLen, Wp.rLen1, Wp.rInt1, Wp.rMax2, Wp.rMin2, Wp.rTupOf, Wp.rListOf,
  Wp.wIsi, Wp.rBIs, Wp.rIsN, Wp.isNon, Wp.wMt, Wp.rAppendT, Wp.rExtendT, Wp.rReverseT, Wp.wNot, Wp.wOr, Wp.wAnd, Wp.wAndV, Wp.wOrV, Wp.wNotV, Wp.wFor, Wp.iRg1, Wp.iRg2, Wp.iAnyW, Wp.wAll, Wp.wChain, Wp.wSl, Wp.wNoPart, Wp.wPart, Wp.rSl, Wp.wNeg, Wp.rNeg, Wp.wLc, Wp.wYes, Wp.wDrop, Wp.wipeT, Wp.wAug, List.map, List.set_cons_zero, List.set_cons_succ, List.getElem?_cons_zero, List.getElem?_cons_succ, List.length_cons, List.length_nil, List.cons_append, List.nil_append, List.replicate, Wp.startT,
  true_and, and_true, Wp.wif_true, Wp.wif_false, Wp.ex_some, Wp.ex_some1, Wp.ex_eq, Wp.ex_lst, Wp.ex_lst0, Wp.rEq_int, Bool.false_bne, Bool.true_bne, Int.reduceLT, Int.reduceLE, Int.reduceAdd, Nat.reduceAdd, Nat.reduceSub, eq_self, ite_true, ite_false, beq_self_eq_true, Bool.not_true, Bool.not_false, Wp.isB_0, Wp.isB_1, Wp.isB_2, Wp.isB_3, Wp.isB_4, Wp.isB_5, Wp.isB_6, Wp.isB_7, Wp.isB_8, Wp.isB_9, Wp.isB_10, Wp.isB_11, Wp.isB_12, Wp.isB_13, Wp.isB_14, Wp.isB_15, Wp.isB_16, Wp.isB_17, Wp.isB_18, Wp.isB_19, Wp.isB_20, Wp.isB_21, Wp.isB_22, Wp.isB_23, Wp.isB_24, Wp.isB_25, Wp.isB_26, Wp.isB_27, Wp.isB_28, Wp.isB_29, Wp.isB_30, Wp.isB_31, Wp.isB_32, Wp.isB_33, Wp.isB_34, Wp.isB_35, Wp.cmul_l, Wp.cmul_r, Wp.cpow_lit, Wp.size_le, Wp.size_lt, Wp.atI_0, Wp.atI_1, Wp.atI_2, Wp.atI_3, Wp.atI_4, Wp.atI_5, Wp.atI_6, Wp.ixN_0, Wp.ixN_1, Wp.ixN_2, Wp.itemsT, Wp.tyT, reduceIte, Wp.wFld, Wp.wFSet, Wp.wFAug, Wp.wMeth, Wp.wMake, Wp.rIxA, Wp.rInA, Wp.rSetA, Wp.ixA, Wp.inA, Wp.setA, Wp.lenA, Wp.getD, Option.map_some, Option.bind_some, Option.getD_some,  Wp.gIxA, Wp.wDNew, Wp.wDNewT, Wp.rLenA, Wp.rSortD, Wp.rMaxL, Wp.rPopL, Wp.rGet1, Wp.rGet2, Wp.wGet1, Wp.wGet2, Wp.wPop1, Wp.wPop2, Wp.wDel, Wp.isDT, Wp.keyT, Wp.keysT, Wp.keysL, Wp.ex_ins, Wp.ex_dct, Wp.wIf, Wp.rGt, Wp.wTry, Wp.wMethX, Wp.wCallX, Wp.wRaise, Wp.rAddI, Int.cast_ofNat_Int, Int.reduceBEq, lk_Reader_row, pt_Reader_row, lk_Reader_place, pt_Reader_place, no_Reader_byte, no_Reader_inner, no_Reader_is_done, no_Reader_number, no_Reader_part, no_Reader_value, no_Reader_word, ln_Reader, mk_Reader, Wp.rMulB, *])
local macro_rules | `(tactic| walk_at "r2") => `(tactic| repeat (first | walk_at "wq" | walk_at "go"))
local macro_rules | `(tactic| walk_at "w0") => `(tactic| simp (disch := omega) only [Wp.wSeq, Wp.wNext, Wp.wSet, Wp.wVar, Wp.wC, Wp.wOp, Wp.wRet, Wp.wIfS, Wp.wTest, Wp.wCall, Wp.wCons, Wp.wNil, Wp.wTup, Wp.wLst, Wp.wAsg, Wp.gTp, Wp.gC, Wp.gNm, Wp.gN0, Wp.gIx, Wp.rSet, Wp.rAdd, Wp.rMul, Wp.rMod, Wp.rSub, Wp.rFdiv, Wp.rPow, Wp.rInt, Wp.rIx, Wp.rLt, Wp.rLe, Wp.rCmp, Wp.rGeI, Wp.rGtI, Wp.wCB, Wp.rLen, Wp.rLen1, Wp.rInt1, Wp.rMax2, Wp.rMin2, Wp.rTupOf, Wp.rListOf,
  Wp.wIsi, Wp.rBIs, Wp.rIsN, Wp.isNon, Wp.wMt, Wp.rAppendT, Wp.rExtendT, Wp.rReverseT, Wp.wNot, Wp.wOr, Wp.wAnd, Wp.wAndV, Wp.wOrV, Wp.wNotV, Wp.wFor, Wp.iRg1, Wp.iRg2, Wp.iAnyW, Wp.wAll, Wp.wChain, Wp.wSl, Wp.wNoPart, Wp.wPart, Wp.rSl, Wp.wNeg, Wp.rNeg, Wp.wLc, Wp.wYes, Wp.wDrop, Wp.wipeT, Wp.wAug, List.map, List.set_cons_zero, List.set_cons_succ, List.getElem?_cons_zero, List.getElem?_cons_succ, List.length_cons, List.length_nil, List.cons_append, List.nil_append, List.replicate, Wp.startT,
  true_and, and_true, Wp.wif_true, Wp.wif_false, Wp.ex_some, Wp.ex_some1, Wp.ex_eq, Wp.ex_lst, Wp.ex_lst0, Wp.rEq_int, Bool.false_bne, Bool.true_bne, Int.reduceLT, Int.reduceLE, Int.reduceAdd, Nat.reduceAdd, Nat.reduceSub, eq_self, ite_true, ite_false, beq_self_eq_true, Bool.not_true, Bool.not_false, Wp.isB_0, Wp.isB_1, Wp.isB_2, Wp.isB_3, Wp.isB_4, Wp.isB_5, Wp.isB_6, Wp.isB_7, Wp.isB_8, Wp.isB_9, Wp.isB_10, Wp.isB_11, Wp.isB_12, Wp.isB_13, Wp.isB_14, Wp.isB_15, Wp.isB_16, Wp.isB_17, Wp.isB_18, Wp.isB_19, Wp.isB_20, Wp.isB_21, Wp.isB_22, Wp.isB_23, Wp.isB_24, Wp.isB_25, Wp.isB_26, Wp.isB_27, Wp.isB_28, Wp.isB_29, Wp.isB_30, Wp.isB_31, Wp.isB_32, Wp.isB_33, Wp.isB_34, Wp.isB_35, Wp.cmul_l, Wp.cmul_r, Wp.cpow_lit, Wp.size_le, Wp.size_lt, Wp.atI_0, Wp.atI_1, Wp.atI_2, Wp.atI_3, Wp.atI_4, Wp.atI_5, Wp.atI_6, Wp.ixN_0, Wp.ixN_1, Wp.ixN_2, Wp.itemsT, Wp.tyT, reduceIte, Wp.wFld, Wp.wFSet, Wp.wFAug, Wp.wMeth, Wp.wMake, Wp.rIxA, Wp.rInA, Wp.rSetA, Wp.ixA, Wp.inA, Wp.setA, Wp.lenA, Wp.getD, Option.map_some, Option.bind_some, Option.getD_some,  Wp.gIxA, Wp.wDNew, Wp.wDNewT, Wp.rLenA, Wp.rSortD, Wp.rMaxL, Wp.rPopL, Wp.rGet1, Wp.rGet2, Wp.wGet1, Wp.wGet2, Wp.wPop1, Wp.wPop2, Wp.wDel, Wp.isDT, Wp.keyT, Wp.keysT, Wp.keysL, Wp.ex_ins, Wp.ex_dct, Wp.wIf, Wp.rGt, Wp.wTry, Wp.wMethX, Wp.wCallX, Wp.wRaise, Wp.rAddI, Int.cast_ofNat_Int, Int.reduceBEq, lk_Reader_row, pt_Reader_row, lk_Reader_place, pt_Reader_place, no_Reader_byte, no_Reader_inner, no_Reader_is_done, no_Reader_number, no_Reader_part, no_Reader_value, no_Reader_word, ln_Reader, mk_Reader, Wp.rMulB])
local macro_rules | `(tactic| walk_at "r0") => `(tactic| repeat (first | walk_at "w0" | walk_at "go"))
variable {C CB : Addr}
def RdA (C : Addr) (S : Sta) (a : Addr) (R : List Int) (p : Nat) : Prop := S a = some (.ins C (F_Reader (.tup (R.map T.int)) (.int (p : Int)))) ∧ p ≤ R.length ∧ R.length ≤ 60000
def spRInit (C : Addr) : WSp := fun ts S Q _ => match ts with
  | [.ref a, .tup us] => S a = some (.ins C []) ∧ ∃ R : List Int, us = R.map T.int ∧ R.length ≤ 60000 ∧ ∀ S', Kp a S S' → RdA C S' a R 0 → Q .non S'
  | _ => False
theorem hw_rinit : ∀ ts S Q E, ts.length = 2 → spRInit C ts S Q E → b_Reader_init C CB { nx := fun _ S' => Q .non S', rt := Q } (Wp.startT N_Reader_init ts) S := by
  intro ts S Q E _ h
  match ts, h with
  | [.ref a, .tup _], ⟨h0, R, rfl, hl, h⟩ =>
    unfold b_Reader_init N_Reader_init
    walk_at "r0"
    rw [h0]
    walk_at "r0"
    refine ⟨by decide, ?_⟩
    generalize hS1 : upS S a (.ins C (putFT "row" (.tup (R.map T.int)) [])) = S1
    have e1 : S1 a = some (.ins C (putFT "row" (.tup (R.map T.int)) [])) := by rw [← hS1]; exact upS_same
    have k1 : Kp a S S1 := by rw [← hS1]; exact kp_up
    walk_at "r0"
    rw [e1]
    walk_at "r0"
    refine ⟨Nat.lt_trans (putFT_lt (n := 1) (by decide)) (by decide), ?_⟩
    refine goS_i (h _ (k1.trans kp_up) ⟨?_, Nat.zero_le _, hl⟩)
    rw [upS_same]
    exact congrArg (fun z => some (O.ins C z)) mk_Reader
def spRDone (C : Addr) : WSp := fun ts S Q _ => match ts with
  | [.ref a] => ∃ R p, RdA C S a R p ∧ Q (.bl (decide (p = R.length))) S
  | _ => False
theorem hw_rdone : ∀ ts S Q E, ts.length = 1 → spRDone C ts S Q E → b_Reader_is_done C CB { nx := fun _ S' => Q .non S', rt := Q } (Wp.startT N_Reader_is_done ts) S := by
  intro ts S Q E _ h
  match ts, h with
  | [.ref a], ⟨R, p, ⟨e1, _, _⟩, h⟩ =>
    unfold b_Reader_is_done N_Reader_is_done
    walk_at "r0"
    rw [e1]
    walk_at "r0"
    rw [List.length_map]
    have : (((p : Int) == (R.length : Int))) = decide (p = R.length) := by
      by_cases q : p = R.length
      · rw [q]; simp
      · rw [decide_eq_false q, beq_eq_false_iff_ne]; omega
    rw [this]
    exact h
def spRPart (C CB : Addr) : WSp := fun ts S Q E => match ts with
  | [.ref a, .int k] => ∃ R p, ∃ n : Nat, RdA C S a R p ∧ k = n ∧ (p + n ≤ R.length → ∀ S', Kp a S S' → RdA C S' a R (p + n) → Q (.tup (((R.drop p).take n).map T.int)) S') ∧ (R.length < p + n → E CB S)
  | _ => False
theorem hw_rpart : ∀ ts S Q E, ts.length = 2 → spRPart C CB ts S Q E → b_Reader_part C CB (fun C _ S' => E C S') { nx := fun _ S' => Q .non S', rt := Q } (Wp.startT N_Reader_part ts) S := by
  intro ts S Q E _ h
  match ts, h with
  | [.ref a, .int _], ⟨R, p, n, ⟨e1, hp, hl⟩, rfl, h1, h2⟩ =>
    unfold b_Reader_part N_Reader_part
    walk_at "r0"
    rw [e1]
    walk_at "r0"
    rw [show (p : Int) + (n : Int) = ((p + n : Nat) : Int) by omega, cutT_both, show p + n - p = n by omega, ← List.map_drop, ← List.map_take]
    refine if_dec (fun l => ?_) (fun l => ?_)
    · rw [List.length_map, List.length_take, List.length_drop] at l
      exact h2 (by omega)
    · rw [List.length_map, List.length_take, List.length_drop] at l
      walk_at "r0"
      rw [e1]
      walk_at "r0"
      refine ⟨by decide, ?_⟩
      walk_at "r0"
      refine h1 (by omega) _ kp_up ⟨?_, by omega, hl⟩
      rw [upS_same]
      rw [show (p : Int) + (n : Int) = ((p + n : Nat) : Int) by omega]
def spRByte (C CB : Addr) : WSp := fun ts S Q E => match ts with
  | [.ref a] => ∃ R p, RdA C S a R p ∧ (∀ b, R[p]? = some b → ∀ S', Kp a S S' → RdA C S' a R (p + 1) → Q (.int b) S') ∧ (p = R.length → E CB S)
  | _ => False
theorem insR {S : Sta} {a : Addr} {R : List Int} {p : Nat} (h : RdA C S a R p) : S a = some (.ins C (F_Reader (.tup (R.map T.int)) (.int (p : Int)))) := h.1
theorem hw_rbyte : ∀ ts S Q E, ts.length = 1 → spRByte C CB ts S Q E → b_Reader_byte C CB (spRPart C CB) (fun C _ S' => E C S') { nx := fun _ S' => Q .non S', rt := Q } (Wp.startT N_Reader_byte ts) S := by
  intro ts S Q E _ h
  match ts, h with
  | [.ref a], ⟨R, p, r0, h1, h2⟩ =>
    unfold b_Reader_byte N_Reader_byte
    walk_at "r0"
    rw [insR r0]
    walk_at "r0"
    refine ⟨R, p, 1, r0, rfl, fun l S' k r1 => ?_, fun l => h2 (by have := r0.2.1; omega)⟩
    obtain ⟨b, hb⟩ : ∃ b, R[p]? = some b := ⟨R[p], List.getElem?_eq_getElem (by omega)⟩
    have ed : ((R.drop p).take 1).map T.int = [.int b] := by
      have : (R.drop p)[0]? = some b := by rw [List.getElem?_drop]; exact hb
      cases q : R.drop p with
      | nil => rw [q] at this; cases this
      | cons c r =>
        rw [q] at this
        cases this
        rfl
    rw [ed]
    try walk_at "r0"
    exact h1 b hb S' k r1
def spRNum (C CB : Addr) : WSp := fun ts S Q E => match ts with
  | [.ref a] => ∃ R p, ∃ n : Nat, ∃ tail, RdA C S a R p ∧ n < 2 ^ 32 ∧ Fit R p (nb n ++ tail) ∧ (p + (nb n).length ≤ R.length → ∀ S', Kp a S S' → RdA C S' a R (p + (nb n).length) → Q (.int (n : Int)) S') ∧ (R.length < p + (nb n).length → ∀ S', Kp a S S' → E CB S')
  | _ => False
theorem num_body {EX : EW} {D : WEnds} {S : Sta} {v0 v1 : Option T} {s d : Int} (h : D.nx [v0, v1, some (.int (256 * s + d)), some (.int d)] S) : l1_Reader_number C CB (spRPart C CB) (spRByte C CB) EX D [v0, v1, some (.int s), some (.int d)] S := by
  unfold l1_Reader_number
  walk_at "r0"
  exact h
theorem num_loop {EX : EW} {D : WEnds} {S : Sta} {v0 v1 : Option T} : ∀ (ds : List Int) (s : Int) (v3 : Option T), (∀ v3, D.nx [v0, v1, some (.int (numI s ds)), v3] S) → loopW (gNm 3) (l1_Reader_number C CB (spRPart C CB) (spRByte C CB) EX) (fun _ => True) D (ds.map T.int) [v0, v1, some (.int s), v3] S
  | [], s, v3, h => ⟨trivial, h v3⟩
  | d :: ds, s, v3, h => ⟨trivial, num_body (C := C) (CB := CB) (EX := EX) (num_loop ds (256 * s + d) _ h)⟩
theorem hw_rnum : ∀ ts S Q E, ts.length = 1 → spRNum C CB ts S Q E → b_Reader_number C CB (spRPart C CB) (spRByte C CB) (fun C _ S' => E C S') { nx := fun _ S' => Q .non S', rt := Q } (Wp.startT N_Reader_number ts) S := by
  intro ts S Q E _ h
  match ts, h with
  | [.ref a], ⟨R, p, n, tail, r0, hn, ft, h1, h2⟩ =>
    have nbl : (nb n).length = (digs n).length + 1 := rfl
    unfold b_Reader_number N_Reader_number
    walk_at "r0"
    rw [insR r0]
    walk_at "r0"
    have kr : Kp a S S := fun _ _ e _ => e
    refine ⟨R, p, r0, fun b hb S1 k1 r1 => ?_, fun l => h2 (by omega) S kr⟩
    have lp : p < R.length := (List.getElem?_eq_some_iff.mp hb).1
    obtain ⟨eb, f1⟩ := ft.cons lp
    have eb : b = ((digs n).length : Int) := by rw [hb] at eb; exact Option.some.inj eb
    subst eb
    refine ⟨R, p + 1, (digs n).length, r1, rfl, fun l S2 k2 r2 => ?_, fun l => h2 (by omega) S1 k1⟩
    obtain ⟨ed, f2⟩ := f1.step l
    rw [ed]
    have k12 := k1.trans k2
    have fin : goS (wSeq (wSet 2 (wC (.int 0))) (wSeq (wFor (iAnyW (wVar 1)) (gNm 3) (l1_Reader_number C CB (spRPart C CB) (spRByte C CB) (fun C _ S' => E C S'))) (wSeq (wIfS (wTest (wOp rGt (wVar 2) (wC (.int 4294967295)))) (wRaise (fun C _ S' => E C S') CB) wNext) (wRet (wVar 2)))) { nx := fun _ S' => Q .non S', rt := Q }) [some (.ref a), some (.tup ((digs n).map T.int)), none, none] S2 := by
      walk_at "r0"
      refine num_loop (digs n) 0 _ fun v3 => ?_
      rw [numI_digs]
      walk_at "r0"
      refine if_dec (fun z => by omega) (fun _ => ?_)
      walk_at "r0"
      exact h1 (by omega) S2 k12 (by rw [show p + (nb n).length = p + 1 + (digs n).length by omega]; exact r2)
    have tst : Wp.rEq false (.tup (((digs n).take 1).map T.int)) (.tup [.int 0]) S2 fun x S3 => match x with | .bl c => wif c (E CB S3) (goS (wSeq (wSet 2 (wC (.int 0))) (wSeq (wFor (iAnyW (wVar 1)) (gNm 3) (l1_Reader_number C CB (spRPart C CB) (spRByte C CB) (fun C _ S' => E C S'))) (wSeq (wIfS (wTest (wOp rGt (wVar 2) (wC (.int 4294967295)))) (wRaise (fun C _ S' => E C S') CB) wNext) (wRet (wVar 2)))) { nx := fun _ S' => Q .non S', rt := Q }) [some (.ref a), some (.tup ((digs n).map T.int)), none, none] S3) | _ => False := by
      cases q : digs n with
      | nil => 
        rw [q] at fin
        exact ⟨.tuple [], rfl, .tuple [.int 0], rfl, by decide, by decide, wif_f fin⟩
      | cons b r =>
        have nb0 := digs_head q
        rw [q] at fin
        refine ⟨.tuple [.int b], rfl, .tuple [.int 0], rfl, rfl, by decide, ?_⟩
        have : PyData.eqv (.tuple [.int b]) (.tuple [.int 0]) = false := by
          simp [PyData.eqv, PyData.eqvAll, nb0]
        rw [this]
        exact wif_f fin
    generalize hR : (wSeq (wSet 2 (wC (.int 0))) (wSeq (wFor (iAnyW (wVar 1)) (gNm 3) (l1_Reader_number C CB (spRPart C CB) (spRByte C CB) (fun C _ S' => E C S'))) (wSeq (wIfS (wTest (wOp rGt (wVar 2) (wC (.int 4294967295)))) (wRaise (fun C _ S' => E C S') CB) wNext) (wRet (wVar 2)))) { nx := fun _ S' => Q .non S', rt := Q }) = RR at tst
    refine goS_i ?_
    show wIfS (wTest (wOp (Wp.rEq false) (wSl (wVar 1) wNoPart (wPart (wC (.int 1)))) (wTup (wCons (wC (.int 0)) wNil)))) (wRaise (fun C _ S' => E C S') CB) wNext { nx := wSeq (wSet 2 (wC (.int 0))) (wSeq (wFor (iAnyW (wVar 1)) (gNm 3) (l1_Reader_number C CB (spRPart C CB) (spRByte C CB) (fun C _ S' => E C S'))) (wSeq (wIfS (wTest (wOp rGt (wVar 2) (wC (.int 4294967295)))) (wRaise (fun C _ S' => E C S') CB) wNext) (wRet (wVar 2)))) { nx := fun _ S' => Q .non S', rt := Q }, rt := Q } _ _
    rw [hR]
    walk_at "r0"
    rw [show cutT ((digs n).map T.int) none (some 1) = ((digs n).take 1).map T.int by
      show cutT ((digs n).map T.int) none (some ((1 : Nat) : Int)) = _
      rw [cutT_to, List.map_take]]
    exact tst
end My

set_option Elab.async false
set_option linter.all false
set_option maxRecDepth 100000
set_option maxHeartbeats 8000000
namespace My
open PySem PySem.Spec PyProof.Rows L2 Wp Gn
local macro_rules | `(tactic| walk_at "go") => `(tactic| (with_reducible refine goS_i ?_))
local macro_rules | `(tactic| walk_at "wp") => `(tactic| simp (disch := omega) only [Wp.wSeq, Wp.wNext, Wp.wSet, Wp.wVar, Wp.wC, Wp.wOp, Wp.wRet, Wp.wIfS, Wp.wTest, Wp.wCall, Wp.wCons, Wp.wNil, Wp.wTup, Wp.wLst, Wp.wAsg, Wp.gTp, Wp.gC, Wp.gNm, Wp.gN0, Wp.gIx, Wp.rSet, Wp.rAdd, Wp.rMul, Wp.rMod, Wp.rSub, Wp.rFdiv, Wp.rPow, Wp.rInt, Wp.rIx, Wp.rLt, Wp.rLe, Wp.rCmp, Wp.rGeI, Wp.rGtI, Wp.wCB, Wp.rLen, Wp.rLen1, Wp.rInt1, Wp.rMax2, Wp.rMin2, Wp.rTupOf, Wp.rListOf,
  Wp.wIsi, Wp.rBIs, Wp.rIsN, Wp.isNon, Wp.wMt, Wp.rAppendT, Wp.rExtendT, Wp.rReverseT, Wp.wNot, Wp.wOr, Wp.wAnd, Wp.wAndV, Wp.wOrV, Wp.wNotV, Wp.wFor, Wp.iRg1, Wp.iRg2, Wp.iAnyW, Wp.wAll, Wp.wChain, Wp.wSl, Wp.wNoPart, Wp.wPart, Wp.rSl, Wp.wNeg, Wp.rNeg, Wp.wLc, Wp.wYes, Wp.wDrop, Wp.wipeT, Wp.wAug, List.map, List.set_cons_zero, List.set_cons_succ, List.getElem?_cons_zero, List.getElem?_cons_succ, List.length_cons, List.length_nil, List.cons_append, List.nil_append, List.replicate, Wp.startT,
  true_and, and_true, Wp.wif_true, Wp.wif_false, Wp.ex_some, Wp.ex_some1, Wp.ex_eq, Wp.ex_lst, Wp.ex_lst0, Wp.rEq_int, Bool.false_bne, Bool.true_bne, Int.reduceLT, Int.reduceLE, Int.reduceAdd, Nat.reduceAdd, Nat.reduceSub, eq_self, ite_true, ite_false, beq_self_eq_true, Bool.not_true, Bool.not_false, Wp.isB_0, Wp.isB_1, Wp.isB_2, Wp.isB_3, Wp.isB_4, Wp.isB_5, Wp.isB_6, Wp.isB_7, Wp.isB_8, Wp.isB_9, Wp.isB_10, Wp.isB_11, Wp.isB_12, Wp.isB_13, Wp.isB_14, Wp.isB_15, Wp.isB_16, Wp.isB_17, Wp.isB_18, Wp.isB_19, Wp.isB_20, Wp.isB_21, Wp.isB_22, Wp.isB_23, Wp.isB_24, Wp.isB_25, Wp.isB_26, Wp.isB_27, Wp.isB_28, Wp.isB_29, Wp.isB_30, Wp.isB_31, Wp.isB_32, Wp.isB_33, Wp.isB_34, Wp.isB_35, Wp.cmul_l, Wp.cmul_r, Wp.cpow_lit, Wp.size_le, Wp.size_lt, Wp.atI_0, Wp.atI_1, Wp.atI_2, Wp.atI_3, Wp.atI_4, Wp.atI_5, Wp.atI_6, Wp.ixN_0, Wp.ixN_1, Wp.ixN_2, Wp.itemsT, Wp.tyT, reduceIte, Wp.wFld, Wp.wFSet, Wp.wFAug, Wp.wMeth, Wp.wMake, Wp.rIxA, Wp.rInA, Wp.rSetA, Wp.ixA, Wp.inA, Wp.setA, Wp.lenA, Wp.getD, Option.map_some, Option.bind_some, Option.getD_some,  Wp.gIxA, Wp.wDNew, Wp.wDNewT, Wp.rLenA, Wp.rSortD, Wp.rMaxL, Wp.rPopL, Wp.rGet1, Wp.rGet2, Wp.wGet1, Wp.wGet2, Wp.wPop1, Wp.wPop2, Wp.wDel, Wp.isDT, Wp.keyT, Wp.keysT, Wp.keysL, Wp.ex_ins, Wp.ex_dct, Wp.wIf, Wp.rGt, Wp.wTry, Wp.wMethX, Wp.wCallX, Wp.wRaise, Wp.rAddI, Int.cast_ofNat_Int, Int.reduceBEq, lk_Reader_row, pt_Reader_row, lk_Reader_place, pt_Reader_place, no_Reader_byte, no_Reader_inner, no_Reader_is_done, no_Reader_number, no_Reader_part, no_Reader_value, no_Reader_word, ln_Reader, mk_Reader, Wp.rMulB, Wp.upS, Wp.upS_upS, *])
local macro_rules | `(tactic| walk_at "run") => `(tactic| repeat (first | walk_at "wp" | walk_at "go"))
local macro_rules | `(tactic| walk_at "wq") => `(tactic| simp (disch := omega) only [Wp.wSeq, Wp.wNext, Wp.wSet, Wp.wVar, Wp.wC, Wp.wOp, Wp.wRet, Wp.wIfS, Wp.wTest, Wp.wCall, Wp.wCons, Wp.wNil, Wp.wTup, Wp.wLst, Wp.wAsg, Wp.gTp, Wp.gC, Wp.gNm, Wp.gN0, Wp.gIx, Wp.rSet, Wp.rAdd, Wp.rMul, Wp.rMod, Wp.rSub, Wp.rFdiv, Wp.rPow, Wp.rInt, Wp.rIx, Wp.rLt, Wp.rLe, Wp.rCmp, Wp.rGeI, Wp.rGtI, Wp.wCB, Wp.rLen, Wp.rLen1, Wp.rInt1, Wp.rMax2, Wp.rMin2, Wp.rTupOf, Wp.rListOf,
  Wp.wIsi, Wp.rBIs, Wp.rIsN, Wp.isNon, Wp.wMt, Wp.rAppendT, Wp.rExtendT, Wp.rReverseT, Wp.wNot, Wp.wOr, Wp.wAnd, Wp.wAndV, Wp.wOrV, Wp.wNotV, Wp.wFor, Wp.iRg1, Wp.iRg2, Wp.iAnyW, Wp.wAll, Wp.wChain, Wp.wSl, Wp.wNoPart, Wp.wPart, Wp.rSl, Wp.wNeg, Wp.rNeg, Wp.wLc, Wp.wYes, Wp.wDrop, Wp.wipeT, Wp.wAug, List.map, List.set_cons_zero, List.set_cons_succ, List.getElem?_cons_zero, List.getElem?_cons_succ, List.length_cons, List.length_nil, List.cons_append, List.nil_append, List.replicate, Wp.startT,
  true_and, and_true, Wp.wif_true, Wp.wif_false, Wp.ex_some, Wp.ex_some1, Wp.ex_eq, Wp.ex_lst, Wp.ex_lst0, Wp.rEq_int, Bool.false_bne, Bool.true_bne, Int.reduceLT, Int.reduceLE, Int.reduceAdd, Nat.reduceAdd, Nat.reduceSub, eq_self, ite_true, ite_false, beq_self_eq_true, Bool.not_true, Bool.not_false, Wp.isB_0, Wp.isB_1, Wp.isB_2, Wp.isB_3, Wp.isB_4, Wp.isB_5, Wp.isB_6, Wp.isB_7, Wp.isB_8, Wp.isB_9, Wp.isB_10, Wp.isB_11, Wp.isB_12, Wp.isB_13, Wp.isB_14, Wp.isB_15, Wp.isB_16, Wp.isB_17, Wp.isB_18, Wp.isB_19, Wp.isB_20, Wp.isB_21, Wp.isB_22, Wp.isB_23, Wp.isB_24, Wp.isB_25, Wp.isB_26, Wp.isB_27, Wp.isB_28, Wp.isB_29, Wp.isB_30, Wp.isB_31, Wp.isB_32, Wp.isB_33, Wp.isB_34, Wp.isB_35, Wp.cmul_l, Wp.cmul_r, Wp.cpow_lit, Wp.size_le, Wp.size_lt, Wp.atI_0, Wp.atI_1, Wp.atI_2, Wp.atI_3, Wp.atI_4, Wp.atI_5, Wp.atI_6, Wp.ixN_0, Wp.ixN_1, Wp.ixN_2, Wp.itemsT, Wp.tyT, reduceIte, Wp.wFld, Wp.wFSet, Wp.wFAug, Wp.wMeth, Wp.wMake, Wp.rIxA, Wp.rInA, Wp.rSetA, Wp.ixA, Wp.inA, Wp.setA, Wp.lenA, Wp.getD, Option.map_some, Option.bind_some, Option.getD_some,  Wp.gIxA, Wp.wDNew, Wp.wDNewT, Wp.rLenA, Wp.rSortD, Wp.rMaxL, Wp.rPopL, Wp.rGet1, Wp.rGet2, Wp.wGet1, Wp.wGet2, Wp.wPop1, Wp.wPop2, Wp.wDel, Wp.isDT, Wp.keyT, Wp.keysT, Wp.keysL, Wp.ex_ins, Wp.ex_dct, Wp.wIf, Wp.rGt, Wp.wTry, Wp.wMethX, Wp.wCallX, Wp.wRaise, Wp.rAddI, Int.cast_ofNat_Int, Int.reduceBEq, lk_Reader_row, pt_Reader_row, lk_Reader_place, pt_Reader_place, no_Reader_byte, no_Reader_inner, no_Reader_is_done, no_Reader_number, no_Reader_part, no_Reader_value, no_Reader_word, ln_Reader, mk_Reader, Wp.rMulB, *])
local macro_rules | `(tactic| walk_at "r2") => `(tactic| repeat (first | walk_at "wq" | walk_at "go"))
local macro_rules | `(tactic| walk_at "w0") => `(tactic| simp (disch := omega) only [Wp.wSeq, Wp.wNext, Wp.wSet, Wp.wVar, Wp.wC, Wp.wOp, Wp.wRet, Wp.wIfS, Wp.wTest, Wp.wCall, Wp.wCons, Wp.wNil, Wp.wTup, Wp.wLst, Wp.wAsg, Wp.gTp, Wp.gC, Wp.gNm, Wp.gN0, Wp.gIx, Wp.rSet, Wp.rAdd, Wp.rMul, Wp.rMod, Wp.rSub, Wp.rFdiv, Wp.rPow, Wp.rInt, Wp.rIx, Wp.rLt, Wp.rLe, Wp.rCmp, Wp.rGeI, Wp.rGtI, Wp.wCB, Wp.rLen, Wp.rLen1, Wp.rInt1, Wp.rMax2, Wp.rMin2, Wp.rTupOf, Wp.rListOf,
  Wp.wIsi, Wp.rBIs, Wp.rIsN, Wp.isNon, Wp.wMt, Wp.rAppendT, Wp.rExtendT, Wp.rReverseT, Wp.wNot, Wp.wOr, Wp.wAnd, Wp.wAndV, Wp.wOrV, Wp.wNotV, Wp.wFor, Wp.iRg1, Wp.iRg2, Wp.iAnyW, Wp.wAll, Wp.wChain, Wp.wSl, Wp.wNoPart, Wp.wPart, Wp.rSl, Wp.wNeg, Wp.rNeg, Wp.wLc, Wp.wYes, Wp.wDrop, Wp.wipeT, Wp.wAug, List.map, List.set_cons_zero, List.set_cons_succ, List.getElem?_cons_zero, List.getElem?_cons_succ, List.length_cons, List.length_nil, List.cons_append, List.nil_append, List.replicate, Wp.startT,
  true_and, and_true, Wp.wif_true, Wp.wif_false, Wp.ex_some, Wp.ex_some1, Wp.ex_eq, Wp.ex_lst, Wp.ex_lst0, Wp.rEq_int, Bool.false_bne, Bool.true_bne, Int.reduceLT, Int.reduceLE, Int.reduceAdd, Nat.reduceAdd, Nat.reduceSub, eq_self, ite_true, ite_false, beq_self_eq_true, Bool.not_true, Bool.not_false, Wp.isB_0, Wp.isB_1, Wp.isB_2, Wp.isB_3, Wp.isB_4, Wp.isB_5, Wp.isB_6, Wp.isB_7, Wp.isB_8, Wp.isB_9, Wp.isB_10, Wp.isB_11, Wp.isB_12, Wp.isB_13, Wp.isB_14, Wp.isB_15, Wp.isB_16, Wp.isB_17, Wp.isB_18, Wp.isB_19, Wp.isB_20, Wp.isB_21, Wp.isB_22, Wp.isB_23, Wp.isB_24, Wp.isB_25, Wp.isB_26, Wp.isB_27, Wp.isB_28, Wp.isB_29, Wp.isB_30, Wp.isB_31, Wp.isB_32, Wp.isB_33, Wp.isB_34, Wp.isB_35, Wp.cmul_l, Wp.cmul_r, Wp.cpow_lit, Wp.size_le, Wp.size_lt, Wp.atI_0, Wp.atI_1, Wp.atI_2, Wp.atI_3, Wp.atI_4, Wp.atI_5, Wp.atI_6, Wp.ixN_0, Wp.ixN_1, Wp.ixN_2, Wp.itemsT, Wp.tyT, reduceIte, Wp.wFld, Wp.wFSet, Wp.wFAug, Wp.wMeth, Wp.wMake, Wp.rIxA, Wp.rInA, Wp.rSetA, Wp.ixA, Wp.inA, Wp.setA, Wp.lenA, Wp.getD, Option.map_some, Option.bind_some, Option.getD_some,  Wp.gIxA, Wp.wDNew, Wp.wDNewT, Wp.rLenA, Wp.rSortD, Wp.rMaxL, Wp.rPopL, Wp.rGet1, Wp.rGet2, Wp.wGet1, Wp.wGet2, Wp.wPop1, Wp.wPop2, Wp.wDel, Wp.isDT, Wp.keyT, Wp.keysT, Wp.keysL, Wp.ex_ins, Wp.ex_dct, Wp.wIf, Wp.rGt, Wp.wTry, Wp.wMethX, Wp.wCallX, Wp.wRaise, Wp.rAddI, Int.cast_ofNat_Int, Int.reduceBEq, lk_Reader_row, pt_Reader_row, lk_Reader_place, pt_Reader_place, no_Reader_byte, no_Reader_inner, no_Reader_is_done, no_Reader_number, no_Reader_part, no_Reader_value, no_Reader_word, ln_Reader, mk_Reader, Wp.rMulB])
local macro_rules | `(tactic| walk_at "r0") => `(tactic| repeat (first | walk_at "w0" | walk_at "go"))
variable {C CB : Addr}
theorem comp_sum2 (D : Addr) (a0 a1 : Option T) (Q : T → Sta → Prop) (S0 : Sta) : ∀ (xs : List Int) (k : Int) (acc : List Int), 0 ≤ k → k + xs.length ≤ 1000000 → acc.length + xs.length ≤ 1000000 → (∀ x ∈ xs, 0 ≤ x ∧ x ≤ 255) →
    Q (.ref D) (upS S0 D (.lst ((acc ++ prods k xs).map T.int))) → compW (gTp 2 (gC (gNm 2) (gC (gNm 3) gN0))) wYes (l1__sum_of C CB) (fun _ => True) [a0, a1, none, none] D Q (pairsT k (xs.map T.int)) (upS S0 D (.lst (acc.map T.int)))
  | [], k, acc, _, _, _, _, q => ⟨trivial, by rw [prods, List.append_nil] at q; exact q⟩
  | x :: xs, k, acc, h0, h1, h2, h3, q => by
    rw [List.map_cons, pairs_cons]
    rw [List.length_cons] at h1 h2
    have hx := h3 x List.mem_cons_self
    refine ⟨trivial, rfl, ⟨rfl, ?_⟩⟩
    refine wif_t ?_
    refine ⟨.int k, rfl, .int x, rfl, .inl ⟨by omega, by omega⟩, ?_⟩
    refine ⟨_, upS_same, Nat.lt_of_le_of_lt (show (acc.map T.int).length ≤ 1000000 by rw [List.length_map]; omega) (by rw [sizeLine_eq]; decide), ?_⟩
    rw [upS_upS]
    have ih := comp_sum2 D a0 a1 Q S0 xs (k + 1) (acc ++ [k * x]) (by omega) (by omega) (by simp only [List.length_append, List.length_cons, List.length_nil]; omega) (fun y hy => h3 y (List.mem_cons_of_mem _ hy)) (by rw [List.append_assoc]; exact q)
    rw [List.map_append] at ih
    exact ih
/-- the sum of a list or of a tuple -/
def spSumB : WSp := fun ts S Q E => spSum ts S Q E ∨ ∃ xs : List Int, ts = [.tup (xs.map T.int)] ∧ xs.length ≤ 60000 ∧ (∀ x ∈ xs, 0 ≤ x ∧ x ≤ 255) ∧ ∀ S', Gr S S' → Q (.tup ((sumBytes xs).map T.int)) S'
theorem hw_sumB : ∀ ts S Q E, ts.length = 1 → spSumB ts S Q E → (b__sum_of C CB) { nx := fun _ S' => Q .non S', rt := Q } (Wp.startT N__sum_of ts) S := by
  intro ts S Q E hl h
  rcases h with h | ⟨xs, rfl, hx, hb, h⟩
  · exact hw_sum_of ts S Q E hl h
  · unfold b__sum_of N__sum_of
    refine ⟨_, rfl, ⟨by omega, by omega⟩, fun D hD => ?_⟩
    refine comp_sum2 D _ _ _ S xs 1 [] (by omega) (by omega) (by simp only [List.length_nil]; omega) hb ?_
    rw [List.nil_append]
    refine ⟨prods 1 xs, upS_same, ?_⟩
    rw [prods_sum]
    refine goS_i ⟨_, rfl, ?_⟩
    refine ⟨by omega, ⟨by omega, by omega⟩, ?_⟩
    exact h _ (gr_new hD)
/-! ### bytes -/
def spIsB : WSp := fun ts S Q _ => match ts with
  | [.tup us] => (∀ t ∈ us, Kn S t) ∧ Q (.bl (us.all fun t => isI t 0 255)) S
  | _ => False
theorem all_byte (S : Sta) (Q : T → Sta → Prop) (a0 : Option T) : ∀ (us : List T) (y : Option T), (∀ t ∈ us, Kn S t) → Q (.bl (us.all fun t => isI t 0 255)) S → allW (gNm 1) (l1_is_bytes C CB spIsI) (fun _ => True) [a0, y] Q us S
  | [], y, _, q => ⟨trivial, q⟩
  | t :: us, y, hk, q => by
    refine ⟨trivial, ?_⟩
    have ih := all_byte S Q a0 us y (fun x hx => hk x (List.mem_cons_of_mem _ hx))
    rw [List.all_cons] at q
    generalize allW (gNm 1) (l1_is_bytes C CB spIsI) (fun _ => True) [a0, y] Q us = LP at ih ⊢
    unfold l1_is_bytes
    walk_at "r0"
    refine ⟨hk t List.mem_cons_self, ?_⟩
    show wif (isI t 0 255) (LP S) (Q (.bl false) S)
    refine if_bool (fun e => ?_) (fun e => ?_)
    · rw [e, Bool.true_and] at q; exact ih q
    · rw [e, Bool.false_and] at q; exact q
theorem hw_isb : ∀ ts S Q E, ts.length = 1 → spIsB ts S Q E → b_is_bytes C CB spIsI { nx := fun _ S' => Q .non S', rt := Q } (Wp.startT N_is_bytes ts) S := by
  intro ts S Q E _ h
  match ts, h with
  | [.tup us], ⟨hk, h⟩ =>
    unfold b_is_bytes N_is_bytes
    walk_at "r0"
    exact all_byte S Q _ us _ hk h
/-! ### read -/
theorem ok_intsL : ∀ (l : List Int), okTs (l.map T.int) = true
  | [] => rfl
  | n :: l => by
    show (okT (.int n) && okTs (l.map T.int)) = true
    rw [ok_intsL l]; rfl
theorem dq_intsL : ∀ (l : List Int), dqTs (l.map T.int) = 0
  | [] => rfl
  | n :: l => by
    show max (dqT (.int n)) (dqTs (l.map T.int)) = 0
    rw [dq_intsL l]; rfl
theorem toDs_ints : ∀ l : List Int, toDs (l.map T.int) = some (l.map PyData.int)
  | [] => by simp only [List.map_nil, toDs]
  | n :: l => by simp only [List.map_cons, toDs, toD, toDs_ints l]
theorem eqv_ints : ∀ l r : List Int, PyData.eqvAll (l.map PyData.int) (r.map PyData.int) = decide (l = r)
  | [], [] => by simp [PyData.eqvAll]
  | [], _ :: _ => by simp [PyData.eqvAll]
  | _ :: _, [] => by simp [PyData.eqvAll]
  | a :: l, b :: r => by
    simp only [List.map_cons, PyData.eqvAll, eqv_ints l r, PyData.eqv, List.cons.injEq]
    by_cases e : a = b <;> by_cases f : l = r <;> simp [e, f]
theorem shaped_ints (l : List Int) : SeqAt.shaped (.tuple (l.map PyData.int)) = true := by
  obtain ⟨d, a1, a2, a3, a4⟩ := ok_toD (.tup (l.map T.int)) (by simp only [okT]; exact ok_intsL l)
  have : d = .tuple (l.map PyData.int) := by
    simp only [toD, toDs_ints, Option.map_some] at a1
    exact (Option.some.inj a1).symm
  subst this
  unfold SeqAt.shaped
  rw [a2, Bool.true_and]
  simp only [dqT, dq_intsL] at a3
  exact decide_eq_true (by omega)
theorem ints_eq {neg : Bool} {l r : List Int} {S : Sta} {Q : T → Sta → Prop} (h : Q (.bl (neg != decide (l = r))) S) : Wp.rEq neg (.tup (l.map T.int)) (.tup (r.map T.int)) S Q := by
  refine ⟨.tuple (l.map PyData.int), by rw [dd_see]; show toD (.tup _) = _; simp only [toD, toDs_ints, Option.map_some], .tuple (r.map PyData.int), by rw [dd_see]; show toD (.tup _) = _; simp only [toD, toDs_ints, Option.map_some], shaped_ints l, shaped_ints r, ?_⟩
  rw [show PyData.eqv (.tuple (l.map PyData.int)) (.tuple (r.map PyData.int)) = decide (l = r) by simp only [PyData.eqv]; exact eqv_ints l r]
  exact h
theorem sIx_neg2 {n d : Nat} : HT.sIx n d (some (-2)) = n - 2 := by
  unfold HT.sIx
  simp
  omega
theorem cut_front (xs : List T) : cutT xs none (some (-2)) = xs.take (xs.length - 2) := by
  unfold cutT
  rw [sIx_neg2, sIx_none, List.drop_zero, Nat.sub_zero]
theorem cut_rear (xs : List T) : cutT xs (some (-2)) none = xs.drop (xs.length - 2) := by
  unfold cutT
  rw [sIx_neg2, sIx_none, List.take_of_length_le (by rw [List.length_drop]; omega)]
def frnt (xs : List Int) : List Int := xs.take (xs.length - 2)
def rear (xs : List Int) : List Int := xs.drop (xs.length - 2)
end My

set_option Elab.async false
set_option linter.all false
set_option maxRecDepth 100000
set_option maxHeartbeats 8000000
namespace My
open PySem PySem.Spec PyProof.Rows L2 Wp Gn
local macro_rules | `(tactic| walk_at "go") => `(tactic| (with_reducible refine goS_i ?_))
local macro_rules | `(tactic| walk_at "wp") => `(tactic| simp (disch := omega) only [Wp.wSeq, Wp.wNext, Wp.wSet, Wp.wVar, Wp.wC, Wp.wOp, Wp.wRet, Wp.wIfS, Wp.wTest, Wp.wCall, Wp.wCons, Wp.wNil, Wp.wTup, Wp.wLst, Wp.wAsg, Wp.gTp, Wp.gC, Wp.gNm, Wp.gN0, Wp.gIx, Wp.rSet, Wp.rAdd, Wp.rMul, Wp.rMod, Wp.rSub, Wp.rFdiv, Wp.rPow, Wp.rInt, Wp.rIx, Wp.rLt, Wp.rLe, Wp.rCmp, Wp.rGeI, Wp.rGtI, Wp.wCB, Wp.rLen, Wp.rLen1, Wp.rInt1, Wp.rMax2, Wp.rMin2, Wp.rTupOf, Wp.rListOf,
  Wp.wIsi, Wp.rBIs, Wp.rIsN, Wp.isNon, Wp.wMt, Wp.rAppendT, Wp.rExtendT, Wp.rReverseT, Wp.wNot, Wp.wOr, Wp.wAnd, Wp.wAndV, Wp.wOrV, Wp.wNotV, Wp.wFor, Wp.iRg1, Wp.iRg2, Wp.iAnyW, Wp.wAll, Wp.wChain, Wp.wSl, Wp.wNoPart, Wp.wPart, Wp.rSl, Wp.wNeg, Wp.rNeg, Wp.wLc, Wp.wYes, Wp.wDrop, Wp.wipeT, Wp.wAug, List.map, List.set_cons_zero, List.set_cons_succ, List.getElem?_cons_zero, List.getElem?_cons_succ, List.length_cons, List.length_nil, List.cons_append, List.nil_append, List.replicate, Wp.startT,
  true_and, and_true, Wp.wif_true, Wp.wif_false, Wp.ex_some, Wp.ex_some1, Wp.ex_eq, Wp.ex_lst, Wp.ex_lst0, Wp.rEq_int, Bool.false_bne, Bool.true_bne, Int.reduceLT, Int.reduceLE, Int.reduceAdd, Nat.reduceAdd, Nat.reduceSub, eq_self, ite_true, ite_false, beq_self_eq_true, Bool.not_true, Bool.not_false, Wp.isB_0, Wp.isB_1, Wp.isB_2, Wp.isB_3, Wp.isB_4, Wp.isB_5, Wp.isB_6, Wp.isB_7, Wp.isB_8, Wp.isB_9, Wp.isB_10, Wp.isB_11, Wp.isB_12, Wp.isB_13, Wp.isB_14, Wp.isB_15, Wp.isB_16, Wp.isB_17, Wp.isB_18, Wp.isB_19, Wp.isB_20, Wp.isB_21, Wp.isB_22, Wp.isB_23, Wp.isB_24, Wp.isB_25, Wp.isB_26, Wp.isB_27, Wp.isB_28, Wp.isB_29, Wp.isB_30, Wp.isB_31, Wp.isB_32, Wp.isB_33, Wp.isB_34, Wp.isB_35, Wp.cmul_l, Wp.cmul_r, Wp.cpow_lit, Wp.size_le, Wp.size_lt, Wp.atI_0, Wp.atI_1, Wp.atI_2, Wp.atI_3, Wp.atI_4, Wp.atI_5, Wp.atI_6, Wp.ixN_0, Wp.ixN_1, Wp.ixN_2, Wp.itemsT, Wp.tyT, reduceIte, Wp.wFld, Wp.wFSet, Wp.wFAug, Wp.wMeth, Wp.wMake, Wp.rIxA, Wp.rInA, Wp.rSetA, Wp.ixA, Wp.inA, Wp.setA, Wp.lenA, Wp.getD, Option.map_some, Option.bind_some, Option.getD_some,  Wp.gIxA, Wp.wDNew, Wp.wDNewT, Wp.rLenA, Wp.rSortD, Wp.rMaxL, Wp.rPopL, Wp.rGet1, Wp.rGet2, Wp.wGet1, Wp.wGet2, Wp.wPop1, Wp.wPop2, Wp.wDel, Wp.isDT, Wp.keyT, Wp.keysT, Wp.keysL, Wp.ex_ins, Wp.ex_dct, Wp.wIf, Wp.rGt, Wp.wTry, Wp.wMethX, Wp.wCallX, Wp.wRaise, Wp.rAddI, Int.cast_ofNat_Int, Int.reduceBEq, lk_Reader_row, pt_Reader_row, lk_Reader_place, pt_Reader_place, no_Reader_byte, no_Reader_inner, no_Reader_is_done, no_Reader_number, no_Reader_part, no_Reader_value, no_Reader_word, ln_Reader, mk_Reader, Wp.rMulB, Wp.upS, Wp.upS_upS, *])
local macro_rules | `(tactic| walk_at "run") => `(tactic| repeat (first | walk_at "wp" | walk_at "go"))
local macro_rules | `(tactic| walk_at "wq") => `(tactic| simp (disch := omega) only [Wp.wSeq, Wp.wNext, Wp.wSet, Wp.wVar, Wp.wC, Wp.wOp, Wp.wRet, Wp.wIfS, Wp.wTest, Wp.wCall, Wp.wCons, Wp.wNil, Wp.wTup, Wp.wLst, Wp.wAsg, Wp.gTp, Wp.gC, Wp.gNm, Wp.gN0, Wp.gIx, Wp.rSet, Wp.rAdd, Wp.rMul, Wp.rMod, Wp.rSub, Wp.rFdiv, Wp.rPow, Wp.rInt, Wp.rIx, Wp.rLt, Wp.rLe, Wp.rCmp, Wp.rGeI, Wp.rGtI, Wp.wCB, Wp.rLen, Wp.rLen1, Wp.rInt1, Wp.rMax2, Wp.rMin2, Wp.rTupOf, Wp.rListOf,
  Wp.wIsi, Wp.rBIs, Wp.rIsN, Wp.isNon, Wp.wMt, Wp.rAppendT, Wp.rExtendT, Wp.rReverseT, Wp.wNot, Wp.wOr, Wp.wAnd, Wp.wAndV, Wp.wOrV, Wp.wNotV, Wp.wFor, Wp.iRg1, Wp.iRg2, Wp.iAnyW, Wp.wAll, Wp.wChain, Wp.wSl, Wp.wNoPart, Wp.wPart, Wp.rSl, Wp.wNeg, Wp.rNeg, Wp.wLc, Wp.wYes, Wp.wDrop, Wp.wipeT, Wp.wAug, List.map, List.set_cons_zero, List.set_cons_succ, List.getElem?_cons_zero, List.getElem?_cons_succ, List.length_cons, List.length_nil, List.cons_append, List.nil_append, List.replicate, Wp.startT,
  true_and, and_true, Wp.wif_true, Wp.wif_false, Wp.ex_some, Wp.ex_some1, Wp.ex_eq, Wp.ex_lst, Wp.ex_lst0, Wp.rEq_int, Bool.false_bne, Bool.true_bne, Int.reduceLT, Int.reduceLE, Int.reduceAdd, Nat.reduceAdd, Nat.reduceSub, eq_self, ite_true, ite_false, beq_self_eq_true, Bool.not_true, Bool.not_false, Wp.isB_0, Wp.isB_1, Wp.isB_2, Wp.isB_3, Wp.isB_4, Wp.isB_5, Wp.isB_6, Wp.isB_7, Wp.isB_8, Wp.isB_9, Wp.isB_10, Wp.isB_11, Wp.isB_12, Wp.isB_13, Wp.isB_14, Wp.isB_15, Wp.isB_16, Wp.isB_17, Wp.isB_18, Wp.isB_19, Wp.isB_20, Wp.isB_21, Wp.isB_22, Wp.isB_23, Wp.isB_24, Wp.isB_25, Wp.isB_26, Wp.isB_27, Wp.isB_28, Wp.isB_29, Wp.isB_30, Wp.isB_31, Wp.isB_32, Wp.isB_33, Wp.isB_34, Wp.isB_35, Wp.cmul_l, Wp.cmul_r, Wp.cpow_lit, Wp.size_le, Wp.size_lt, Wp.atI_0, Wp.atI_1, Wp.atI_2, Wp.atI_3, Wp.atI_4, Wp.atI_5, Wp.atI_6, Wp.ixN_0, Wp.ixN_1, Wp.ixN_2, Wp.itemsT, Wp.tyT, reduceIte, Wp.wFld, Wp.wFSet, Wp.wFAug, Wp.wMeth, Wp.wMake, Wp.rIxA, Wp.rInA, Wp.rSetA, Wp.ixA, Wp.inA, Wp.setA, Wp.lenA, Wp.getD, Option.map_some, Option.bind_some, Option.getD_some,  Wp.gIxA, Wp.wDNew, Wp.wDNewT, Wp.rLenA, Wp.rSortD, Wp.rMaxL, Wp.rPopL, Wp.rGet1, Wp.rGet2, Wp.wGet1, Wp.wGet2, Wp.wPop1, Wp.wPop2, Wp.wDel, Wp.isDT, Wp.keyT, Wp.keysT, Wp.keysL, Wp.ex_ins, Wp.ex_dct, Wp.wIf, Wp.rGt, Wp.wTry, Wp.wMethX, Wp.wCallX, Wp.wRaise, Wp.rAddI, Int.cast_ofNat_Int, Int.reduceBEq, lk_Reader_row, pt_Reader_row, lk_Reader_place, pt_Reader_place, no_Reader_byte, no_Reader_inner, no_Reader_is_done, no_Reader_number, no_Reader_part, no_Reader_value, no_Reader_word, ln_Reader, mk_Reader, Wp.rMulB, *])
local macro_rules | `(tactic| walk_at "r2") => `(tactic| repeat (first | walk_at "wq" | walk_at "go"))
local macro_rules | `(tactic| walk_at "w0") => `(tactic| simp (disch := omega) only [Wp.wSeq, Wp.wNext, Wp.wSet, Wp.wVar, Wp.wC, Wp.wOp, Wp.wRet, Wp.wIfS, Wp.wTest, Wp.wCall, Wp.wCons, Wp.wNil, Wp.wTup, Wp.wLst, Wp.wAsg, Wp.gTp, Wp.gC, Wp.gNm, Wp.gN0, Wp.gIx, Wp.rSet, Wp.rAdd, Wp.rMul, Wp.rMod, Wp.rSub, Wp.rFdiv, Wp.rPow, Wp.rInt, Wp.rIx, Wp.rLt, Wp.rLe, Wp.rCmp, Wp.rGeI, Wp.rGtI, Wp.wCB, Wp.rLen, Wp.rLen1, Wp.rInt1, Wp.rMax2, Wp.rMin2, Wp.rTupOf, Wp.rListOf,
  Wp.wIsi, Wp.rBIs, Wp.rIsN, Wp.isNon, Wp.wMt, Wp.rAppendT, Wp.rExtendT, Wp.rReverseT, Wp.wNot, Wp.wOr, Wp.wAnd, Wp.wAndV, Wp.wOrV, Wp.wNotV, Wp.wFor, Wp.iRg1, Wp.iRg2, Wp.iAnyW, Wp.wAll, Wp.wChain, Wp.wSl, Wp.wNoPart, Wp.wPart, Wp.rSl, Wp.wNeg, Wp.rNeg, Wp.wLc, Wp.wYes, Wp.wDrop, Wp.wipeT, Wp.wAug, List.map, List.set_cons_zero, List.set_cons_succ, List.getElem?_cons_zero, List.getElem?_cons_succ, List.length_cons, List.length_nil, List.cons_append, List.nil_append, List.replicate, Wp.startT,
  true_and, and_true, Wp.wif_true, Wp.wif_false, Wp.ex_some, Wp.ex_some1, Wp.ex_eq, Wp.ex_lst, Wp.ex_lst0, Wp.rEq_int, Bool.false_bne, Bool.true_bne, Int.reduceLT, Int.reduceLE, Int.reduceAdd, Nat.reduceAdd, Nat.reduceSub, eq_self, ite_true, ite_false, beq_self_eq_true, Bool.not_true, Bool.not_false, Wp.isB_0, Wp.isB_1, Wp.isB_2, Wp.isB_3, Wp.isB_4, Wp.isB_5, Wp.isB_6, Wp.isB_7, Wp.isB_8, Wp.isB_9, Wp.isB_10, Wp.isB_11, Wp.isB_12, Wp.isB_13, Wp.isB_14, Wp.isB_15, Wp.isB_16, Wp.isB_17, Wp.isB_18, Wp.isB_19, Wp.isB_20, Wp.isB_21, Wp.isB_22, Wp.isB_23, Wp.isB_24, Wp.isB_25, Wp.isB_26, Wp.isB_27, Wp.isB_28, Wp.isB_29, Wp.isB_30, Wp.isB_31, Wp.isB_32, Wp.isB_33, Wp.isB_34, Wp.isB_35, Wp.cmul_l, Wp.cmul_r, Wp.cpow_lit, Wp.size_le, Wp.size_lt, Wp.atI_0, Wp.atI_1, Wp.atI_2, Wp.atI_3, Wp.atI_4, Wp.atI_5, Wp.atI_6, Wp.ixN_0, Wp.ixN_1, Wp.ixN_2, Wp.itemsT, Wp.tyT, reduceIte, Wp.wFld, Wp.wFSet, Wp.wFAug, Wp.wMeth, Wp.wMake, Wp.rIxA, Wp.rInA, Wp.rSetA, Wp.ixA, Wp.inA, Wp.setA, Wp.lenA, Wp.getD, Option.map_some, Option.bind_some, Option.getD_some,  Wp.gIxA, Wp.wDNew, Wp.wDNewT, Wp.rLenA, Wp.rSortD, Wp.rMaxL, Wp.rPopL, Wp.rGet1, Wp.rGet2, Wp.wGet1, Wp.wGet2, Wp.wPop1, Wp.wPop2, Wp.wDel, Wp.isDT, Wp.keyT, Wp.keysT, Wp.keysL, Wp.ex_ins, Wp.ex_dct, Wp.wIf, Wp.rGt, Wp.wTry, Wp.wMethX, Wp.wCallX, Wp.wRaise, Wp.rAddI, Int.cast_ofNat_Int, Int.reduceBEq, lk_Reader_row, pt_Reader_row, lk_Reader_place, pt_Reader_place, no_Reader_byte, no_Reader_inner, no_Reader_is_done, no_Reader_number, no_Reader_part, no_Reader_value, no_Reader_word, ln_Reader, mk_Reader, Wp.rMulB])
local macro_rules | `(tactic| walk_at "r0") => `(tactic| repeat (first | walk_at "w0" | walk_at "go"))
variable {C CB : Addr}
/-! ### can_be_written -/
def spCan (d : Nat) : WSp := fun ts S Q _ => match ts with
  | [v, .int lv] => Vl d v ∧ (d : Int) ≤ lv ∧ Q (.bl true) S
  | _ => False
theorem all_can (e : Nat) (lv : Int) (hlv : (e : Int) + 1 ≤ lv) (S : Sta) (Q : T → Sta → Prop) (a0 : Option T) : ∀ (us : List T) (y : Option T), (∀ t ∈ us, Vl e t) → Q (.bl true) S → allW (gNm 2) (l1__can_stand C CB (spCan e) spIsI spWd) (fun _ => True) [a0, some (.int lv), y] Q us S
  | [], y, _, q => ⟨trivial, q⟩
  | t :: us, y, hk, q => by
    refine ⟨trivial, ?_⟩
    have ih := all_can e lv hlv S Q a0 us y (fun x hx => hk x (List.mem_cons_of_mem _ hx)) q
    generalize allW (gNm 2) (l1__can_stand C CB (spCan e) spIsI spWd) (fun _ => True) [a0, some (.int lv), y] Q us = LP at ih ⊢
    unfold l1__can_stand
    walk_at "r0"
    exact ⟨hk t List.mem_cons_self, by omega, wif_t ih⟩
theorem hw_can (d : Nat) (sub : WSp) (hsub : ∀ e, d = e + 1 → sub = spCan e) : ∀ ts S Q E, ts.length = 2 → spCan d ts S Q E → b__can_stand C CB sub spIsI spWd { nx := fun _ S' => Q .non S', rt := Q } (Wp.startT N__can_stand ts) S := by
  intro ts S Q E _ h
  match ts, h with
  | [v, .int lv], ⟨hv, hl, hq⟩ =>
    have hk := hv.kn S
    cases hv with
    | non =>
      unfold b__can_stand N__can_stand
      walk_at "r0"
      exact hq
    | int _ i h0 h1 =>
      have e1 : isI (.int i) 0 4294967295 = true := by simp only [isI]; simp; omega
      unfold b__can_stand N__can_stand
      walk_at "r0"
      refine ⟨hk, ?_⟩
      rw [e1]
      exact wif_t hq
    | str _ x hw hs =>
      have e1 : isI (.str x) 0 4294967295 = false := rfl
      have hx := (wd_len hw).2
      unfold b__can_stand N__can_stand
      walk_at "r0"
      refine ⟨hk, ?_⟩
      rw [e1]
      refine wif_f ⟨hk, fun y e => ?_, ?_⟩
      · cases e; omega
      · rw [hw]; exact hq
    | tup e us hlen hu =>
      have es := hsub e rfl
      subst es
      unfold b__can_stand N__can_stand
      walk_at "r0"
      refine if_dec (fun _ => all_can e lv (by omega) S Q _ us none hu hq) (fun n => absurd ?_ n)
      omega
def spCanB : WSp := fun ts S Q _ => match ts with
  | [v] => Vl 16 v ∧ Q (.bl true) S
  | _ => False
theorem hw_canb : ∀ ts S Q E, ts.length = 1 → spCanB ts S Q E → b_can_be_written C CB (spCan 16) { nx := fun _ S' => Q .non S', rt := Q } (Wp.startT N_can_be_written ts) S := by
  intro ts S Q E _ h
  match ts, h with
  | [v], ⟨hv, h⟩ =>
    unfold b_can_be_written N_can_be_written
    walk_at "r0"
    exact ⟨hv, by decide, h⟩
end My

set_option Elab.async false
set_option linter.all false
set_option maxRecDepth 100000
set_option maxHeartbeats 8000000
namespace My
open PySem PySem.Spec PyProof.Rows L2 Wp Gn
local macro_rules | `(tactic| walk_at "go") => `(tactic| (with_reducible refine goS_i ?_))
local macro_rules | `(tactic| walk_at "wp") => `(tactic| simp (disch := omega) only [Wp.wSeq, Wp.wNext, Wp.wSet, Wp.wVar, Wp.wC, Wp.wOp, Wp.wRet, Wp.wIfS, Wp.wTest, Wp.wCall, Wp.wCons, Wp.wNil, Wp.wTup, Wp.wLst, Wp.wAsg, Wp.gTp, Wp.gC, Wp.gNm, Wp.gN0, Wp.gIx, Wp.rSet, Wp.rAdd, Wp.rMul, Wp.rMod, Wp.rSub, Wp.rFdiv, Wp.rPow, Wp.rInt, Wp.rIx, Wp.rLt, Wp.rLe, Wp.rCmp, Wp.rGeI, Wp.rGtI, Wp.wCB, Wp.rLen, Wp.rLen1, Wp.rInt1, Wp.rMax2, Wp.rMin2, Wp.rTupOf, Wp.rListOf,
  Wp.wIsi, Wp.rBIs, Wp.rIsN, Wp.isNon, Wp.wMt, Wp.rAppendT, Wp.rExtendT, Wp.rReverseT, Wp.wNot, Wp.wOr, Wp.wAnd, Wp.wAndV, Wp.wOrV, Wp.wNotV, Wp.wFor, Wp.iRg1, Wp.iRg2, Wp.iAnyW, Wp.wAll, Wp.wChain, Wp.wSl, Wp.wNoPart, Wp.wPart, Wp.rSl, Wp.wNeg, Wp.rNeg, Wp.wLc, Wp.wYes, Wp.wDrop, Wp.wipeT, Wp.wAug, List.map, List.set_cons_zero, List.set_cons_succ, List.getElem?_cons_zero, List.getElem?_cons_succ, List.length_cons, List.length_nil, List.cons_append, List.nil_append, List.replicate, Wp.startT,
  true_and, and_true, Wp.wif_true, Wp.wif_false, Wp.ex_some, Wp.ex_some1, Wp.ex_eq, Wp.ex_lst, Wp.ex_lst0, Wp.rEq_int, Bool.false_bne, Bool.true_bne, Int.reduceLT, Int.reduceLE, Int.reduceAdd, Nat.reduceAdd, Nat.reduceSub, eq_self, ite_true, ite_false, beq_self_eq_true, Bool.not_true, Bool.not_false, Wp.isB_0, Wp.isB_1, Wp.isB_2, Wp.isB_3, Wp.isB_4, Wp.isB_5, Wp.isB_6, Wp.isB_7, Wp.isB_8, Wp.isB_9, Wp.isB_10, Wp.isB_11, Wp.isB_12, Wp.isB_13, Wp.isB_14, Wp.isB_15, Wp.isB_16, Wp.isB_17, Wp.isB_18, Wp.isB_19, Wp.isB_20, Wp.isB_21, Wp.isB_22, Wp.isB_23, Wp.isB_24, Wp.isB_25, Wp.isB_26, Wp.isB_27, Wp.isB_28, Wp.isB_29, Wp.isB_30, Wp.isB_31, Wp.isB_32, Wp.isB_33, Wp.isB_34, Wp.isB_35, Wp.cmul_l, Wp.cmul_r, Wp.cpow_lit, Wp.size_le, Wp.size_lt, Wp.atI_0, Wp.atI_1, Wp.atI_2, Wp.atI_3, Wp.atI_4, Wp.atI_5, Wp.atI_6, Wp.ixN_0, Wp.ixN_1, Wp.ixN_2, Wp.itemsT, Wp.tyT, reduceIte, Wp.wFld, Wp.wFSet, Wp.wFAug, Wp.wMeth, Wp.wMake, Wp.rIxA, Wp.rInA, Wp.rSetA, Wp.ixA, Wp.inA, Wp.setA, Wp.lenA, Wp.getD, Option.map_some, Option.bind_some, Option.getD_some,  Wp.gIxA, Wp.wDNew, Wp.wDNewT, Wp.rLenA, Wp.rSortD, Wp.rMaxL, Wp.rPopL, Wp.rGet1, Wp.rGet2, Wp.wGet1, Wp.wGet2, Wp.wPop1, Wp.wPop2, Wp.wDel, Wp.isDT, Wp.keyT, Wp.keysT, Wp.keysL, Wp.ex_ins, Wp.ex_dct, Wp.wIf, Wp.rGt, Wp.wTry, Wp.wMethX, Wp.wCallX, Wp.wRaise, Wp.rAddI, Int.cast_ofNat_Int, Int.reduceBEq, lk_Reader_row, pt_Reader_row, lk_Reader_place, pt_Reader_place, no_Reader_byte, no_Reader_inner, no_Reader_is_done, no_Reader_number, no_Reader_part, no_Reader_value, no_Reader_word, ln_Reader, mk_Reader, Wp.rMulB, Wp.upS, Wp.upS_upS, *])
local macro_rules | `(tactic| walk_at "run") => `(tactic| repeat (first | walk_at "wp" | walk_at "go"))
local macro_rules | `(tactic| walk_at "wq") => `(tactic| simp (disch := omega) only [Wp.wSeq, Wp.wNext, Wp.wSet, Wp.wVar, Wp.wC, Wp.wOp, Wp.wRet, Wp.wIfS, Wp.wTest, Wp.wCall, Wp.wCons, Wp.wNil, Wp.wTup, Wp.wLst, Wp.wAsg, Wp.gTp, Wp.gC, Wp.gNm, Wp.gN0, Wp.gIx, Wp.rSet, Wp.rAdd, Wp.rMul, Wp.rMod, Wp.rSub, Wp.rFdiv, Wp.rPow, Wp.rInt, Wp.rIx, Wp.rLt, Wp.rLe, Wp.rCmp, Wp.rGeI, Wp.rGtI, Wp.wCB, Wp.rLen, Wp.rLen1, Wp.rInt1, Wp.rMax2, Wp.rMin2, Wp.rTupOf, Wp.rListOf,
  Wp.wIsi, Wp.rBIs, Wp.rIsN, Wp.isNon, Wp.wMt, Wp.rAppendT, Wp.rExtendT, Wp.rReverseT, Wp.wNot, Wp.wOr, Wp.wAnd, Wp.wAndV, Wp.wOrV, Wp.wNotV, Wp.wFor, Wp.iRg1, Wp.iRg2, Wp.iAnyW, Wp.wAll, Wp.wChain, Wp.wSl, Wp.wNoPart, Wp.wPart, Wp.rSl, Wp.wNeg, Wp.rNeg, Wp.wLc, Wp.wYes, Wp.wDrop, Wp.wipeT, Wp.wAug, List.map, List.set_cons_zero, List.set_cons_succ, List.getElem?_cons_zero, List.getElem?_cons_succ, List.length_cons, List.length_nil, List.cons_append, List.nil_append, List.replicate, Wp.startT,
  true_and, and_true, Wp.wif_true, Wp.wif_false, Wp.ex_some, Wp.ex_some1, Wp.ex_eq, Wp.ex_lst, Wp.ex_lst0, Wp.rEq_int, Bool.false_bne, Bool.true_bne, Int.reduceLT, Int.reduceLE, Int.reduceAdd, Nat.reduceAdd, Nat.reduceSub, eq_self, ite_true, ite_false, beq_self_eq_true, Bool.not_true, Bool.not_false, Wp.isB_0, Wp.isB_1, Wp.isB_2, Wp.isB_3, Wp.isB_4, Wp.isB_5, Wp.isB_6, Wp.isB_7, Wp.isB_8, Wp.isB_9, Wp.isB_10, Wp.isB_11, Wp.isB_12, Wp.isB_13, Wp.isB_14, Wp.isB_15, Wp.isB_16, Wp.isB_17, Wp.isB_18, Wp.isB_19, Wp.isB_20, Wp.isB_21, Wp.isB_22, Wp.isB_23, Wp.isB_24, Wp.isB_25, Wp.isB_26, Wp.isB_27, Wp.isB_28, Wp.isB_29, Wp.isB_30, Wp.isB_31, Wp.isB_32, Wp.isB_33, Wp.isB_34, Wp.isB_35, Wp.cmul_l, Wp.cmul_r, Wp.cpow_lit, Wp.size_le, Wp.size_lt, Wp.atI_0, Wp.atI_1, Wp.atI_2, Wp.atI_3, Wp.atI_4, Wp.atI_5, Wp.atI_6, Wp.ixN_0, Wp.ixN_1, Wp.ixN_2, Wp.itemsT, Wp.tyT, reduceIte, Wp.wFld, Wp.wFSet, Wp.wFAug, Wp.wMeth, Wp.wMake, Wp.rIxA, Wp.rInA, Wp.rSetA, Wp.ixA, Wp.inA, Wp.setA, Wp.lenA, Wp.getD, Option.map_some, Option.bind_some, Option.getD_some,  Wp.gIxA, Wp.wDNew, Wp.wDNewT, Wp.rLenA, Wp.rSortD, Wp.rMaxL, Wp.rPopL, Wp.rGet1, Wp.rGet2, Wp.wGet1, Wp.wGet2, Wp.wPop1, Wp.wPop2, Wp.wDel, Wp.isDT, Wp.keyT, Wp.keysT, Wp.keysL, Wp.ex_ins, Wp.ex_dct, Wp.wIf, Wp.rGt, Wp.wTry, Wp.wMethX, Wp.wCallX, Wp.wRaise, Wp.rAddI, Int.cast_ofNat_Int, Int.reduceBEq, lk_Reader_row, pt_Reader_row, lk_Reader_place, pt_Reader_place, no_Reader_byte, no_Reader_inner, no_Reader_is_done, no_Reader_number, no_Reader_part, no_Reader_value, no_Reader_word, ln_Reader, mk_Reader, Wp.rMulB, *])
local macro_rules | `(tactic| walk_at "r2") => `(tactic| repeat (first | walk_at "wq" | walk_at "go"))
local macro_rules | `(tactic| walk_at "w0") => `(tactic| simp (disch := omega) only [Wp.wSeq, Wp.wNext, Wp.wSet, Wp.wVar, Wp.wC, Wp.wOp, Wp.wRet, Wp.wIfS, Wp.wTest, Wp.wCall, Wp.wCons, Wp.wNil, Wp.wTup, Wp.wLst, Wp.wAsg, Wp.gTp, Wp.gC, Wp.gNm, Wp.gN0, Wp.gIx, Wp.rSet, Wp.rAdd, Wp.rMul, Wp.rMod, Wp.rSub, Wp.rFdiv, Wp.rPow, Wp.rInt, Wp.rIx, Wp.rLt, Wp.rLe, Wp.rCmp, Wp.rGeI, Wp.rGtI, Wp.wCB, Wp.rLen, Wp.rLen1, Wp.rInt1, Wp.rMax2, Wp.rMin2, Wp.rTupOf, Wp.rListOf,
  Wp.wIsi, Wp.rBIs, Wp.rIsN, Wp.isNon, Wp.wMt, Wp.rAppendT, Wp.rExtendT, Wp.rReverseT, Wp.wNot, Wp.wOr, Wp.wAnd, Wp.wAndV, Wp.wOrV, Wp.wNotV, Wp.wFor, Wp.iRg1, Wp.iRg2, Wp.iAnyW, Wp.wAll, Wp.wChain, Wp.wSl, Wp.wNoPart, Wp.wPart, Wp.rSl, Wp.wNeg, Wp.rNeg, Wp.wLc, Wp.wYes, Wp.wDrop, Wp.wipeT, Wp.wAug, List.map, List.set_cons_zero, List.set_cons_succ, List.getElem?_cons_zero, List.getElem?_cons_succ, List.length_cons, List.length_nil, List.cons_append, List.nil_append, List.replicate, Wp.startT,
  true_and, and_true, Wp.wif_true, Wp.wif_false, Wp.ex_some, Wp.ex_some1, Wp.ex_eq, Wp.ex_lst, Wp.ex_lst0, Wp.rEq_int, Bool.false_bne, Bool.true_bne, Int.reduceLT, Int.reduceLE, Int.reduceAdd, Nat.reduceAdd, Nat.reduceSub, eq_self, ite_true, ite_false, beq_self_eq_true, Bool.not_true, Bool.not_false, Wp.isB_0, Wp.isB_1, Wp.isB_2, Wp.isB_3, Wp.isB_4, Wp.isB_5, Wp.isB_6, Wp.isB_7, Wp.isB_8, Wp.isB_9, Wp.isB_10, Wp.isB_11, Wp.isB_12, Wp.isB_13, Wp.isB_14, Wp.isB_15, Wp.isB_16, Wp.isB_17, Wp.isB_18, Wp.isB_19, Wp.isB_20, Wp.isB_21, Wp.isB_22, Wp.isB_23, Wp.isB_24, Wp.isB_25, Wp.isB_26, Wp.isB_27, Wp.isB_28, Wp.isB_29, Wp.isB_30, Wp.isB_31, Wp.isB_32, Wp.isB_33, Wp.isB_34, Wp.isB_35, Wp.cmul_l, Wp.cmul_r, Wp.cpow_lit, Wp.size_le, Wp.size_lt, Wp.atI_0, Wp.atI_1, Wp.atI_2, Wp.atI_3, Wp.atI_4, Wp.atI_5, Wp.atI_6, Wp.ixN_0, Wp.ixN_1, Wp.ixN_2, Wp.itemsT, Wp.tyT, reduceIte, Wp.wFld, Wp.wFSet, Wp.wFAug, Wp.wMeth, Wp.wMake, Wp.rIxA, Wp.rInA, Wp.rSetA, Wp.ixA, Wp.inA, Wp.setA, Wp.lenA, Wp.getD, Option.map_some, Option.bind_some, Option.getD_some,  Wp.gIxA, Wp.wDNew, Wp.wDNewT, Wp.rLenA, Wp.rSortD, Wp.rMaxL, Wp.rPopL, Wp.rGet1, Wp.rGet2, Wp.wGet1, Wp.wGet2, Wp.wPop1, Wp.wPop2, Wp.wDel, Wp.isDT, Wp.keyT, Wp.keysT, Wp.keysL, Wp.ex_ins, Wp.ex_dct, Wp.wIf, Wp.rGt, Wp.wTry, Wp.wMethX, Wp.wCallX, Wp.wRaise, Wp.rAddI, Int.cast_ofNat_Int, Int.reduceBEq, lk_Reader_row, pt_Reader_row, lk_Reader_place, pt_Reader_place, no_Reader_byte, no_Reader_inner, no_Reader_is_done, no_Reader_number, no_Reader_part, no_Reader_value, no_Reader_word, ln_Reader, mk_Reader, Wp.rMulB])
local macro_rules | `(tactic| walk_at "r0") => `(tactic| repeat (first | walk_at "w0" | walk_at "go"))
variable {C CB : Addr}
/-! ### what any row tells -/
theorem digs_num : ∀ (n : Nat) (ds : List Int), ds.length = n → (∀ d ∈ ds, 0 ≤ d ∧ d ≤ 255) → ds.head? ≠ some 0 → 0 ≤ numI 0 ds ∧ digs (numI 0 ds).toNat = ds := by
  intro n
  induction n with
  | zero =>
    intro ds hl _ _
    rw [List.length_eq_zero_iff.mp hl]
    refine ⟨Int.le_refl _, ?_⟩
    show digs 0 = []
    unfold digs
    rw [digsR_zero]; rfl
  | succ n ih =>
    intro ds hl hb hh
    have hne : ds ≠ [] := fun z => by rw [z] at hl; cases hl
    obtain ⟨i, d, rfl⟩ : ∃ i d, ds = i ++ [d] := ⟨ds.dropLast, ds.getLast hne, (List.dropLast_concat_getLast hne).symm⟩
    have hi : i.length = n := by rw [List.length_append] at hl; simpa using hl
    have hd := hb d (by simp)
    have hh2 : i.head? ≠ some 0 := fun z => by
      cases i with
      | nil => cases z
      | cons x i => exact hh z
    obtain ⟨h0, h1⟩ := ih i hi (fun x hx => hb x (List.mem_append_left _ hx)) hh2
    rw [numI_app]
    show 0 ≤ 256 * numI 0 i + d ∧ digs (256 * numI 0 i + d).toNat = i ++ [d]
    generalize numI 0 i = m at h0 h1 ⊢
    refine ⟨by omega, ?_⟩
    have nz : (256 * m + d).toNat ≠ 0 := fun z => by
      have m0 : m = 0 := by omega
      have d0 : d = 0 := by omega
      subst m0 d0
      have : i = [] := by
        rw [← h1]
        show digs 0 = []
        unfold digs
        rw [digsR_zero]; rfl
      subst this
      exact hh rfl
    unfold digs at h1 ⊢
    rw [digsR_pos nz, show (256 * m + d).toNat / 256 = m.toNat by omega, List.reverse_cons, h1]
    congr 2
    omega
end My

set_option Elab.async false
set_option linter.all false
set_option maxRecDepth 100000
set_option maxHeartbeats 8000000
namespace My
open PySem PySem.Spec PyProof.Rows L2 Wp Gn
local macro_rules | `(tactic| walk_at "go") => `(tactic| (with_reducible refine goS_i ?_))
local macro_rules | `(tactic| walk_at "wp") => `(tactic| simp (disch := omega) only [Wp.wSeq, Wp.wNext, Wp.wSet, Wp.wVar, Wp.wC, Wp.wOp, Wp.wRet, Wp.wIfS, Wp.wTest, Wp.wCall, Wp.wCons, Wp.wNil, Wp.wTup, Wp.wLst, Wp.wAsg, Wp.gTp, Wp.gC, Wp.gNm, Wp.gN0, Wp.gIx, Wp.rSet, Wp.rAdd, Wp.rMul, Wp.rMod, Wp.rSub, Wp.rFdiv, Wp.rPow, Wp.rInt, Wp.rIx, Wp.rLt, Wp.rLe, Wp.rCmp, Wp.rGeI, Wp.rGtI, Wp.wCB, Wp.rLen, Wp.rLen1, Wp.rInt1, Wp.rMax2, Wp.rMin2, Wp.rTupOf, Wp.rListOf,
  Wp.wIsi, Wp.rBIs, Wp.rIsN, Wp.isNon, Wp.wMt, Wp.rAppendT, Wp.rExtendT, Wp.rReverseT, Wp.wNot, Wp.wOr, Wp.wAnd, Wp.wAndV, Wp.wOrV, Wp.wNotV, Wp.wFor, Wp.iRg1, Wp.iRg2, Wp.iAnyW, Wp.wAll, Wp.wChain, Wp.wSl, Wp.wNoPart, Wp.wPart, Wp.rSl, Wp.wNeg, Wp.rNeg, Wp.wLc, Wp.wYes, Wp.wDrop, Wp.wipeT, Wp.wAug, List.map, List.set_cons_zero, List.set_cons_succ, List.getElem?_cons_zero, List.getElem?_cons_succ, List.length_cons, List.length_nil, List.cons_append, List.nil_append, List.replicate, Wp.startT,
  true_and, and_true, Wp.wif_true, Wp.wif_false, Wp.ex_some, Wp.ex_some1, Wp.ex_eq, Wp.ex_lst, Wp.ex_lst0, Wp.rEq_int, Bool.false_bne, Bool.true_bne, Int.reduceLT, Int.reduceLE, Int.reduceAdd, Nat.reduceAdd, Nat.reduceSub, eq_self, ite_true, ite_false, beq_self_eq_true, Bool.not_true, Bool.not_false, Wp.isB_0, Wp.isB_1, Wp.isB_2, Wp.isB_3, Wp.isB_4, Wp.isB_5, Wp.isB_6, Wp.isB_7, Wp.isB_8, Wp.isB_9, Wp.isB_10, Wp.isB_11, Wp.isB_12, Wp.isB_13, Wp.isB_14, Wp.isB_15, Wp.isB_16, Wp.isB_17, Wp.isB_18, Wp.isB_19, Wp.isB_20, Wp.isB_21, Wp.isB_22, Wp.isB_23, Wp.isB_24, Wp.isB_25, Wp.isB_26, Wp.isB_27, Wp.isB_28, Wp.isB_29, Wp.isB_30, Wp.isB_31, Wp.isB_32, Wp.isB_33, Wp.isB_34, Wp.isB_35, Wp.cmul_l, Wp.cmul_r, Wp.cpow_lit, Wp.size_le, Wp.size_lt, Wp.atI_0, Wp.atI_1, Wp.atI_2, Wp.atI_3, Wp.atI_4, Wp.atI_5, Wp.atI_6, Wp.ixN_0, Wp.ixN_1, Wp.ixN_2, Wp.itemsT, Wp.tyT, reduceIte, Wp.wFld, Wp.wFSet, Wp.wFAug, Wp.wMeth, Wp.wMake, Wp.rIxA, Wp.rInA, Wp.rSetA, Wp.ixA, Wp.inA, Wp.setA, Wp.lenA, Wp.getD, Option.map_some, Option.bind_some, Option.getD_some,  Wp.gIxA, Wp.wDNew, Wp.wDNewT, Wp.rLenA, Wp.rSortD, Wp.rMaxL, Wp.rPopL, Wp.rGet1, Wp.rGet2, Wp.wGet1, Wp.wGet2, Wp.wPop1, Wp.wPop2, Wp.wDel, Wp.isDT, Wp.keyT, Wp.keysT, Wp.keysL, Wp.ex_ins, Wp.ex_dct, Wp.wIf, Wp.rGt, Wp.wTry, Wp.wMethX, Wp.wCallX, Wp.wRaise, Wp.rAddI, Int.cast_ofNat_Int, Int.reduceBEq, lk_Reader_row, pt_Reader_row, lk_Reader_place, pt_Reader_place, no_Reader_byte, no_Reader_inner, no_Reader_is_done, no_Reader_number, no_Reader_part, no_Reader_value, no_Reader_word, ln_Reader, mk_Reader, Wp.rMulB, Wp.upS, Wp.upS_upS, *])
local macro_rules | `(tactic| walk_at "run") => `(tactic| repeat (first | walk_at "wp" | walk_at "go"))
local macro_rules | `(tactic| walk_at "wq") => `(tactic| simp (disch := omega) only [Wp.wSeq, Wp.wNext, Wp.wSet, Wp.wVar, Wp.wC, Wp.wOp, Wp.wRet, Wp.wIfS, Wp.wTest, Wp.wCall, Wp.wCons, Wp.wNil, Wp.wTup, Wp.wLst, Wp.wAsg, Wp.gTp, Wp.gC, Wp.gNm, Wp.gN0, Wp.gIx, Wp.rSet, Wp.rAdd, Wp.rMul, Wp.rMod, Wp.rSub, Wp.rFdiv, Wp.rPow, Wp.rInt, Wp.rIx, Wp.rLt, Wp.rLe, Wp.rCmp, Wp.rGeI, Wp.rGtI, Wp.wCB, Wp.rLen, Wp.rLen1, Wp.rInt1, Wp.rMax2, Wp.rMin2, Wp.rTupOf, Wp.rListOf,
  Wp.wIsi, Wp.rBIs, Wp.rIsN, Wp.isNon, Wp.wMt, Wp.rAppendT, Wp.rExtendT, Wp.rReverseT, Wp.wNot, Wp.wOr, Wp.wAnd, Wp.wAndV, Wp.wOrV, Wp.wNotV, Wp.wFor, Wp.iRg1, Wp.iRg2, Wp.iAnyW, Wp.wAll, Wp.wChain, Wp.wSl, Wp.wNoPart, Wp.wPart, Wp.rSl, Wp.wNeg, Wp.rNeg, Wp.wLc, Wp.wYes, Wp.wDrop, Wp.wipeT, Wp.wAug, List.map, List.set_cons_zero, List.set_cons_succ, List.getElem?_cons_zero, List.getElem?_cons_succ, List.length_cons, List.length_nil, List.cons_append, List.nil_append, List.replicate, Wp.startT,
  true_and, and_true, Wp.wif_true, Wp.wif_false, Wp.ex_some, Wp.ex_some1, Wp.ex_eq, Wp.ex_lst, Wp.ex_lst0, Wp.rEq_int, Bool.false_bne, Bool.true_bne, Int.reduceLT, Int.reduceLE, Int.reduceAdd, Nat.reduceAdd, Nat.reduceSub, eq_self, ite_true, ite_false, beq_self_eq_true, Bool.not_true, Bool.not_false, Wp.isB_0, Wp.isB_1, Wp.isB_2, Wp.isB_3, Wp.isB_4, Wp.isB_5, Wp.isB_6, Wp.isB_7, Wp.isB_8, Wp.isB_9, Wp.isB_10, Wp.isB_11, Wp.isB_12, Wp.isB_13, Wp.isB_14, Wp.isB_15, Wp.isB_16, Wp.isB_17, Wp.isB_18, Wp.isB_19, Wp.isB_20, Wp.isB_21, Wp.isB_22, Wp.isB_23, Wp.isB_24, Wp.isB_25, Wp.isB_26, Wp.isB_27, Wp.isB_28, Wp.isB_29, Wp.isB_30, Wp.isB_31, Wp.isB_32, Wp.isB_33, Wp.isB_34, Wp.isB_35, Wp.cmul_l, Wp.cmul_r, Wp.cpow_lit, Wp.size_le, Wp.size_lt, Wp.atI_0, Wp.atI_1, Wp.atI_2, Wp.atI_3, Wp.atI_4, Wp.atI_5, Wp.atI_6, Wp.ixN_0, Wp.ixN_1, Wp.ixN_2, Wp.itemsT, Wp.tyT, reduceIte, Wp.wFld, Wp.wFSet, Wp.wFAug, Wp.wMeth, Wp.wMake, Wp.rIxA, Wp.rInA, Wp.rSetA, Wp.ixA, Wp.inA, Wp.setA, Wp.lenA, Wp.getD, Option.map_some, Option.bind_some, Option.getD_some,  Wp.gIxA, Wp.wDNew, Wp.wDNewT, Wp.rLenA, Wp.rSortD, Wp.rMaxL, Wp.rPopL, Wp.rGet1, Wp.rGet2, Wp.wGet1, Wp.wGet2, Wp.wPop1, Wp.wPop2, Wp.wDel, Wp.isDT, Wp.keyT, Wp.keysT, Wp.keysL, Wp.ex_ins, Wp.ex_dct, Wp.wIf, Wp.rGt, Wp.wTry, Wp.wMethX, Wp.wCallX, Wp.wRaise, Wp.rAddI, Int.cast_ofNat_Int, Int.reduceBEq, lk_Reader_row, pt_Reader_row, lk_Reader_place, pt_Reader_place, no_Reader_byte, no_Reader_inner, no_Reader_is_done, no_Reader_number, no_Reader_part, no_Reader_value, no_Reader_word, ln_Reader, mk_Reader, Wp.rMulB, *])
local macro_rules | `(tactic| walk_at "r2") => `(tactic| repeat (first | walk_at "wq" | walk_at "go"))
local macro_rules | `(tactic| walk_at "w0") => `(tactic| simp (disch := omega) only [Wp.wSeq, Wp.wNext, Wp.wSet, Wp.wVar, Wp.wC, Wp.wOp, Wp.wRet, Wp.wIfS, Wp.wTest, Wp.wCall, Wp.wCons, Wp.wNil, Wp.wTup, Wp.wLst, Wp.wAsg, Wp.gTp, Wp.gC, Wp.gNm, Wp.gN0, Wp.gIx, Wp.rSet, Wp.rAdd, Wp.rMul, Wp.rMod, Wp.rSub, Wp.rFdiv, Wp.rPow, Wp.rInt, Wp.rIx, Wp.rLt, Wp.rLe, Wp.rCmp, Wp.rGeI, Wp.rGtI, Wp.wCB, Wp.rLen, Wp.rLen1, Wp.rInt1, Wp.rMax2, Wp.rMin2, Wp.rTupOf, Wp.rListOf,
  Wp.wIsi, Wp.rBIs, Wp.rIsN, Wp.isNon, Wp.wMt, Wp.rAppendT, Wp.rExtendT, Wp.rReverseT, Wp.wNot, Wp.wOr, Wp.wAnd, Wp.wAndV, Wp.wOrV, Wp.wNotV, Wp.wFor, Wp.iRg1, Wp.iRg2, Wp.iAnyW, Wp.wAll, Wp.wChain, Wp.wSl, Wp.wNoPart, Wp.wPart, Wp.rSl, Wp.wNeg, Wp.rNeg, Wp.wLc, Wp.wYes, Wp.wDrop, Wp.wipeT, Wp.wAug, List.map, List.set_cons_zero, List.set_cons_succ, List.getElem?_cons_zero, List.getElem?_cons_succ, List.length_cons, List.length_nil, List.cons_append, List.nil_append, List.replicate, Wp.startT,
  true_and, and_true, Wp.wif_true, Wp.wif_false, Wp.ex_some, Wp.ex_some1, Wp.ex_eq, Wp.ex_lst, Wp.ex_lst0, Wp.rEq_int, Bool.false_bne, Bool.true_bne, Int.reduceLT, Int.reduceLE, Int.reduceAdd, Nat.reduceAdd, Nat.reduceSub, eq_self, ite_true, ite_false, beq_self_eq_true, Bool.not_true, Bool.not_false, Wp.isB_0, Wp.isB_1, Wp.isB_2, Wp.isB_3, Wp.isB_4, Wp.isB_5, Wp.isB_6, Wp.isB_7, Wp.isB_8, Wp.isB_9, Wp.isB_10, Wp.isB_11, Wp.isB_12, Wp.isB_13, Wp.isB_14, Wp.isB_15, Wp.isB_16, Wp.isB_17, Wp.isB_18, Wp.isB_19, Wp.isB_20, Wp.isB_21, Wp.isB_22, Wp.isB_23, Wp.isB_24, Wp.isB_25, Wp.isB_26, Wp.isB_27, Wp.isB_28, Wp.isB_29, Wp.isB_30, Wp.isB_31, Wp.isB_32, Wp.isB_33, Wp.isB_34, Wp.isB_35, Wp.cmul_l, Wp.cmul_r, Wp.cpow_lit, Wp.size_le, Wp.size_lt, Wp.atI_0, Wp.atI_1, Wp.atI_2, Wp.atI_3, Wp.atI_4, Wp.atI_5, Wp.atI_6, Wp.ixN_0, Wp.ixN_1, Wp.ixN_2, Wp.itemsT, Wp.tyT, reduceIte, Wp.wFld, Wp.wFSet, Wp.wFAug, Wp.wMeth, Wp.wMake, Wp.rIxA, Wp.rInA, Wp.rSetA, Wp.ixA, Wp.inA, Wp.setA, Wp.lenA, Wp.getD, Option.map_some, Option.bind_some, Option.getD_some,  Wp.gIxA, Wp.wDNew, Wp.wDNewT, Wp.rLenA, Wp.rSortD, Wp.rMaxL, Wp.rPopL, Wp.rGet1, Wp.rGet2, Wp.wGet1, Wp.wGet2, Wp.wPop1, Wp.wPop2, Wp.wDel, Wp.isDT, Wp.keyT, Wp.keysT, Wp.keysL, Wp.ex_ins, Wp.ex_dct, Wp.wIf, Wp.rGt, Wp.wTry, Wp.wMethX, Wp.wCallX, Wp.wRaise, Wp.rAddI, Int.cast_ofNat_Int, Int.reduceBEq, lk_Reader_row, pt_Reader_row, lk_Reader_place, pt_Reader_place, no_Reader_byte, no_Reader_inner, no_Reader_is_done, no_Reader_number, no_Reader_part, no_Reader_value, no_Reader_word, ln_Reader, mk_Reader, Wp.rMulB])
local macro_rules | `(tactic| walk_at "r0") => `(tactic| repeat (first | walk_at "w0" | walk_at "go"))
/-! ### the reader as a function of the bytes that are left -/
def Byt (L : List Int) : Prop := ∀ x ∈ L, 0 ≤ x ∧ x ≤ 255
theorem Byt.tail {b : Int} {L : List Int} (h : Byt (b :: L)) : Byt L := fun x hx => h x (List.mem_cons_of_mem _ hx)
theorem Byt.drop {L : List Int} (h : Byt L) (n : Nat) : Byt (L.drop n) := fun x hx => h x (List.mem_of_mem_drop hx)
theorem Byt.take {L : List Int} (h : Byt L) (n : Nat) : Byt (L.take n) := fun x hx => h x (List.mem_of_mem_take hx)
def rdNum : List Int → Option (Nat × List Int)
  | [] => none
  | b :: r => if b.toNat ≤ r.length ∧ (r.take b.toNat).head? ≠ some 0 ∧ numI 0 (r.take b.toNat) ≤ 4294967295 then some ((numI 0 (r.take b.toNat)).toNat, r.drop b.toNat) else none
theorem rdNum_nb {L r : List Int} {n : Nat} (hb : Byt L) (h : rdNum L = some (n, r)) : (n : Int) ≤ 4294967295 ∧ L = nb n ++ r ∧ Byt r := by
  cases L with
  | nil => cases h
  | cons b l =>
    by_cases c : b.toNat ≤ l.length ∧ (l.take b.toNat).head? ≠ some 0 ∧ numI 0 (l.take b.toNat) ≤ 4294967295
    · rw [rdNum, if_pos c] at h
      obtain ⟨c1, c2, c3⟩ := c
      obtain ⟨e1, e2⟩ := Prod.mk.inj (Option.some.inj h)
      have hb0 := hb b List.mem_cons_self
      obtain ⟨z0, z1⟩ := digs_num _ (l.take b.toNat) rfl (hb.tail.take _) c2
      have eb : (((l.take b.toNat).length : Nat) : Int) = b := by rw [List.length_take, Nat.min_eq_left c1]; exact Int.toNat_of_nonneg hb0.1
      refine ⟨by omega, ?_, by rw [← e2]; exact hb.tail.drop _⟩
      rw [← e1, ← e2]
      unfold nb
      rw [z1, eb, List.cons_append, List.take_append_drop]
    · rw [rdNum, if_neg c] at h; cases h
def txt (cs : List Int) : Str := ⟨(cs.map Int.toNat).toArray⟩
def rdWord (L : List Int) : Option (T × List Int) :=
  match rdNum L with
  | none => none
  | some (n, r) => if 1 ≤ n ∧ n ≤ 12 ∧ n ≤ r.length ∧ (r.take n).all (fun c => decide (97 ≤ c) && decide (c ≤ 122)) = true then some (.str (txt (r.take n)), r.drop n) else none
theorem txt_len (cs : List Int) : (txt cs).length = cs.length := by
  show (cs.map Int.toNat).toArray.size = _
  simp
theorem rdWord_parts {e : Nat} {L r : List Int} {v : T} (hb : Byt L) (h : rdWord L = some (v, r)) : Vl e v ∧ 2 :: L = parts v ++ r ∧ Byt r := by
  unfold rdWord at h
  split at h
  · cases h
  · rename_i n l q
    obtain ⟨h1, h2, h3⟩ := rdNum_nb hb q
    split at h
    · rename_i c
      obtain ⟨c1, c2, c3, c4⟩ := c
      have h := Option.some.inj h
      obtain ⟨e1, e2⟩ := Prod.mk.inj h
      subst e1 e2
      have tl : (l.take n).length = n := by rw [List.length_take]; omega
      have hc : ∀ c ∈ l.take n, 97 ≤ c ∧ c ≤ 122 := fun c hc => by
        have := List.all_eq_true.mp c4 c hc
        simpa using this
      refine ⟨.str e _ ?_ ?_, ?_, h3.drop _⟩
      · show ((decide (1 ≤ ((txt (l.take n)).length : Int)) && decide (((txt (l.take n)).length : Int) ≤ 12)) && (txt (l.take n)).cps.toList.all isLet) = true
        rw [txt_len, tl, decide_eq_true (by omega), decide_eq_true (by omega), Bool.true_and, Bool.true_and]
        rw [List.all_eq_true]
        intro c hc2
        have hc2 : c ∈ (l.take n).map Int.toNat := by simpa [txt] using hc2
        obtain ⟨d, hd, rfl⟩ := List.mem_map.mp hc2
        have := hc d hd
        unfold isLet
        rw [decide_eq_true (by omega), decide_eq_true (by omega)]; rfl
      · unfold PyData.strOk
        rw [← Array.all_toList]
        refine List.all_eq_true.mpr fun c hc2 => ?_
        have hc2 : c ∈ (l.take n).map Int.toNat := by simpa [txt] using hc2
        obtain ⟨d, hd, rfl⟩ := List.mem_map.mp hc2
        have := hc d hd
        exact decide_eq_true (by omega)
      · rw [h2]
        show _ = 2 :: (nb (txt (l.take n)).length ++ (txt (l.take n)).cps.toList.map fun (c : Nat) => (c : Int)) ++ l.drop n
        rw [txt_len, tl]
        have : ((txt (l.take n)).cps.toList.map fun (c : Nat) => (c : Int)) = l.take n := by
          show ((l.take n).map Int.toNat).toArray.toList.map (fun (c : Nat) => (c : Int)) = _
          rw [List.toList_toArray, List.map_map]
          conv => rhs; rw [← List.map_id (l.take n)]
          exact List.map_congr_left fun d hd => by have := hc d hd; show ((d.toNat : Nat) : Int) = d; omega
        rw [this, List.cons_append, List.append_assoc, List.take_append_drop]
    · cases h
end My

set_option Elab.async false
set_option linter.all false
set_option maxRecDepth 100000
set_option maxHeartbeats 8000000
namespace My
open PySem PySem.Spec PyProof.Rows L2 Wp Gn
local macro_rules | `(tactic| walk_at "go") => `(tactic| (with_reducible refine goS_i ?_))
local macro_rules | `(tactic| walk_at "wp") => `(tactic| simp (disch := omega) only [Wp.wSeq, Wp.wNext, Wp.wSet, Wp.wVar, Wp.wC, Wp.wOp, Wp.wRet, Wp.wIfS, Wp.wTest, Wp.wCall, Wp.wCons, Wp.wNil, Wp.wTup, Wp.wLst, Wp.wAsg, Wp.gTp, Wp.gC, Wp.gNm, Wp.gN0, Wp.gIx, Wp.rSet, Wp.rAdd, Wp.rMul, Wp.rMod, Wp.rSub, Wp.rFdiv, Wp.rPow, Wp.rInt, Wp.rIx, Wp.rLt, Wp.rLe, Wp.rCmp, Wp.rGeI, Wp.rGtI, Wp.wCB, Wp.rLen, Wp.rLen1, Wp.rInt1, Wp.rMax2, Wp.rMin2, Wp.rTupOf, Wp.rListOf,
  Wp.wIsi, Wp.rBIs, Wp.rIsN, Wp.isNon, Wp.wMt, Wp.rAppendT, Wp.rExtendT, Wp.rReverseT, Wp.wNot, Wp.wOr, Wp.wAnd, Wp.wAndV, Wp.wOrV, Wp.wNotV, Wp.wFor, Wp.iRg1, Wp.iRg2, Wp.iAnyW, Wp.wAll, Wp.wChain, Wp.wSl, Wp.wNoPart, Wp.wPart, Wp.rSl, Wp.wNeg, Wp.rNeg, Wp.wLc, Wp.wYes, Wp.wDrop, Wp.wipeT, Wp.wAug, List.map, List.set_cons_zero, List.set_cons_succ, List.getElem?_cons_zero, List.getElem?_cons_succ, List.length_cons, List.length_nil, List.cons_append, List.nil_append, List.replicate, Wp.startT,
  true_and, and_true, Wp.wif_true, Wp.wif_false, Wp.ex_some, Wp.ex_some1, Wp.ex_eq, Wp.ex_lst, Wp.ex_lst0, Wp.rEq_int, Bool.false_bne, Bool.true_bne, Int.reduceLT, Int.reduceLE, Int.reduceAdd, Nat.reduceAdd, Nat.reduceSub, eq_self, ite_true, ite_false, beq_self_eq_true, Bool.not_true, Bool.not_false, Wp.isB_0, Wp.isB_1, Wp.isB_2, Wp.isB_3, Wp.isB_4, Wp.isB_5, Wp.isB_6, Wp.isB_7, Wp.isB_8, Wp.isB_9, Wp.isB_10, Wp.isB_11, Wp.isB_12, Wp.isB_13, Wp.isB_14, Wp.isB_15, Wp.isB_16, Wp.isB_17, Wp.isB_18, Wp.isB_19, Wp.isB_20, Wp.isB_21, Wp.isB_22, Wp.isB_23, Wp.isB_24, Wp.isB_25, Wp.isB_26, Wp.isB_27, Wp.isB_28, Wp.isB_29, Wp.isB_30, Wp.isB_31, Wp.isB_32, Wp.isB_33, Wp.isB_34, Wp.isB_35, Wp.cmul_l, Wp.cmul_r, Wp.cpow_lit, Wp.size_le, Wp.size_lt, Wp.atI_0, Wp.atI_1, Wp.atI_2, Wp.atI_3, Wp.atI_4, Wp.atI_5, Wp.atI_6, Wp.ixN_0, Wp.ixN_1, Wp.ixN_2, Wp.itemsT, Wp.tyT, reduceIte, Wp.wFld, Wp.wFSet, Wp.wFAug, Wp.wMeth, Wp.wMake, Wp.rIxA, Wp.rInA, Wp.rSetA, Wp.ixA, Wp.inA, Wp.setA, Wp.lenA, Wp.getD, Option.map_some, Option.bind_some, Option.getD_some,  Wp.gIxA, Wp.wDNew, Wp.wDNewT, Wp.rLenA, Wp.rSortD, Wp.rMaxL, Wp.rPopL, Wp.rGet1, Wp.rGet2, Wp.wGet1, Wp.wGet2, Wp.wPop1, Wp.wPop2, Wp.wDel, Wp.isDT, Wp.keyT, Wp.keysT, Wp.keysL, Wp.ex_ins, Wp.ex_dct, Wp.wIf, Wp.rGt, Wp.wTry, Wp.wMethX, Wp.wCallX, Wp.wRaise, Wp.rAddI, Int.cast_ofNat_Int, Int.reduceBEq, lk_Reader_row, pt_Reader_row, lk_Reader_place, pt_Reader_place, no_Reader_byte, no_Reader_inner, no_Reader_is_done, no_Reader_number, no_Reader_part, no_Reader_value, no_Reader_word, ln_Reader, mk_Reader, Wp.rMulB, Wp.upS, Wp.upS_upS, *])
local macro_rules | `(tactic| walk_at "run") => `(tactic| repeat (first | walk_at "wp" | walk_at "go"))
local macro_rules | `(tactic| walk_at "wq") => `(tactic| simp (disch := omega) only [Wp.wSeq, Wp.wNext, Wp.wSet, Wp.wVar, Wp.wC, Wp.wOp, Wp.wRet, Wp.wIfS, Wp.wTest, Wp.wCall, Wp.wCons, Wp.wNil, Wp.wTup, Wp.wLst, Wp.wAsg, Wp.gTp, Wp.gC, Wp.gNm, Wp.gN0, Wp.gIx, Wp.rSet, Wp.rAdd, Wp.rMul, Wp.rMod, Wp.rSub, Wp.rFdiv, Wp.rPow, Wp.rInt, Wp.rIx, Wp.rLt, Wp.rLe, Wp.rCmp, Wp.rGeI, Wp.rGtI, Wp.wCB, Wp.rLen, Wp.rLen1, Wp.rInt1, Wp.rMax2, Wp.rMin2, Wp.rTupOf, Wp.rListOf,
  Wp.wIsi, Wp.rBIs, Wp.rIsN, Wp.isNon, Wp.wMt, Wp.rAppendT, Wp.rExtendT, Wp.rReverseT, Wp.wNot, Wp.wOr, Wp.wAnd, Wp.wAndV, Wp.wOrV, Wp.wNotV, Wp.wFor, Wp.iRg1, Wp.iRg2, Wp.iAnyW, Wp.wAll, Wp.wChain, Wp.wSl, Wp.wNoPart, Wp.wPart, Wp.rSl, Wp.wNeg, Wp.rNeg, Wp.wLc, Wp.wYes, Wp.wDrop, Wp.wipeT, Wp.wAug, List.map, List.set_cons_zero, List.set_cons_succ, List.getElem?_cons_zero, List.getElem?_cons_succ, List.length_cons, List.length_nil, List.cons_append, List.nil_append, List.replicate, Wp.startT,
  true_and, and_true, Wp.wif_true, Wp.wif_false, Wp.ex_some, Wp.ex_some1, Wp.ex_eq, Wp.ex_lst, Wp.ex_lst0, Wp.rEq_int, Bool.false_bne, Bool.true_bne, Int.reduceLT, Int.reduceLE, Int.reduceAdd, Nat.reduceAdd, Nat.reduceSub, eq_self, ite_true, ite_false, beq_self_eq_true, Bool.not_true, Bool.not_false, Wp.isB_0, Wp.isB_1, Wp.isB_2, Wp.isB_3, Wp.isB_4, Wp.isB_5, Wp.isB_6, Wp.isB_7, Wp.isB_8, Wp.isB_9, Wp.isB_10, Wp.isB_11, Wp.isB_12, Wp.isB_13, Wp.isB_14, Wp.isB_15, Wp.isB_16, Wp.isB_17, Wp.isB_18, Wp.isB_19, Wp.isB_20, Wp.isB_21, Wp.isB_22, Wp.isB_23, Wp.isB_24, Wp.isB_25, Wp.isB_26, Wp.isB_27, Wp.isB_28, Wp.isB_29, Wp.isB_30, Wp.isB_31, Wp.isB_32, Wp.isB_33, Wp.isB_34, Wp.isB_35, Wp.cmul_l, Wp.cmul_r, Wp.cpow_lit, Wp.size_le, Wp.size_lt, Wp.atI_0, Wp.atI_1, Wp.atI_2, Wp.atI_3, Wp.atI_4, Wp.atI_5, Wp.atI_6, Wp.ixN_0, Wp.ixN_1, Wp.ixN_2, Wp.itemsT, Wp.tyT, reduceIte, Wp.wFld, Wp.wFSet, Wp.wFAug, Wp.wMeth, Wp.wMake, Wp.rIxA, Wp.rInA, Wp.rSetA, Wp.ixA, Wp.inA, Wp.setA, Wp.lenA, Wp.getD, Option.map_some, Option.bind_some, Option.getD_some,  Wp.gIxA, Wp.wDNew, Wp.wDNewT, Wp.rLenA, Wp.rSortD, Wp.rMaxL, Wp.rPopL, Wp.rGet1, Wp.rGet2, Wp.wGet1, Wp.wGet2, Wp.wPop1, Wp.wPop2, Wp.wDel, Wp.isDT, Wp.keyT, Wp.keysT, Wp.keysL, Wp.ex_ins, Wp.ex_dct, Wp.wIf, Wp.rGt, Wp.wTry, Wp.wMethX, Wp.wCallX, Wp.wRaise, Wp.rAddI, Int.cast_ofNat_Int, Int.reduceBEq, lk_Reader_row, pt_Reader_row, lk_Reader_place, pt_Reader_place, no_Reader_byte, no_Reader_inner, no_Reader_is_done, no_Reader_number, no_Reader_part, no_Reader_value, no_Reader_word, ln_Reader, mk_Reader, Wp.rMulB, *])
local macro_rules | `(tactic| walk_at "r2") => `(tactic| repeat (first | walk_at "wq" | walk_at "go"))
local macro_rules | `(tactic| walk_at "w0") => `(tactic| simp (disch := omega) only [Wp.wSeq, Wp.wNext, Wp.wSet, Wp.wVar, Wp.wC, Wp.wOp, Wp.wRet, Wp.wIfS, Wp.wTest, Wp.wCall, Wp.wCons, Wp.wNil, Wp.wTup, Wp.wLst, Wp.wAsg, Wp.gTp, Wp.gC, Wp.gNm, Wp.gN0, Wp.gIx, Wp.rSet, Wp.rAdd, Wp.rMul, Wp.rMod, Wp.rSub, Wp.rFdiv, Wp.rPow, Wp.rInt, Wp.rIx, Wp.rLt, Wp.rLe, Wp.rCmp, Wp.rGeI, Wp.rGtI, Wp.wCB, Wp.rLen, Wp.rLen1, Wp.rInt1, Wp.rMax2, Wp.rMin2, Wp.rTupOf, Wp.rListOf,
  Wp.wIsi, Wp.rBIs, Wp.rIsN, Wp.isNon, Wp.wMt, Wp.rAppendT, Wp.rExtendT, Wp.rReverseT, Wp.wNot, Wp.wOr, Wp.wAnd, Wp.wAndV, Wp.wOrV, Wp.wNotV, Wp.wFor, Wp.iRg1, Wp.iRg2, Wp.iAnyW, Wp.wAll, Wp.wChain, Wp.wSl, Wp.wNoPart, Wp.wPart, Wp.rSl, Wp.wNeg, Wp.rNeg, Wp.wLc, Wp.wYes, Wp.wDrop, Wp.wipeT, Wp.wAug, List.map, List.set_cons_zero, List.set_cons_succ, List.getElem?_cons_zero, List.getElem?_cons_succ, List.length_cons, List.length_nil, List.cons_append, List.nil_append, List.replicate, Wp.startT,
  true_and, and_true, Wp.wif_true, Wp.wif_false, Wp.ex_some, Wp.ex_some1, Wp.ex_eq, Wp.ex_lst, Wp.ex_lst0, Wp.rEq_int, Bool.false_bne, Bool.true_bne, Int.reduceLT, Int.reduceLE, Int.reduceAdd, Nat.reduceAdd, Nat.reduceSub, eq_self, ite_true, ite_false, beq_self_eq_true, Bool.not_true, Bool.not_false, Wp.isB_0, Wp.isB_1, Wp.isB_2, Wp.isB_3, Wp.isB_4, Wp.isB_5, Wp.isB_6, Wp.isB_7, Wp.isB_8, Wp.isB_9, Wp.isB_10, Wp.isB_11, Wp.isB_12, Wp.isB_13, Wp.isB_14, Wp.isB_15, Wp.isB_16, Wp.isB_17, Wp.isB_18, Wp.isB_19, Wp.isB_20, Wp.isB_21, Wp.isB_22, Wp.isB_23, Wp.isB_24, Wp.isB_25, Wp.isB_26, Wp.isB_27, Wp.isB_28, Wp.isB_29, Wp.isB_30, Wp.isB_31, Wp.isB_32, Wp.isB_33, Wp.isB_34, Wp.isB_35, Wp.cmul_l, Wp.cmul_r, Wp.cpow_lit, Wp.size_le, Wp.size_lt, Wp.atI_0, Wp.atI_1, Wp.atI_2, Wp.atI_3, Wp.atI_4, Wp.atI_5, Wp.atI_6, Wp.ixN_0, Wp.ixN_1, Wp.ixN_2, Wp.itemsT, Wp.tyT, reduceIte, Wp.wFld, Wp.wFSet, Wp.wFAug, Wp.wMeth, Wp.wMake, Wp.rIxA, Wp.rInA, Wp.rSetA, Wp.ixA, Wp.inA, Wp.setA, Wp.lenA, Wp.getD, Option.map_some, Option.bind_some, Option.getD_some,  Wp.gIxA, Wp.wDNew, Wp.wDNewT, Wp.rLenA, Wp.rSortD, Wp.rMaxL, Wp.rPopL, Wp.rGet1, Wp.rGet2, Wp.wGet1, Wp.wGet2, Wp.wPop1, Wp.wPop2, Wp.wDel, Wp.isDT, Wp.keyT, Wp.keysT, Wp.keysL, Wp.ex_ins, Wp.ex_dct, Wp.wIf, Wp.rGt, Wp.wTry, Wp.wMethX, Wp.wCallX, Wp.wRaise, Wp.rAddI, Int.cast_ofNat_Int, Int.reduceBEq, lk_Reader_row, pt_Reader_row, lk_Reader_place, pt_Reader_place, no_Reader_byte, no_Reader_inner, no_Reader_is_done, no_Reader_number, no_Reader_part, no_Reader_value, no_Reader_word, ln_Reader, mk_Reader, Wp.rMulB])
local macro_rules | `(tactic| walk_at "r0") => `(tactic| repeat (first | walk_at "w0" | walk_at "go"))
def rdItems (f : List Int → Option (T × List Int)) : Nat → List Int → Option (List T × List Int)
  | 0, L => some ([], L)
  | n + 1, L => match f L with
    | none => none
    | some (v, r) => match rdItems f n r with
      | none => none
      | some (vs, q) => some (v :: vs, q)
def rdFlat (g : List Int → Option (T × List Int)) : List Int → Option (T × List Int)
  | [] => none
  | b :: L => if b = 0 then some (.non, L) else if b = 1 then (match rdNum L with | none => none | some (n, r) => some (.int (n : Int), r)) else if b = 2 then rdWord L else if b = 3 then g L else none
def rdTup (f : List Int → Option (T × List Int)) (L : List Int) : Option (T × List Int) := match rdNum L with
  | none => none
  | some (n, r) => match rdItems f n r with
    | none => none
    | some (vs, q) => some (.tup vs, q)
def rdVal : Nat → List Int → Option (T × List Int)
  | 0 => rdFlat fun _ => none
  | e + 1 => rdFlat (rdTup (rdVal e))
def RdOk (e : Nat) (f : List Int → Option (T × List Int)) : Prop := ∀ L v r, Byt L → L.length ≤ 9000 → f L = some (v, r) → Vl e v ∧ L = parts v ++ r ∧ Byt r
theorem parts_pos {d : Nat} {v : T} (h : Vl d v) : 0 < (parts v).length := by cases h <;> (rw [parts]; simp)
theorem rdItems_ok {e : Nat} {f : List Int → Option (T × List Int)} (hf : RdOk e f) : ∀ (n : Nat) (L : List Int) (vs : List T) (r : List Int), Byt L → L.length ≤ 9000 → rdItems f n L = some (vs, r) → vs.length = n ∧ vs.length ≤ L.length ∧ (∀ t ∈ vs, Vl e t) ∧ L = partsL vs ++ r ∧ Byt r
  | 0, L, vs, r, hb, hl, h => by
    obtain ⟨e1, e2⟩ := Prod.mk.inj (Option.some.inj h)
    subst e1 e2
    exact ⟨rfl, Nat.zero_le _, fun t ht => (by cases ht), rfl, hb⟩
  | n + 1, L, vs, r, hb, hl, h => by
    rw [rdItems] at h
    split at h
    · cases h
    · rename_i v q eq
      obtain ⟨a1, a2, a3⟩ := hf L v q hb hl eq
      have pp := parts_pos a1
      have hq : q.length + (parts v).length = L.length := by rw [a2, List.length_append]; omega
      split at h
      · cases h
      · rename_i ws s es
        obtain ⟨e1, e2⟩ := Prod.mk.inj (Option.some.inj h)
        obtain ⟨b1, b2, b3, b4, b5⟩ := rdItems_ok hf n q ws s a3 (by omega) es
        subst e1 e2
        refine ⟨by rw [List.length_cons, b1], by rw [List.length_cons]; omega, fun t ht => ?_, ?_, b5⟩
        · rcases List.mem_cons.mp ht with rfl | ht
          · exact a1
          · exact b3 t ht
        · rw [partsL, List.append_assoc, ← b4, ← a2]
theorem rdFlat_ok {e : Nat} {g : List Int → Option (T × List Int)} (hg : ∀ L v r, Byt L → L.length ≤ 9000 → g L = some (v, r) → Vl e v ∧ 3 :: L = parts v ++ r ∧ Byt r) : RdOk e (rdFlat g) := by
  intro L v r hb hl h
  cases L with
  | nil => cases h
  | cons b L =>
    rw [List.length_cons] at hl
    rw [rdFlat] at h
    by_cases h0 : b = 0
    · rw [if_pos h0] at h
      obtain ⟨e1, e2⟩ := Prod.mk.inj (Option.some.inj h)
      subst e1 e2 h0
      exact ⟨.non e, rfl, hb.tail⟩
    rw [if_neg h0] at h
    by_cases h1 : b = 1
    · rw [if_pos h1] at h
      split at h
      · cases h
      · rename_i n q eq
        obtain ⟨e1, e2⟩ := Prod.mk.inj (Option.some.inj h)
        obtain ⟨a1, a2, a3⟩ := rdNum_nb hb.tail eq
        subst e1 e2 h1
        refine ⟨.int e _ (by omega) a1, ?_, a3⟩
        rw [parts, Int.toNat_natCast, List.cons_append, ← a2]
    rw [if_neg h1] at h
    by_cases h2 : b = 2
    · rw [if_pos h2] at h
      subst h2
      exact rdWord_parts hb.tail h
    rw [if_neg h2] at h
    by_cases h3 : b = 3
    · rw [if_pos h3] at h
      subst h3
      exact hg L v r hb.tail (by omega) h
    rw [if_neg h3] at h
    cases h
theorem rdTup_ok {e : Nat} {f : List Int → Option (T × List Int)} (hf : RdOk e f) : ∀ L v r, Byt L → L.length ≤ 9000 → rdTup f L = some (v, r) → Vl (e + 1) v ∧ 3 :: L = parts v ++ r ∧ Byt r := by
  intro L v r hb hl h
  rw [rdTup] at h
  split at h
  · cases h
  · rename_i n q eq
    obtain ⟨a1, a2, a3⟩ := rdNum_nb hb eq
    have hq : q.length ≤ L.length := by rw [a2, List.length_append]; omega
    split at h
    · cases h
    · rename_i ws s es
      obtain ⟨e1, e2⟩ := Prod.mk.inj (Option.some.inj h)
      obtain ⟨b1, b2, b3, b4, b5⟩ := rdItems_ok hf n q ws s a3 (by omega) es
      subst e1 e2
      refine ⟨.tup e ws (by omega) b3, ?_, b5⟩
      rw [parts, b1, List.cons_append, List.append_assoc, ← b4, ← a2]
theorem rdVal_ok : ∀ e : Nat, RdOk e (rdVal e)
  | 0 => rdFlat_ok fun L v r _ _ h => by cases h
  | e + 1 => rdFlat_ok (rdTup_ok (rdVal_ok e))
end My

set_option Elab.async false
set_option linter.all false
set_option maxRecDepth 100000
set_option maxHeartbeats 8000000
namespace My
open PySem PySem.Spec PyProof.Rows L2 Wp Gn
local macro_rules | `(tactic| walk_at "go") => `(tactic| (with_reducible refine goS_i ?_))
local macro_rules | `(tactic| walk_at "wp") => `(tactic| simp (disch := omega) only [Wp.wSeq, Wp.wNext, Wp.wSet, Wp.wVar, Wp.wC, Wp.wOp, Wp.wRet, Wp.wIfS, Wp.wTest, Wp.wCall, Wp.wCons, Wp.wNil, Wp.wTup, Wp.wLst, Wp.wAsg, Wp.gTp, Wp.gC, Wp.gNm, Wp.gN0, Wp.gIx, Wp.rSet, Wp.rAdd, Wp.rMul, Wp.rMod, Wp.rSub, Wp.rFdiv, Wp.rPow, Wp.rInt, Wp.rIx, Wp.rLt, Wp.rLe, Wp.rCmp, Wp.rGeI, Wp.rGtI, Wp.wCB, Wp.rLen, Wp.rLen1, Wp.rInt1, Wp.rMax2, Wp.rMin2, Wp.rTupOf, Wp.rListOf,
  Wp.wIsi, Wp.rBIs, Wp.rIsN, Wp.isNon, Wp.wMt, Wp.rAppendT, Wp.rExtendT, Wp.rReverseT, Wp.wNot, Wp.wOr, Wp.wAnd, Wp.wAndV, Wp.wOrV, Wp.wNotV, Wp.wFor, Wp.iRg1, Wp.iRg2, Wp.iAnyW, Wp.wAll, Wp.wChain, Wp.wSl, Wp.wNoPart, Wp.wPart, Wp.rSl, Wp.wNeg, Wp.rNeg, Wp.wLc, Wp.wYes, Wp.wDrop, Wp.wipeT, Wp.wAug, List.map, List.set_cons_zero, List.set_cons_succ, List.getElem?_cons_zero, List.getElem?_cons_succ, List.length_cons, List.length_nil, List.cons_append, List.nil_append, List.replicate, Wp.startT,
  true_and, and_true, Wp.wif_true, Wp.wif_false, Wp.ex_some, Wp.ex_some1, Wp.ex_eq, Wp.ex_lst, Wp.ex_lst0, Wp.rEq_int, Bool.false_bne, Bool.true_bne, Int.reduceLT, Int.reduceLE, Int.reduceAdd, Nat.reduceAdd, Nat.reduceSub, eq_self, ite_true, ite_false, beq_self_eq_true, Bool.not_true, Bool.not_false, Wp.isB_0, Wp.isB_1, Wp.isB_2, Wp.isB_3, Wp.isB_4, Wp.isB_5, Wp.isB_6, Wp.isB_7, Wp.isB_8, Wp.isB_9, Wp.isB_10, Wp.isB_11, Wp.isB_12, Wp.isB_13, Wp.isB_14, Wp.isB_15, Wp.isB_16, Wp.isB_17, Wp.isB_18, Wp.isB_19, Wp.isB_20, Wp.isB_21, Wp.isB_22, Wp.isB_23, Wp.isB_24, Wp.isB_25, Wp.isB_26, Wp.isB_27, Wp.isB_28, Wp.isB_29, Wp.isB_30, Wp.isB_31, Wp.isB_32, Wp.isB_33, Wp.isB_34, Wp.isB_35, Wp.cmul_l, Wp.cmul_r, Wp.cpow_lit, Wp.size_le, Wp.size_lt, Wp.atI_0, Wp.atI_1, Wp.atI_2, Wp.atI_3, Wp.atI_4, Wp.atI_5, Wp.atI_6, Wp.ixN_0, Wp.ixN_1, Wp.ixN_2, Wp.itemsT, Wp.tyT, reduceIte, Wp.wFld, Wp.wFSet, Wp.wFAug, Wp.wMeth, Wp.wMake, Wp.rIxA, Wp.rInA, Wp.rSetA, Wp.ixA, Wp.inA, Wp.setA, Wp.lenA, Wp.getD, Option.map_some, Option.bind_some, Option.getD_some,  Wp.gIxA, Wp.wDNew, Wp.wDNewT, Wp.rLenA, Wp.rSortD, Wp.rMaxL, Wp.rPopL, Wp.rGet1, Wp.rGet2, Wp.wGet1, Wp.wGet2, Wp.wPop1, Wp.wPop2, Wp.wDel, Wp.isDT, Wp.keyT, Wp.keysT, Wp.keysL, Wp.ex_ins, Wp.ex_dct, Wp.wIf, Wp.rGt, Wp.wTry, Wp.wMethX, Wp.wCallX, Wp.wRaise, Wp.rAddI, Int.cast_ofNat_Int, Int.reduceBEq, lk_Reader_row, pt_Reader_row, lk_Reader_place, pt_Reader_place, no_Reader_byte, no_Reader_inner, no_Reader_is_done, no_Reader_number, no_Reader_part, no_Reader_value, no_Reader_word, ln_Reader, mk_Reader, Wp.rMulB, Wp.upS, Wp.upS_upS, *])
local macro_rules | `(tactic| walk_at "run") => `(tactic| repeat (first | walk_at "wp" | walk_at "go"))
local macro_rules | `(tactic| walk_at "wq") => `(tactic| simp (disch := omega) only [Wp.wSeq, Wp.wNext, Wp.wSet, Wp.wVar, Wp.wC, Wp.wOp, Wp.wRet, Wp.wIfS, Wp.wTest, Wp.wCall, Wp.wCons, Wp.wNil, Wp.wTup, Wp.wLst, Wp.wAsg, Wp.gTp, Wp.gC, Wp.gNm, Wp.gN0, Wp.gIx, Wp.rSet, Wp.rAdd, Wp.rMul, Wp.rMod, Wp.rSub, Wp.rFdiv, Wp.rPow, Wp.rInt, Wp.rIx, Wp.rLt, Wp.rLe, Wp.rCmp, Wp.rGeI, Wp.rGtI, Wp.wCB, Wp.rLen, Wp.rLen1, Wp.rInt1, Wp.rMax2, Wp.rMin2, Wp.rTupOf, Wp.rListOf,
  Wp.wIsi, Wp.rBIs, Wp.rIsN, Wp.isNon, Wp.wMt, Wp.rAppendT, Wp.rExtendT, Wp.rReverseT, Wp.wNot, Wp.wOr, Wp.wAnd, Wp.wAndV, Wp.wOrV, Wp.wNotV, Wp.wFor, Wp.iRg1, Wp.iRg2, Wp.iAnyW, Wp.wAll, Wp.wChain, Wp.wSl, Wp.wNoPart, Wp.wPart, Wp.rSl, Wp.wNeg, Wp.rNeg, Wp.wLc, Wp.wYes, Wp.wDrop, Wp.wipeT, Wp.wAug, List.map, List.set_cons_zero, List.set_cons_succ, List.getElem?_cons_zero, List.getElem?_cons_succ, List.length_cons, List.length_nil, List.cons_append, List.nil_append, List.replicate, Wp.startT,
  true_and, and_true, Wp.wif_true, Wp.wif_false, Wp.ex_some, Wp.ex_some1, Wp.ex_eq, Wp.ex_lst, Wp.ex_lst0, Wp.rEq_int, Bool.false_bne, Bool.true_bne, Int.reduceLT, Int.reduceLE, Int.reduceAdd, Nat.reduceAdd, Nat.reduceSub, eq_self, ite_true, ite_false, beq_self_eq_true, Bool.not_true, Bool.not_false, Wp.isB_0, Wp.isB_1, Wp.isB_2, Wp.isB_3, Wp.isB_4, Wp.isB_5, Wp.isB_6, Wp.isB_7, Wp.isB_8, Wp.isB_9, Wp.isB_10, Wp.isB_11, Wp.isB_12, Wp.isB_13, Wp.isB_14, Wp.isB_15, Wp.isB_16, Wp.isB_17, Wp.isB_18, Wp.isB_19, Wp.isB_20, Wp.isB_21, Wp.isB_22, Wp.isB_23, Wp.isB_24, Wp.isB_25, Wp.isB_26, Wp.isB_27, Wp.isB_28, Wp.isB_29, Wp.isB_30, Wp.isB_31, Wp.isB_32, Wp.isB_33, Wp.isB_34, Wp.isB_35, Wp.cmul_l, Wp.cmul_r, Wp.cpow_lit, Wp.size_le, Wp.size_lt, Wp.atI_0, Wp.atI_1, Wp.atI_2, Wp.atI_3, Wp.atI_4, Wp.atI_5, Wp.atI_6, Wp.ixN_0, Wp.ixN_1, Wp.ixN_2, Wp.itemsT, Wp.tyT, reduceIte, Wp.wFld, Wp.wFSet, Wp.wFAug, Wp.wMeth, Wp.wMake, Wp.rIxA, Wp.rInA, Wp.rSetA, Wp.ixA, Wp.inA, Wp.setA, Wp.lenA, Wp.getD, Option.map_some, Option.bind_some, Option.getD_some,  Wp.gIxA, Wp.wDNew, Wp.wDNewT, Wp.rLenA, Wp.rSortD, Wp.rMaxL, Wp.rPopL, Wp.rGet1, Wp.rGet2, Wp.wGet1, Wp.wGet2, Wp.wPop1, Wp.wPop2, Wp.wDel, Wp.isDT, Wp.keyT, Wp.keysT, Wp.keysL, Wp.ex_ins, Wp.ex_dct, Wp.wIf, Wp.rGt, Wp.wTry, Wp.wMethX, Wp.wCallX, Wp.wRaise, Wp.rAddI, Int.cast_ofNat_Int, Int.reduceBEq, lk_Reader_row, pt_Reader_row, lk_Reader_place, pt_Reader_place, no_Reader_byte, no_Reader_inner, no_Reader_is_done, no_Reader_number, no_Reader_part, no_Reader_value, no_Reader_word, ln_Reader, mk_Reader, Wp.rMulB, *])
local macro_rules | `(tactic| walk_at "r2") => `(tactic| repeat (first | walk_at "wq" | walk_at "go"))
local macro_rules | `(tactic| walk_at "w0") => `(tactic| simp (disch := omega) only [Wp.wSeq, Wp.wNext, Wp.wSet, Wp.wVar, Wp.wC, Wp.wOp, Wp.wRet, Wp.wIfS, Wp.wTest, Wp.wCall, Wp.wCons, Wp.wNil, Wp.wTup, Wp.wLst, Wp.wAsg, Wp.gTp, Wp.gC, Wp.gNm, Wp.gN0, Wp.gIx, Wp.rSet, Wp.rAdd, Wp.rMul, Wp.rMod, Wp.rSub, Wp.rFdiv, Wp.rPow, Wp.rInt, Wp.rIx, Wp.rLt, Wp.rLe, Wp.rCmp, Wp.rGeI, Wp.rGtI, Wp.wCB, Wp.rLen, Wp.rLen1, Wp.rInt1, Wp.rMax2, Wp.rMin2, Wp.rTupOf, Wp.rListOf,
  Wp.wIsi, Wp.rBIs, Wp.rIsN, Wp.isNon, Wp.wMt, Wp.rAppendT, Wp.rExtendT, Wp.rReverseT, Wp.wNot, Wp.wOr, Wp.wAnd, Wp.wAndV, Wp.wOrV, Wp.wNotV, Wp.wFor, Wp.iRg1, Wp.iRg2, Wp.iAnyW, Wp.wAll, Wp.wChain, Wp.wSl, Wp.wNoPart, Wp.wPart, Wp.rSl, Wp.wNeg, Wp.rNeg, Wp.wLc, Wp.wYes, Wp.wDrop, Wp.wipeT, Wp.wAug, List.map, List.set_cons_zero, List.set_cons_succ, List.getElem?_cons_zero, List.getElem?_cons_succ, List.length_cons, List.length_nil, List.cons_append, List.nil_append, List.replicate, Wp.startT,
  true_and, and_true, Wp.wif_true, Wp.wif_false, Wp.ex_some, Wp.ex_some1, Wp.ex_eq, Wp.ex_lst, Wp.ex_lst0, Wp.rEq_int, Bool.false_bne, Bool.true_bne, Int.reduceLT, Int.reduceLE, Int.reduceAdd, Nat.reduceAdd, Nat.reduceSub, eq_self, ite_true, ite_false, beq_self_eq_true, Bool.not_true, Bool.not_false, Wp.isB_0, Wp.isB_1, Wp.isB_2, Wp.isB_3, Wp.isB_4, Wp.isB_5, Wp.isB_6, Wp.isB_7, Wp.isB_8, Wp.isB_9, Wp.isB_10, Wp.isB_11, Wp.isB_12, Wp.isB_13, Wp.isB_14, Wp.isB_15, Wp.isB_16, Wp.isB_17, Wp.isB_18, Wp.isB_19, Wp.isB_20, Wp.isB_21, Wp.isB_22, Wp.isB_23, Wp.isB_24, Wp.isB_25, Wp.isB_26, Wp.isB_27, Wp.isB_28, Wp.isB_29, Wp.isB_30, Wp.isB_31, Wp.isB_32, Wp.isB_33, Wp.isB_34, Wp.isB_35, Wp.cmul_l, Wp.cmul_r, Wp.cpow_lit, Wp.size_le, Wp.size_lt, Wp.atI_0, Wp.atI_1, Wp.atI_2, Wp.atI_3, Wp.atI_4, Wp.atI_5, Wp.atI_6, Wp.ixN_0, Wp.ixN_1, Wp.ixN_2, Wp.itemsT, Wp.tyT, reduceIte, Wp.wFld, Wp.wFSet, Wp.wFAug, Wp.wMeth, Wp.wMake, Wp.rIxA, Wp.rInA, Wp.rSetA, Wp.ixA, Wp.inA, Wp.setA, Wp.lenA, Wp.getD, Option.map_some, Option.bind_some, Option.getD_some,  Wp.gIxA, Wp.wDNew, Wp.wDNewT, Wp.rLenA, Wp.rSortD, Wp.rMaxL, Wp.rPopL, Wp.rGet1, Wp.rGet2, Wp.wGet1, Wp.wGet2, Wp.wPop1, Wp.wPop2, Wp.wDel, Wp.isDT, Wp.keyT, Wp.keysT, Wp.keysL, Wp.ex_ins, Wp.ex_dct, Wp.wIf, Wp.rGt, Wp.wTry, Wp.wMethX, Wp.wCallX, Wp.wRaise, Wp.rAddI, Int.cast_ofNat_Int, Int.reduceBEq, lk_Reader_row, pt_Reader_row, lk_Reader_place, pt_Reader_place, no_Reader_byte, no_Reader_inner, no_Reader_is_done, no_Reader_number, no_Reader_part, no_Reader_value, no_Reader_word, ln_Reader, mk_Reader, Wp.rMulB])
local macro_rules | `(tactic| walk_at "r0") => `(tactic| repeat (first | walk_at "w0" | walk_at "go"))
variable {C CB : Addr}
/-! ### the program's reader over any row -/
def spGNum (C CB : Addr) : WSp := fun ts S Q E => match ts with
  | [.ref a] => ∃ R p, RdA C S a R p ∧ Byt R ∧ (∀ n r, rdNum (R.drop p) = some (n, r) → ∀ S' p', Kp a S S' → RdA C S' a R p' → R.drop p' = r → Q (.int (n : Int)) S') ∧ (rdNum (R.drop p) = none → ∀ S', Kp a S S' → E CB S')
  | _ => False
theorem drop_at {R : List Int} {p : Nat} {b : Int} (h : R[p]? = some b) : R.drop p = b :: R.drop (p + 1) := by
  obtain ⟨l, e⟩ := List.getElem?_eq_some_iff.mp h
  rw [List.drop_eq_getElem_cons l, e]
theorem hw_gnum : ∀ ts S Q E, ts.length = 1 → spGNum C CB ts S Q E → b_Reader_number C CB (spRPart C CB) (spRByte C CB) (fun C _ S' => E C S') { nx := fun _ S' => Q .non S', rt := Q } (Wp.startT N_Reader_number ts) S := by
  intro ts S Q E _ h
  match ts, h with
  | [.ref a], ⟨R, p, r0, hB, h1, h2⟩ =>
    unfold b_Reader_number N_Reader_number
    walk_at "r0"
    rw [insR r0]
    walk_at "r0"
    have kr : Kp a S S := fun _ _ e _ => e
    refine ⟨R, p, r0, fun b hb S1 k1 r1 => ?_, fun l => h2 (by rw [l, List.drop_length]; rfl) S kr⟩
    have b0 := hB b (List.mem_of_getElem? hb)
    obtain ⟨m, rfl⟩ : ∃ m : Nat, b = (m : Int) := ⟨b.toNat, (Int.toNat_of_nonneg b0.1).symm⟩
    rw [drop_at hb, rdNum, Int.toNat_natCast] at h1 h2
    have ll : (R.drop (p + 1)).length = R.length - (p + 1) := List.length_drop ..
    have lp := (List.getElem?_eq_some_iff.mp hb).1
    refine ⟨R, p + 1, m, r1, rfl, fun l S2 k2 r2 => ?_, fun l => h2 (if_neg fun z => by have := z.1; omega) S1 k1⟩
    have k12 := k1.trans k2
    have hm : m ≤ (R.drop (p + 1)).length := by omega
    have h1 : ((R.drop (p + 1)).take m).head? ≠ some 0 → numI 0 ((R.drop (p + 1)).take m) ≤ 4294967295 → Q (.int (numI 0 ((R.drop (p + 1)).take m))) S2 := fun z1 z2 => by
      have := h1 _ _ (if_pos ⟨hm, z1, z2⟩) S2 (p + 1 + m) k12 r2 (by rw [List.drop_drop])
      have nn := (digs_num _ ((R.drop (p + 1)).take m) rfl ((Byt.drop hB _).take _) z1).1
      rwa [Int.toNat_of_nonneg nn] at this
    have h2 : ¬ (((R.drop (p + 1)).take m).head? ≠ some 0 ∧ numI 0 ((R.drop (p + 1)).take m) ≤ 4294967295) → E CB S2 := fun z => h2 (if_neg fun y => z y.2) S2 k12
    generalize (R.drop (p + 1)).take m = ds at h1 h2 ⊢
    have fin : ds.head? ≠ some 0 → goS (wSeq (wSet 2 (wC (.int 0))) (wSeq (wFor (iAnyW (wVar 1)) (gNm 3) (l1_Reader_number C CB (spRPart C CB) (spRByte C CB) (fun C _ S' => E C S'))) (wSeq (wIfS (wTest (wOp rGt (wVar 2) (wC (.int 4294967295)))) (wRaise (fun C _ S' => E C S') CB) wNext) (wRet (wVar 2)))) { nx := fun _ S' => Q .non S', rt := Q }) [some (.ref a), some (.tup (ds.map T.int)), none, none] S2 := fun hh => by
      walk_at "r0"
      refine num_loop ds 0 _ fun v3 => ?_
      walk_at "r0"
      refine if_dec (fun z => ?_) (fun z => ?_)
      · exact h2 fun y => by have := y.2; omega
      · walk_at "r0"
        exact h1 hh (by omega)
    generalize hR : (wSeq (wSet 2 (wC (.int 0))) (wSeq (wFor (iAnyW (wVar 1)) (gNm 3) (l1_Reader_number C CB (spRPart C CB) (spRByte C CB) (fun C _ S' => E C S'))) (wSeq (wIfS (wTest (wOp rGt (wVar 2) (wC (.int 4294967295)))) (wRaise (fun C _ S' => E C S') CB) wNext) (wRet (wVar 2)))) { nx := fun _ S' => Q .non S', rt := Q }) = RR at fin
    have tst : Wp.rEq false (.tup ((ds.take 1).map T.int)) (.tup [.int 0]) S2 fun x S3 => match x with | .bl c => wif c (E CB S3) (goS RR [some (.ref a), some (.tup (ds.map T.int)), none, none] S3) | _ => False := by
      cases ds with
      | nil => exact ⟨.tuple [], rfl, .tuple [.int 0], rfl, by decide, by decide, wif_f (fin fun z => by cases z)⟩
      | cons b r =>
        refine ⟨.tuple [.int b], rfl, .tuple [.int 0], rfl, rfl, by decide, ?_⟩
        by_cases nb0 : b = 0
        · have : PyData.eqv (.tuple [.int b]) (.tuple [.int 0]) = true := by
            simp [PyData.eqv, PyData.eqvAll, nb0]
          rw [this]
          exact wif_t (h2 fun y => y.1 (by rw [nb0]; rfl))
        · have : PyData.eqv (.tuple [.int b]) (.tuple [.int 0]) = false := by
            simp [PyData.eqv, PyData.eqvAll, nb0]
          rw [this]
          exact wif_f (fin fun z => nb0 (by simpa using z))
    refine goS_i ?_
    show wIfS (wTest (wOp (Wp.rEq false) (wSl (wVar 1) wNoPart (wPart (wC (.int 1)))) (wTup (wCons (wC (.int 0)) wNil)))) (wRaise (fun C _ S' => E C S') CB) wNext { nx := wSeq (wSet 2 (wC (.int 0))) (wSeq (wFor (iAnyW (wVar 1)) (gNm 3) (l1_Reader_number C CB (spRPart C CB) (spRByte C CB) (fun C _ S' => E C S'))) (wSeq (wIfS (wTest (wOp rGt (wVar 2) (wC (.int 4294967295)))) (wRaise (fun C _ S' => E C S') CB) wNext) (wRet (wVar 2)))) { nx := fun _ S' => Q .non S', rt := Q }, rt := Q } [some (.ref a), some (.tup (ds.map T.int)), none, none] S2
    rw [hR]
    walk_at "r0"
    rw [show cutT (ds.map T.int) none (some 1) = (ds.take 1).map T.int by
      show cutT (ds.map T.int) none (some ((1 : Nat) : Int)) = _
      rw [cutT_to, List.map_take]]
    exact tst
end My

set_option Elab.async false
set_option linter.all false
set_option maxRecDepth 100000
set_option maxHeartbeats 8000000
namespace My
open PySem PySem.Spec PyProof.Rows L2 Wp Gn
local macro_rules | `(tactic| walk_at "go") => `(tactic| (with_reducible refine goS_i ?_))
local macro_rules | `(tactic| walk_at "wp") => `(tactic| simp (disch := omega) only [Wp.wSeq, Wp.wNext, Wp.wSet, Wp.wVar, Wp.wC, Wp.wOp, Wp.wRet, Wp.wIfS, Wp.wTest, Wp.wCall, Wp.wCons, Wp.wNil, Wp.wTup, Wp.wLst, Wp.wAsg, Wp.gTp, Wp.gC, Wp.gNm, Wp.gN0, Wp.gIx, Wp.rSet, Wp.rAdd, Wp.rMul, Wp.rMod, Wp.rSub, Wp.rFdiv, Wp.rPow, Wp.rInt, Wp.rIx, Wp.rLt, Wp.rLe, Wp.rCmp, Wp.rGeI, Wp.rGtI, Wp.wCB, Wp.rLen, Wp.rLen1, Wp.rInt1, Wp.rMax2, Wp.rMin2, Wp.rTupOf, Wp.rListOf,
  Wp.wIsi, Wp.rBIs, Wp.rIsN, Wp.isNon, Wp.wMt, Wp.rAppendT, Wp.rExtendT, Wp.rReverseT, Wp.wNot, Wp.wOr, Wp.wAnd, Wp.wAndV, Wp.wOrV, Wp.wNotV, Wp.wFor, Wp.iRg1, Wp.iRg2, Wp.iAnyW, Wp.wAll, Wp.wChain, Wp.wSl, Wp.wNoPart, Wp.wPart, Wp.rSl, Wp.wNeg, Wp.rNeg, Wp.wLc, Wp.wYes, Wp.wDrop, Wp.wipeT, Wp.wAug, List.map, List.set_cons_zero, List.set_cons_succ, List.getElem?_cons_zero, List.getElem?_cons_succ, List.length_cons, List.length_nil, List.cons_append, List.nil_append, List.replicate, Wp.startT,
  true_and, and_true, Wp.wif_true, Wp.wif_false, Wp.ex_some, Wp.ex_some1, Wp.ex_eq, Wp.ex_lst, Wp.ex_lst0, Wp.rEq_int, Bool.false_bne, Bool.true_bne, Int.reduceLT, Int.reduceLE, Int.reduceAdd, Nat.reduceAdd, Nat.reduceSub, eq_self, ite_true, ite_false, beq_self_eq_true, Bool.not_true, Bool.not_false, Wp.isB_0, Wp.isB_1, Wp.isB_2, Wp.isB_3, Wp.isB_4, Wp.isB_5, Wp.isB_6, Wp.isB_7, Wp.isB_8, Wp.isB_9, Wp.isB_10, Wp.isB_11, Wp.isB_12, Wp.isB_13, Wp.isB_14, Wp.isB_15, Wp.isB_16, Wp.isB_17, Wp.isB_18, Wp.isB_19, Wp.isB_20, Wp.isB_21, Wp.isB_22, Wp.isB_23, Wp.isB_24, Wp.isB_25, Wp.isB_26, Wp.isB_27, Wp.isB_28, Wp.isB_29, Wp.isB_30, Wp.isB_31, Wp.isB_32, Wp.isB_33, Wp.isB_34, Wp.isB_35, Wp.cmul_l, Wp.cmul_r, Wp.cpow_lit, Wp.size_le, Wp.size_lt, Wp.atI_0, Wp.atI_1, Wp.atI_2, Wp.atI_3, Wp.atI_4, Wp.atI_5, Wp.atI_6, Wp.ixN_0, Wp.ixN_1, Wp.ixN_2, Wp.itemsT, Wp.tyT, reduceIte, Wp.wFld, Wp.wFSet, Wp.wFAug, Wp.wMeth, Wp.wMake, Wp.rIxA, Wp.rInA, Wp.rSetA, Wp.ixA, Wp.inA, Wp.setA, Wp.lenA, Wp.getD, Option.map_some, Option.bind_some, Option.getD_some,  Wp.gIxA, Wp.wDNew, Wp.wDNewT, Wp.rLenA, Wp.rSortD, Wp.rMaxL, Wp.rPopL, Wp.rGet1, Wp.rGet2, Wp.wGet1, Wp.wGet2, Wp.wPop1, Wp.wPop2, Wp.wDel, Wp.isDT, Wp.keyT, Wp.keysT, Wp.keysL, Wp.ex_ins, Wp.ex_dct, Wp.wIf, Wp.rGt, Wp.wTry, Wp.wMethX, Wp.wCallX, Wp.wRaise, Wp.rAddI, Int.cast_ofNat_Int, Int.reduceBEq, lk_Reader_row, pt_Reader_row, lk_Reader_place, pt_Reader_place, no_Reader_byte, no_Reader_inner, no_Reader_is_done, no_Reader_number, no_Reader_part, no_Reader_value, no_Reader_word, ln_Reader, mk_Reader, Wp.rMulB, Wp.upS, Wp.upS_upS, *])
local macro_rules | `(tactic| walk_at "run") => `(tactic| repeat (first | walk_at "wp" | walk_at "go"))
local macro_rules | `(tactic| walk_at "wq") => `(tactic| simp (disch := omega) only [Wp.wSeq, Wp.wNext, Wp.wSet, Wp.wVar, Wp.wC, Wp.wOp, Wp.wRet, Wp.wIfS, Wp.wTest, Wp.wCall, Wp.wCons, Wp.wNil, Wp.wTup, Wp.wLst, Wp.wAsg, Wp.gTp, Wp.gC, Wp.gNm, Wp.gN0, Wp.gIx, Wp.rSet, Wp.rAdd, Wp.rMul, Wp.rMod, Wp.rSub, Wp.rFdiv, Wp.rPow, Wp.rInt, Wp.rIx, Wp.rLt, Wp.rLe, Wp.rCmp, Wp.rGeI, Wp.rGtI, Wp.wCB, Wp.rLen, Wp.rLen1, Wp.rInt1, Wp.rMax2, Wp.rMin2, Wp.rTupOf, Wp.rListOf,
  Wp.wIsi, Wp.rBIs, Wp.rIsN, Wp.isNon, Wp.wMt, Wp.rAppendT, Wp.rExtendT, Wp.rReverseT, Wp.wNot, Wp.wOr, Wp.wAnd, Wp.wAndV, Wp.wOrV, Wp.wNotV, Wp.wFor, Wp.iRg1, Wp.iRg2, Wp.iAnyW, Wp.wAll, Wp.wChain, Wp.wSl, Wp.wNoPart, Wp.wPart, Wp.rSl, Wp.wNeg, Wp.rNeg, Wp.wLc, Wp.wYes, Wp.wDrop, Wp.wipeT, Wp.wAug, List.map, List.set_cons_zero, List.set_cons_succ, List.getElem?_cons_zero, List.getElem?_cons_succ, List.length_cons, List.length_nil, List.cons_append, List.nil_append, List.replicate, Wp.startT,
  true_and, and_true, Wp.wif_true, Wp.wif_false, Wp.ex_some, Wp.ex_some1, Wp.ex_eq, Wp.ex_lst, Wp.ex_lst0, Wp.rEq_int, Bool.false_bne, Bool.true_bne, Int.reduceLT, Int.reduceLE, Int.reduceAdd, Nat.reduceAdd, Nat.reduceSub, eq_self, ite_true, ite_false, beq_self_eq_true, Bool.not_true, Bool.not_false, Wp.isB_0, Wp.isB_1, Wp.isB_2, Wp.isB_3, Wp.isB_4, Wp.isB_5, Wp.isB_6, Wp.isB_7, Wp.isB_8, Wp.isB_9, Wp.isB_10, Wp.isB_11, Wp.isB_12, Wp.isB_13, Wp.isB_14, Wp.isB_15, Wp.isB_16, Wp.isB_17, Wp.isB_18, Wp.isB_19, Wp.isB_20, Wp.isB_21, Wp.isB_22, Wp.isB_23, Wp.isB_24, Wp.isB_25, Wp.isB_26, Wp.isB_27, Wp.isB_28, Wp.isB_29, Wp.isB_30, Wp.isB_31, Wp.isB_32, Wp.isB_33, Wp.isB_34, Wp.isB_35, Wp.cmul_l, Wp.cmul_r, Wp.cpow_lit, Wp.size_le, Wp.size_lt, Wp.atI_0, Wp.atI_1, Wp.atI_2, Wp.atI_3, Wp.atI_4, Wp.atI_5, Wp.atI_6, Wp.ixN_0, Wp.ixN_1, Wp.ixN_2, Wp.itemsT, Wp.tyT, reduceIte, Wp.wFld, Wp.wFSet, Wp.wFAug, Wp.wMeth, Wp.wMake, Wp.rIxA, Wp.rInA, Wp.rSetA, Wp.ixA, Wp.inA, Wp.setA, Wp.lenA, Wp.getD, Option.map_some, Option.bind_some, Option.getD_some,  Wp.gIxA, Wp.wDNew, Wp.wDNewT, Wp.rLenA, Wp.rSortD, Wp.rMaxL, Wp.rPopL, Wp.rGet1, Wp.rGet2, Wp.wGet1, Wp.wGet2, Wp.wPop1, Wp.wPop2, Wp.wDel, Wp.isDT, Wp.keyT, Wp.keysT, Wp.keysL, Wp.ex_ins, Wp.ex_dct, Wp.wIf, Wp.rGt, Wp.wTry, Wp.wMethX, Wp.wCallX, Wp.wRaise, Wp.rAddI, Int.cast_ofNat_Int, Int.reduceBEq, lk_Reader_row, pt_Reader_row, lk_Reader_place, pt_Reader_place, no_Reader_byte, no_Reader_inner, no_Reader_is_done, no_Reader_number, no_Reader_part, no_Reader_value, no_Reader_word, ln_Reader, mk_Reader, Wp.rMulB, *])
local macro_rules | `(tactic| walk_at "r2") => `(tactic| repeat (first | walk_at "wq" | walk_at "go"))
local macro_rules | `(tactic| walk_at "w0") => `(tactic| simp (disch := omega) only [Wp.wSeq, Wp.wNext, Wp.wSet, Wp.wVar, Wp.wC, Wp.wOp, Wp.wRet, Wp.wIfS, Wp.wTest, Wp.wCall, Wp.wCons, Wp.wNil, Wp.wTup, Wp.wLst, Wp.wAsg, Wp.gTp, Wp.gC, Wp.gNm, Wp.gN0, Wp.gIx, Wp.rSet, Wp.rAdd, Wp.rMul, Wp.rMod, Wp.rSub, Wp.rFdiv, Wp.rPow, Wp.rInt, Wp.rIx, Wp.rLt, Wp.rLe, Wp.rCmp, Wp.rGeI, Wp.rGtI, Wp.wCB, Wp.rLen, Wp.rLen1, Wp.rInt1, Wp.rMax2, Wp.rMin2, Wp.rTupOf, Wp.rListOf,
  Wp.wIsi, Wp.rBIs, Wp.rIsN, Wp.isNon, Wp.wMt, Wp.rAppendT, Wp.rExtendT, Wp.rReverseT, Wp.wNot, Wp.wOr, Wp.wAnd, Wp.wAndV, Wp.wOrV, Wp.wNotV, Wp.wFor, Wp.iRg1, Wp.iRg2, Wp.iAnyW, Wp.wAll, Wp.wChain, Wp.wSl, Wp.wNoPart, Wp.wPart, Wp.rSl, Wp.wNeg, Wp.rNeg, Wp.wLc, Wp.wYes, Wp.wDrop, Wp.wipeT, Wp.wAug, List.map, List.set_cons_zero, List.set_cons_succ, List.getElem?_cons_zero, List.getElem?_cons_succ, List.length_cons, List.length_nil, List.cons_append, List.nil_append, List.replicate, Wp.startT,
  true_and, and_true, Wp.wif_true, Wp.wif_false, Wp.ex_some, Wp.ex_some1, Wp.ex_eq, Wp.ex_lst, Wp.ex_lst0, Wp.rEq_int, Bool.false_bne, Bool.true_bne, Int.reduceLT, Int.reduceLE, Int.reduceAdd, Nat.reduceAdd, Nat.reduceSub, eq_self, ite_true, ite_false, beq_self_eq_true, Bool.not_true, Bool.not_false, Wp.isB_0, Wp.isB_1, Wp.isB_2, Wp.isB_3, Wp.isB_4, Wp.isB_5, Wp.isB_6, Wp.isB_7, Wp.isB_8, Wp.isB_9, Wp.isB_10, Wp.isB_11, Wp.isB_12, Wp.isB_13, Wp.isB_14, Wp.isB_15, Wp.isB_16, Wp.isB_17, Wp.isB_18, Wp.isB_19, Wp.isB_20, Wp.isB_21, Wp.isB_22, Wp.isB_23, Wp.isB_24, Wp.isB_25, Wp.isB_26, Wp.isB_27, Wp.isB_28, Wp.isB_29, Wp.isB_30, Wp.isB_31, Wp.isB_32, Wp.isB_33, Wp.isB_34, Wp.isB_35, Wp.cmul_l, Wp.cmul_r, Wp.cpow_lit, Wp.size_le, Wp.size_lt, Wp.atI_0, Wp.atI_1, Wp.atI_2, Wp.atI_3, Wp.atI_4, Wp.atI_5, Wp.atI_6, Wp.ixN_0, Wp.ixN_1, Wp.ixN_2, Wp.itemsT, Wp.tyT, reduceIte, Wp.wFld, Wp.wFSet, Wp.wFAug, Wp.wMeth, Wp.wMake, Wp.rIxA, Wp.rInA, Wp.rSetA, Wp.ixA, Wp.inA, Wp.setA, Wp.lenA, Wp.getD, Option.map_some, Option.bind_some, Option.getD_some,  Wp.gIxA, Wp.wDNew, Wp.wDNewT, Wp.rLenA, Wp.rSortD, Wp.rMaxL, Wp.rPopL, Wp.rGet1, Wp.rGet2, Wp.wGet1, Wp.wGet2, Wp.wPop1, Wp.wPop2, Wp.wDel, Wp.isDT, Wp.keyT, Wp.keysT, Wp.keysL, Wp.ex_ins, Wp.ex_dct, Wp.wIf, Wp.rGt, Wp.wTry, Wp.wMethX, Wp.wCallX, Wp.wRaise, Wp.rAddI, Int.cast_ofNat_Int, Int.reduceBEq, lk_Reader_row, pt_Reader_row, lk_Reader_place, pt_Reader_place, no_Reader_byte, no_Reader_inner, no_Reader_is_done, no_Reader_number, no_Reader_part, no_Reader_value, no_Reader_word, ln_Reader, mk_Reader, Wp.rMulB])
local macro_rules | `(tactic| walk_at "r0") => `(tactic| repeat (first | walk_at "w0" | walk_at "go"))
variable {C CB : Addr}
def GRd (C CB : Addr) (f : List Int → Option (T × List Int)) (a : Addr) (S : Sta) (Q : T → Sta → Prop) (E : Addr → Sta → Prop) : Prop :=
  ∃ R p, RdA C S a R p ∧ Byt R ∧ R.length ≤ 9000 ∧ (∀ v r, f (R.drop p) = some (v, r) → ∀ S' p', Kp a S S' → RdA C S' a R p' → R.drop p' = r → Q v S') ∧ (f (R.drop p) = none → ∀ S', Kp a S S' → E CB S')
def spGWord (C CB : Addr) : WSp := fun ts S Q E => match ts with
  | [.ref a] => GRd C CB rdWord a S Q E
  | _ => False
def spGVal (C CB : Addr) (e : Nat) : WSp := fun ts S Q E => match ts with
  | [.ref a, .int lv] => lv = (e : Int) ∧ GRd C CB (rdVal e) a S Q E
  | _ => False
def spGInner (C CB : Addr) (e : Nat) : WSp := fun ts S Q E => match ts with
  | [.ref a, .int lv] => lv = (e : Int) ∧ GRd C CB (rdTup (rdVal e)) a S Q E
  | _ => False
theorem hw_gval (e : Nat) (sIn : WSp) (hIn : ∀ k, e = k + 1 → sIn = spGInner C CB k) : ∀ ts S Q E, ts.length = 2 → spGVal C CB e ts S Q E → b_Reader_value C CB (spRByte C CB) (spGNum C CB) (spGWord C CB) sIn (fun C _ S' => E C S') { nx := fun _ S' => Q .non S', rt := Q } (Wp.startT N_Reader_value ts) S := by
  intro ts S Q E _ h
  match ts, h with
  | [.ref a, .int _], ⟨rfl, R, p, r0, hB, hl, h1, h2⟩ =>
    unfold b_Reader_value N_Reader_value
    walk_at "r0"
    rw [insR r0]
    walk_at "r0"
    have kr : Kp a S S := fun _ _ e _ => e
    refine ⟨R, p, r0, fun b hb S1 k1 r1 => ?_, fun l => h2 (by rw [l, List.drop_length]; cases e <;> rfl) S kr⟩
    rw [drop_at hb] at h1 h2
    have fl : ∃ g, rdVal e (b :: R.drop (p + 1)) = rdFlat g (b :: R.drop (p + 1)) ∧ (e = 0 → g = fun _ => none) ∧ ∀ k, e = k + 1 → g = rdTup (rdVal k) := by
      cases e with
      | zero => exact ⟨_, rfl, fun _ => rfl, fun k z => by cases z⟩
      | succ k =>
        have key : ∀ j, k + 1 = j + 1 → rdTup (rdVal k) = rdTup (rdVal j) := fun j z => congrArg (fun n => rdTup (rdVal n)) (Nat.succ.inj z)
        exact ⟨rdTup (rdVal k), rfl, fun z => absurd z (Nat.succ_ne_zero k), key⟩
    obtain ⟨g, eg, g0, gs⟩ := fl
    rw [eg, rdFlat] at h1 h2
    walk_at "r0"
    refine if_bool (fun z => ?_) (fun z0 => goS_i ?_)
    · exact h1 _ _ (if_pos (eq_of_beq z)) S1 (p + 1) k1 r1 rfl
    have z0 := beq_eq_false_iff_ne.mp z0
    rw [if_neg z0] at h1 h2
    walk_at "r0"
    refine if_bool (fun z => ?_) (fun z1 => goS_i ?_)
    · rw [if_pos (eq_of_beq z)] at h1 h2
      rw [insR r1]
      walk_at "r0"
      refine ⟨R, p + 1, r1, hB, fun n r en S2 p2 k2 r2 d2 => h1 _ _ (by rw [en]) S2 p2 (k1.trans k2) r2 d2, fun en S2 k2 => h2 (by rw [en]) S2 (k1.trans k2)⟩
    have z1 := beq_eq_false_iff_ne.mp z1
    rw [if_neg z1] at h1 h2
    walk_at "r0"
    refine if_bool (fun z => ?_) (fun z2 => goS_i ?_)
    · rw [if_pos (eq_of_beq z)] at h1 h2
      rw [insR r1]
      walk_at "r0"
      exact ⟨R, p + 1, r1, hB, hl, fun v r en S2 p2 k2 r2 d2 => h1 _ _ en S2 p2 (k1.trans k2) r2 d2, fun en S2 k2 => h2 en S2 (k1.trans k2)⟩
    have z2 := beq_eq_false_iff_ne.mp z2
    rw [if_neg z2] at h1 h2
    walk_at "r0"
    refine if_bool (fun z => if_dec (fun y => ?_) (fun y => goS_i ?_)) (fun z3 => goS_i ?_)
    · rw [if_pos (eq_of_beq z)] at h1 h2
      obtain ⟨k, rfl⟩ : ∃ k, e = k + 1 := ⟨e - 1, by omega⟩
      rw [gs k rfl] at h1 h2
      rw [hIn k rfl, insR r1]
      walk_at "r0"
      exact ⟨by omega, R, p + 1, r1, hB, hl, fun v r en S2 p2 k2 r2 d2 => h1 _ _ en S2 p2 (k1.trans k2) r2 d2, fun en S2 k2 => h2 en S2 (k1.trans k2)⟩
    · walk_at "r0"
      rw [g0 (by omega)] at h2
      exact h2 (by split <;> rfl) S1 k1
    · walk_at "r0"
      exact h2 (if_neg (beq_eq_false_iff_ne.mp z3)) S1 k1
end My

set_option Elab.async false
set_option linter.all false
set_option maxRecDepth 100000
set_option maxHeartbeats 8000000
namespace My
open PySem PySem.Spec PyProof.Rows L2 Wp Gn
local macro_rules | `(tactic| walk_at "go") => `(tactic| (with_reducible refine goS_i ?_))
local macro_rules | `(tactic| walk_at "wp") => `(tactic| simp (disch := omega) only [Wp.wSeq, Wp.wNext, Wp.wSet, Wp.wVar, Wp.wC, Wp.wOp, Wp.wRet, Wp.wIfS, Wp.wTest, Wp.wCall, Wp.wCons, Wp.wNil, Wp.wTup, Wp.wLst, Wp.wAsg, Wp.gTp, Wp.gC, Wp.gNm, Wp.gN0, Wp.gIx, Wp.rSet, Wp.rAdd, Wp.rMul, Wp.rMod, Wp.rSub, Wp.rFdiv, Wp.rPow, Wp.rInt, Wp.rIx, Wp.rLt, Wp.rLe, Wp.rCmp, Wp.rGeI, Wp.rGtI, Wp.wCB, Wp.rLen, Wp.rLen1, Wp.rInt1, Wp.rMax2, Wp.rMin2, Wp.rTupOf, Wp.rListOf,
  Wp.wIsi, Wp.rBIs, Wp.rIsN, Wp.isNon, Wp.wMt, Wp.rAppendT, Wp.rExtendT, Wp.rReverseT, Wp.wNot, Wp.wOr, Wp.wAnd, Wp.wAndV, Wp.wOrV, Wp.wNotV, Wp.wFor, Wp.iRg1, Wp.iRg2, Wp.iAnyW, Wp.wAll, Wp.wChain, Wp.wSl, Wp.wNoPart, Wp.wPart, Wp.rSl, Wp.wNeg, Wp.rNeg, Wp.wLc, Wp.wYes, Wp.wDrop, Wp.wipeT, Wp.wAug, List.map, List.set_cons_zero, List.set_cons_succ, List.getElem?_cons_zero, List.getElem?_cons_succ, List.length_cons, List.length_nil, List.cons_append, List.nil_append, List.replicate, Wp.startT,
  true_and, and_true, Wp.wif_true, Wp.wif_false, Wp.ex_some, Wp.ex_some1, Wp.ex_eq, Wp.ex_lst, Wp.ex_lst0, Wp.rEq_int, Bool.false_bne, Bool.true_bne, Int.reduceLT, Int.reduceLE, Int.reduceAdd, Nat.reduceAdd, Nat.reduceSub, eq_self, ite_true, ite_false, beq_self_eq_true, Bool.not_true, Bool.not_false, Wp.isB_0, Wp.isB_1, Wp.isB_2, Wp.isB_3, Wp.isB_4, Wp.isB_5, Wp.isB_6, Wp.isB_7, Wp.isB_8, Wp.isB_9, Wp.isB_10, Wp.isB_11, Wp.isB_12, Wp.isB_13, Wp.isB_14, Wp.isB_15, Wp.isB_16, Wp.isB_17, Wp.isB_18, Wp.isB_19, Wp.isB_20, Wp.isB_21, Wp.isB_22, Wp.isB_23, Wp.isB_24, Wp.isB_25, Wp.isB_26, Wp.isB_27, Wp.isB_28, Wp.isB_29, Wp.isB_30, Wp.isB_31, Wp.isB_32, Wp.isB_33, Wp.isB_34, Wp.isB_35, Wp.cmul_l, Wp.cmul_r, Wp.cpow_lit, Wp.size_le, Wp.size_lt, Wp.atI_0, Wp.atI_1, Wp.atI_2, Wp.atI_3, Wp.atI_4, Wp.atI_5, Wp.atI_6, Wp.ixN_0, Wp.ixN_1, Wp.ixN_2, Wp.itemsT, Wp.tyT, reduceIte, Wp.wFld, Wp.wFSet, Wp.wFAug, Wp.wMeth, Wp.wMake, Wp.rIxA, Wp.rInA, Wp.rSetA, Wp.ixA, Wp.inA, Wp.setA, Wp.lenA, Wp.getD, Option.map_some, Option.bind_some, Option.getD_some,  Wp.gIxA, Wp.wDNew, Wp.wDNewT, Wp.rLenA, Wp.rSortD, Wp.rMaxL, Wp.rPopL, Wp.rGet1, Wp.rGet2, Wp.wGet1, Wp.wGet2, Wp.wPop1, Wp.wPop2, Wp.wDel, Wp.isDT, Wp.keyT, Wp.keysT, Wp.keysL, Wp.ex_ins, Wp.ex_dct, Wp.wIf, Wp.rGt, Wp.wTry, Wp.wMethX, Wp.wCallX, Wp.wRaise, Wp.rAddI, Int.cast_ofNat_Int, Int.reduceBEq, lk_Reader_row, pt_Reader_row, lk_Reader_place, pt_Reader_place, no_Reader_byte, no_Reader_inner, no_Reader_is_done, no_Reader_number, no_Reader_part, no_Reader_value, no_Reader_word, ln_Reader, mk_Reader, Wp.rMulB, Wp.upS, Wp.upS_upS, *])
local macro_rules | `(tactic| walk_at "run") => `(tactic| repeat (first | walk_at "wp" | walk_at "go"))
local macro_rules | `(tactic| walk_at "wq") => `(tactic| simp (disch := omega) only [Wp.wSeq, Wp.wNext, Wp.wSet, Wp.wVar, Wp.wC, Wp.wOp, Wp.wRet, Wp.wIfS, Wp.wTest, Wp.wCall, Wp.wCons, Wp.wNil, Wp.wTup, Wp.wLst, Wp.wAsg, Wp.gTp, Wp.gC, Wp.gNm, Wp.gN0, Wp.gIx, Wp.rSet, Wp.rAdd, Wp.rMul, Wp.rMod, Wp.rSub, Wp.rFdiv, Wp.rPow, Wp.rInt, Wp.rIx, Wp.rLt, Wp.rLe, Wp.rCmp, Wp.rGeI, Wp.rGtI, Wp.wCB, Wp.rLen, Wp.rLen1, Wp.rInt1, Wp.rMax2, Wp.rMin2, Wp.rTupOf, Wp.rListOf,
  Wp.wIsi, Wp.rBIs, Wp.rIsN, Wp.isNon, Wp.wMt, Wp.rAppendT, Wp.rExtendT, Wp.rReverseT, Wp.wNot, Wp.wOr, Wp.wAnd, Wp.wAndV, Wp.wOrV, Wp.wNotV, Wp.wFor, Wp.iRg1, Wp.iRg2, Wp.iAnyW, Wp.wAll, Wp.wChain, Wp.wSl, Wp.wNoPart, Wp.wPart, Wp.rSl, Wp.wNeg, Wp.rNeg, Wp.wLc, Wp.wYes, Wp.wDrop, Wp.wipeT, Wp.wAug, List.map, List.set_cons_zero, List.set_cons_succ, List.getElem?_cons_zero, List.getElem?_cons_succ, List.length_cons, List.length_nil, List.cons_append, List.nil_append, List.replicate, Wp.startT,
  true_and, and_true, Wp.wif_true, Wp.wif_false, Wp.ex_some, Wp.ex_some1, Wp.ex_eq, Wp.ex_lst, Wp.ex_lst0, Wp.rEq_int, Bool.false_bne, Bool.true_bne, Int.reduceLT, Int.reduceLE, Int.reduceAdd, Nat.reduceAdd, Nat.reduceSub, eq_self, ite_true, ite_false, beq_self_eq_true, Bool.not_true, Bool.not_false, Wp.isB_0, Wp.isB_1, Wp.isB_2, Wp.isB_3, Wp.isB_4, Wp.isB_5, Wp.isB_6, Wp.isB_7, Wp.isB_8, Wp.isB_9, Wp.isB_10, Wp.isB_11, Wp.isB_12, Wp.isB_13, Wp.isB_14, Wp.isB_15, Wp.isB_16, Wp.isB_17, Wp.isB_18, Wp.isB_19, Wp.isB_20, Wp.isB_21, Wp.isB_22, Wp.isB_23, Wp.isB_24, Wp.isB_25, Wp.isB_26, Wp.isB_27, Wp.isB_28, Wp.isB_29, Wp.isB_30, Wp.isB_31, Wp.isB_32, Wp.isB_33, Wp.isB_34, Wp.isB_35, Wp.cmul_l, Wp.cmul_r, Wp.cpow_lit, Wp.size_le, Wp.size_lt, Wp.atI_0, Wp.atI_1, Wp.atI_2, Wp.atI_3, Wp.atI_4, Wp.atI_5, Wp.atI_6, Wp.ixN_0, Wp.ixN_1, Wp.ixN_2, Wp.itemsT, Wp.tyT, reduceIte, Wp.wFld, Wp.wFSet, Wp.wFAug, Wp.wMeth, Wp.wMake, Wp.rIxA, Wp.rInA, Wp.rSetA, Wp.ixA, Wp.inA, Wp.setA, Wp.lenA, Wp.getD, Option.map_some, Option.bind_some, Option.getD_some,  Wp.gIxA, Wp.wDNew, Wp.wDNewT, Wp.rLenA, Wp.rSortD, Wp.rMaxL, Wp.rPopL, Wp.rGet1, Wp.rGet2, Wp.wGet1, Wp.wGet2, Wp.wPop1, Wp.wPop2, Wp.wDel, Wp.isDT, Wp.keyT, Wp.keysT, Wp.keysL, Wp.ex_ins, Wp.ex_dct, Wp.wIf, Wp.rGt, Wp.wTry, Wp.wMethX, Wp.wCallX, Wp.wRaise, Wp.rAddI, Int.cast_ofNat_Int, Int.reduceBEq, lk_Reader_row, pt_Reader_row, lk_Reader_place, pt_Reader_place, no_Reader_byte, no_Reader_inner, no_Reader_is_done, no_Reader_number, no_Reader_part, no_Reader_value, no_Reader_word, ln_Reader, mk_Reader, Wp.rMulB, *])
local macro_rules | `(tactic| walk_at "r2") => `(tactic| repeat (first | walk_at "wq" | walk_at "go"))
local macro_rules | `(tactic| walk_at "w0") => `(tactic| simp (disch := omega) only [Wp.wSeq, Wp.wNext, Wp.wSet, Wp.wVar, Wp.wC, Wp.wOp, Wp.wRet, Wp.wIfS, Wp.wTest, Wp.wCall, Wp.wCons, Wp.wNil, Wp.wTup, Wp.wLst, Wp.wAsg, Wp.gTp, Wp.gC, Wp.gNm, Wp.gN0, Wp.gIx, Wp.rSet, Wp.rAdd, Wp.rMul, Wp.rMod, Wp.rSub, Wp.rFdiv, Wp.rPow, Wp.rInt, Wp.rIx, Wp.rLt, Wp.rLe, Wp.rCmp, Wp.rGeI, Wp.rGtI, Wp.wCB, Wp.rLen, Wp.rLen1, Wp.rInt1, Wp.rMax2, Wp.rMin2, Wp.rTupOf, Wp.rListOf,
  Wp.wIsi, Wp.rBIs, Wp.rIsN, Wp.isNon, Wp.wMt, Wp.rAppendT, Wp.rExtendT, Wp.rReverseT, Wp.wNot, Wp.wOr, Wp.wAnd, Wp.wAndV, Wp.wOrV, Wp.wNotV, Wp.wFor, Wp.iRg1, Wp.iRg2, Wp.iAnyW, Wp.wAll, Wp.wChain, Wp.wSl, Wp.wNoPart, Wp.wPart, Wp.rSl, Wp.wNeg, Wp.rNeg, Wp.wLc, Wp.wYes, Wp.wDrop, Wp.wipeT, Wp.wAug, List.map, List.set_cons_zero, List.set_cons_succ, List.getElem?_cons_zero, List.getElem?_cons_succ, List.length_cons, List.length_nil, List.cons_append, List.nil_append, List.replicate, Wp.startT,
  true_and, and_true, Wp.wif_true, Wp.wif_false, Wp.ex_some, Wp.ex_some1, Wp.ex_eq, Wp.ex_lst, Wp.ex_lst0, Wp.rEq_int, Bool.false_bne, Bool.true_bne, Int.reduceLT, Int.reduceLE, Int.reduceAdd, Nat.reduceAdd, Nat.reduceSub, eq_self, ite_true, ite_false, beq_self_eq_true, Bool.not_true, Bool.not_false, Wp.isB_0, Wp.isB_1, Wp.isB_2, Wp.isB_3, Wp.isB_4, Wp.isB_5, Wp.isB_6, Wp.isB_7, Wp.isB_8, Wp.isB_9, Wp.isB_10, Wp.isB_11, Wp.isB_12, Wp.isB_13, Wp.isB_14, Wp.isB_15, Wp.isB_16, Wp.isB_17, Wp.isB_18, Wp.isB_19, Wp.isB_20, Wp.isB_21, Wp.isB_22, Wp.isB_23, Wp.isB_24, Wp.isB_25, Wp.isB_26, Wp.isB_27, Wp.isB_28, Wp.isB_29, Wp.isB_30, Wp.isB_31, Wp.isB_32, Wp.isB_33, Wp.isB_34, Wp.isB_35, Wp.cmul_l, Wp.cmul_r, Wp.cpow_lit, Wp.size_le, Wp.size_lt, Wp.atI_0, Wp.atI_1, Wp.atI_2, Wp.atI_3, Wp.atI_4, Wp.atI_5, Wp.atI_6, Wp.ixN_0, Wp.ixN_1, Wp.ixN_2, Wp.itemsT, Wp.tyT, reduceIte, Wp.wFld, Wp.wFSet, Wp.wFAug, Wp.wMeth, Wp.wMake, Wp.rIxA, Wp.rInA, Wp.rSetA, Wp.ixA, Wp.inA, Wp.setA, Wp.lenA, Wp.getD, Option.map_some, Option.bind_some, Option.getD_some,  Wp.gIxA, Wp.wDNew, Wp.wDNewT, Wp.rLenA, Wp.rSortD, Wp.rMaxL, Wp.rPopL, Wp.rGet1, Wp.rGet2, Wp.wGet1, Wp.wGet2, Wp.wPop1, Wp.wPop2, Wp.wDel, Wp.isDT, Wp.keyT, Wp.keysT, Wp.keysL, Wp.ex_ins, Wp.ex_dct, Wp.wIf, Wp.rGt, Wp.wTry, Wp.wMethX, Wp.wCallX, Wp.wRaise, Wp.rAddI, Int.cast_ofNat_Int, Int.reduceBEq, lk_Reader_row, pt_Reader_row, lk_Reader_place, pt_Reader_place, no_Reader_byte, no_Reader_inner, no_Reader_is_done, no_Reader_number, no_Reader_part, no_Reader_value, no_Reader_word, ln_Reader, mk_Reader, Wp.rMulB])
local macro_rules | `(tactic| walk_at "r0") => `(tactic| repeat (first | walk_at "w0" | walk_at "go"))
variable {C CB : Addr}
theorem hw_ginner (e : Nat) : ∀ ts S Q E, ts.length = 2 → spGInner C CB e ts S Q E → b_Reader_inner C CB (spGNum C CB) (spGVal C CB e) (fun C _ S' => E C S') { nx := fun _ S' => Q .non S', rt := Q } (Wp.startT N_Reader_inner ts) S := by
  intro ts S Q E _ h
  match ts, h with
  | [.ref a, .int _], ⟨rfl, R, p, r0, hB, hl, h1, h2⟩ =>
    unfold b_Reader_inner N_Reader_inner
    walk_at "r0"
    rw [insR r0]
    walk_at "r0"
    refine ⟨R, p, r0, hB, fun n L1 en S1 p1 k1 r1 d1 => ?_, fun en S1 k1 => h2 (by rw [rdTup, en]) S1 k1⟩
    rw [rdTup, en] at h1 h2
    walk_at "r0"
    intro q hq
    have nqa : q ≠ a := fun z => by rw [z, insR r1] at hq; cases hq
    have kq : Kp a S1 (upS S1 q (.lst [])) := fun x o ex _ => by rw [upS_ne (fun z => by rw [z, hq] at ex; cases ex)]; exact ex
    have rq : RdA C (upS S1 q (.lst [])) a R p1 := ⟨by rw [upS_ne nqa.symm]; exact r1.1, r1.2⟩
    have eq1 : upS S1 q (.lst []) q = some (.lst []) := upS_same
    generalize upS S1 q (.lst []) = S2 at kq rq eq1 ⊢
    refine goS_i ?_
    refine ⟨fun m σ S' => ∃ (acc : List T) (p' : Nat), acc.length ≤ n ∧ acc.length ≤ p' ∧ m = n - acc.length ∧ σ = [some (.ref a), some (.int (e : Int)), some (.int (n : Int)), some (.ref q)] ∧ S' q = some (.lst acc) ∧ Kp a S S' ∧ RdA C S' a R p' ∧
      (∀ ws s, rdItems (rdVal e) (n - acc.length) (R.drop p') = some (ws, s) → rdItems (rdVal e) n L1 = some (acc ++ ws, s)) ∧ (rdItems (rdVal e) (n - acc.length) (R.drop p') = none → rdItems (rdVal e) n L1 = none),
      ⟨_, [], p1, Nat.zero_le _, Nat.zero_le _, rfl, rfl, eq1, k1.trans kq, rq, fun ws s z => by rw [d1] at z; exact z, fun z => by rw [d1] at z; exact z⟩, ?_⟩
    rintro m σ S3 ⟨acc, p3, hi, hp3, rfl, rfl, e3, k3, r3, i1, i2⟩
    unfold l1_Reader_inner
    walk_at "r0"
    rw [e3]
    walk_at "r0"
    refine if_dec (fun lt => ?_) (fun ge => ?_)
    · obtain ⟨j, ej⟩ : ∃ j, n - acc.length = j + 1 := ⟨n - acc.length - 1, by omega⟩
      rw [ej] at i1 i2
      rw [rdItems] at i1 i2
      generalize hnx : (fun σ' S' => ∃ m', m' < n - acc.length ∧ ∃ (acc : List T) (p' : Nat), acc.length ≤ n ∧ acc.length ≤ p' ∧ m' = n - acc.length ∧ σ' = [some (T.ref a), some (T.int (e : Int)), some (T.int (n : Int)), some (T.ref q)] ∧ S' q = some (O.lst acc) ∧ Kp a S S' ∧ RdA C S' a R p' ∧
        (∀ ws s, rdItems (rdVal e) (n - acc.length) (R.drop p') = some (ws, s) → rdItems (rdVal e) n L1 = some (acc ++ ws, s)) ∧ (rdItems (rdVal e) (n - acc.length) (R.drop p') = none → rdItems (rdVal e) n L1 = none)) = NX
      unfold l2_Reader_inner
      walk_at "r0"
      refine ⟨⟨_, e3⟩, _, insR r3, no_Reader_value, rfl, R, p3, r3, hB, hl, fun v r ev S4 p4 k4 r4 d4 => ?_, fun ev S4 k4 => ?_⟩
      · have e4 := k4 q _ e3 nqa
        have l3 : (R.drop p3).length ≤ 9000 := by rw [List.length_drop]; omega
        obtain ⟨vv, ep, _⟩ := rdVal_ok e _ _ _ (hB.drop p3) l3 ev
        have pp := parts_pos vv
        have len := congrArg List.length ep
        rw [← d4, List.length_append, List.length_drop, List.length_drop] at len
        have c3 := r3.2.1
        have c4 := r4.2.1
        refine ⟨_, e4, Nat.lt_of_le_of_lt (show acc.length ≤ 100000 by omega) (by rw [sizeLine_eq]; decide), ?_⟩
        refine goS_i ?_
        rw [← hnx]
        rw [ev] at i1 i2
        have nj : n - (acc ++ [v]).length = j := by rw [List.length_append]; show n - (acc.length + 1) = j; omega
        refine ⟨n - (acc ++ [v]).length, by omega, acc ++ [v], p4, by rw [List.length_append]; show acc.length + 1 ≤ n; omega, by rw [List.length_append]; show acc.length + 1 ≤ p4; omega, rfl, rfl, upS_same, fun x o ex nx => ?_, ⟨by rw [upS_ne nqa.symm]; exact r4.1, r4.2⟩, fun ws s z => ?_, fun z => ?_⟩
        · have hS1 := k1 x o ex nx
          rw [upS_ne (fun z => by rw [z, hq] at hS1; cases hS1)]
          exact k4 x o (k3 x o ex nx) nx
        · rw [nj, d4] at z
          have := i1 (v :: ws) s (by simp only [z])
          rw [this, List.append_assoc]; rfl
        · rw [nj, d4] at z
          exact i2 (by simp only [z])
      · rw [ev] at i2
        exact h2 (by simp only [i2 rfl]) S4 (k3.trans k4)
    · have ei : n - acc.length = 0 := by omega
      rw [ei] at i1
      have := i1 [] _ rfl
      rw [List.append_nil] at this
      exact h1 _ _ (by simp only [this]) S3 p3 k3 r3 rfl
end My

set_option Elab.async false
set_option linter.all false
set_option maxRecDepth 100000
set_option maxHeartbeats 8000000
namespace My
open PySem PySem.Spec PyProof.Rows L2 Wp Gn
local macro_rules | `(tactic| walk_at "go") => `(tactic| (with_reducible refine goS_i ?_))
local macro_rules | `(tactic| walk_at "wp") => `(tactic| simp (disch := omega) only [Wp.wSeq, Wp.wNext, Wp.wSet, Wp.wVar, Wp.wC, Wp.wOp, Wp.wRet, Wp.wIfS, Wp.wTest, Wp.wCall, Wp.wCons, Wp.wNil, Wp.wTup, Wp.wLst, Wp.wAsg, Wp.gTp, Wp.gC, Wp.gNm, Wp.gN0, Wp.gIx, Wp.rSet, Wp.rAdd, Wp.rMul, Wp.rMod, Wp.rSub, Wp.rFdiv, Wp.rPow, Wp.rInt, Wp.rIx, Wp.rLt, Wp.rLe, Wp.rCmp, Wp.rGeI, Wp.rGtI, Wp.wCB, Wp.rLen, Wp.rLen1, Wp.rInt1, Wp.rMax2, Wp.rMin2, Wp.rTupOf, Wp.rListOf,
  Wp.wIsi, Wp.rBIs, Wp.rIsN, Wp.isNon, Wp.wMt, Wp.rAppendT, Wp.rExtendT, Wp.rReverseT, Wp.wNot, Wp.wOr, Wp.wAnd, Wp.wAndV, Wp.wOrV, Wp.wNotV, Wp.wFor, Wp.iRg1, Wp.iRg2, Wp.iAnyW, Wp.wAll, Wp.wChain, Wp.wSl, Wp.wNoPart, Wp.wPart, Wp.rSl, Wp.wNeg, Wp.rNeg, Wp.wLc, Wp.wYes, Wp.wDrop, Wp.wipeT, Wp.wAug, List.map, List.set_cons_zero, List.set_cons_succ, List.getElem?_cons_zero, List.getElem?_cons_succ, List.length_cons, List.length_nil, List.cons_append, List.nil_append, List.replicate, Wp.startT,
  true_and, and_true, Wp.wif_true, Wp.wif_false, Wp.ex_some, Wp.ex_some1, Wp.ex_eq, Wp.ex_lst, Wp.ex_lst0, Wp.rEq_int, Bool.false_bne, Bool.true_bne, Int.reduceLT, Int.reduceLE, Int.reduceAdd, Nat.reduceAdd, Nat.reduceSub, eq_self, ite_true, ite_false, beq_self_eq_true, Bool.not_true, Bool.not_false, Wp.isB_0, Wp.isB_1, Wp.isB_2, Wp.isB_3, Wp.isB_4, Wp.isB_5, Wp.isB_6, Wp.isB_7, Wp.isB_8, Wp.isB_9, Wp.isB_10, Wp.isB_11, Wp.isB_12, Wp.isB_13, Wp.isB_14, Wp.isB_15, Wp.isB_16, Wp.isB_17, Wp.isB_18, Wp.isB_19, Wp.isB_20, Wp.isB_21, Wp.isB_22, Wp.isB_23, Wp.isB_24, Wp.isB_25, Wp.isB_26, Wp.isB_27, Wp.isB_28, Wp.isB_29, Wp.isB_30, Wp.isB_31, Wp.isB_32, Wp.isB_33, Wp.isB_34, Wp.isB_35, Wp.cmul_l, Wp.cmul_r, Wp.cpow_lit, Wp.size_le, Wp.size_lt, Wp.atI_0, Wp.atI_1, Wp.atI_2, Wp.atI_3, Wp.atI_4, Wp.atI_5, Wp.atI_6, Wp.ixN_0, Wp.ixN_1, Wp.ixN_2, Wp.itemsT, Wp.tyT, reduceIte, Wp.wFld, Wp.wFSet, Wp.wFAug, Wp.wMeth, Wp.wMake, Wp.rIxA, Wp.rInA, Wp.rSetA, Wp.ixA, Wp.inA, Wp.setA, Wp.lenA, Wp.getD, Option.map_some, Option.bind_some, Option.getD_some,  Wp.gIxA, Wp.wDNew, Wp.wDNewT, Wp.rLenA, Wp.rSortD, Wp.rMaxL, Wp.rPopL, Wp.rGet1, Wp.rGet2, Wp.wGet1, Wp.wGet2, Wp.wPop1, Wp.wPop2, Wp.wDel, Wp.isDT, Wp.keyT, Wp.keysT, Wp.keysL, Wp.ex_ins, Wp.ex_dct, Wp.wIf, Wp.rGt, Wp.wTry, Wp.wMethX, Wp.wCallX, Wp.wRaise, Wp.rAddI, Int.cast_ofNat_Int, Int.reduceBEq, lk_Reader_row, pt_Reader_row, lk_Reader_place, pt_Reader_place, no_Reader_byte, no_Reader_inner, no_Reader_is_done, no_Reader_number, no_Reader_part, no_Reader_value, no_Reader_word, ln_Reader, mk_Reader, Wp.rMulB, Wp.upS, Wp.upS_upS, *])
local macro_rules | `(tactic| walk_at "run") => `(tactic| repeat (first | walk_at "wp" | walk_at "go"))
local macro_rules | `(tactic| walk_at "wq") => `(tactic| simp (disch := omega) only [Wp.wSeq, Wp.wNext, Wp.wSet, Wp.wVar, Wp.wC, Wp.wOp, Wp.wRet, Wp.wIfS, Wp.wTest, Wp.wCall, Wp.wCons, Wp.wNil, Wp.wTup, Wp.wLst, Wp.wAsg, Wp.gTp, Wp.gC, Wp.gNm, Wp.gN0, Wp.gIx, Wp.rSet, Wp.rAdd, Wp.rMul, Wp.rMod, Wp.rSub, Wp.rFdiv, Wp.rPow, Wp.rInt, Wp.rIx, Wp.rLt, Wp.rLe, Wp.rCmp, Wp.rGeI, Wp.rGtI, Wp.wCB, Wp.rLen, Wp.rLen1, Wp.rInt1, Wp.rMax2, Wp.rMin2, Wp.rTupOf, Wp.rListOf,
  Wp.wIsi, Wp.rBIs, Wp.rIsN, Wp.isNon, Wp.wMt, Wp.rAppendT, Wp.rExtendT, Wp.rReverseT, Wp.wNot, Wp.wOr, Wp.wAnd, Wp.wAndV, Wp.wOrV, Wp.wNotV, Wp.wFor, Wp.iRg1, Wp.iRg2, Wp.iAnyW, Wp.wAll, Wp.wChain, Wp.wSl, Wp.wNoPart, Wp.wPart, Wp.rSl, Wp.wNeg, Wp.rNeg, Wp.wLc, Wp.wYes, Wp.wDrop, Wp.wipeT, Wp.wAug, List.map, List.set_cons_zero, List.set_cons_succ, List.getElem?_cons_zero, List.getElem?_cons_succ, List.length_cons, List.length_nil, List.cons_append, List.nil_append, List.replicate, Wp.startT,
  true_and, and_true, Wp.wif_true, Wp.wif_false, Wp.ex_some, Wp.ex_some1, Wp.ex_eq, Wp.ex_lst, Wp.ex_lst0, Wp.rEq_int, Bool.false_bne, Bool.true_bne, Int.reduceLT, Int.reduceLE, Int.reduceAdd, Nat.reduceAdd, Nat.reduceSub, eq_self, ite_true, ite_false, beq_self_eq_true, Bool.not_true, Bool.not_false, Wp.isB_0, Wp.isB_1, Wp.isB_2, Wp.isB_3, Wp.isB_4, Wp.isB_5, Wp.isB_6, Wp.isB_7, Wp.isB_8, Wp.isB_9, Wp.isB_10, Wp.isB_11, Wp.isB_12, Wp.isB_13, Wp.isB_14, Wp.isB_15, Wp.isB_16, Wp.isB_17, Wp.isB_18, Wp.isB_19, Wp.isB_20, Wp.isB_21, Wp.isB_22, Wp.isB_23, Wp.isB_24, Wp.isB_25, Wp.isB_26, Wp.isB_27, Wp.isB_28, Wp.isB_29, Wp.isB_30, Wp.isB_31, Wp.isB_32, Wp.isB_33, Wp.isB_34, Wp.isB_35, Wp.cmul_l, Wp.cmul_r, Wp.cpow_lit, Wp.size_le, Wp.size_lt, Wp.atI_0, Wp.atI_1, Wp.atI_2, Wp.atI_3, Wp.atI_4, Wp.atI_5, Wp.atI_6, Wp.ixN_0, Wp.ixN_1, Wp.ixN_2, Wp.itemsT, Wp.tyT, reduceIte, Wp.wFld, Wp.wFSet, Wp.wFAug, Wp.wMeth, Wp.wMake, Wp.rIxA, Wp.rInA, Wp.rSetA, Wp.ixA, Wp.inA, Wp.setA, Wp.lenA, Wp.getD, Option.map_some, Option.bind_some, Option.getD_some,  Wp.gIxA, Wp.wDNew, Wp.wDNewT, Wp.rLenA, Wp.rSortD, Wp.rMaxL, Wp.rPopL, Wp.rGet1, Wp.rGet2, Wp.wGet1, Wp.wGet2, Wp.wPop1, Wp.wPop2, Wp.wDel, Wp.isDT, Wp.keyT, Wp.keysT, Wp.keysL, Wp.ex_ins, Wp.ex_dct, Wp.wIf, Wp.rGt, Wp.wTry, Wp.wMethX, Wp.wCallX, Wp.wRaise, Wp.rAddI, Int.cast_ofNat_Int, Int.reduceBEq, lk_Reader_row, pt_Reader_row, lk_Reader_place, pt_Reader_place, no_Reader_byte, no_Reader_inner, no_Reader_is_done, no_Reader_number, no_Reader_part, no_Reader_value, no_Reader_word, ln_Reader, mk_Reader, Wp.rMulB, *])
local macro_rules | `(tactic| walk_at "r2") => `(tactic| repeat (first | walk_at "wq" | walk_at "go"))
local macro_rules | `(tactic| walk_at "w0") => `(tactic| simp (disch := omega) only [Wp.wSeq, Wp.wNext, Wp.wSet, Wp.wVar, Wp.wC, Wp.wOp, Wp.wRet, Wp.wIfS, Wp.wTest, Wp.wCall, Wp.wCons, Wp.wNil, Wp.wTup, Wp.wLst, Wp.wAsg, Wp.gTp, Wp.gC, Wp.gNm, Wp.gN0, Wp.gIx, Wp.rSet, Wp.rAdd, Wp.rMul, Wp.rMod, Wp.rSub, Wp.rFdiv, Wp.rPow, Wp.rInt, Wp.rIx, Wp.rLt, Wp.rLe, Wp.rCmp, Wp.rGeI, Wp.rGtI, Wp.wCB, Wp.rLen, Wp.rLen1, Wp.rInt1, Wp.rMax2, Wp.rMin2, Wp.rTupOf, Wp.rListOf,
  Wp.wIsi, Wp.rBIs, Wp.rIsN, Wp.isNon, Wp.wMt, Wp.rAppendT, Wp.rExtendT, Wp.rReverseT, Wp.wNot, Wp.wOr, Wp.wAnd, Wp.wAndV, Wp.wOrV, Wp.wNotV, Wp.wFor, Wp.iRg1, Wp.iRg2, Wp.iAnyW, Wp.wAll, Wp.wChain, Wp.wSl, Wp.wNoPart, Wp.wPart, Wp.rSl, Wp.wNeg, Wp.rNeg, Wp.wLc, Wp.wYes, Wp.wDrop, Wp.wipeT, Wp.wAug, List.map, List.set_cons_zero, List.set_cons_succ, List.getElem?_cons_zero, List.getElem?_cons_succ, List.length_cons, List.length_nil, List.cons_append, List.nil_append, List.replicate, Wp.startT,
  true_and, and_true, Wp.wif_true, Wp.wif_false, Wp.ex_some, Wp.ex_some1, Wp.ex_eq, Wp.ex_lst, Wp.ex_lst0, Wp.rEq_int, Bool.false_bne, Bool.true_bne, Int.reduceLT, Int.reduceLE, Int.reduceAdd, Nat.reduceAdd, Nat.reduceSub, eq_self, ite_true, ite_false, beq_self_eq_true, Bool.not_true, Bool.not_false, Wp.isB_0, Wp.isB_1, Wp.isB_2, Wp.isB_3, Wp.isB_4, Wp.isB_5, Wp.isB_6, Wp.isB_7, Wp.isB_8, Wp.isB_9, Wp.isB_10, Wp.isB_11, Wp.isB_12, Wp.isB_13, Wp.isB_14, Wp.isB_15, Wp.isB_16, Wp.isB_17, Wp.isB_18, Wp.isB_19, Wp.isB_20, Wp.isB_21, Wp.isB_22, Wp.isB_23, Wp.isB_24, Wp.isB_25, Wp.isB_26, Wp.isB_27, Wp.isB_28, Wp.isB_29, Wp.isB_30, Wp.isB_31, Wp.isB_32, Wp.isB_33, Wp.isB_34, Wp.isB_35, Wp.cmul_l, Wp.cmul_r, Wp.cpow_lit, Wp.size_le, Wp.size_lt, Wp.atI_0, Wp.atI_1, Wp.atI_2, Wp.atI_3, Wp.atI_4, Wp.atI_5, Wp.atI_6, Wp.ixN_0, Wp.ixN_1, Wp.ixN_2, Wp.itemsT, Wp.tyT, reduceIte, Wp.wFld, Wp.wFSet, Wp.wFAug, Wp.wMeth, Wp.wMake, Wp.rIxA, Wp.rInA, Wp.rSetA, Wp.ixA, Wp.inA, Wp.setA, Wp.lenA, Wp.getD, Option.map_some, Option.bind_some, Option.getD_some,  Wp.gIxA, Wp.wDNew, Wp.wDNewT, Wp.rLenA, Wp.rSortD, Wp.rMaxL, Wp.rPopL, Wp.rGet1, Wp.rGet2, Wp.wGet1, Wp.wGet2, Wp.wPop1, Wp.wPop2, Wp.wDel, Wp.isDT, Wp.keyT, Wp.keysT, Wp.keysL, Wp.ex_ins, Wp.ex_dct, Wp.wIf, Wp.rGt, Wp.wTry, Wp.wMethX, Wp.wCallX, Wp.wRaise, Wp.rAddI, Int.cast_ofNat_Int, Int.reduceBEq, lk_Reader_row, pt_Reader_row, lk_Reader_place, pt_Reader_place, no_Reader_byte, no_Reader_inner, no_Reader_is_done, no_Reader_number, no_Reader_part, no_Reader_value, no_Reader_word, ln_Reader, mk_Reader, Wp.rMulB])
local macro_rules | `(tactic| walk_at "r0") => `(tactic| repeat (first | walk_at "w0" | walk_at "go"))
variable {C CB : Addr}
/-! ### read over any row whose sum is right -/
def spGRead (CB : Addr) : WSp := fun ts S Q E => match ts with
  | [.tup us] => ∃ xs : List Int, us = xs.map T.int ∧ Byt xs ∧ xs.length ≤ 9000 ∧ rear xs = sumBytes (frnt xs) ∧ (∀ v, rdVal 16 (frnt xs) = some (v, []) → ∀ S', Gr S S' → Q v S') ∧ ((∀ v, rdVal 16 (frnt xs) ≠ some (v, [])) → ∀ S', Gr S S' → E CB S')
  | _ => False
theorem hw_gread : ∀ ts S Q E, ts.length = 1 → spGRead CB ts S Q E → b_read C CB spIsB spSumB (spRInit C) (spGVal C CB 16) (spRDone C) (fun C _ S' => E C S') { nx := fun _ S' => Q .non S', rt := Q } (Wp.startT N_read ts) S := by
  intro ts S Q E _ h
  unfold b_read N_read
  match ts, h with
  | [.tup _], ⟨xs, rfl, hb, hl9, eq, h1, h2⟩ =>
    have hk : ∀ t ∈ xs.map T.int, Kn S t := fun t ht => by
      obtain ⟨x, _, rfl⟩ := List.mem_map.mp ht
      exact .int x
    have hl : (xs.map T.int).length ≤ 60000 := by rw [List.length_map]; omega
    walk_at "r0"
    refine if_dec (fun z => by omega) (fun _ => ?_)
    refine ⟨hk, ?_⟩
    show wif (!((xs.map T.int).all fun t => isI t 0 255)) _ _
    have all : ((xs.map T.int).all fun t => isI t 0 255) = true := by
      rw [List.all_eq_true]
      intro t ht
      obtain ⟨x, hx, rfl⟩ := List.mem_map.mp ht
      have := hb x hx
      show (decide (0 ≤ x) && decide (x ≤ 255)) = true
      rw [decide_eq_true this.1, decide_eq_true this.2]; rfl
    rw [all]
    refine wif_f ?_
    rw [List.length_map] at hl
    walk_at "r0"
    rw [cut_front, cut_rear, List.length_map, ← List.map_take, ← List.map_drop]
    show spSumB [.tup ((frnt xs).map T.int)] S _ _
    have fl : (frnt xs).length = xs.length - 2 := by unfold frnt; rw [List.length_take]; omega
    have fb : ∀ x ∈ frnt xs, 0 ≤ x ∧ x ≤ 255 := fun x hx => hb x (List.mem_of_mem_take hx)
    refine .inr ⟨frnt xs, rfl, by omega, fb, fun S1 g1 => ?_⟩
    show Wp.rEq true (.tup ((rear xs).map T.int)) (.tup ((sumBytes (frnt xs)).map T.int)) S1 _
    refine ints_eq ?_
    rw [decide_eq_true eq]
    refine wif_f ?_
    refine goS_i ?_
    show (wSeq (wSet 2 (wMake C 2 (spRInit C) (wCons (wVar 1) wNil))) (wSeq (wSet 3 (wMethX (fun C _ S' => E C S') C "value" 2 (spGVal C CB 16) (wVar 2) (wCons (wC (.int 16)) wNil))) (wSeq (wIfS (wNot (wTest (wMeth C "is_done" 1 (spRDone C) (wVar 2) wNil))) (wRaise (fun C _ S' => E C S') CB) wNext) (wRet (wVar 3))))) { nx := fun _ S' => Q .non S', rt := Q } [some (.tup (xs.map T.int)), some (.tup ((frnt xs).map T.int)), none, none] S1
    walk_at "r0"
    intro a na
    refine ⟨upS_same, frnt xs, rfl, by omega, fun S2 k2 r2 => ?_⟩
    have g2 : Gr S S2 := fun x o e => by
      have e1 := g1 x o e
      have nx : x ≠ a := fun z => by rw [z, na] at e1; cases e1
      exact k2 x o (by rw [upS_ne nx]; exact e1) nx
    have sa : S a = none := by
      cases z : S a with
      | none => rfl
      | some o => rw [g1 a o z] at na; cases na
    refine ⟨rfl, ?_⟩
    walk_at "r0"
    rw [insR r2]
    walk_at "r0"
    have g3 : ∀ S3, Kp a S2 S3 → Gr S S3 := fun S3 k3 x o e => k3 x o (g2 x o e) fun z => by rw [z, sa] at e; cases e
    refine ⟨rfl, frnt xs, 0, r2, fb, by omega, fun v r ev S3 p3 k3 r3 d3 => ?_, fun ev S3 k3 => h2 (fun v z => by rw [List.drop_zero] at ev; rw [ev] at z; cases z) S3 (g3 S3 k3)⟩
    rw [List.drop_zero] at ev
    walk_at "r0"
    rw [insR r3]
    walk_at "r0"
    refine ⟨frnt xs, _, r3, ?_⟩
    show wif (!decide (p3 = (frnt xs).length)) _ _
    by_cases z : p3 = (frnt xs).length
    · rw [decide_eq_true z]
      refine wif_f ?_
      walk_at "r0"
      refine h1 v ?_ S3 (g3 S3 k3)
      rw [ev, ← d3, z, List.drop_length]
    · rw [decide_eq_false z]
      refine wif_t (h2 (fun w y => z ?_) S3 (g3 S3 k3))
      rw [ev] at y
      have y := (Prod.mk.inj (Option.some.inj y)).2
      rw [← d3] at y
      have y := congrArg List.length y
      rw [List.length_drop] at y
      have := r3.2.1
      simp only [List.length_nil] at y
      omega
end My

set_option Elab.async false
set_option linter.all false
set_option maxRecDepth 100000
set_option maxHeartbeats 8000000
namespace My
open PySem PySem.Spec PyProof.Rows L2 Wp Gn
local macro_rules | `(tactic| walk_at "go") => `(tactic| (with_reducible refine goS_i ?_))
local macro_rules | `(tactic| walk_at "wp") => `(tactic| simp (disch := omega) only [Wp.wSeq, Wp.wNext, Wp.wSet, Wp.wVar, Wp.wC, Wp.wOp, Wp.wRet, Wp.wIfS, Wp.wTest, Wp.wCall, Wp.wCons, Wp.wNil, Wp.wTup, Wp.wLst, Wp.wAsg, Wp.gTp, Wp.gC, Wp.gNm, Wp.gN0, Wp.gIx, Wp.rSet, Wp.rAdd, Wp.rMul, Wp.rMod, Wp.rSub, Wp.rFdiv, Wp.rPow, Wp.rInt, Wp.rIx, Wp.rLt, Wp.rLe, Wp.rCmp, Wp.rGeI, Wp.rGtI, Wp.wCB, Wp.rLen, Wp.rLen1, Wp.rInt1, Wp.rMax2, Wp.rMin2, Wp.rTupOf, Wp.rListOf,
  Wp.wIsi, Wp.rBIs, Wp.rIsN, Wp.isNon, Wp.wMt, Wp.rAppendT, Wp.rExtendT, Wp.rReverseT, Wp.wNot, Wp.wOr, Wp.wAnd, Wp.wAndV, Wp.wOrV, Wp.wNotV, Wp.wFor, Wp.iRg1, Wp.iRg2, Wp.iAnyW, Wp.wAll, Wp.wChain, Wp.wSl, Wp.wNoPart, Wp.wPart, Wp.rSl, Wp.wNeg, Wp.rNeg, Wp.wLc, Wp.wYes, Wp.wDrop, Wp.wipeT, Wp.wAug, List.map, List.set_cons_zero, List.set_cons_succ, List.getElem?_cons_zero, List.getElem?_cons_succ, List.length_cons, List.length_nil, List.cons_append, List.nil_append, List.replicate, Wp.startT,
  true_and, and_true, Wp.wif_true, Wp.wif_false, Wp.ex_some, Wp.ex_some1, Wp.ex_eq, Wp.ex_lst, Wp.ex_lst0, Wp.rEq_int, Bool.false_bne, Bool.true_bne, Int.reduceLT, Int.reduceLE, Int.reduceAdd, Nat.reduceAdd, Nat.reduceSub, eq_self, ite_true, ite_false, beq_self_eq_true, Bool.not_true, Bool.not_false, Wp.isB_0, Wp.isB_1, Wp.isB_2, Wp.isB_3, Wp.isB_4, Wp.isB_5, Wp.isB_6, Wp.isB_7, Wp.isB_8, Wp.isB_9, Wp.isB_10, Wp.isB_11, Wp.isB_12, Wp.isB_13, Wp.isB_14, Wp.isB_15, Wp.isB_16, Wp.isB_17, Wp.isB_18, Wp.isB_19, Wp.isB_20, Wp.isB_21, Wp.isB_22, Wp.isB_23, Wp.isB_24, Wp.isB_25, Wp.isB_26, Wp.isB_27, Wp.isB_28, Wp.isB_29, Wp.isB_30, Wp.isB_31, Wp.isB_32, Wp.isB_33, Wp.isB_34, Wp.isB_35, Wp.cmul_l, Wp.cmul_r, Wp.cpow_lit, Wp.size_le, Wp.size_lt, Wp.atI_0, Wp.atI_1, Wp.atI_2, Wp.atI_3, Wp.atI_4, Wp.atI_5, Wp.atI_6, Wp.ixN_0, Wp.ixN_1, Wp.ixN_2, Wp.itemsT, Wp.tyT, reduceIte, Wp.wFld, Wp.wFSet, Wp.wFAug, Wp.wMeth, Wp.wMake, Wp.rIxA, Wp.rInA, Wp.rSetA, Wp.ixA, Wp.inA, Wp.setA, Wp.lenA, Wp.getD, Option.map_some, Option.bind_some, Option.getD_some,  Wp.gIxA, Wp.wDNew, Wp.wDNewT, Wp.rLenA, Wp.rSortD, Wp.rMaxL, Wp.rPopL, Wp.rGet1, Wp.rGet2, Wp.wGet1, Wp.wGet2, Wp.wPop1, Wp.wPop2, Wp.wDel, Wp.isDT, Wp.keyT, Wp.keysT, Wp.keysL, Wp.ex_ins, Wp.ex_dct, Wp.wIf, Wp.rGt, Wp.wTry, Wp.wMethX, Wp.wCallX, Wp.wRaise, Wp.rAddI, Int.cast_ofNat_Int, Int.reduceBEq, lk_Reader_row, pt_Reader_row, lk_Reader_place, pt_Reader_place, no_Reader_byte, no_Reader_inner, no_Reader_is_done, no_Reader_number, no_Reader_part, no_Reader_value, no_Reader_word, ln_Reader, mk_Reader, Wp.rMulB, Wp.upS, Wp.upS_upS, *])
local macro_rules | `(tactic| walk_at "run") => `(tactic| repeat (first | walk_at "wp" | walk_at "go"))
local macro_rules | `(tactic| walk_at "wq") => `(tactic| simp (disch := omega) only [Wp.wSeq, Wp.wNext, Wp.wSet, Wp.wVar, Wp.wC, Wp.wOp, Wp.wRet, Wp.wIfS, Wp.wTest, Wp.wCall, Wp.wCons, Wp.wNil, Wp.wTup, Wp.wLst, Wp.wAsg, Wp.gTp, Wp.gC, Wp.gNm, Wp.gN0, Wp.gIx, Wp.rSet, Wp.rAdd, Wp.rMul, Wp.rMod, Wp.rSub, Wp.rFdiv, Wp.rPow, Wp.rInt, Wp.rIx, Wp.rLt, Wp.rLe, Wp.rCmp, Wp.rGeI, Wp.rGtI, Wp.wCB, Wp.rLen, Wp.rLen1, Wp.rInt1, Wp.rMax2, Wp.rMin2, Wp.rTupOf, Wp.rListOf,
  Wp.wIsi, Wp.rBIs, Wp.rIsN, Wp.isNon, Wp.wMt, Wp.rAppendT, Wp.rExtendT, Wp.rReverseT, Wp.wNot, Wp.wOr, Wp.wAnd, Wp.wAndV, Wp.wOrV, Wp.wNotV, Wp.wFor, Wp.iRg1, Wp.iRg2, Wp.iAnyW, Wp.wAll, Wp.wChain, Wp.wSl, Wp.wNoPart, Wp.wPart, Wp.rSl, Wp.wNeg, Wp.rNeg, Wp.wLc, Wp.wYes, Wp.wDrop, Wp.wipeT, Wp.wAug, List.map, List.set_cons_zero, List.set_cons_succ, List.getElem?_cons_zero, List.getElem?_cons_succ, List.length_cons, List.length_nil, List.cons_append, List.nil_append, List.replicate, Wp.startT,
  true_and, and_true, Wp.wif_true, Wp.wif_false, Wp.ex_some, Wp.ex_some1, Wp.ex_eq, Wp.ex_lst, Wp.ex_lst0, Wp.rEq_int, Bool.false_bne, Bool.true_bne, Int.reduceLT, Int.reduceLE, Int.reduceAdd, Nat.reduceAdd, Nat.reduceSub, eq_self, ite_true, ite_false, beq_self_eq_true, Bool.not_true, Bool.not_false, Wp.isB_0, Wp.isB_1, Wp.isB_2, Wp.isB_3, Wp.isB_4, Wp.isB_5, Wp.isB_6, Wp.isB_7, Wp.isB_8, Wp.isB_9, Wp.isB_10, Wp.isB_11, Wp.isB_12, Wp.isB_13, Wp.isB_14, Wp.isB_15, Wp.isB_16, Wp.isB_17, Wp.isB_18, Wp.isB_19, Wp.isB_20, Wp.isB_21, Wp.isB_22, Wp.isB_23, Wp.isB_24, Wp.isB_25, Wp.isB_26, Wp.isB_27, Wp.isB_28, Wp.isB_29, Wp.isB_30, Wp.isB_31, Wp.isB_32, Wp.isB_33, Wp.isB_34, Wp.isB_35, Wp.cmul_l, Wp.cmul_r, Wp.cpow_lit, Wp.size_le, Wp.size_lt, Wp.atI_0, Wp.atI_1, Wp.atI_2, Wp.atI_3, Wp.atI_4, Wp.atI_5, Wp.atI_6, Wp.ixN_0, Wp.ixN_1, Wp.ixN_2, Wp.itemsT, Wp.tyT, reduceIte, Wp.wFld, Wp.wFSet, Wp.wFAug, Wp.wMeth, Wp.wMake, Wp.rIxA, Wp.rInA, Wp.rSetA, Wp.ixA, Wp.inA, Wp.setA, Wp.lenA, Wp.getD, Option.map_some, Option.bind_some, Option.getD_some,  Wp.gIxA, Wp.wDNew, Wp.wDNewT, Wp.rLenA, Wp.rSortD, Wp.rMaxL, Wp.rPopL, Wp.rGet1, Wp.rGet2, Wp.wGet1, Wp.wGet2, Wp.wPop1, Wp.wPop2, Wp.wDel, Wp.isDT, Wp.keyT, Wp.keysT, Wp.keysL, Wp.ex_ins, Wp.ex_dct, Wp.wIf, Wp.rGt, Wp.wTry, Wp.wMethX, Wp.wCallX, Wp.wRaise, Wp.rAddI, Int.cast_ofNat_Int, Int.reduceBEq, lk_Reader_row, pt_Reader_row, lk_Reader_place, pt_Reader_place, no_Reader_byte, no_Reader_inner, no_Reader_is_done, no_Reader_number, no_Reader_part, no_Reader_value, no_Reader_word, ln_Reader, mk_Reader, Wp.rMulB, *])
local macro_rules | `(tactic| walk_at "r2") => `(tactic| repeat (first | walk_at "wq" | walk_at "go"))
local macro_rules | `(tactic| walk_at "w0") => `(tactic| simp (disch := omega) only [Wp.wSeq, Wp.wNext, Wp.wSet, Wp.wVar, Wp.wC, Wp.wOp, Wp.wRet, Wp.wIfS, Wp.wTest, Wp.wCall, Wp.wCons, Wp.wNil, Wp.wTup, Wp.wLst, Wp.wAsg, Wp.gTp, Wp.gC, Wp.gNm, Wp.gN0, Wp.gIx, Wp.rSet, Wp.rAdd, Wp.rMul, Wp.rMod, Wp.rSub, Wp.rFdiv, Wp.rPow, Wp.rInt, Wp.rIx, Wp.rLt, Wp.rLe, Wp.rCmp, Wp.rGeI, Wp.rGtI, Wp.wCB, Wp.rLen, Wp.rLen1, Wp.rInt1, Wp.rMax2, Wp.rMin2, Wp.rTupOf, Wp.rListOf,
  Wp.wIsi, Wp.rBIs, Wp.rIsN, Wp.isNon, Wp.wMt, Wp.rAppendT, Wp.rExtendT, Wp.rReverseT, Wp.wNot, Wp.wOr, Wp.wAnd, Wp.wAndV, Wp.wOrV, Wp.wNotV, Wp.wFor, Wp.iRg1, Wp.iRg2, Wp.iAnyW, Wp.wAll, Wp.wChain, Wp.wSl, Wp.wNoPart, Wp.wPart, Wp.rSl, Wp.wNeg, Wp.rNeg, Wp.wLc, Wp.wYes, Wp.wDrop, Wp.wipeT, Wp.wAug, List.map, List.set_cons_zero, List.set_cons_succ, List.getElem?_cons_zero, List.getElem?_cons_succ, List.length_cons, List.length_nil, List.cons_append, List.nil_append, List.replicate, Wp.startT,
  true_and, and_true, Wp.wif_true, Wp.wif_false, Wp.ex_some, Wp.ex_some1, Wp.ex_eq, Wp.ex_lst, Wp.ex_lst0, Wp.rEq_int, Bool.false_bne, Bool.true_bne, Int.reduceLT, Int.reduceLE, Int.reduceAdd, Nat.reduceAdd, Nat.reduceSub, eq_self, ite_true, ite_false, beq_self_eq_true, Bool.not_true, Bool.not_false, Wp.isB_0, Wp.isB_1, Wp.isB_2, Wp.isB_3, Wp.isB_4, Wp.isB_5, Wp.isB_6, Wp.isB_7, Wp.isB_8, Wp.isB_9, Wp.isB_10, Wp.isB_11, Wp.isB_12, Wp.isB_13, Wp.isB_14, Wp.isB_15, Wp.isB_16, Wp.isB_17, Wp.isB_18, Wp.isB_19, Wp.isB_20, Wp.isB_21, Wp.isB_22, Wp.isB_23, Wp.isB_24, Wp.isB_25, Wp.isB_26, Wp.isB_27, Wp.isB_28, Wp.isB_29, Wp.isB_30, Wp.isB_31, Wp.isB_32, Wp.isB_33, Wp.isB_34, Wp.isB_35, Wp.cmul_l, Wp.cmul_r, Wp.cpow_lit, Wp.size_le, Wp.size_lt, Wp.atI_0, Wp.atI_1, Wp.atI_2, Wp.atI_3, Wp.atI_4, Wp.atI_5, Wp.atI_6, Wp.ixN_0, Wp.ixN_1, Wp.ixN_2, Wp.itemsT, Wp.tyT, reduceIte, Wp.wFld, Wp.wFSet, Wp.wFAug, Wp.wMeth, Wp.wMake, Wp.rIxA, Wp.rInA, Wp.rSetA, Wp.ixA, Wp.inA, Wp.setA, Wp.lenA, Wp.getD, Option.map_some, Option.bind_some, Option.getD_some,  Wp.gIxA, Wp.wDNew, Wp.wDNewT, Wp.rLenA, Wp.rSortD, Wp.rMaxL, Wp.rPopL, Wp.rGet1, Wp.rGet2, Wp.wGet1, Wp.wGet2, Wp.wPop1, Wp.wPop2, Wp.wDel, Wp.isDT, Wp.keyT, Wp.keysT, Wp.keysL, Wp.ex_ins, Wp.ex_dct, Wp.wIf, Wp.rGt, Wp.wTry, Wp.wMethX, Wp.wCallX, Wp.wRaise, Wp.rAddI, Int.cast_ofNat_Int, Int.reduceBEq, lk_Reader_row, pt_Reader_row, lk_Reader_place, pt_Reader_place, no_Reader_byte, no_Reader_inner, no_Reader_is_done, no_Reader_number, no_Reader_part, no_Reader_value, no_Reader_word, ln_Reader, mk_Reader, Wp.rMulB])
local macro_rules | `(tactic| walk_at "r0") => `(tactic| repeat (first | walk_at "w0" | walk_at "go"))
variable {C CB : Addr}
/-! ### the law's sum -/
theorem wsum_succ : ∀ (xs : List Int) (k : Int), wsum (k + 1) xs = wsum k xs + xs.sum
  | [], _ => by simp [wsum]
  | x :: xs, k => by
    rw [wsum, wsum, wsum_succ xs (k + 1), List.sum_cons]
    have : (k + 1) * x = k * x + x := by rw [Int.add_mul, Int.one_mul]
    omega
def spLs : WSp := fun ts S Q _ => match ts with
  | [.ref p] => ∃ xs : List Int, S p = some (.lst (xs.map T.int)) ∧ xs.length ≤ 60000 ∧ ∀ q S', S q = none → Gr S S' → S' q = some (.lst ((xs ++ sumBytes xs).map T.int)) → Q (.ref q) S'
  | _ => False
theorem ls_loop (p : Addr) (xs : List Int) (a4 : Option T) (S : Sta) (hp : S p = some (.lst (xs.map T.int))) (Dn : WEnds) (hn : ∀ x2 x3, Dn.nx [some (.ref p), some (.int (wsum 1 xs)), some (.int x2), x3, a4] S) :
    ∀ (m j : Nat) (x3 : Option T), m + j = xs.length → loopW (gNm 3) (l1__law_summed C CB) (fun _ => True) Dn ((List.range' j m).map fun (i : Nat) => T.int (i : Int)) [some (.ref p), some (.int (wsum 1 (xs.drop m))), some (.int (xs.drop m).sum), x3, a4] S
  | 0, j, x3, _ => ⟨trivial, by rw [List.drop_zero]; exact hn _ _⟩
  | m + 1, j, x3, hj => by
    refine ⟨trivial, ?_⟩
    have ih := ls_loop p xs a4 S hp Dn hn m (j + 1) (some (.int (j : Int))) (by omega)
    have hm : m < xs.length := by omega
    have ed : xs.drop m = xs[m] :: xs.drop (m + 1) := List.drop_eq_getElem_cons hm
    rw [ed, List.sum_cons, wsum, Int.one_mul, wsum_succ] at ih
    generalize loopW (gNm 3) (l1__law_summed C CB) (fun _ => True) Dn ((List.range' (j + 1) m).map fun (i : Nat) => T.int (i : Int)) = LP at ih ⊢
    show goS ((l1__law_summed C CB) { Dn with nx := LP, ct := LP, bk := Dn.nx }) [some (.ref p), some (.int (wsum 1 (xs.drop (m + 1)))), some (.int (xs.drop (m + 1)).sum), some (.int (j : Int)), a4] S
    have hat : atI (xs.map T.int) (((xs.map T.int).length : Int) - 1 - (j : Int)) = some (.int xs[m]) := by
      rw [List.length_map, show ((xs.length : Int) - 1 - (j : Int)) = ((m : Nat) : Int) by omega, atI_lit, List.getElem?_map, List.getElem?_eq_getElem hm]
      rfl
    have fin : LP [some (.ref p), some (.int (wsum 1 (xs.drop (m + 1)) + ((xs.drop (m + 1)).sum + xs[m]))), some (.int ((xs.drop (m + 1)).sum + xs[m])), some (.int (j : Int)), a4] S := by
      rw [show (List.drop (m + 1) xs).sum + xs[m] = xs[m] + (List.drop (m + 1) xs).sum by omega,
        show wsum 1 (List.drop (m + 1) xs) + (xs[m] + (List.drop (m + 1) xs).sum) = xs[m] + (wsum 1 (List.drop (m + 1) xs) + (List.drop (m + 1) xs).sum) by omega]
      exact ih
    clear ih hn
    generalize (xs.drop (m + 1)).sum = sm at fin ⊢
    generalize wsum 1 (xs.drop (m + 1)) = ws at fin ⊢
    clear ed
    unfold l1__law_summed
    walk_at "r2"
theorem hw_law_summed : ∀ ts S Q E, ts.length = 1 → spLs ts S Q E → (b__law_summed C CB) { nx := fun _ S' => Q .non S', rt := Q } (Wp.startT N__law_summed ts) S := by
  intro ts S Q E _ h
  match ts, h with
  | [.ref p], ⟨xs, hp, hl, h⟩ =>
    unfold b__law_summed N__law_summed
    refine goS_i (goS_i ?_)
    refine ⟨.ref p, rfl, _, lenA_ref hp, by rw [List.length_map]; omega, by rw [List.length_map]; omega, ?_⟩
    have hr : Wp.rangeT 0 ((((xs.map T.int).length : Nat) : Int)).toNat = (List.range' 0 xs.length).map fun (i : Nat) => T.int (i : Int) := by
      rw [rangeT_ints, List.map_map, List.length_map, Int.toNat_natCast, List.range_eq_range']
      rfl
    rw [hr]
    have L := ls_loop (C := C) (CB := CB) p xs none S hp
    have L2 := fun Dn hn => L Dn hn xs.length 0 none (by omega)
    rw [List.drop_length] at L2
    refine L2 _ fun x2 x3 => ?_
    refine goS_i ⟨_, rfl, by omega, ?_⟩
    refine goS_i ⟨.ref p, rfl, _, rfl, ⟨by omega, by omega⟩, _, rfl, by omega, by rw [sizeLine_eq]; simp, fun q hq => ?_⟩
    have hpq : p ≠ q := fun e => by rw [← e, hp] at hq; cases hq
    refine ⟨_, by rw [upS_ne hpq]; exact hp, _, upS_same, le_sz (by simp only [List.length_map, List.length_cons, List.length_nil]; omega), fun r hr2 => ?_⟩
    have hr1 : S r = none := by
      cases e : S r with
      | none => rfl
      | some o => rw [gr_new hq _ _ e] at hr2; cases hr2
    refine h r _ hr1 ((gr_new hq).trans (gr_new hr2)) ?_
    rw [upS_same, List.map_append]
    rfl

theorem ts_same {a b : List Int} {neg : Bool} {S : Sta} {Q : T → Sta → Prop} (e : a = b) (q : Q (.bl (!neg)) S) : Wp.rEq neg (.tup (a.map T.int)) (.tup (b.map T.int)) S Q := by
  subst e
  exact rEq_okS rfl rfl (z := .tup (a.map T.int)) (by simp only [okT]; exact ok_intsL a) (by simp only [dqT]; rw [dq_intsL]; omega) q
def spTold (CB : Addr) : WSp := fun ts S Q _ => match ts with
  | [.tup us] => ∃ xs : List Int, us = xs.map T.int ∧ Byt xs ∧ xs.length ≤ 9000 ∧ rear xs = sumBytes (frnt xs) ∧ (∀ v, rdVal 16 (frnt xs) = some (v, []) → ∀ q S', Gr S S' → S' q = some (.lst [v]) → Q (.ref q) S') ∧ ((∀ v, rdVal 16 (frnt xs) ≠ some (v, [])) → ∀ q S', Gr S S' → S' q = some (.lst []) → Q (.ref q) S')
  | _ => False
theorem hw_told : ∀ ts S Q E, ts.length = 1 → spTold CB ts S Q E → b__law_told C CB (spGRead CB) { nx := fun _ S' => Q .non S', rt := Q } (Wp.startT N__law_told ts) S := by
  intro ts S Q E _ h
  match ts, h with
  | [.tup _], ⟨xs, rfl, hb, hl, eq, h1, h2⟩ =>
    unfold b__law_told N__law_told
    walk_at "r0"
    refine ⟨xs, rfl, hb, hl, eq, fun v ev S1 g1 => ?_, fun ev S1 g1 => ?_⟩
    · intro q hq
      exact h1 v ev q _ (g1.trans (gr_new hq)) upS_same
    · refine ⟨rfl, ?_⟩
      walk_at "r0"
      intro q hq
      exact h2 ev q _ (g1.trans (gr_new hq)) upS_same
theorem sb_len (xs : List Int) : (sumBytes xs).length = 2 := rfl
theorem frnt_app (xs : List Int) : frnt (xs ++ sumBytes xs) = xs := by
  unfold frnt
  rw [List.length_append, sb_len, Nat.add_sub_cancel, List.take_left' rfl]
theorem rear_app (xs : List Int) : rear (xs ++ sumBytes xs) = sumBytes xs := by
  unfold rear
  rw [List.length_append, sb_len, Nat.add_sub_cancel, List.drop_left' rfl]
def spRight : WSp := fun ts S Q _ => match ts with
  | [.ref p] => ∃ xs : List Int, S p = some (.lst (xs.map T.int)) ∧ Byt xs ∧ xs.length ≤ 8000 ∧ ∀ S', Gr S S' → Q (.bl true) S'
  | _ => False
theorem hw_right : ∀ ts S Q E, ts.length = 1 → spRight ts S Q E → b__law_right C CB spLs (spTold CB) spCanB spWr { nx := fun _ S' => Q .non S', rt := Q } (Wp.startT N__law_right ts) S := by
  intro ts S Q E _ h
  match ts, h with
  | [.ref p], ⟨xs, hp, hb, hl, h⟩ =>
    unfold b__law_right N__law_right
    walk_at "r0"
    refine ⟨xs, hp, by omega, fun q S1 nq g1 e1 => ?_⟩
    refine ⟨(xs ++ sumBytes xs).map T.int, by simp only [e1], goS_i ?_⟩
    walk_at "r0"
    have sb : ∀ x ∈ sumBytes xs, 0 ≤ x ∧ x ≤ 255 := fun x hx => by
      simp only [sumBytes, List.mem_cons, List.not_mem_nil, or_false] at hx
      rcases hx with rfl | rfl <;> omega
    refine ⟨xs ++ sumBytes xs, rfl, fun x hx => ?_, by rw [List.length_append, sb_len]; omega, by rw [frnt_app, rear_app], ?_, ?_⟩
    · rcases List.mem_append.mp hx with z | z
      · exact hb x z
      · exact sb x z
    · rw [frnt_app]
      intro v ev q2 S2 g2 e2
      obtain ⟨vv, ep, _⟩ := rdVal_ok 16 xs v [] hb (by omega) ev
      rw [List.append_nil] at ep
      refine goS_i ?_
      walk_at "r0"
      rw [e2]
      walk_at "r0"
      refine ⟨v, by rw [e2]; rfl, vv, ?_⟩
      refine wif_t ⟨v, by rw [e2]; rfl, vv, by rw [← ep]; omega, fun S3 g3 => ?_⟩
      refine ts_same (neg := false) (by rw [← ep]) ?_
      exact h S3 (g1.trans (g2.trans g3))
    · rw [frnt_app]
      intro ev q2 S2 g2 e2
      refine goS_i ?_
      walk_at "r0"
      rw [e2]
      walk_at "r0"
      exact h S2 (g1.trans g2)
end My

set_option Elab.async false
set_option linter.all false
set_option maxRecDepth 100000
set_option maxHeartbeats 8000000
namespace My
open PySem PySem.Spec PyProof.Rows L2 Wp Gn
local macro_rules | `(tactic| walk_at "go") => `(tactic| (with_reducible refine goS_i ?_))
local macro_rules | `(tactic| walk_at "wp") => `(tactic| simp (disch := omega) only [Wp.wSeq, Wp.wNext, Wp.wSet, Wp.wVar, Wp.wC, Wp.wOp, Wp.wRet, Wp.wIfS, Wp.wTest, Wp.wCall, Wp.wCons, Wp.wNil, Wp.wTup, Wp.wLst, Wp.wAsg, Wp.gTp, Wp.gC, Wp.gNm, Wp.gN0, Wp.gIx, Wp.rSet, Wp.rAdd, Wp.rMul, Wp.rMod, Wp.rSub, Wp.rFdiv, Wp.rPow, Wp.rInt, Wp.rIx, Wp.rLt, Wp.rLe, Wp.rCmp, Wp.rGeI, Wp.rGtI, Wp.wCB, Wp.rLen, Wp.rLen1, Wp.rInt1, Wp.rMax2, Wp.rMin2, Wp.rTupOf, Wp.rListOf,
  Wp.wIsi, Wp.rBIs, Wp.rIsN, Wp.isNon, Wp.wMt, Wp.rAppendT, Wp.rExtendT, Wp.rReverseT, Wp.wNot, Wp.wOr, Wp.wAnd, Wp.wAndV, Wp.wOrV, Wp.wNotV, Wp.wFor, Wp.iRg1, Wp.iRg2, Wp.iAnyW, Wp.wAll, Wp.wChain, Wp.wSl, Wp.wNoPart, Wp.wPart, Wp.rSl, Wp.wNeg, Wp.rNeg, Wp.wLc, Wp.wYes, Wp.wDrop, Wp.wipeT, Wp.wAug, List.map, List.set_cons_zero, List.set_cons_succ, List.getElem?_cons_zero, List.getElem?_cons_succ, List.length_cons, List.length_nil, List.cons_append, List.nil_append, List.replicate, Wp.startT,
  true_and, and_true, Wp.wif_true, Wp.wif_false, Wp.ex_some, Wp.ex_some1, Wp.ex_eq, Wp.ex_lst, Wp.ex_lst0, Wp.rEq_int, Bool.false_bne, Bool.true_bne, Int.reduceLT, Int.reduceLE, Int.reduceAdd, Nat.reduceAdd, Nat.reduceSub, eq_self, ite_true, ite_false, beq_self_eq_true, Bool.not_true, Bool.not_false, Wp.isB_0, Wp.isB_1, Wp.isB_2, Wp.isB_3, Wp.isB_4, Wp.isB_5, Wp.isB_6, Wp.isB_7, Wp.isB_8, Wp.isB_9, Wp.isB_10, Wp.isB_11, Wp.isB_12, Wp.isB_13, Wp.isB_14, Wp.isB_15, Wp.isB_16, Wp.isB_17, Wp.isB_18, Wp.isB_19, Wp.isB_20, Wp.isB_21, Wp.isB_22, Wp.isB_23, Wp.isB_24, Wp.isB_25, Wp.isB_26, Wp.isB_27, Wp.isB_28, Wp.isB_29, Wp.isB_30, Wp.isB_31, Wp.isB_32, Wp.isB_33, Wp.isB_34, Wp.isB_35, Wp.cmul_l, Wp.cmul_r, Wp.cpow_lit, Wp.size_le, Wp.size_lt, Wp.atI_0, Wp.atI_1, Wp.atI_2, Wp.atI_3, Wp.atI_4, Wp.atI_5, Wp.atI_6, Wp.ixN_0, Wp.ixN_1, Wp.ixN_2, Wp.itemsT, Wp.tyT, reduceIte, Wp.wFld, Wp.wFSet, Wp.wFAug, Wp.wMeth, Wp.wMake, Wp.rIxA, Wp.rInA, Wp.rSetA, Wp.ixA, Wp.inA, Wp.setA, Wp.lenA, Wp.getD, Option.map_some, Option.bind_some, Option.getD_some,  Wp.gIxA, Wp.wDNew, Wp.wDNewT, Wp.rLenA, Wp.rSortD, Wp.rMaxL, Wp.rPopL, Wp.rGet1, Wp.rGet2, Wp.wGet1, Wp.wGet2, Wp.wPop1, Wp.wPop2, Wp.wDel, Wp.isDT, Wp.keyT, Wp.keysT, Wp.keysL, Wp.ex_ins, Wp.ex_dct, Wp.wIf, Wp.rGt, Wp.wTry, Wp.wMethX, Wp.wCallX, Wp.wRaise, Wp.rAddI, Int.cast_ofNat_Int, Int.reduceBEq, lk_Reader_row, pt_Reader_row, lk_Reader_place, pt_Reader_place, no_Reader_byte, no_Reader_inner, no_Reader_is_done, no_Reader_number, no_Reader_part, no_Reader_value, no_Reader_word, ln_Reader, mk_Reader, Wp.rMulB, Wp.upS, Wp.upS_upS, *])
local macro_rules | `(tactic| walk_at "run") => `(tactic| repeat (first | walk_at "wp" | walk_at "go"))
local macro_rules | `(tactic| walk_at "wq") => `(tactic| simp (disch := omega) only [Wp.wSeq, Wp.wNext, Wp.wSet, Wp.wVar, Wp.wC, Wp.wOp, Wp.wRet, Wp.wIfS, Wp.wTest, Wp.wCall, Wp.wCons, Wp.wNil, Wp.wTup, Wp.wLst, Wp.wAsg, Wp.gTp, Wp.gC, Wp.gNm, Wp.gN0, Wp.gIx, Wp.rSet, Wp.rAdd, Wp.rMul, Wp.rMod, Wp.rSub, Wp.rFdiv, Wp.rPow, Wp.rInt, Wp.rIx, Wp.rLt, Wp.rLe, Wp.rCmp, Wp.rGeI, Wp.rGtI, Wp.wCB, Wp.rLen, Wp.rLen1, Wp.rInt1, Wp.rMax2, Wp.rMin2, Wp.rTupOf, Wp.rListOf,
  Wp.wIsi, Wp.rBIs, Wp.rIsN, Wp.isNon, Wp.wMt, Wp.rAppendT, Wp.rExtendT, Wp.rReverseT, Wp.wNot, Wp.wOr, Wp.wAnd, Wp.wAndV, Wp.wOrV, Wp.wNotV, Wp.wFor, Wp.iRg1, Wp.iRg2, Wp.iAnyW, Wp.wAll, Wp.wChain, Wp.wSl, Wp.wNoPart, Wp.wPart, Wp.rSl, Wp.wNeg, Wp.rNeg, Wp.wLc, Wp.wYes, Wp.wDrop, Wp.wipeT, Wp.wAug, List.map, List.set_cons_zero, List.set_cons_succ, List.getElem?_cons_zero, List.getElem?_cons_succ, List.length_cons, List.length_nil, List.cons_append, List.nil_append, List.replicate, Wp.startT,
  true_and, and_true, Wp.wif_true, Wp.wif_false, Wp.ex_some, Wp.ex_some1, Wp.ex_eq, Wp.ex_lst, Wp.ex_lst0, Wp.rEq_int, Bool.false_bne, Bool.true_bne, Int.reduceLT, Int.reduceLE, Int.reduceAdd, Nat.reduceAdd, Nat.reduceSub, eq_self, ite_true, ite_false, beq_self_eq_true, Bool.not_true, Bool.not_false, Wp.isB_0, Wp.isB_1, Wp.isB_2, Wp.isB_3, Wp.isB_4, Wp.isB_5, Wp.isB_6, Wp.isB_7, Wp.isB_8, Wp.isB_9, Wp.isB_10, Wp.isB_11, Wp.isB_12, Wp.isB_13, Wp.isB_14, Wp.isB_15, Wp.isB_16, Wp.isB_17, Wp.isB_18, Wp.isB_19, Wp.isB_20, Wp.isB_21, Wp.isB_22, Wp.isB_23, Wp.isB_24, Wp.isB_25, Wp.isB_26, Wp.isB_27, Wp.isB_28, Wp.isB_29, Wp.isB_30, Wp.isB_31, Wp.isB_32, Wp.isB_33, Wp.isB_34, Wp.isB_35, Wp.cmul_l, Wp.cmul_r, Wp.cpow_lit, Wp.size_le, Wp.size_lt, Wp.atI_0, Wp.atI_1, Wp.atI_2, Wp.atI_3, Wp.atI_4, Wp.atI_5, Wp.atI_6, Wp.ixN_0, Wp.ixN_1, Wp.ixN_2, Wp.itemsT, Wp.tyT, reduceIte, Wp.wFld, Wp.wFSet, Wp.wFAug, Wp.wMeth, Wp.wMake, Wp.rIxA, Wp.rInA, Wp.rSetA, Wp.ixA, Wp.inA, Wp.setA, Wp.lenA, Wp.getD, Option.map_some, Option.bind_some, Option.getD_some,  Wp.gIxA, Wp.wDNew, Wp.wDNewT, Wp.rLenA, Wp.rSortD, Wp.rMaxL, Wp.rPopL, Wp.rGet1, Wp.rGet2, Wp.wGet1, Wp.wGet2, Wp.wPop1, Wp.wPop2, Wp.wDel, Wp.isDT, Wp.keyT, Wp.keysT, Wp.keysL, Wp.ex_ins, Wp.ex_dct, Wp.wIf, Wp.rGt, Wp.wTry, Wp.wMethX, Wp.wCallX, Wp.wRaise, Wp.rAddI, Int.cast_ofNat_Int, Int.reduceBEq, lk_Reader_row, pt_Reader_row, lk_Reader_place, pt_Reader_place, no_Reader_byte, no_Reader_inner, no_Reader_is_done, no_Reader_number, no_Reader_part, no_Reader_value, no_Reader_word, ln_Reader, mk_Reader, Wp.rMulB, *])
local macro_rules | `(tactic| walk_at "r2") => `(tactic| repeat (first | walk_at "wq" | walk_at "go"))
local macro_rules | `(tactic| walk_at "w0") => `(tactic| simp (disch := omega) only [Wp.wSeq, Wp.wNext, Wp.wSet, Wp.wVar, Wp.wC, Wp.wOp, Wp.wRet, Wp.wIfS, Wp.wTest, Wp.wCall, Wp.wCons, Wp.wNil, Wp.wTup, Wp.wLst, Wp.wAsg, Wp.gTp, Wp.gC, Wp.gNm, Wp.gN0, Wp.gIx, Wp.rSet, Wp.rAdd, Wp.rMul, Wp.rMod, Wp.rSub, Wp.rFdiv, Wp.rPow, Wp.rInt, Wp.rIx, Wp.rLt, Wp.rLe, Wp.rCmp, Wp.rGeI, Wp.rGtI, Wp.wCB, Wp.rLen, Wp.rLen1, Wp.rInt1, Wp.rMax2, Wp.rMin2, Wp.rTupOf, Wp.rListOf,
  Wp.wIsi, Wp.rBIs, Wp.rIsN, Wp.isNon, Wp.wMt, Wp.rAppendT, Wp.rExtendT, Wp.rReverseT, Wp.wNot, Wp.wOr, Wp.wAnd, Wp.wAndV, Wp.wOrV, Wp.wNotV, Wp.wFor, Wp.iRg1, Wp.iRg2, Wp.iAnyW, Wp.wAll, Wp.wChain, Wp.wSl, Wp.wNoPart, Wp.wPart, Wp.rSl, Wp.wNeg, Wp.rNeg, Wp.wLc, Wp.wYes, Wp.wDrop, Wp.wipeT, Wp.wAug, List.map, List.set_cons_zero, List.set_cons_succ, List.getElem?_cons_zero, List.getElem?_cons_succ, List.length_cons, List.length_nil, List.cons_append, List.nil_append, List.replicate, Wp.startT,
  true_and, and_true, Wp.wif_true, Wp.wif_false, Wp.ex_some, Wp.ex_some1, Wp.ex_eq, Wp.ex_lst, Wp.ex_lst0, Wp.rEq_int, Bool.false_bne, Bool.true_bne, Int.reduceLT, Int.reduceLE, Int.reduceAdd, Nat.reduceAdd, Nat.reduceSub, eq_self, ite_true, ite_false, beq_self_eq_true, Bool.not_true, Bool.not_false, Wp.isB_0, Wp.isB_1, Wp.isB_2, Wp.isB_3, Wp.isB_4, Wp.isB_5, Wp.isB_6, Wp.isB_7, Wp.isB_8, Wp.isB_9, Wp.isB_10, Wp.isB_11, Wp.isB_12, Wp.isB_13, Wp.isB_14, Wp.isB_15, Wp.isB_16, Wp.isB_17, Wp.isB_18, Wp.isB_19, Wp.isB_20, Wp.isB_21, Wp.isB_22, Wp.isB_23, Wp.isB_24, Wp.isB_25, Wp.isB_26, Wp.isB_27, Wp.isB_28, Wp.isB_29, Wp.isB_30, Wp.isB_31, Wp.isB_32, Wp.isB_33, Wp.isB_34, Wp.isB_35, Wp.cmul_l, Wp.cmul_r, Wp.cpow_lit, Wp.size_le, Wp.size_lt, Wp.atI_0, Wp.atI_1, Wp.atI_2, Wp.atI_3, Wp.atI_4, Wp.atI_5, Wp.atI_6, Wp.ixN_0, Wp.ixN_1, Wp.ixN_2, Wp.itemsT, Wp.tyT, reduceIte, Wp.wFld, Wp.wFSet, Wp.wFAug, Wp.wMeth, Wp.wMake, Wp.rIxA, Wp.rInA, Wp.rSetA, Wp.ixA, Wp.inA, Wp.setA, Wp.lenA, Wp.getD, Option.map_some, Option.bind_some, Option.getD_some,  Wp.gIxA, Wp.wDNew, Wp.wDNewT, Wp.rLenA, Wp.rSortD, Wp.rMaxL, Wp.rPopL, Wp.rGet1, Wp.rGet2, Wp.wGet1, Wp.wGet2, Wp.wPop1, Wp.wPop2, Wp.wDel, Wp.isDT, Wp.keyT, Wp.keysT, Wp.keysL, Wp.ex_ins, Wp.ex_dct, Wp.wIf, Wp.rGt, Wp.wTry, Wp.wMethX, Wp.wCallX, Wp.wRaise, Wp.rAddI, Int.cast_ofNat_Int, Int.reduceBEq, lk_Reader_row, pt_Reader_row, lk_Reader_place, pt_Reader_place, no_Reader_byte, no_Reader_inner, no_Reader_is_done, no_Reader_number, no_Reader_part, no_Reader_value, no_Reader_word, ln_Reader, mk_Reader, Wp.rMulB])
local macro_rules | `(tactic| walk_at "r0") => `(tactic| repeat (first | walk_at "w0" | walk_at "go"))
variable {C CB : Addr}
/-! ### tuples one in the other -/
def dp : Nat → List Int
  | 0 => [3, 0]
  | n + 1 => 3 :: 1 :: 1 :: dp n
theorem rdNum_one (L : List Int) : rdNum (1 :: 1 :: L) = some (1, L) := by
  have e : (1 : Int).toNat = 1 := rfl
  rw [rdNum, e]
  rw [if_pos ⟨by rw [List.length_cons]; omega, by show (some (1 : Int)) ≠ some 0; decide, by show numI 0 [1] ≤ 4294967295; decide⟩]
  rfl
theorem rdNum_zero : rdNum [0] = some (0, []) := by
  have e : (0 : Int).toNat = 0 := rfl
  rw [rdNum, e]
  rw [if_pos ⟨Nat.zero_le _, by show (none : Option Int) ≠ some 0; decide, by show numI 0 [] ≤ 4294967295; decide⟩]
  rfl
theorem rdFlat_three (g : List Int → Option (T × List Int)) (L : List Int) : rdFlat g (3 :: L) = g L := by
  rw [rdFlat, if_neg (by decide), if_neg (by decide), if_neg (by decide), if_pos rfl]
theorem dp_some : ∀ n e, n < e → ∃ v, rdVal e (dp n) = some (v, []) := by
  intro n
  induction n with
  | zero =>
    intro e h
    obtain ⟨k, rfl⟩ : ∃ k, e = k + 1 := ⟨e - 1, by omega⟩
    refine ⟨.tup [], ?_⟩
    show rdFlat (rdTup (rdVal k)) (3 :: [0]) = _
    rw [rdFlat_three, rdTup, rdNum_zero]
    rfl
  | succ n ih =>
    intro e h
    obtain ⟨k, rfl⟩ : ∃ k, e = k + 1 := ⟨e - 1, by omega⟩
    obtain ⟨v, hv⟩ := ih k (by omega)
    refine ⟨.tup [v], ?_⟩
    show rdFlat (rdTup (rdVal k)) (3 :: 1 :: 1 :: dp n) = _
    rw [rdFlat_three, rdTup, rdNum_one]
    simp only [rdItems, hv]
theorem dp_none : ∀ n e, e ≤ n → rdVal e (dp n) = none := by
  intro n
  induction n with
  | zero =>
    intro e h
    obtain rfl : e = 0 := by omega
    show rdFlat (fun _ => none) (3 :: [0]) = _
    rw [rdFlat_three]
  | succ n ih =>
    intro e h
    cases e with
    | zero =>
      show rdFlat (fun _ => none) (3 :: 1 :: 1 :: dp n) = _
      rw [rdFlat_three]
    | succ k =>
      have hv := ih k (by omega)
      show rdFlat (rdTup (rdVal k)) (3 :: 1 :: 1 :: dp n) = _
      rw [rdFlat_three, rdTup, rdNum_one]
      simp only [rdItems, hv]
theorem dp_len : ∀ n, (dp n).length = 3 * n + 2
  | 0 => rfl
  | n + 1 => by
    show (dp n).length + 1 + 1 + 1 = _
    rw [dp_len n]; omega
theorem dp_byt : ∀ n, Byt (dp n)
  | 0 => fun x hx => by
    simp only [dp, List.mem_cons, List.not_mem_nil, or_false] at hx
    omega
  | n + 1 => fun x hx => by
    have hx : x = 3 ∨ x = 1 ∨ x = 1 ∨ x ∈ dp n := by simpa [dp] using hx
    rcases hx with rfl | rfl | rfl | h
    · omega
    · omega
    · omega
    · exact dp_byt n x h
end My

set_option Elab.async false
set_option linter.all false
set_option maxRecDepth 100000
set_option maxHeartbeats 8000000
namespace My
open PySem PySem.Spec PyProof.Rows L2 Wp Gn
local macro_rules | `(tactic| walk_at "go") => `(tactic| (with_reducible refine goS_i ?_))
local macro_rules | `(tactic| walk_at "wp") => `(tactic| simp (disch := omega) only [Wp.wSeq, Wp.wNext, Wp.wSet, Wp.wVar, Wp.wC, Wp.wOp, Wp.wRet, Wp.wIfS, Wp.wTest, Wp.wCall, Wp.wCons, Wp.wNil, Wp.wTup, Wp.wLst, Wp.wAsg, Wp.gTp, Wp.gC, Wp.gNm, Wp.gN0, Wp.gIx, Wp.rSet, Wp.rAdd, Wp.rMul, Wp.rMod, Wp.rSub, Wp.rFdiv, Wp.rPow, Wp.rInt, Wp.rIx, Wp.rLt, Wp.rLe, Wp.rCmp, Wp.rGeI, Wp.rGtI, Wp.wCB, Wp.rLen, Wp.rLen1, Wp.rInt1, Wp.rMax2, Wp.rMin2, Wp.rTupOf, Wp.rListOf,
  Wp.wIsi, Wp.rBIs, Wp.rIsN, Wp.isNon, Wp.wMt, Wp.rAppendT, Wp.rExtendT, Wp.rReverseT, Wp.wNot, Wp.wOr, Wp.wAnd, Wp.wAndV, Wp.wOrV, Wp.wNotV, Wp.wFor, Wp.iRg1, Wp.iRg2, Wp.iAnyW, Wp.wAll, Wp.wChain, Wp.wSl, Wp.wNoPart, Wp.wPart, Wp.rSl, Wp.wNeg, Wp.rNeg, Wp.wLc, Wp.wYes, Wp.wDrop, Wp.wipeT, Wp.wAug, List.map, List.set_cons_zero, List.set_cons_succ, List.getElem?_cons_zero, List.getElem?_cons_succ, List.length_cons, List.length_nil, List.cons_append, List.nil_append, List.replicate, Wp.startT,
  true_and, and_true, Wp.wif_true, Wp.wif_false, Wp.ex_some, Wp.ex_some1, Wp.ex_eq, Wp.ex_lst, Wp.ex_lst0, Wp.rEq_int, Bool.false_bne, Bool.true_bne, Int.reduceLT, Int.reduceLE, Int.reduceAdd, Nat.reduceAdd, Nat.reduceSub, eq_self, ite_true, ite_false, beq_self_eq_true, Bool.not_true, Bool.not_false, Wp.isB_0, Wp.isB_1, Wp.isB_2, Wp.isB_3, Wp.isB_4, Wp.isB_5, Wp.isB_6, Wp.isB_7, Wp.isB_8, Wp.isB_9, Wp.isB_10, Wp.isB_11, Wp.isB_12, Wp.isB_13, Wp.isB_14, Wp.isB_15, Wp.isB_16, Wp.isB_17, Wp.isB_18, Wp.isB_19, Wp.isB_20, Wp.isB_21, Wp.isB_22, Wp.isB_23, Wp.isB_24, Wp.isB_25, Wp.isB_26, Wp.isB_27, Wp.isB_28, Wp.isB_29, Wp.isB_30, Wp.isB_31, Wp.isB_32, Wp.isB_33, Wp.isB_34, Wp.isB_35, Wp.cmul_l, Wp.cmul_r, Wp.cpow_lit, Wp.size_le, Wp.size_lt, Wp.atI_0, Wp.atI_1, Wp.atI_2, Wp.atI_3, Wp.atI_4, Wp.atI_5, Wp.atI_6, Wp.ixN_0, Wp.ixN_1, Wp.ixN_2, Wp.itemsT, Wp.tyT, reduceIte, Wp.wFld, Wp.wFSet, Wp.wFAug, Wp.wMeth, Wp.wMake, Wp.rIxA, Wp.rInA, Wp.rSetA, Wp.ixA, Wp.inA, Wp.setA, Wp.lenA, Wp.getD, Option.map_some, Option.bind_some, Option.getD_some,  Wp.gIxA, Wp.wDNew, Wp.wDNewT, Wp.rLenA, Wp.rSortD, Wp.rMaxL, Wp.rPopL, Wp.rGet1, Wp.rGet2, Wp.wGet1, Wp.wGet2, Wp.wPop1, Wp.wPop2, Wp.wDel, Wp.isDT, Wp.keyT, Wp.keysT, Wp.keysL, Wp.ex_ins, Wp.ex_dct, Wp.wIf, Wp.rGt, Wp.wTry, Wp.wMethX, Wp.wCallX, Wp.wRaise, Wp.rAddI, Int.cast_ofNat_Int, Int.reduceBEq, lk_Reader_row, pt_Reader_row, lk_Reader_place, pt_Reader_place, no_Reader_byte, no_Reader_inner, no_Reader_is_done, no_Reader_number, no_Reader_part, no_Reader_value, no_Reader_word, ln_Reader, mk_Reader, Wp.rMulB, Wp.upS, Wp.upS_upS, *])
local macro_rules | `(tactic| walk_at "run") => `(tactic| repeat (first | walk_at "wp" | walk_at "go"))
local macro_rules | `(tactic| walk_at "wq") => `(tactic| simp (disch := omega) only [Wp.wSeq, Wp.wNext, Wp.wSet, Wp.wVar, Wp.wC, Wp.wOp, Wp.wRet, Wp.wIfS, Wp.wTest, Wp.wCall, Wp.wCons, Wp.wNil, Wp.wTup, Wp.wLst, Wp.wAsg, Wp.gTp, Wp.gC, Wp.gNm, Wp.gN0, Wp.gIx, Wp.rSet, Wp.rAdd, Wp.rMul, Wp.rMod, Wp.rSub, Wp.rFdiv, Wp.rPow, Wp.rInt, Wp.rIx, Wp.rLt, Wp.rLe, Wp.rCmp, Wp.rGeI, Wp.rGtI, Wp.wCB, Wp.rLen, Wp.rLen1, Wp.rInt1, Wp.rMax2, Wp.rMin2, Wp.rTupOf, Wp.rListOf,
  Wp.wIsi, Wp.rBIs, Wp.rIsN, Wp.isNon, Wp.wMt, Wp.rAppendT, Wp.rExtendT, Wp.rReverseT, Wp.wNot, Wp.wOr, Wp.wAnd, Wp.wAndV, Wp.wOrV, Wp.wNotV, Wp.wFor, Wp.iRg1, Wp.iRg2, Wp.iAnyW, Wp.wAll, Wp.wChain, Wp.wSl, Wp.wNoPart, Wp.wPart, Wp.rSl, Wp.wNeg, Wp.rNeg, Wp.wLc, Wp.wYes, Wp.wDrop, Wp.wipeT, Wp.wAug, List.map, List.set_cons_zero, List.set_cons_succ, List.getElem?_cons_zero, List.getElem?_cons_succ, List.length_cons, List.length_nil, List.cons_append, List.nil_append, List.replicate, Wp.startT,
  true_and, and_true, Wp.wif_true, Wp.wif_false, Wp.ex_some, Wp.ex_some1, Wp.ex_eq, Wp.ex_lst, Wp.ex_lst0, Wp.rEq_int, Bool.false_bne, Bool.true_bne, Int.reduceLT, Int.reduceLE, Int.reduceAdd, Nat.reduceAdd, Nat.reduceSub, eq_self, ite_true, ite_false, beq_self_eq_true, Bool.not_true, Bool.not_false, Wp.isB_0, Wp.isB_1, Wp.isB_2, Wp.isB_3, Wp.isB_4, Wp.isB_5, Wp.isB_6, Wp.isB_7, Wp.isB_8, Wp.isB_9, Wp.isB_10, Wp.isB_11, Wp.isB_12, Wp.isB_13, Wp.isB_14, Wp.isB_15, Wp.isB_16, Wp.isB_17, Wp.isB_18, Wp.isB_19, Wp.isB_20, Wp.isB_21, Wp.isB_22, Wp.isB_23, Wp.isB_24, Wp.isB_25, Wp.isB_26, Wp.isB_27, Wp.isB_28, Wp.isB_29, Wp.isB_30, Wp.isB_31, Wp.isB_32, Wp.isB_33, Wp.isB_34, Wp.isB_35, Wp.cmul_l, Wp.cmul_r, Wp.cpow_lit, Wp.size_le, Wp.size_lt, Wp.atI_0, Wp.atI_1, Wp.atI_2, Wp.atI_3, Wp.atI_4, Wp.atI_5, Wp.atI_6, Wp.ixN_0, Wp.ixN_1, Wp.ixN_2, Wp.itemsT, Wp.tyT, reduceIte, Wp.wFld, Wp.wFSet, Wp.wFAug, Wp.wMeth, Wp.wMake, Wp.rIxA, Wp.rInA, Wp.rSetA, Wp.ixA, Wp.inA, Wp.setA, Wp.lenA, Wp.getD, Option.map_some, Option.bind_some, Option.getD_some,  Wp.gIxA, Wp.wDNew, Wp.wDNewT, Wp.rLenA, Wp.rSortD, Wp.rMaxL, Wp.rPopL, Wp.rGet1, Wp.rGet2, Wp.wGet1, Wp.wGet2, Wp.wPop1, Wp.wPop2, Wp.wDel, Wp.isDT, Wp.keyT, Wp.keysT, Wp.keysL, Wp.ex_ins, Wp.ex_dct, Wp.wIf, Wp.rGt, Wp.wTry, Wp.wMethX, Wp.wCallX, Wp.wRaise, Wp.rAddI, Int.cast_ofNat_Int, Int.reduceBEq, lk_Reader_row, pt_Reader_row, lk_Reader_place, pt_Reader_place, no_Reader_byte, no_Reader_inner, no_Reader_is_done, no_Reader_number, no_Reader_part, no_Reader_value, no_Reader_word, ln_Reader, mk_Reader, Wp.rMulB, *])
local macro_rules | `(tactic| walk_at "r2") => `(tactic| repeat (first | walk_at "wq" | walk_at "go"))
local macro_rules | `(tactic| walk_at "w0") => `(tactic| simp (disch := omega) only [Wp.wSeq, Wp.wNext, Wp.wSet, Wp.wVar, Wp.wC, Wp.wOp, Wp.wRet, Wp.wIfS, Wp.wTest, Wp.wCall, Wp.wCons, Wp.wNil, Wp.wTup, Wp.wLst, Wp.wAsg, Wp.gTp, Wp.gC, Wp.gNm, Wp.gN0, Wp.gIx, Wp.rSet, Wp.rAdd, Wp.rMul, Wp.rMod, Wp.rSub, Wp.rFdiv, Wp.rPow, Wp.rInt, Wp.rIx, Wp.rLt, Wp.rLe, Wp.rCmp, Wp.rGeI, Wp.rGtI, Wp.wCB, Wp.rLen, Wp.rLen1, Wp.rInt1, Wp.rMax2, Wp.rMin2, Wp.rTupOf, Wp.rListOf,
  Wp.wIsi, Wp.rBIs, Wp.rIsN, Wp.isNon, Wp.wMt, Wp.rAppendT, Wp.rExtendT, Wp.rReverseT, Wp.wNot, Wp.wOr, Wp.wAnd, Wp.wAndV, Wp.wOrV, Wp.wNotV, Wp.wFor, Wp.iRg1, Wp.iRg2, Wp.iAnyW, Wp.wAll, Wp.wChain, Wp.wSl, Wp.wNoPart, Wp.wPart, Wp.rSl, Wp.wNeg, Wp.rNeg, Wp.wLc, Wp.wYes, Wp.wDrop, Wp.wipeT, Wp.wAug, List.map, List.set_cons_zero, List.set_cons_succ, List.getElem?_cons_zero, List.getElem?_cons_succ, List.length_cons, List.length_nil, List.cons_append, List.nil_append, List.replicate, Wp.startT,
  true_and, and_true, Wp.wif_true, Wp.wif_false, Wp.ex_some, Wp.ex_some1, Wp.ex_eq, Wp.ex_lst, Wp.ex_lst0, Wp.rEq_int, Bool.false_bne, Bool.true_bne, Int.reduceLT, Int.reduceLE, Int.reduceAdd, Nat.reduceAdd, Nat.reduceSub, eq_self, ite_true, ite_false, beq_self_eq_true, Bool.not_true, Bool.not_false, Wp.isB_0, Wp.isB_1, Wp.isB_2, Wp.isB_3, Wp.isB_4, Wp.isB_5, Wp.isB_6, Wp.isB_7, Wp.isB_8, Wp.isB_9, Wp.isB_10, Wp.isB_11, Wp.isB_12, Wp.isB_13, Wp.isB_14, Wp.isB_15, Wp.isB_16, Wp.isB_17, Wp.isB_18, Wp.isB_19, Wp.isB_20, Wp.isB_21, Wp.isB_22, Wp.isB_23, Wp.isB_24, Wp.isB_25, Wp.isB_26, Wp.isB_27, Wp.isB_28, Wp.isB_29, Wp.isB_30, Wp.isB_31, Wp.isB_32, Wp.isB_33, Wp.isB_34, Wp.isB_35, Wp.cmul_l, Wp.cmul_r, Wp.cpow_lit, Wp.size_le, Wp.size_lt, Wp.atI_0, Wp.atI_1, Wp.atI_2, Wp.atI_3, Wp.atI_4, Wp.atI_5, Wp.atI_6, Wp.ixN_0, Wp.ixN_1, Wp.ixN_2, Wp.itemsT, Wp.tyT, reduceIte, Wp.wFld, Wp.wFSet, Wp.wFAug, Wp.wMeth, Wp.wMake, Wp.rIxA, Wp.rInA, Wp.rSetA, Wp.ixA, Wp.inA, Wp.setA, Wp.lenA, Wp.getD, Option.map_some, Option.bind_some, Option.getD_some,  Wp.gIxA, Wp.wDNew, Wp.wDNewT, Wp.rLenA, Wp.rSortD, Wp.rMaxL, Wp.rPopL, Wp.rGet1, Wp.rGet2, Wp.wGet1, Wp.wGet2, Wp.wPop1, Wp.wPop2, Wp.wDel, Wp.isDT, Wp.keyT, Wp.keysT, Wp.keysL, Wp.ex_ins, Wp.ex_dct, Wp.wIf, Wp.rGt, Wp.wTry, Wp.wMethX, Wp.wCallX, Wp.wRaise, Wp.rAddI, Int.cast_ofNat_Int, Int.reduceBEq, lk_Reader_row, pt_Reader_row, lk_Reader_place, pt_Reader_place, no_Reader_byte, no_Reader_inner, no_Reader_is_done, no_Reader_number, no_Reader_part, no_Reader_value, no_Reader_word, ln_Reader, mk_Reader, Wp.rMulB])
local macro_rules | `(tactic| walk_at "r0") => `(tactic| repeat (first | walk_at "w0" | walk_at "go"))
variable {C CB : Addr}
/-! ### rows that are turned -/
theorem pick6 {p : Addr} {S : Sta} {Q : T → Sta → Prop} {a0 a1 a2 a3 a4 : Option T} (ha : a0 = some (.ref p)) (hb : IsBag none S p) (h : ∀ (b : Int) S', 0 ≤ b → b ≤ 255 → Grb none p S S' → Q (.int b) S') :
    l1__law_turned C CB spDr [a0, a1, a2, a3, a4] S Q := by
  subst ha
  unfold l1__law_turned
  walk_at "r0"
  refine ⟨hb, by decide, by decide, fun r S1 r0 r1 g1 => ?_⟩
  show ∀ z, S1 z = none → _
  intro z hz
  obtain ⟨S2, w2, g2, e2⟩ := al_ (o := .lst [.int 0, .int 1, .int 2, .int 3, .int 97, .int r]) hz
  have nzp := new_ne g1.bag hz
  rw [w2]
  have gg := g1.gr g2
  refine ⟨gg.bag, by decide, by decide, fun e S3 q0 q1 g3 => ?_⟩
  have e3 := g3.keep z _ e2 nzp
  simp only [e3]
  have g13 := gg.trans g3
  have : e = 0 ∨ e = 1 ∨ e = 2 ∨ e = 3 ∨ e = 4 ∨ e = 5 := by omega
  rcases this with rfl | rfl | rfl | rfl | rfl | rfl
  · exact ⟨_, atI_0.trans rfl, h 0 S3 (by omega) (by omega) g13⟩
  · exact ⟨_, atI_1.trans rfl, h 1 S3 (by omega) (by omega) g13⟩
  · exact ⟨_, atI_2.trans rfl, h 2 S3 (by omega) (by omega) g13⟩
  · exact ⟨_, atI_3.trans rfl, h 3 S3 (by omega) (by omega) g13⟩
  · exact ⟨_, atI_4.trans rfl, h 97 S3 (by omega) (by omega) g13⟩
  · exact ⟨_, atI_5.trans rfl, h r S3 (by omega) (by omega) g13⟩
theorem comp_turn (p D : Addr) (Q : T → Sta → Prop) (hDp : D ≠ p) (S0 : Sta) (hn : S0 D = none) (a1 a2 a3 a4 : Option T)
    (hQ : ∀ (acc : List Int) S', Grb none p S0 S' → S' D = some (.lst (acc.map T.int)) → Byt acc → acc.length ≤ 40 → Q (.ref D) S') :
    ∀ (xs : List T) (acc : List Int) (S : Sta), Grb none p S0 S → S D = some (.lst (acc.map T.int)) → Byt acc → acc.length + xs.length ≤ 40 →
      compW (gNm 2) wYes (l1__law_turned C CB spDr) (fun _ => True) [some (.ref p), a1, a2, a3, a4] D Q xs S
  | [], acc, S, k1, k2, k4, k5 => ⟨trivial, hQ acc S k1 k2 k4 (by simpa using k5)⟩
  | x :: xs, acc, S, k1, k2, k4, k5 => by
    refine ⟨trivial, ?_⟩
    have ih := comp_turn p D Q hDp S0 hn a1 a2 a3 a4 hQ xs
    generalize compW (gNm 2) wYes (l1__law_turned C CB spDr) (fun _ => True) [some (.ref p), a1, a2, a3, a4] D Q xs = LP at ih ⊢
    refine wif_t ?_
    rw [List.length_cons] at k5
    show l1__law_turned C CB spDr [some (.ref p), a1, some x, a3, a4] S _
    refine pick6 rfl k1.bag fun b S1 b0 b1 g1 => ?_
    have e1 := g1.keep D _ k2 hDp
    refine ⟨_, e1, by rw [List.length_map]; exact lt_sz (by omega), ?_⟩
    refine ih (acc ++ [b]) _ ⟨fun a o ea n => ?_, (k1.trans g1).bag.up (off_ hDp)⟩ (by rw [upS_same, List.map_append]; rfl) (fun y hy => ?_) (by rw [List.length_append]; show acc.length + 1 + xs.length ≤ 40; omega)
    · rw [upS_ne (fun z => by rw [z, hn] at ea; cases ea)]
      exact (k1.trans g1).keep a o ea n
    · rcases List.mem_append.mp hy with z | z
      · exact k4 y z
      · rw [List.mem_singleton.mp z]; exact ⟨b0, b1⟩
end My

set_option Elab.async false
set_option linter.all false
set_option maxRecDepth 100000
set_option maxHeartbeats 8000000
namespace My
open PySem PySem.Spec PyProof.Rows L2 Wp Gn
local macro_rules | `(tactic| walk_at "go") => `(tactic| (with_reducible refine goS_i ?_))
local macro_rules | `(tactic| walk_at "wp") => `(tactic| simp (disch := omega) only [Wp.wSeq, Wp.wNext, Wp.wSet, Wp.wVar, Wp.wC, Wp.wOp, Wp.wRet, Wp.wIfS, Wp.wTest, Wp.wCall, Wp.wCons, Wp.wNil, Wp.wTup, Wp.wLst, Wp.wAsg, Wp.gTp, Wp.gC, Wp.gNm, Wp.gN0, Wp.gIx, Wp.rSet, Wp.rAdd, Wp.rMul, Wp.rMod, Wp.rSub, Wp.rFdiv, Wp.rPow, Wp.rInt, Wp.rIx, Wp.rLt, Wp.rLe, Wp.rCmp, Wp.rGeI, Wp.rGtI, Wp.wCB, Wp.rLen, Wp.rLen1, Wp.rInt1, Wp.rMax2, Wp.rMin2, Wp.rTupOf, Wp.rListOf,
  Wp.wIsi, Wp.rBIs, Wp.rIsN, Wp.isNon, Wp.wMt, Wp.rAppendT, Wp.rExtendT, Wp.rReverseT, Wp.wNot, Wp.wOr, Wp.wAnd, Wp.wAndV, Wp.wOrV, Wp.wNotV, Wp.wFor, Wp.iRg1, Wp.iRg2, Wp.iAnyW, Wp.wAll, Wp.wChain, Wp.wSl, Wp.wNoPart, Wp.wPart, Wp.rSl, Wp.wNeg, Wp.rNeg, Wp.wLc, Wp.wYes, Wp.wDrop, Wp.wipeT, Wp.wAug, List.map, List.set_cons_zero, List.set_cons_succ, List.getElem?_cons_zero, List.getElem?_cons_succ, List.length_cons, List.length_nil, List.cons_append, List.nil_append, List.replicate, Wp.startT,
  true_and, and_true, Wp.wif_true, Wp.wif_false, Wp.ex_some, Wp.ex_some1, Wp.ex_eq, Wp.ex_lst, Wp.ex_lst0, Wp.rEq_int, Bool.false_bne, Bool.true_bne, Int.reduceLT, Int.reduceLE, Int.reduceAdd, Nat.reduceAdd, Nat.reduceSub, eq_self, ite_true, ite_false, beq_self_eq_true, Bool.not_true, Bool.not_false, Wp.isB_0, Wp.isB_1, Wp.isB_2, Wp.isB_3, Wp.isB_4, Wp.isB_5, Wp.isB_6, Wp.isB_7, Wp.isB_8, Wp.isB_9, Wp.isB_10, Wp.isB_11, Wp.isB_12, Wp.isB_13, Wp.isB_14, Wp.isB_15, Wp.isB_16, Wp.isB_17, Wp.isB_18, Wp.isB_19, Wp.isB_20, Wp.isB_21, Wp.isB_22, Wp.isB_23, Wp.isB_24, Wp.isB_25, Wp.isB_26, Wp.isB_27, Wp.isB_28, Wp.isB_29, Wp.isB_30, Wp.isB_31, Wp.isB_32, Wp.isB_33, Wp.isB_34, Wp.isB_35, Wp.cmul_l, Wp.cmul_r, Wp.cpow_lit, Wp.size_le, Wp.size_lt, Wp.atI_0, Wp.atI_1, Wp.atI_2, Wp.atI_3, Wp.atI_4, Wp.atI_5, Wp.atI_6, Wp.ixN_0, Wp.ixN_1, Wp.ixN_2, Wp.itemsT, Wp.tyT, reduceIte, Wp.wFld, Wp.wFSet, Wp.wFAug, Wp.wMeth, Wp.wMake, Wp.rIxA, Wp.rInA, Wp.rSetA, Wp.ixA, Wp.inA, Wp.setA, Wp.lenA, Wp.getD, Option.map_some, Option.bind_some, Option.getD_some,  Wp.gIxA, Wp.wDNew, Wp.wDNewT, Wp.rLenA, Wp.rSortD, Wp.rMaxL, Wp.rPopL, Wp.rGet1, Wp.rGet2, Wp.wGet1, Wp.wGet2, Wp.wPop1, Wp.wPop2, Wp.wDel, Wp.isDT, Wp.keyT, Wp.keysT, Wp.keysL, Wp.ex_ins, Wp.ex_dct, Wp.wIf, Wp.rGt, Wp.wTry, Wp.wMethX, Wp.wCallX, Wp.wRaise, Wp.rAddI, Int.cast_ofNat_Int, Int.reduceBEq, lk_Reader_row, pt_Reader_row, lk_Reader_place, pt_Reader_place, no_Reader_byte, no_Reader_inner, no_Reader_is_done, no_Reader_number, no_Reader_part, no_Reader_value, no_Reader_word, ln_Reader, mk_Reader, Wp.rMulB, Wp.upS, Wp.upS_upS, *])
local macro_rules | `(tactic| walk_at "run") => `(tactic| repeat (first | walk_at "wp" | walk_at "go"))
local macro_rules | `(tactic| walk_at "wq") => `(tactic| simp (disch := omega) only [Wp.wSeq, Wp.wNext, Wp.wSet, Wp.wVar, Wp.wC, Wp.wOp, Wp.wRet, Wp.wIfS, Wp.wTest, Wp.wCall, Wp.wCons, Wp.wNil, Wp.wTup, Wp.wLst, Wp.wAsg, Wp.gTp, Wp.gC, Wp.gNm, Wp.gN0, Wp.gIx, Wp.rSet, Wp.rAdd, Wp.rMul, Wp.rMod, Wp.rSub, Wp.rFdiv, Wp.rPow, Wp.rInt, Wp.rIx, Wp.rLt, Wp.rLe, Wp.rCmp, Wp.rGeI, Wp.rGtI, Wp.wCB, Wp.rLen, Wp.rLen1, Wp.rInt1, Wp.rMax2, Wp.rMin2, Wp.rTupOf, Wp.rListOf,
  Wp.wIsi, Wp.rBIs, Wp.rIsN, Wp.isNon, Wp.wMt, Wp.rAppendT, Wp.rExtendT, Wp.rReverseT, Wp.wNot, Wp.wOr, Wp.wAnd, Wp.wAndV, Wp.wOrV, Wp.wNotV, Wp.wFor, Wp.iRg1, Wp.iRg2, Wp.iAnyW, Wp.wAll, Wp.wChain, Wp.wSl, Wp.wNoPart, Wp.wPart, Wp.rSl, Wp.wNeg, Wp.rNeg, Wp.wLc, Wp.wYes, Wp.wDrop, Wp.wipeT, Wp.wAug, List.map, List.set_cons_zero, List.set_cons_succ, List.getElem?_cons_zero, List.getElem?_cons_succ, List.length_cons, List.length_nil, List.cons_append, List.nil_append, List.replicate, Wp.startT,
  true_and, and_true, Wp.wif_true, Wp.wif_false, Wp.ex_some, Wp.ex_some1, Wp.ex_eq, Wp.ex_lst, Wp.ex_lst0, Wp.rEq_int, Bool.false_bne, Bool.true_bne, Int.reduceLT, Int.reduceLE, Int.reduceAdd, Nat.reduceAdd, Nat.reduceSub, eq_self, ite_true, ite_false, beq_self_eq_true, Bool.not_true, Bool.not_false, Wp.isB_0, Wp.isB_1, Wp.isB_2, Wp.isB_3, Wp.isB_4, Wp.isB_5, Wp.isB_6, Wp.isB_7, Wp.isB_8, Wp.isB_9, Wp.isB_10, Wp.isB_11, Wp.isB_12, Wp.isB_13, Wp.isB_14, Wp.isB_15, Wp.isB_16, Wp.isB_17, Wp.isB_18, Wp.isB_19, Wp.isB_20, Wp.isB_21, Wp.isB_22, Wp.isB_23, Wp.isB_24, Wp.isB_25, Wp.isB_26, Wp.isB_27, Wp.isB_28, Wp.isB_29, Wp.isB_30, Wp.isB_31, Wp.isB_32, Wp.isB_33, Wp.isB_34, Wp.isB_35, Wp.cmul_l, Wp.cmul_r, Wp.cpow_lit, Wp.size_le, Wp.size_lt, Wp.atI_0, Wp.atI_1, Wp.atI_2, Wp.atI_3, Wp.atI_4, Wp.atI_5, Wp.atI_6, Wp.ixN_0, Wp.ixN_1, Wp.ixN_2, Wp.itemsT, Wp.tyT, reduceIte, Wp.wFld, Wp.wFSet, Wp.wFAug, Wp.wMeth, Wp.wMake, Wp.rIxA, Wp.rInA, Wp.rSetA, Wp.ixA, Wp.inA, Wp.setA, Wp.lenA, Wp.getD, Option.map_some, Option.bind_some, Option.getD_some,  Wp.gIxA, Wp.wDNew, Wp.wDNewT, Wp.rLenA, Wp.rSortD, Wp.rMaxL, Wp.rPopL, Wp.rGet1, Wp.rGet2, Wp.wGet1, Wp.wGet2, Wp.wPop1, Wp.wPop2, Wp.wDel, Wp.isDT, Wp.keyT, Wp.keysT, Wp.keysL, Wp.ex_ins, Wp.ex_dct, Wp.wIf, Wp.rGt, Wp.wTry, Wp.wMethX, Wp.wCallX, Wp.wRaise, Wp.rAddI, Int.cast_ofNat_Int, Int.reduceBEq, lk_Reader_row, pt_Reader_row, lk_Reader_place, pt_Reader_place, no_Reader_byte, no_Reader_inner, no_Reader_is_done, no_Reader_number, no_Reader_part, no_Reader_value, no_Reader_word, ln_Reader, mk_Reader, Wp.rMulB, *])
local macro_rules | `(tactic| walk_at "r2") => `(tactic| repeat (first | walk_at "wq" | walk_at "go"))
local macro_rules | `(tactic| walk_at "w0") => `(tactic| simp (disch := omega) only [Wp.wSeq, Wp.wNext, Wp.wSet, Wp.wVar, Wp.wC, Wp.wOp, Wp.wRet, Wp.wIfS, Wp.wTest, Wp.wCall, Wp.wCons, Wp.wNil, Wp.wTup, Wp.wLst, Wp.wAsg, Wp.gTp, Wp.gC, Wp.gNm, Wp.gN0, Wp.gIx, Wp.rSet, Wp.rAdd, Wp.rMul, Wp.rMod, Wp.rSub, Wp.rFdiv, Wp.rPow, Wp.rInt, Wp.rIx, Wp.rLt, Wp.rLe, Wp.rCmp, Wp.rGeI, Wp.rGtI, Wp.wCB, Wp.rLen, Wp.rLen1, Wp.rInt1, Wp.rMax2, Wp.rMin2, Wp.rTupOf, Wp.rListOf,
  Wp.wIsi, Wp.rBIs, Wp.rIsN, Wp.isNon, Wp.wMt, Wp.rAppendT, Wp.rExtendT, Wp.rReverseT, Wp.wNot, Wp.wOr, Wp.wAnd, Wp.wAndV, Wp.wOrV, Wp.wNotV, Wp.wFor, Wp.iRg1, Wp.iRg2, Wp.iAnyW, Wp.wAll, Wp.wChain, Wp.wSl, Wp.wNoPart, Wp.wPart, Wp.rSl, Wp.wNeg, Wp.rNeg, Wp.wLc, Wp.wYes, Wp.wDrop, Wp.wipeT, Wp.wAug, List.map, List.set_cons_zero, List.set_cons_succ, List.getElem?_cons_zero, List.getElem?_cons_succ, List.length_cons, List.length_nil, List.cons_append, List.nil_append, List.replicate, Wp.startT,
  true_and, and_true, Wp.wif_true, Wp.wif_false, Wp.ex_some, Wp.ex_some1, Wp.ex_eq, Wp.ex_lst, Wp.ex_lst0, Wp.rEq_int, Bool.false_bne, Bool.true_bne, Int.reduceLT, Int.reduceLE, Int.reduceAdd, Nat.reduceAdd, Nat.reduceSub, eq_self, ite_true, ite_false, beq_self_eq_true, Bool.not_true, Bool.not_false, Wp.isB_0, Wp.isB_1, Wp.isB_2, Wp.isB_3, Wp.isB_4, Wp.isB_5, Wp.isB_6, Wp.isB_7, Wp.isB_8, Wp.isB_9, Wp.isB_10, Wp.isB_11, Wp.isB_12, Wp.isB_13, Wp.isB_14, Wp.isB_15, Wp.isB_16, Wp.isB_17, Wp.isB_18, Wp.isB_19, Wp.isB_20, Wp.isB_21, Wp.isB_22, Wp.isB_23, Wp.isB_24, Wp.isB_25, Wp.isB_26, Wp.isB_27, Wp.isB_28, Wp.isB_29, Wp.isB_30, Wp.isB_31, Wp.isB_32, Wp.isB_33, Wp.isB_34, Wp.isB_35, Wp.cmul_l, Wp.cmul_r, Wp.cpow_lit, Wp.size_le, Wp.size_lt, Wp.atI_0, Wp.atI_1, Wp.atI_2, Wp.atI_3, Wp.atI_4, Wp.atI_5, Wp.atI_6, Wp.ixN_0, Wp.ixN_1, Wp.ixN_2, Wp.itemsT, Wp.tyT, reduceIte, Wp.wFld, Wp.wFSet, Wp.wFAug, Wp.wMeth, Wp.wMake, Wp.rIxA, Wp.rInA, Wp.rSetA, Wp.ixA, Wp.inA, Wp.setA, Wp.lenA, Wp.getD, Option.map_some, Option.bind_some, Option.getD_some,  Wp.gIxA, Wp.wDNew, Wp.wDNewT, Wp.rLenA, Wp.rSortD, Wp.rMaxL, Wp.rPopL, Wp.rGet1, Wp.rGet2, Wp.wGet1, Wp.wGet2, Wp.wPop1, Wp.wPop2, Wp.wDel, Wp.isDT, Wp.keyT, Wp.keysT, Wp.keysL, Wp.ex_ins, Wp.ex_dct, Wp.wIf, Wp.rGt, Wp.wTry, Wp.wMethX, Wp.wCallX, Wp.wRaise, Wp.rAddI, Int.cast_ofNat_Int, Int.reduceBEq, lk_Reader_row, pt_Reader_row, lk_Reader_place, pt_Reader_place, no_Reader_byte, no_Reader_inner, no_Reader_is_done, no_Reader_number, no_Reader_part, no_Reader_value, no_Reader_word, ln_Reader, mk_Reader, Wp.rMulB])
local macro_rules | `(tactic| walk_at "r0") => `(tactic| repeat (first | walk_at "w0" | walk_at "go"))
variable {C CB : Addr}
def elL : WE := wSl (wVar 1) wNoPart (wPart (wVar 3))
def elR0 : WE := wSl (wVar 1) (wPart (wVar 3)) wNoPart
def elR1 : WE := wSl (wVar 1) (wPart (wOp Wp.rAdd (wVar 3) (wC (.int 1)))) wNoPart
def elB : WE := wOp Wp.rAdd elL (wLst (wCons (wVar 4) wNil))
section
variable {r : Addr} {S : Sta} {Q : T → Sta → Prop} {xs : List Int} {k : Nat} {b : Int} {v0 v2 : Option T}
def Lnew (S : Sta) (ys : List Int) (Q : T → Sta → Prop) : Prop := ∀ q S', S q = none → Gr S S' → S' q = some (.lst (ys.map T.int)) → Q (.ref q) S'
theorem new_of {S S' : Sta} {q : Addr} (g : Gr S S') (e : S' q = none) : S q = none := by
  cases z : S q with
  | none => rfl
  | some o => rw [g _ _ z] at e; cases e
theorem elL_ok (hr : S r = some (.lst (xs.map T.int))) (h : Lnew S (xs.take k) Q) : elL [v0, some (.ref r), v2, some (.int (k : Int)), some (.int b)] S Q := by
  unfold elL
  walk_at "r0"
  refine ⟨xs.map T.int, by rw [hr], fun q hq => ?_⟩
  rw [show cutT (xs.map T.int) none (some (k : Int)) = (xs.take k).map T.int by rw [cutT_to, List.map_take]]
  exact h q _ hq (gr_new hq) upS_same
theorem elR0_ok (hr : S r = some (.lst (xs.map T.int))) (h : Lnew S (xs.drop k) Q) : elR0 [v0, some (.ref r), v2, some (.int (k : Int)), some (.int b)] S Q := by
  unfold elR0
  walk_at "r0"
  refine ⟨xs.map T.int, by rw [hr], fun q hq => ?_⟩
  rw [show cutT (xs.map T.int) (some (k : Int)) none = (xs.drop k).map T.int by rw [cutT_from, List.map_drop]]
  exact h q _ hq (gr_new hq) upS_same
theorem elR1_ok (hr : S r = some (.lst (xs.map T.int))) (h : Lnew S (xs.drop (k + 1)) Q) : elR1 [v0, some (.ref r), v2, some (.int (k : Int)), some (.int b)] S Q := by
  unfold elR1
  walk_at "r0"
  refine ⟨xs.map T.int, by rw [hr], fun q hq => ?_⟩
  rw [show cutT (xs.map T.int) (some ((k : Int) + 1)) none = (xs.drop (k + 1)).map T.int by rw [show (k : Int) + 1 = ((k + 1 : Nat) : Int) by omega, cutT_from, List.map_drop]]
  exact h q _ hq (gr_new hq) upS_same
theorem add_ok {te tf : WE} {σ : Sl} {as bs : List Int} (h1 : ∀ Q, Lnew S as Q → te σ S Q) (h2 : ∀ S', Gr S S' → ∀ Q, Lnew S' bs Q → tf σ S' Q) (hl : as.length + bs.length ≤ 20000) (h : Lnew S (as ++ bs) Q) : wOp Wp.rAdd te tf σ S Q := by
  refine h1 _ fun q1 S1 n1 g1 e1 => h2 S1 g1 _ fun q2 S2 n2 g2 e2 => ?_
  refine ⟨_, g2 _ _ e1, _, e2, le_sz (by rw [List.length_map, List.length_map]; omega), fun q3 n3 => ?_⟩
  have g := g1.trans g2
  refine h q3 _ (new_of g n3) (g.trans (gr_new n3)) ?_
  rw [upS_same, List.map_append]
theorem one_ok {σ : Sl} (hs : σ[4]? = some (some (.int b))) (h : Lnew S [b] Q) : wLst (wCons (wVar 4) wNil) σ S Q := by
  refine ⟨_, hs, ?_⟩
  refine ⟨by show 1 ≤ sizeLine; rw [sizeLine_eq]; decide, fun q hq => ?_⟩
  exact h q _ hq (gr_new hq) upS_same
theorem elB_ok (hr : S r = some (.lst (xs.map T.int))) (hl : xs.length ≤ 7000) (h : Lnew S (xs.take k ++ [b]) Q) : elB [v0, some (.ref r), v2, some (.int (k : Int)), some (.int b)] S Q :=
  add_ok (fun Q h => elL_ok hr h) (fun S' _ Q h => one_ok rfl h) (by rw [List.length_take, List.length_cons, List.length_nil]; omega) h
end
theorem turn_last {p r : Addr} {S : Sta} {D : WEnds} {xs : List Int} {k : Nat} {b : Int} {v2 : Option T} (hb : IsBag none S p) (hr : S r = some (.lst (xs.map T.int))) (hl : xs.length ≤ 7000) (hB : Byt xs) (b0 : 0 ≤ b) (b1 : b ≤ 255)
    (nx : ∀ (q : Addr) (ys : List Int) S', Grb none p S S' → S' q = some (.lst (ys.map T.int)) → q ≠ p → Byt ys → ys.length ≤ xs.length + 1 → D.nx [some (.ref p), some (.ref q), v2, some (.int (k : Int)), some (.int b)] S') :
    (wSet 1 (wOp rIxA (wLst (wCons (wOp Wp.rAdd elL elR1) (wCons (wOp Wp.rAdd elB elR0) (wCons (wOp Wp.rAdd elB elR1) wNil)))) (wCall 2 spDr (wCons (wVar 0) (wCons (wC (.int 3)) wNil))))) D [some (.ref p), some (.ref r), v2, some (.int (k : Int)), some (.int b)] S := by
  have sz : ∀ (A B : List Int), A.length ≤ 9000 → B.length ≤ 9000 → A.length + B.length ≤ 20000 := fun A B a b => by omega
  have lt : (xs.take k).length ≤ xs.length := by rw [List.length_take]; omega
  have ld : ∀ k, (xs.drop k).length ≤ xs.length := fun k => by rw [List.length_drop]; omega
  have lb : (xs.take k ++ [b]).length ≤ 9000 := by rw [List.length_append, List.length_cons, List.length_nil]; omega
  show wOp Wp.rAdd elL elR1 _ S _
  refine add_ok (fun Q h => elL_ok hr h) (fun S' g Q h => elR1_ok (g _ _ hr) h) (sz _ _ (by omega) (by have := ld (k + 1); omega)) fun q1 S1 n1 g1 e1 => ?_
  show wOp Wp.rAdd elB elR0 _ S1 _
  refine add_ok (fun Q h => elB_ok (g1 _ _ hr) hl h) (fun S' g Q h => elR0_ok (g _ _ (g1 _ _ hr)) h) (sz _ _ lb (by have := ld k; omega)) fun q2 S2 n2 g2 e2 => ?_
  have g02 := g1.trans g2
  show wOp Wp.rAdd elB elR1 _ S2 _
  refine add_ok (fun Q h => elB_ok (g02 _ _ hr) hl h) (fun S' g Q h => elR1_ok (g _ _ (g02 _ _ hr)) h) (sz _ _ lb (by have := ld (k + 1); omega)) fun q3 S3 n3 g3 e3 => ?_
  have g03 := g02.trans g3
  refine ⟨by show 3 ≤ sizeLine; rw [sizeLine_eq]; decide, fun z hz => ?_⟩
  obtain ⟨S4, w4, g4, e4⟩ := al_ (o := .lst [.ref q1, .ref q2, .ref q3]) hz
  rw [w4]
  have g04 := g03.trans g4
  have hb3 := hb.gr g03
  have nzp := new_ne hb3 hz
  refine ⟨.ref p, rfl, ?_⟩
  refine ⟨rfl, hb.gr g04, by decide, by decide, fun e S5 q0 q4 g5 => ?_⟩
  have e5 := g5.keep z _ e4 nzp
  have gg : Grb none p S S5 := ⟨fun x o ex nx => g5.keep x o (g04 x o ex) nx, g5.bag⟩
  have np1 : q1 ≠ p := new_ne hb n1
  have np2 : q2 ≠ p := new_ne (hb.gr g1) n2
  have np3 : q3 ≠ p := new_ne (hb.gr g02) n3
  have bb : ∀ y ∈ xs.take k ++ [b], 0 ≤ y ∧ y ≤ 255 := fun y hy => by
    rcases List.mem_append.mp hy with h | h
    · exact hB y (List.mem_of_mem_take h)
    · rw [List.mem_singleton.mp h]; exact ⟨b0, b1⟩
  have ap : ∀ {A B : List Int}, Byt A → Byt B → Byt (A ++ B) := fun {A B} a b y hy => by
    rcases List.mem_append.mp hy with h | h
    · exact a y h
    · exact b y h
  have : e = 0 ∨ e = 1 ∨ e = 2 := by omega
  rcases this with rfl | rfl | rfl
  · refine ⟨.ref q1, by simp only [ixA, e5]; exact atI_0, goS_i (nx q1 _ S5 gg (g5.keep _ _ ((g2.trans (g3.trans g4)) _ _ e1) np1) np1 (ap (hB.take k) (hB.drop (k + 1))) ?_)⟩
    rw [List.length_append, List.length_take, List.length_drop]; omega
  · refine ⟨.ref q2, by simp only [ixA, e5]; exact atI_1, goS_i (nx q2 _ S5 gg (g5.keep _ _ ((g3.trans g4) _ _ e2) np2) np2 (ap bb (hB.drop k)) ?_)⟩
    rw [List.length_append, List.length_append, List.length_take, List.length_drop, List.length_cons, List.length_nil]; omega
  · refine ⟨.ref q3, by simp only [ixA, e5]; exact atI_2, goS_i (nx q3 _ S5 gg (g5.keep _ _ (g4 _ _ e3) np3) np3 (ap bb (hB.drop (k + 1))) ?_)⟩
    rw [List.length_append, List.length_append, List.length_take, List.length_drop, List.length_cons, List.length_nil]; omega
end My

set_option Elab.async false
set_option linter.all false
set_option maxRecDepth 100000
set_option maxHeartbeats 8000000
namespace My
open PySem PySem.Spec PyProof.Rows L2 Wp Gn
local macro_rules | `(tactic| walk_at "go") => `(tactic| (with_reducible refine goS_i ?_))
local macro_rules | `(tactic| walk_at "wp") => `(tactic| simp (disch := omega) only [Wp.wSeq, Wp.wNext, Wp.wSet, Wp.wVar, Wp.wC, Wp.wOp, Wp.wRet, Wp.wIfS, Wp.wTest, Wp.wCall, Wp.wCons, Wp.wNil, Wp.wTup, Wp.wLst, Wp.wAsg, Wp.gTp, Wp.gC, Wp.gNm, Wp.gN0, Wp.gIx, Wp.rSet, Wp.rAdd, Wp.rMul, Wp.rMod, Wp.rSub, Wp.rFdiv, Wp.rPow, Wp.rInt, Wp.rIx, Wp.rLt, Wp.rLe, Wp.rCmp, Wp.rGeI, Wp.rGtI, Wp.wCB, Wp.rLen, Wp.rLen1, Wp.rInt1, Wp.rMax2, Wp.rMin2, Wp.rTupOf, Wp.rListOf,
  Wp.wIsi, Wp.rBIs, Wp.rIsN, Wp.isNon, Wp.wMt, Wp.rAppendT, Wp.rExtendT, Wp.rReverseT, Wp.wNot, Wp.wOr, Wp.wAnd, Wp.wAndV, Wp.wOrV, Wp.wNotV, Wp.wFor, Wp.iRg1, Wp.iRg2, Wp.iAnyW, Wp.wAll, Wp.wChain, Wp.wSl, Wp.wNoPart, Wp.wPart, Wp.rSl, Wp.wNeg, Wp.rNeg, Wp.wLc, Wp.wYes, Wp.wDrop, Wp.wipeT, Wp.wAug, List.map, List.set_cons_zero, List.set_cons_succ, List.getElem?_cons_zero, List.getElem?_cons_succ, List.length_cons, List.length_nil, List.cons_append, List.nil_append, List.replicate, Wp.startT,
  true_and, and_true, Wp.wif_true, Wp.wif_false, Wp.ex_some, Wp.ex_some1, Wp.ex_eq, Wp.ex_lst, Wp.ex_lst0, Wp.rEq_int, Bool.false_bne, Bool.true_bne, Int.reduceLT, Int.reduceLE, Int.reduceAdd, Nat.reduceAdd, Nat.reduceSub, eq_self, ite_true, ite_false, beq_self_eq_true, Bool.not_true, Bool.not_false, Wp.isB_0, Wp.isB_1, Wp.isB_2, Wp.isB_3, Wp.isB_4, Wp.isB_5, Wp.isB_6, Wp.isB_7, Wp.isB_8, Wp.isB_9, Wp.isB_10, Wp.isB_11, Wp.isB_12, Wp.isB_13, Wp.isB_14, Wp.isB_15, Wp.isB_16, Wp.isB_17, Wp.isB_18, Wp.isB_19, Wp.isB_20, Wp.isB_21, Wp.isB_22, Wp.isB_23, Wp.isB_24, Wp.isB_25, Wp.isB_26, Wp.isB_27, Wp.isB_28, Wp.isB_29, Wp.isB_30, Wp.isB_31, Wp.isB_32, Wp.isB_33, Wp.isB_34, Wp.isB_35, Wp.cmul_l, Wp.cmul_r, Wp.cpow_lit, Wp.size_le, Wp.size_lt, Wp.atI_0, Wp.atI_1, Wp.atI_2, Wp.atI_3, Wp.atI_4, Wp.atI_5, Wp.atI_6, Wp.ixN_0, Wp.ixN_1, Wp.ixN_2, Wp.itemsT, Wp.tyT, reduceIte, Wp.wFld, Wp.wFSet, Wp.wFAug, Wp.wMeth, Wp.wMake, Wp.rIxA, Wp.rInA, Wp.rSetA, Wp.ixA, Wp.inA, Wp.setA, Wp.lenA, Wp.getD, Option.map_some, Option.bind_some, Option.getD_some,  Wp.gIxA, Wp.wDNew, Wp.wDNewT, Wp.rLenA, Wp.rSortD, Wp.rMaxL, Wp.rPopL, Wp.rGet1, Wp.rGet2, Wp.wGet1, Wp.wGet2, Wp.wPop1, Wp.wPop2, Wp.wDel, Wp.isDT, Wp.keyT, Wp.keysT, Wp.keysL, Wp.ex_ins, Wp.ex_dct, Wp.wIf, Wp.rGt, Wp.wTry, Wp.wMethX, Wp.wCallX, Wp.wRaise, Wp.rAddI, Int.cast_ofNat_Int, Int.reduceBEq, lk_Reader_row, pt_Reader_row, lk_Reader_place, pt_Reader_place, no_Reader_byte, no_Reader_inner, no_Reader_is_done, no_Reader_number, no_Reader_part, no_Reader_value, no_Reader_word, ln_Reader, mk_Reader, Wp.rMulB, Wp.upS, Wp.upS_upS, *])
local macro_rules | `(tactic| walk_at "run") => `(tactic| repeat (first | walk_at "wp" | walk_at "go"))
local macro_rules | `(tactic| walk_at "wq") => `(tactic| simp (disch := omega) only [Wp.wSeq, Wp.wNext, Wp.wSet, Wp.wVar, Wp.wC, Wp.wOp, Wp.wRet, Wp.wIfS, Wp.wTest, Wp.wCall, Wp.wCons, Wp.wNil, Wp.wTup, Wp.wLst, Wp.wAsg, Wp.gTp, Wp.gC, Wp.gNm, Wp.gN0, Wp.gIx, Wp.rSet, Wp.rAdd, Wp.rMul, Wp.rMod, Wp.rSub, Wp.rFdiv, Wp.rPow, Wp.rInt, Wp.rIx, Wp.rLt, Wp.rLe, Wp.rCmp, Wp.rGeI, Wp.rGtI, Wp.wCB, Wp.rLen, Wp.rLen1, Wp.rInt1, Wp.rMax2, Wp.rMin2, Wp.rTupOf, Wp.rListOf,
  Wp.wIsi, Wp.rBIs, Wp.rIsN, Wp.isNon, Wp.wMt, Wp.rAppendT, Wp.rExtendT, Wp.rReverseT, Wp.wNot, Wp.wOr, Wp.wAnd, Wp.wAndV, Wp.wOrV, Wp.wNotV, Wp.wFor, Wp.iRg1, Wp.iRg2, Wp.iAnyW, Wp.wAll, Wp.wChain, Wp.wSl, Wp.wNoPart, Wp.wPart, Wp.rSl, Wp.wNeg, Wp.rNeg, Wp.wLc, Wp.wYes, Wp.wDrop, Wp.wipeT, Wp.wAug, List.map, List.set_cons_zero, List.set_cons_succ, List.getElem?_cons_zero, List.getElem?_cons_succ, List.length_cons, List.length_nil, List.cons_append, List.nil_append, List.replicate, Wp.startT,
  true_and, and_true, Wp.wif_true, Wp.wif_false, Wp.ex_some, Wp.ex_some1, Wp.ex_eq, Wp.ex_lst, Wp.ex_lst0, Wp.rEq_int, Bool.false_bne, Bool.true_bne, Int.reduceLT, Int.reduceLE, Int.reduceAdd, Nat.reduceAdd, Nat.reduceSub, eq_self, ite_true, ite_false, beq_self_eq_true, Bool.not_true, Bool.not_false, Wp.isB_0, Wp.isB_1, Wp.isB_2, Wp.isB_3, Wp.isB_4, Wp.isB_5, Wp.isB_6, Wp.isB_7, Wp.isB_8, Wp.isB_9, Wp.isB_10, Wp.isB_11, Wp.isB_12, Wp.isB_13, Wp.isB_14, Wp.isB_15, Wp.isB_16, Wp.isB_17, Wp.isB_18, Wp.isB_19, Wp.isB_20, Wp.isB_21, Wp.isB_22, Wp.isB_23, Wp.isB_24, Wp.isB_25, Wp.isB_26, Wp.isB_27, Wp.isB_28, Wp.isB_29, Wp.isB_30, Wp.isB_31, Wp.isB_32, Wp.isB_33, Wp.isB_34, Wp.isB_35, Wp.cmul_l, Wp.cmul_r, Wp.cpow_lit, Wp.size_le, Wp.size_lt, Wp.atI_0, Wp.atI_1, Wp.atI_2, Wp.atI_3, Wp.atI_4, Wp.atI_5, Wp.atI_6, Wp.ixN_0, Wp.ixN_1, Wp.ixN_2, Wp.itemsT, Wp.tyT, reduceIte, Wp.wFld, Wp.wFSet, Wp.wFAug, Wp.wMeth, Wp.wMake, Wp.rIxA, Wp.rInA, Wp.rSetA, Wp.ixA, Wp.inA, Wp.setA, Wp.lenA, Wp.getD, Option.map_some, Option.bind_some, Option.getD_some,  Wp.gIxA, Wp.wDNew, Wp.wDNewT, Wp.rLenA, Wp.rSortD, Wp.rMaxL, Wp.rPopL, Wp.rGet1, Wp.rGet2, Wp.wGet1, Wp.wGet2, Wp.wPop1, Wp.wPop2, Wp.wDel, Wp.isDT, Wp.keyT, Wp.keysT, Wp.keysL, Wp.ex_ins, Wp.ex_dct, Wp.wIf, Wp.rGt, Wp.wTry, Wp.wMethX, Wp.wCallX, Wp.wRaise, Wp.rAddI, Int.cast_ofNat_Int, Int.reduceBEq, lk_Reader_row, pt_Reader_row, lk_Reader_place, pt_Reader_place, no_Reader_byte, no_Reader_inner, no_Reader_is_done, no_Reader_number, no_Reader_part, no_Reader_value, no_Reader_word, ln_Reader, mk_Reader, Wp.rMulB, *])
local macro_rules | `(tactic| walk_at "r2") => `(tactic| repeat (first | walk_at "wq" | walk_at "go"))
local macro_rules | `(tactic| walk_at "w0") => `(tactic| simp (disch := omega) only [Wp.wSeq, Wp.wNext, Wp.wSet, Wp.wVar, Wp.wC, Wp.wOp, Wp.wRet, Wp.wIfS, Wp.wTest, Wp.wCall, Wp.wCons, Wp.wNil, Wp.wTup, Wp.wLst, Wp.wAsg, Wp.gTp, Wp.gC, Wp.gNm, Wp.gN0, Wp.gIx, Wp.rSet, Wp.rAdd, Wp.rMul, Wp.rMod, Wp.rSub, Wp.rFdiv, Wp.rPow, Wp.rInt, Wp.rIx, Wp.rLt, Wp.rLe, Wp.rCmp, Wp.rGeI, Wp.rGtI, Wp.wCB, Wp.rLen, Wp.rLen1, Wp.rInt1, Wp.rMax2, Wp.rMin2, Wp.rTupOf, Wp.rListOf,
  Wp.wIsi, Wp.rBIs, Wp.rIsN, Wp.isNon, Wp.wMt, Wp.rAppendT, Wp.rExtendT, Wp.rReverseT, Wp.wNot, Wp.wOr, Wp.wAnd, Wp.wAndV, Wp.wOrV, Wp.wNotV, Wp.wFor, Wp.iRg1, Wp.iRg2, Wp.iAnyW, Wp.wAll, Wp.wChain, Wp.wSl, Wp.wNoPart, Wp.wPart, Wp.rSl, Wp.wNeg, Wp.rNeg, Wp.wLc, Wp.wYes, Wp.wDrop, Wp.wipeT, Wp.wAug, List.map, List.set_cons_zero, List.set_cons_succ, List.getElem?_cons_zero, List.getElem?_cons_succ, List.length_cons, List.length_nil, List.cons_append, List.nil_append, List.replicate, Wp.startT,
  true_and, and_true, Wp.wif_true, Wp.wif_false, Wp.ex_some, Wp.ex_some1, Wp.ex_eq, Wp.ex_lst, Wp.ex_lst0, Wp.rEq_int, Bool.false_bne, Bool.true_bne, Int.reduceLT, Int.reduceLE, Int.reduceAdd, Nat.reduceAdd, Nat.reduceSub, eq_self, ite_true, ite_false, beq_self_eq_true, Bool.not_true, Bool.not_false, Wp.isB_0, Wp.isB_1, Wp.isB_2, Wp.isB_3, Wp.isB_4, Wp.isB_5, Wp.isB_6, Wp.isB_7, Wp.isB_8, Wp.isB_9, Wp.isB_10, Wp.isB_11, Wp.isB_12, Wp.isB_13, Wp.isB_14, Wp.isB_15, Wp.isB_16, Wp.isB_17, Wp.isB_18, Wp.isB_19, Wp.isB_20, Wp.isB_21, Wp.isB_22, Wp.isB_23, Wp.isB_24, Wp.isB_25, Wp.isB_26, Wp.isB_27, Wp.isB_28, Wp.isB_29, Wp.isB_30, Wp.isB_31, Wp.isB_32, Wp.isB_33, Wp.isB_34, Wp.isB_35, Wp.cmul_l, Wp.cmul_r, Wp.cpow_lit, Wp.size_le, Wp.size_lt, Wp.atI_0, Wp.atI_1, Wp.atI_2, Wp.atI_3, Wp.atI_4, Wp.atI_5, Wp.atI_6, Wp.ixN_0, Wp.ixN_1, Wp.ixN_2, Wp.itemsT, Wp.tyT, reduceIte, Wp.wFld, Wp.wFSet, Wp.wFAug, Wp.wMeth, Wp.wMake, Wp.rIxA, Wp.rInA, Wp.rSetA, Wp.ixA, Wp.inA, Wp.setA, Wp.lenA, Wp.getD, Option.map_some, Option.bind_some, Option.getD_some,  Wp.gIxA, Wp.wDNew, Wp.wDNewT, Wp.rLenA, Wp.rSortD, Wp.rMaxL, Wp.rPopL, Wp.rGet1, Wp.rGet2, Wp.wGet1, Wp.wGet2, Wp.wPop1, Wp.wPop2, Wp.wDel, Wp.isDT, Wp.keyT, Wp.keysT, Wp.keysL, Wp.ex_ins, Wp.ex_dct, Wp.wIf, Wp.rGt, Wp.wTry, Wp.wMethX, Wp.wCallX, Wp.wRaise, Wp.rAddI, Int.cast_ofNat_Int, Int.reduceBEq, lk_Reader_row, pt_Reader_row, lk_Reader_place, pt_Reader_place, no_Reader_byte, no_Reader_inner, no_Reader_is_done, no_Reader_number, no_Reader_part, no_Reader_value, no_Reader_word, ln_Reader, mk_Reader, Wp.rMulB])
local macro_rules | `(tactic| walk_at "r0") => `(tactic| repeat (first | walk_at "w0" | walk_at "go"))
variable {C CB : Addr}
def tLast : WS := (wSet 1 (wOp rIxA (wLst (wCons (wOp Wp.rAdd elL elR1) (wCons (wOp Wp.rAdd elB elR0) (wCons (wOp Wp.rAdd elB elR1) wNil)))) (wCall 2 spDr (wCons (wVar 0) (wCons (wC (.int 3)) wNil)))))
theorem turn_step {p r : Addr} {S : Sta} {D : WEnds} {xs : List Int} {v2 v3 v4 : Option T} (hb : IsBag none S p) (hr : S r = some (.lst (xs.map T.int))) (nr : r ≠ p) (hl : xs.length ≤ 7000) (hB : Byt xs)
    (nx : ∀ (q : Addr) (ys : List Int) v3 v4 S', Grb none p S S' → S' q = some (.lst (ys.map T.int)) → q ≠ p → Byt ys → ys.length ≤ xs.length + 1 → D.nx [some (.ref p), some (.ref q), v2, v3, v4] S') :
    l2__law_turned C CB spDr D [some (.ref p), some (.ref r), v2, v3, v4] S := by
  unfold l2__law_turned
  walk_at "r0"
  rw [hr]
  walk_at "r0"
  rw [List.length_map]
  refine ⟨hb, by omega, by omega, fun at' S1 a0 a1 g1 => ?_⟩
  obtain ⟨k, rfl⟩ : ∃ k : Nat, at' = (k : Int) := ⟨at'.toNat, (Int.toNat_of_nonneg a0).symm⟩
  have hr1 := g1.keep r _ hr nr
  refine goS_i ?_
  have key : ∀ (b : Int) S2, 0 ≤ b → b ≤ 255 → Grb none p S1 S2 → tLast D [some (.ref p), some (.ref r), v2, some (.int (k : Int)), some (.int b)] S2 := fun b S2 b0 b1 g2 =>
    turn_last g2.bag (g2.keep r _ hr1 nr) hl hB b0 b1 fun q ys S' g3 e3 n3 hy ly => nx q ys _ _ S' (g1.trans (g2.trans g3)) e3 n3 hy ly
  show wSet 4 _ { D with nx := tLast D } _ _
  generalize tLast D = NX at key ⊢
  walk_at "r0"
  refine ⟨g1.bag, by decide, by decide, fun c S2 c0 c1 g2 => ?_⟩
  show ∀ z, S2 z = none → _
  intro z hz
  obtain ⟨S3, w3, g3, e3⟩ := al_ (o := .lst [.int 0, .int 1, .int 2, .int 3, .int 4, .int 97, .int 122, .int 123, .int 255, .int c]) hz
  have nzp := new_ne g2.bag hz
  rw [w3]
  have gg := g2.gr g3
  refine ⟨gg.bag, by decide, by decide, fun e S4 q0 q1 g4 => ?_⟩
  have e4 := g4.keep z _ e3 nzp
  simp only [e4]
  have g := gg.trans g4
  obtain ⟨b, hb1, b0, b1⟩ : ∃ b : Int, atI [T.int 0, .int 1, .int 2, .int 3, .int 4, .int 97, .int 122, .int 123, .int 255, .int c] e = some (.int b) ∧ 0 ≤ b ∧ b ≤ 255 := by
    obtain ⟨m, rfl⟩ : ∃ m : Nat, e = (m : Int) := ⟨e.toNat, (Int.toNat_of_nonneg q0).symm⟩
    have : m = 0 ∨ m = 1 ∨ m = 2 ∨ m = 3 ∨ m = 4 ∨ m = 5 ∨ m = 6 ∨ m = 7 ∨ m = 8 ∨ m = 9 := by omega
    rcases this with rfl | rfl | rfl | rfl | rfl | rfl | rfl | rfl | rfl | rfl
    all_goals first
      | exact ⟨_, atI_lit.trans rfl, by decide, by decide⟩
      | exact ⟨_, atI_lit.trans rfl, by omega, by omega⟩
  exact ⟨_, hb1, goS_i (key b S4 b0 b1 g)⟩
def spTurn : WSp := fun ts S Q _ => match ts with
  | [.ref p, .ref r] => ∃ xs : List Int, IsBag none S p ∧ S r = some (.lst (xs.map T.int)) ∧ r ≠ p ∧ xs.length ≤ 6000 ∧ Byt xs ∧ ∀ (q : Addr) (ys : List Int) S', Grb none p S S' → S' q = some (.lst (ys.map T.int)) → Byt ys → ys.length ≤ 6010 → Q (.ref q) S'
  | _ => False
theorem hw_turned : ∀ ts S Q E, ts.length = 2 → spTurn ts S Q E → b__law_turned C CB spDr { nx := fun _ S' => Q .non S', rt := Q } (Wp.startT N__law_turned ts) S := by
  intro ts S Q E _ h
  match ts, h with
  | [.ref p, .ref r], ⟨xs, hb, hr, nr, hl, hB, h⟩ =>
    unfold b__law_turned N__law_turned
    walk_at "r0"
    refine ⟨hb, by decide, by decide, fun c S1 c0 c1 g1 => ?_⟩
    have hr1 := g1.keep r _ hr nr
    walk_at "r0"
    refine if_bool (fun _ => ?_) (fun _ => goS_i ?_)
    · walk_at "r0"
      refine ⟨g1.bag, by decide, by decide, fun m S2 m0 m1 g2 => ⟨by omega, by omega, fun D hD => ?_⟩⟩
      exact comp_turn p D Q (new_ne g2.bag hD) S2 hD _ _ _ _ (fun acc S' g e hy hl => h D acc S' (g1.trans (g2.trans g)) e hy (by omega)) _ [] _ ((Wp.gr_new hD).grb g2.bag) upS_same (fun x hx => by cases hx) (by rw [rangeT_len]; show 0 + _ ≤ 40; omega)
    · walk_at "r0"
      refine ⟨g1.bag, by decide, by decide, fun m S2 m0 m1 g2 => ⟨by omega, by omega, ?_⟩⟩
      have g12 := g1.trans g2
      refine loop_inv (fun i σ S' => ∃ (r' : Addr) (ys : List Int) (v2 v3 v4 : Option T), σ = [some (.ref p), some (.ref r'), v2, v3, v4] ∧ Grb none p S S' ∧ S' r' = some (.lst (ys.map T.int)) ∧ r' ≠ p ∧ Byt ys ∧ ys.length ≤ 6000 + i) ⟨r, xs, _, _, _, rfl, g12, g12.keep r _ hr nr, nr, hB, by omega⟩ (fun _ _ _ _ => trivial) (fun i x σ S3 LP hx hI nx1 => ?_) (fun σ S3 hI => ?_)
      · obtain ⟨r', ys, w2, w3, w4, rfl, g3, e3, n3, hy, ly⟩ := hI
        obtain ⟨hi, rfl⟩ := range_at hx
        exact turn_step (C := C) (CB := CB) g3.bag e3 n3 (by omega) hy fun q zs u3 u4 S4 g4 e4 n4 hz lz => nx1 _ _ ⟨q, zs, _, _, _, rfl, g3.trans g4, e4, n4, hz, by omega⟩
      · obtain ⟨r', ys, w2, w3, w4, rfl, g3, e3, n3, hy, ly⟩ := hI
        rw [rangeT_len] at ly
        exact ⟨_, rfl, h r' ys S3 g3 e3 hy (by omega)⟩
end My

set_option Elab.async false
set_option linter.all false
set_option maxRecDepth 100000
set_option maxHeartbeats 8000000
namespace My
open PySem PySem.Spec PyProof.Rows L2 Wp Gn
local macro_rules | `(tactic| walk_at "go") => `(tactic| (with_reducible refine goS_i ?_))
local macro_rules | `(tactic| walk_at "wp") => `(tactic| simp (disch := omega) only [Wp.wSeq, Wp.wNext, Wp.wSet, Wp.wVar, Wp.wC, Wp.wOp, Wp.wRet, Wp.wIfS, Wp.wTest, Wp.wCall, Wp.wCons, Wp.wNil, Wp.wTup, Wp.wLst, Wp.wAsg, Wp.gTp, Wp.gC, Wp.gNm, Wp.gN0, Wp.gIx, Wp.rSet, Wp.rAdd, Wp.rMul, Wp.rMod, Wp.rSub, Wp.rFdiv, Wp.rPow, Wp.rInt, Wp.rIx, Wp.rLt, Wp.rLe, Wp.rCmp, Wp.rGeI, Wp.rGtI, Wp.wCB, Wp.rLen, Wp.rLen1, Wp.rInt1, Wp.rMax2, Wp.rMin2, Wp.rTupOf, Wp.rListOf,
  Wp.wIsi, Wp.rBIs, Wp.rIsN, Wp.isNon, Wp.wMt, Wp.rAppendT, Wp.rExtendT, Wp.rReverseT, Wp.wNot, Wp.wOr, Wp.wAnd, Wp.wAndV, Wp.wOrV, Wp.wNotV, Wp.wFor, Wp.iRg1, Wp.iRg2, Wp.iAnyW, Wp.wAll, Wp.wChain, Wp.wSl, Wp.wNoPart, Wp.wPart, Wp.rSl, Wp.wNeg, Wp.rNeg, Wp.wLc, Wp.wYes, Wp.wDrop, Wp.wipeT, Wp.wAug, List.map, List.set_cons_zero, List.set_cons_succ, List.getElem?_cons_zero, List.getElem?_cons_succ, List.length_cons, List.length_nil, List.cons_append, List.nil_append, List.replicate, Wp.startT,
  true_and, and_true, Wp.wif_true, Wp.wif_false, Wp.ex_some, Wp.ex_some1, Wp.ex_eq, Wp.ex_lst, Wp.ex_lst0, Wp.rEq_int, Bool.false_bne, Bool.true_bne, Int.reduceLT, Int.reduceLE, Int.reduceAdd, Nat.reduceAdd, Nat.reduceSub, eq_self, ite_true, ite_false, beq_self_eq_true, Bool.not_true, Bool.not_false, Wp.isB_0, Wp.isB_1, Wp.isB_2, Wp.isB_3, Wp.isB_4, Wp.isB_5, Wp.isB_6, Wp.isB_7, Wp.isB_8, Wp.isB_9, Wp.isB_10, Wp.isB_11, Wp.isB_12, Wp.isB_13, Wp.isB_14, Wp.isB_15, Wp.isB_16, Wp.isB_17, Wp.isB_18, Wp.isB_19, Wp.isB_20, Wp.isB_21, Wp.isB_22, Wp.isB_23, Wp.isB_24, Wp.isB_25, Wp.isB_26, Wp.isB_27, Wp.isB_28, Wp.isB_29, Wp.isB_30, Wp.isB_31, Wp.isB_32, Wp.isB_33, Wp.isB_34, Wp.isB_35, Wp.cmul_l, Wp.cmul_r, Wp.cpow_lit, Wp.size_le, Wp.size_lt, Wp.atI_0, Wp.atI_1, Wp.atI_2, Wp.atI_3, Wp.atI_4, Wp.atI_5, Wp.atI_6, Wp.ixN_0, Wp.ixN_1, Wp.ixN_2, Wp.itemsT, Wp.tyT, reduceIte, Wp.wFld, Wp.wFSet, Wp.wFAug, Wp.wMeth, Wp.wMake, Wp.rIxA, Wp.rInA, Wp.rSetA, Wp.ixA, Wp.inA, Wp.setA, Wp.lenA, Wp.getD, Option.map_some, Option.bind_some, Option.getD_some,  Wp.gIxA, Wp.wDNew, Wp.wDNewT, Wp.rLenA, Wp.rSortD, Wp.rMaxL, Wp.rPopL, Wp.rGet1, Wp.rGet2, Wp.wGet1, Wp.wGet2, Wp.wPop1, Wp.wPop2, Wp.wDel, Wp.isDT, Wp.keyT, Wp.keysT, Wp.keysL, Wp.ex_ins, Wp.ex_dct, Wp.wIf, Wp.rGt, Wp.wTry, Wp.wMethX, Wp.wCallX, Wp.wRaise, Wp.rAddI, Int.cast_ofNat_Int, Int.reduceBEq, lk_Reader_row, pt_Reader_row, lk_Reader_place, pt_Reader_place, no_Reader_byte, no_Reader_inner, no_Reader_is_done, no_Reader_number, no_Reader_part, no_Reader_value, no_Reader_word, ln_Reader, mk_Reader, Wp.rMulB, Wp.upS, Wp.upS_upS, *])
local macro_rules | `(tactic| walk_at "run") => `(tactic| repeat (first | walk_at "wp" | walk_at "go"))
local macro_rules | `(tactic| walk_at "wq") => `(tactic| simp (disch := omega) only [Wp.wSeq, Wp.wNext, Wp.wSet, Wp.wVar, Wp.wC, Wp.wOp, Wp.wRet, Wp.wIfS, Wp.wTest, Wp.wCall, Wp.wCons, Wp.wNil, Wp.wTup, Wp.wLst, Wp.wAsg, Wp.gTp, Wp.gC, Wp.gNm, Wp.gN0, Wp.gIx, Wp.rSet, Wp.rAdd, Wp.rMul, Wp.rMod, Wp.rSub, Wp.rFdiv, Wp.rPow, Wp.rInt, Wp.rIx, Wp.rLt, Wp.rLe, Wp.rCmp, Wp.rGeI, Wp.rGtI, Wp.wCB, Wp.rLen, Wp.rLen1, Wp.rInt1, Wp.rMax2, Wp.rMin2, Wp.rTupOf, Wp.rListOf,
  Wp.wIsi, Wp.rBIs, Wp.rIsN, Wp.isNon, Wp.wMt, Wp.rAppendT, Wp.rExtendT, Wp.rReverseT, Wp.wNot, Wp.wOr, Wp.wAnd, Wp.wAndV, Wp.wOrV, Wp.wNotV, Wp.wFor, Wp.iRg1, Wp.iRg2, Wp.iAnyW, Wp.wAll, Wp.wChain, Wp.wSl, Wp.wNoPart, Wp.wPart, Wp.rSl, Wp.wNeg, Wp.rNeg, Wp.wLc, Wp.wYes, Wp.wDrop, Wp.wipeT, Wp.wAug, List.map, List.set_cons_zero, List.set_cons_succ, List.getElem?_cons_zero, List.getElem?_cons_succ, List.length_cons, List.length_nil, List.cons_append, List.nil_append, List.replicate, Wp.startT,
  true_and, and_true, Wp.wif_true, Wp.wif_false, Wp.ex_some, Wp.ex_some1, Wp.ex_eq, Wp.ex_lst, Wp.ex_lst0, Wp.rEq_int, Bool.false_bne, Bool.true_bne, Int.reduceLT, Int.reduceLE, Int.reduceAdd, Nat.reduceAdd, Nat.reduceSub, eq_self, ite_true, ite_false, beq_self_eq_true, Bool.not_true, Bool.not_false, Wp.isB_0, Wp.isB_1, Wp.isB_2, Wp.isB_3, Wp.isB_4, Wp.isB_5, Wp.isB_6, Wp.isB_7, Wp.isB_8, Wp.isB_9, Wp.isB_10, Wp.isB_11, Wp.isB_12, Wp.isB_13, Wp.isB_14, Wp.isB_15, Wp.isB_16, Wp.isB_17, Wp.isB_18, Wp.isB_19, Wp.isB_20, Wp.isB_21, Wp.isB_22, Wp.isB_23, Wp.isB_24, Wp.isB_25, Wp.isB_26, Wp.isB_27, Wp.isB_28, Wp.isB_29, Wp.isB_30, Wp.isB_31, Wp.isB_32, Wp.isB_33, Wp.isB_34, Wp.isB_35, Wp.cmul_l, Wp.cmul_r, Wp.cpow_lit, Wp.size_le, Wp.size_lt, Wp.atI_0, Wp.atI_1, Wp.atI_2, Wp.atI_3, Wp.atI_4, Wp.atI_5, Wp.atI_6, Wp.ixN_0, Wp.ixN_1, Wp.ixN_2, Wp.itemsT, Wp.tyT, reduceIte, Wp.wFld, Wp.wFSet, Wp.wFAug, Wp.wMeth, Wp.wMake, Wp.rIxA, Wp.rInA, Wp.rSetA, Wp.ixA, Wp.inA, Wp.setA, Wp.lenA, Wp.getD, Option.map_some, Option.bind_some, Option.getD_some,  Wp.gIxA, Wp.wDNew, Wp.wDNewT, Wp.rLenA, Wp.rSortD, Wp.rMaxL, Wp.rPopL, Wp.rGet1, Wp.rGet2, Wp.wGet1, Wp.wGet2, Wp.wPop1, Wp.wPop2, Wp.wDel, Wp.isDT, Wp.keyT, Wp.keysT, Wp.keysL, Wp.ex_ins, Wp.ex_dct, Wp.wIf, Wp.rGt, Wp.wTry, Wp.wMethX, Wp.wCallX, Wp.wRaise, Wp.rAddI, Int.cast_ofNat_Int, Int.reduceBEq, lk_Reader_row, pt_Reader_row, lk_Reader_place, pt_Reader_place, no_Reader_byte, no_Reader_inner, no_Reader_is_done, no_Reader_number, no_Reader_part, no_Reader_value, no_Reader_word, ln_Reader, mk_Reader, Wp.rMulB, *])
local macro_rules | `(tactic| walk_at "r2") => `(tactic| repeat (first | walk_at "wq" | walk_at "go"))
local macro_rules | `(tactic| walk_at "w0") => `(tactic| simp (disch := omega) only [Wp.wSeq, Wp.wNext, Wp.wSet, Wp.wVar, Wp.wC, Wp.wOp, Wp.wRet, Wp.wIfS, Wp.wTest, Wp.wCall, Wp.wCons, Wp.wNil, Wp.wTup, Wp.wLst, Wp.wAsg, Wp.gTp, Wp.gC, Wp.gNm, Wp.gN0, Wp.gIx, Wp.rSet, Wp.rAdd, Wp.rMul, Wp.rMod, Wp.rSub, Wp.rFdiv, Wp.rPow, Wp.rInt, Wp.rIx, Wp.rLt, Wp.rLe, Wp.rCmp, Wp.rGeI, Wp.rGtI, Wp.wCB, Wp.rLen, Wp.rLen1, Wp.rInt1, Wp.rMax2, Wp.rMin2, Wp.rTupOf, Wp.rListOf,
  Wp.wIsi, Wp.rBIs, Wp.rIsN, Wp.isNon, Wp.wMt, Wp.rAppendT, Wp.rExtendT, Wp.rReverseT, Wp.wNot, Wp.wOr, Wp.wAnd, Wp.wAndV, Wp.wOrV, Wp.wNotV, Wp.wFor, Wp.iRg1, Wp.iRg2, Wp.iAnyW, Wp.wAll, Wp.wChain, Wp.wSl, Wp.wNoPart, Wp.wPart, Wp.rSl, Wp.wNeg, Wp.rNeg, Wp.wLc, Wp.wYes, Wp.wDrop, Wp.wipeT, Wp.wAug, List.map, List.set_cons_zero, List.set_cons_succ, List.getElem?_cons_zero, List.getElem?_cons_succ, List.length_cons, List.length_nil, List.cons_append, List.nil_append, List.replicate, Wp.startT,
  true_and, and_true, Wp.wif_true, Wp.wif_false, Wp.ex_some, Wp.ex_some1, Wp.ex_eq, Wp.ex_lst, Wp.ex_lst0, Wp.rEq_int, Bool.false_bne, Bool.true_bne, Int.reduceLT, Int.reduceLE, Int.reduceAdd, Nat.reduceAdd, Nat.reduceSub, eq_self, ite_true, ite_false, beq_self_eq_true, Bool.not_true, Bool.not_false, Wp.isB_0, Wp.isB_1, Wp.isB_2, Wp.isB_3, Wp.isB_4, Wp.isB_5, Wp.isB_6, Wp.isB_7, Wp.isB_8, Wp.isB_9, Wp.isB_10, Wp.isB_11, Wp.isB_12, Wp.isB_13, Wp.isB_14, Wp.isB_15, Wp.isB_16, Wp.isB_17, Wp.isB_18, Wp.isB_19, Wp.isB_20, Wp.isB_21, Wp.isB_22, Wp.isB_23, Wp.isB_24, Wp.isB_25, Wp.isB_26, Wp.isB_27, Wp.isB_28, Wp.isB_29, Wp.isB_30, Wp.isB_31, Wp.isB_32, Wp.isB_33, Wp.isB_34, Wp.isB_35, Wp.cmul_l, Wp.cmul_r, Wp.cpow_lit, Wp.size_le, Wp.size_lt, Wp.atI_0, Wp.atI_1, Wp.atI_2, Wp.atI_3, Wp.atI_4, Wp.atI_5, Wp.atI_6, Wp.ixN_0, Wp.ixN_1, Wp.ixN_2, Wp.itemsT, Wp.tyT, reduceIte, Wp.wFld, Wp.wFSet, Wp.wFAug, Wp.wMeth, Wp.wMake, Wp.rIxA, Wp.rInA, Wp.rSetA, Wp.ixA, Wp.inA, Wp.setA, Wp.lenA, Wp.getD, Option.map_some, Option.bind_some, Option.getD_some,  Wp.gIxA, Wp.wDNew, Wp.wDNewT, Wp.rLenA, Wp.rSortD, Wp.rMaxL, Wp.rPopL, Wp.rGet1, Wp.rGet2, Wp.wGet1, Wp.wGet2, Wp.wPop1, Wp.wPop2, Wp.wDel, Wp.isDT, Wp.keyT, Wp.keysT, Wp.keysL, Wp.ex_ins, Wp.ex_dct, Wp.wIf, Wp.rGt, Wp.wTry, Wp.wMethX, Wp.wCallX, Wp.wRaise, Wp.rAddI, Int.cast_ofNat_Int, Int.reduceBEq, lk_Reader_row, pt_Reader_row, lk_Reader_place, pt_Reader_place, no_Reader_byte, no_Reader_inner, no_Reader_is_done, no_Reader_number, no_Reader_part, no_Reader_value, no_Reader_word, ln_Reader, mk_Reader, Wp.rMulB])
local macro_rules | `(tactic| walk_at "r0") => `(tactic| repeat (first | walk_at "w0" | walk_at "go"))
variable {C CB : Addr}
/-! ### words, over any row -/
def spGLet (CB : Addr) : WSp := fun ts S Q E => match ts with
  | [.int c] => (97 ≤ c → c ≤ 122 → Q (chT c.toNat) S) ∧ (¬ (97 ≤ c ∧ c ≤ 122) → E CB S)
  | _ => False
theorem abc_at {c : Nat} (h0 : 97 ≤ c) (h1 : c ≤ 122) : atI (("abcdefghijklmnopqrstuvwxyz" : Str).cps.toList) ((c : Int) - 97) = some c := by
  have : ∀ k : Nat, k < 26 → atI (("abcdefghijklmnopqrstuvwxyz" : Str).cps.toList) (k : Int) = some (k + 97) := by decide +kernel
  have := this (c - 97) (by omega)
  rw [show ((c : Int) - 97) = ((c - 97 : Nat) : Int) by omega, this, show c - 97 + 97 = c by omega]
theorem hw_glet : ∀ ts S Q E, ts.length = 1 → spGLet CB ts S Q E → b__letter_of C CB (fun C _ S' => E C S') { nx := fun _ S' => Q .non S', rt := Q } (Wp.startT N__letter_of ts) S := by
  intro ts S Q E _ h
  match ts, h with
  | [.int c], ⟨h1, h2⟩ =>
    unfold b__letter_of N__letter_of
    walk_at "r0"
    refine ⟨by decide +kernel, ?_⟩
    rw [show (("a" : Str).cps.getD 0 0 : Nat) = 97 by decide +kernel]
    have la : lenA S (.str "abcdefghijklmnopqrstuvwxyz") = some 26 := by
      have lz : ("abcdefghijklmnopqrstuvwxyz" : Str).length ≤ sizeLine := by rw [sizeLine_eq]; decide +kernel
      simp only [lenA, if_pos lz]
      exact congrArg some (show (((("abcdefghijklmnopqrstuvwxyz" : Str).length : Nat) : Int)) = 26 by decide +kernel)
    have nn : ((97 : Nat) : Int) = 97 := rfl
    rw [nn]
    refine goS_i ⟨_, rfl, ?_⟩
    show wif (decide ((0 : Int) ≤ c - 97)) _ _
    by_cases z0 : (0 : Int) ≤ c - 97
    · rw [decide_eq_true z0]
      refine wif_t ⟨_, la, ?_⟩
      show wif (!decide (c - 97 < 26)) _ _
      by_cases z1 : c - 97 < 26
      · rw [decide_eq_true z1]
        obtain ⟨k, rfl⟩ : ∃ k : Nat, c = (k : Int) := ⟨c.toNat, (Int.toNat_of_nonneg (by omega)).symm⟩
        refine wif_f (goS_i ⟨_, rfl, _, ix_str (by rw [sizeLine_eq]; decide +kernel) (abc_at (by omega) (by omega)), ?_⟩)
        exact h1 (by omega) (by omega)
      · rw [decide_eq_false z1]
        exact wif_t (h2 (by omega))
    · rw [decide_eq_false z0]
      exact wif_f (wif_t (h2 (by omega)))
theorem let_loopX {E : Addr → Sta → Prop} {D : Addr} {Q : T → Sta → Prop} {S0 : Sta} {v0 v1 : Option T} (hn : S0 D = none) : ∀ (cs : List Int) (acc : List T) (S : Sta) (v2 : Option T), acc.length + cs.length ≤ 100 → Wp.Gr S0 S → S D = some (.lst acc) →
    ((cs.all fun c => decide (97 ≤ c) && decide (c ≤ 122)) = true → ∀ S', Wp.Gr S0 S' → S' D = some (.lst (acc ++ cs.map fun c => chT c.toNat)) → Q (.ref D) S') →
    ((cs.all fun c => decide (97 ≤ c) && decide (c ≤ 122)) = false → ∀ S', Wp.Gr S0 S' → E CB S') →
    compW (gNm 2) wYes (l1_Reader_word C CB (spGNum C CB) (spRPart C CB) (spGLet CB) (fun C _ S' => E C S')) (fun _ => True) [v0, v1, v2] D Q (cs.map T.int) S
  | [], acc, S, v2, _, g, hD, h, _ => ⟨trivial, h rfl S g (by rw [List.map_nil, List.append_nil]; exact hD)⟩
  | c :: cs, acc, S, v2, hl, g, hD, h, hx => by
    rw [List.length_cons] at hl
    rw [List.all_cons] at h hx
    refine ⟨trivial, ?_⟩
    show wYes [v0, v1, some (.int c)] S fun b S1 => wif b _ _
    refine wif_t ⟨_, rfl, rfl, fun c0 c1 => ?_, fun z => hx ?_ S g⟩
    · rw [decide_eq_true c0, decide_eq_true c1, Bool.true_and, Bool.true_and] at h hx
      refine ⟨acc, hD, Nat.lt_of_le_of_lt (show acc.length ≤ 100 by omega) (by rw [sizeLine_eq]; decide), ?_⟩
      have gg : Wp.Gr S0 (upS S D (.lst (acc ++ [chT c.toNat]))) := fun x o e => by
        rw [upS_ne (fun z => by rw [z, hn] at e; cases e)]
        exact g x o e
      exact let_loopX hn cs (acc ++ [chT c.toNat]) _ _ (by rw [List.length_append, List.length_singleton]; omega) gg upS_same (fun al S' g' hD' => h al S' g' (by rw [hD', List.append_assoc]; rfl)) hx
    · by_cases c0 : 97 ≤ c
      · rw [decide_eq_true c0, decide_eq_false (show ¬ c ≤ 122 from fun c1 => z ⟨c0, c1⟩)]; rfl
      · rw [decide_eq_false c0]; rfl
theorem hw_gword : ∀ ts S Q E, ts.length = 1 → spGWord C CB ts S Q E → b_Reader_word C CB (spGNum C CB) (spRPart C CB) (spGLet CB) (fun C _ S' => E C S') { nx := fun _ S' => Q .non S', rt := Q } (Wp.startT N_Reader_word ts) S := by
  intro ts S Q E _ h
  match ts, h with
  | [.ref a], ⟨R, p, r0, hB, hl, h1, h2⟩ =>
    unfold b_Reader_word N_Reader_word
    walk_at "r0"
    rw [insR r0]
    walk_at "r0"
    refine ⟨R, p, r0, hB, fun n r en S1 p1 k1 r1 d1 => ?_, fun en S1 k1 => h2 (by unfold rdWord; rw [en]) S1 k1⟩
    unfold rdWord at h1 h2
    rw [en] at h1 h2
    dsimp only at h1 h2
    walk_at "r0"
    refine if_dec (fun z1 => if_bool (fun z2 => ?_) (fun z2 => goS_i ?_)) (fun z1 => ?_)
    · exact h2 (if_neg fun z => by have := z.2.1; rw [decide_eq_true (show (n : Int) ≤ 12 by omega)] at z2; cases z2) S1 k1
    · have z2 : (n : Int) ≤ 12 := by simpa using z2
      show wJoin (wC (.str "")) (wLcX (fun C _ S' => E C S') (iAnyW (wMethX (fun C _ S' => E C S') C "part" 2 (spRPart C CB) (wVar 0) (wCons (wVar 1) wNil))) (gNm 2) wYes (fun EX => l1_Reader_word C CB (spGNum C CB) (spRPart C CB) (spGLet CB) EX) [2]) [some (.ref a), some (.int (n : Int)), none] S1 Q
      simp only [wJoin, wC]
      simp only [wLcX, wLc, iAnyW, wMethX, wVar, wCons, wNil, List.getElem?_cons_zero, List.getElem?_cons_succ, Wp.ex_some1]
      refine ⟨_, rfl, _, insR r1, no_Reader_part, _, rfl, rfl, ?_⟩
      have dl : r.length = R.length - p1 := by rw [← d1, List.length_drop]
      have rl := r1.2.1
      refine ⟨R, p1, n, r1, rfl, fun l2 S2 k2 r2 => ?_, fun l2 => h2 (if_neg fun z => by have := z.2.2.1; omega) S1 k1⟩
      rw [d1]
      have tl : (r.take n).length = n := by rw [List.length_take]; omega
      intro D hD
      refine let_loopX (CB := CB) (E := E) hD (r.take n) [] _ _ (by rw [tl]; show 0 + n ≤ 100; omega) (gr_new hD) upS_same (fun al S3 g3 hD3 => ?_) (fun al S3 g3 => h2 (if_neg fun z => by rw [z.2.2.2] at al; cases al) S3 ((k1.trans k2).trans fun y o e _ => g3 y o e))
      refine ⟨(r.take n).map fun c => (⟨#[c.toNat]⟩ : Str), ?_, ?_, ?_⟩
      · refine (itemsT_ref hD3).trans ?_
        rw [List.nil_append, List.map_map]; rfl
      · have : ((r.take n).map fun c => (⟨#[c.toNat]⟩ : Str)) = ((r.take n).map Int.toNat).map fun c => (⟨#[c]⟩ : Str) := by rw [List.map_map]; rfl
        rw [this, sum_ch, List.length_map, List.length_map, tl]
        show n + n * 0 ≤ _
        omega
      · have hj := join_ch ((r.take n).map Int.toNat)
        have ex : Txt.join ("" : Str) ((r.take n).map fun c => (⟨#[c.toNat]⟩ : Str)) = txt (r.take n) := by
          have e2 : ((r.take n).map fun c => (⟨#[c.toNat]⟩ : Str)) = ((r.take n).map Int.toNat).map fun c => (⟨#[c]⟩ : Str) := by rw [List.map_map]; rfl
          rw [e2]
          have := congrArg List.toArray hj
          rw [Array.toArray_toList] at this
          unfold txt
          generalize Txt.join ("" : Str) (((r.take n).map Int.toNat).map fun c => (⟨#[c]⟩ : Str)) = z at this
          cases z
          exact congrArg Str.mk this
        rw [ex]
        have k3 : Kp a S2 S3 := fun y o e _ => g3 y o e
        exact h1 _ _ (if_pos ⟨by omega, by omega, by omega, al⟩) S3 (p1 + n) ((k1.trans k2).trans k3) ⟨g3 _ _ r2.1, r2.2⟩ (by rw [← d1, List.drop_drop])
    · exact h2 (if_neg fun z => z1 (by have := z.1; omega)) S1 k1
end My

set_option Elab.async false
set_option linter.all false
set_option maxRecDepth 100000
set_option maxHeartbeats 8000000
namespace My
open PySem PySem.Spec PyProof.Rows L2 Wp Gn
local macro_rules | `(tactic| walk_at "go") => `(tactic| (with_reducible refine goS_i ?_))
local macro_rules | `(tactic| walk_at "wp") => `(tactic| simp (disch := omega) only [Wp.wSeq, Wp.wNext, Wp.wSet, Wp.wVar, Wp.wC, Wp.wOp, Wp.wRet, Wp.wIfS, Wp.wTest, Wp.wCall, Wp.wCons, Wp.wNil, Wp.wTup, Wp.wLst, Wp.wAsg, Wp.gTp, Wp.gC, Wp.gNm, Wp.gN0, Wp.gIx, Wp.rSet, Wp.rAdd, Wp.rMul, Wp.rMod, Wp.rSub, Wp.rFdiv, Wp.rPow, Wp.rInt, Wp.rIx, Wp.rLt, Wp.rLe, Wp.rCmp, Wp.rGeI, Wp.rGtI, Wp.wCB, Wp.rLen, Wp.rLen1, Wp.rInt1, Wp.rMax2, Wp.rMin2, Wp.rTupOf, Wp.rListOf,
  Wp.wIsi, Wp.rBIs, Wp.rIsN, Wp.isNon, Wp.wMt, Wp.rAppendT, Wp.rExtendT, Wp.rReverseT, Wp.wNot, Wp.wOr, Wp.wAnd, Wp.wAndV, Wp.wOrV, Wp.wNotV, Wp.wFor, Wp.iRg1, Wp.iRg2, Wp.iAnyW, Wp.wAll, Wp.wChain, Wp.wSl, Wp.wNoPart, Wp.wPart, Wp.rSl, Wp.wNeg, Wp.rNeg, Wp.wLc, Wp.wYes, Wp.wDrop, Wp.wipeT, Wp.wAug, List.map, List.set_cons_zero, List.set_cons_succ, List.getElem?_cons_zero, List.getElem?_cons_succ, List.length_cons, List.length_nil, List.cons_append, List.nil_append, List.replicate, Wp.startT,
  true_and, and_true, Wp.wif_true, Wp.wif_false, Wp.ex_some, Wp.ex_some1, Wp.ex_eq, Wp.ex_lst, Wp.ex_lst0, Wp.rEq_int, Bool.false_bne, Bool.true_bne, Int.reduceLT, Int.reduceLE, Int.reduceAdd, Nat.reduceAdd, Nat.reduceSub, eq_self, ite_true, ite_false, beq_self_eq_true, Bool.not_true, Bool.not_false, Wp.isB_0, Wp.isB_1, Wp.isB_2, Wp.isB_3, Wp.isB_4, Wp.isB_5, Wp.isB_6, Wp.isB_7, Wp.isB_8, Wp.isB_9, Wp.isB_10, Wp.isB_11, Wp.isB_12, Wp.isB_13, Wp.isB_14, Wp.isB_15, Wp.isB_16, Wp.isB_17, Wp.isB_18, Wp.isB_19, Wp.isB_20, Wp.isB_21, Wp.isB_22, Wp.isB_23, Wp.isB_24, Wp.isB_25, Wp.isB_26, Wp.isB_27, Wp.isB_28, Wp.isB_29, Wp.isB_30, Wp.isB_31, Wp.isB_32, Wp.isB_33, Wp.isB_34, Wp.isB_35, Wp.cmul_l, Wp.cmul_r, Wp.cpow_lit, Wp.size_le, Wp.size_lt, Wp.atI_0, Wp.atI_1, Wp.atI_2, Wp.atI_3, Wp.atI_4, Wp.atI_5, Wp.atI_6, Wp.ixN_0, Wp.ixN_1, Wp.ixN_2, Wp.itemsT, Wp.tyT, reduceIte, Wp.wFld, Wp.wFSet, Wp.wFAug, Wp.wMeth, Wp.wMake, Wp.rIxA, Wp.rInA, Wp.rSetA, Wp.ixA, Wp.inA, Wp.setA, Wp.lenA, Wp.getD, Option.map_some, Option.bind_some, Option.getD_some,  Wp.gIxA, Wp.wDNew, Wp.wDNewT, Wp.rLenA, Wp.rSortD, Wp.rMaxL, Wp.rPopL, Wp.rGet1, Wp.rGet2, Wp.wGet1, Wp.wGet2, Wp.wPop1, Wp.wPop2, Wp.wDel, Wp.isDT, Wp.keyT, Wp.keysT, Wp.keysL, Wp.ex_ins, Wp.ex_dct, Wp.wIf, Wp.rGt, Wp.wTry, Wp.wMethX, Wp.wCallX, Wp.wRaise, Wp.rAddI, Int.cast_ofNat_Int, Int.reduceBEq, lk_Reader_row, pt_Reader_row, lk_Reader_place, pt_Reader_place, no_Reader_byte, no_Reader_inner, no_Reader_is_done, no_Reader_number, no_Reader_part, no_Reader_value, no_Reader_word, ln_Reader, mk_Reader, Wp.rMulB, Wp.upS, Wp.upS_upS, *])
local macro_rules | `(tactic| walk_at "run") => `(tactic| repeat (first | walk_at "wp" | walk_at "go"))
local macro_rules | `(tactic| walk_at "wq") => `(tactic| simp (disch := omega) only [Wp.wSeq, Wp.wNext, Wp.wSet, Wp.wVar, Wp.wC, Wp.wOp, Wp.wRet, Wp.wIfS, Wp.wTest, Wp.wCall, Wp.wCons, Wp.wNil, Wp.wTup, Wp.wLst, Wp.wAsg, Wp.gTp, Wp.gC, Wp.gNm, Wp.gN0, Wp.gIx, Wp.rSet, Wp.rAdd, Wp.rMul, Wp.rMod, Wp.rSub, Wp.rFdiv, Wp.rPow, Wp.rInt, Wp.rIx, Wp.rLt, Wp.rLe, Wp.rCmp, Wp.rGeI, Wp.rGtI, Wp.wCB, Wp.rLen, Wp.rLen1, Wp.rInt1, Wp.rMax2, Wp.rMin2, Wp.rTupOf, Wp.rListOf,
  Wp.wIsi, Wp.rBIs, Wp.rIsN, Wp.isNon, Wp.wMt, Wp.rAppendT, Wp.rExtendT, Wp.rReverseT, Wp.wNot, Wp.wOr, Wp.wAnd, Wp.wAndV, Wp.wOrV, Wp.wNotV, Wp.wFor, Wp.iRg1, Wp.iRg2, Wp.iAnyW, Wp.wAll, Wp.wChain, Wp.wSl, Wp.wNoPart, Wp.wPart, Wp.rSl, Wp.wNeg, Wp.rNeg, Wp.wLc, Wp.wYes, Wp.wDrop, Wp.wipeT, Wp.wAug, List.map, List.set_cons_zero, List.set_cons_succ, List.getElem?_cons_zero, List.getElem?_cons_succ, List.length_cons, List.length_nil, List.cons_append, List.nil_append, List.replicate, Wp.startT,
  true_and, and_true, Wp.wif_true, Wp.wif_false, Wp.ex_some, Wp.ex_some1, Wp.ex_eq, Wp.ex_lst, Wp.ex_lst0, Wp.rEq_int, Bool.false_bne, Bool.true_bne, Int.reduceLT, Int.reduceLE, Int.reduceAdd, Nat.reduceAdd, Nat.reduceSub, eq_self, ite_true, ite_false, beq_self_eq_true, Bool.not_true, Bool.not_false, Wp.isB_0, Wp.isB_1, Wp.isB_2, Wp.isB_3, Wp.isB_4, Wp.isB_5, Wp.isB_6, Wp.isB_7, Wp.isB_8, Wp.isB_9, Wp.isB_10, Wp.isB_11, Wp.isB_12, Wp.isB_13, Wp.isB_14, Wp.isB_15, Wp.isB_16, Wp.isB_17, Wp.isB_18, Wp.isB_19, Wp.isB_20, Wp.isB_21, Wp.isB_22, Wp.isB_23, Wp.isB_24, Wp.isB_25, Wp.isB_26, Wp.isB_27, Wp.isB_28, Wp.isB_29, Wp.isB_30, Wp.isB_31, Wp.isB_32, Wp.isB_33, Wp.isB_34, Wp.isB_35, Wp.cmul_l, Wp.cmul_r, Wp.cpow_lit, Wp.size_le, Wp.size_lt, Wp.atI_0, Wp.atI_1, Wp.atI_2, Wp.atI_3, Wp.atI_4, Wp.atI_5, Wp.atI_6, Wp.ixN_0, Wp.ixN_1, Wp.ixN_2, Wp.itemsT, Wp.tyT, reduceIte, Wp.wFld, Wp.wFSet, Wp.wFAug, Wp.wMeth, Wp.wMake, Wp.rIxA, Wp.rInA, Wp.rSetA, Wp.ixA, Wp.inA, Wp.setA, Wp.lenA, Wp.getD, Option.map_some, Option.bind_some, Option.getD_some,  Wp.gIxA, Wp.wDNew, Wp.wDNewT, Wp.rLenA, Wp.rSortD, Wp.rMaxL, Wp.rPopL, Wp.rGet1, Wp.rGet2, Wp.wGet1, Wp.wGet2, Wp.wPop1, Wp.wPop2, Wp.wDel, Wp.isDT, Wp.keyT, Wp.keysT, Wp.keysL, Wp.ex_ins, Wp.ex_dct, Wp.wIf, Wp.rGt, Wp.wTry, Wp.wMethX, Wp.wCallX, Wp.wRaise, Wp.rAddI, Int.cast_ofNat_Int, Int.reduceBEq, lk_Reader_row, pt_Reader_row, lk_Reader_place, pt_Reader_place, no_Reader_byte, no_Reader_inner, no_Reader_is_done, no_Reader_number, no_Reader_part, no_Reader_value, no_Reader_word, ln_Reader, mk_Reader, Wp.rMulB, *])
local macro_rules | `(tactic| walk_at "r2") => `(tactic| repeat (first | walk_at "wq" | walk_at "go"))
local macro_rules | `(tactic| walk_at "w0") => `(tactic| simp (disch := omega) only [Wp.wSeq, Wp.wNext, Wp.wSet, Wp.wVar, Wp.wC, Wp.wOp, Wp.wRet, Wp.wIfS, Wp.wTest, Wp.wCall, Wp.wCons, Wp.wNil, Wp.wTup, Wp.wLst, Wp.wAsg, Wp.gTp, Wp.gC, Wp.gNm, Wp.gN0, Wp.gIx, Wp.rSet, Wp.rAdd, Wp.rMul, Wp.rMod, Wp.rSub, Wp.rFdiv, Wp.rPow, Wp.rInt, Wp.rIx, Wp.rLt, Wp.rLe, Wp.rCmp, Wp.rGeI, Wp.rGtI, Wp.wCB, Wp.rLen, Wp.rLen1, Wp.rInt1, Wp.rMax2, Wp.rMin2, Wp.rTupOf, Wp.rListOf,
  Wp.wIsi, Wp.rBIs, Wp.rIsN, Wp.isNon, Wp.wMt, Wp.rAppendT, Wp.rExtendT, Wp.rReverseT, Wp.wNot, Wp.wOr, Wp.wAnd, Wp.wAndV, Wp.wOrV, Wp.wNotV, Wp.wFor, Wp.iRg1, Wp.iRg2, Wp.iAnyW, Wp.wAll, Wp.wChain, Wp.wSl, Wp.wNoPart, Wp.wPart, Wp.rSl, Wp.wNeg, Wp.rNeg, Wp.wLc, Wp.wYes, Wp.wDrop, Wp.wipeT, Wp.wAug, List.map, List.set_cons_zero, List.set_cons_succ, List.getElem?_cons_zero, List.getElem?_cons_succ, List.length_cons, List.length_nil, List.cons_append, List.nil_append, List.replicate, Wp.startT,
  true_and, and_true, Wp.wif_true, Wp.wif_false, Wp.ex_some, Wp.ex_some1, Wp.ex_eq, Wp.ex_lst, Wp.ex_lst0, Wp.rEq_int, Bool.false_bne, Bool.true_bne, Int.reduceLT, Int.reduceLE, Int.reduceAdd, Nat.reduceAdd, Nat.reduceSub, eq_self, ite_true, ite_false, beq_self_eq_true, Bool.not_true, Bool.not_false, Wp.isB_0, Wp.isB_1, Wp.isB_2, Wp.isB_3, Wp.isB_4, Wp.isB_5, Wp.isB_6, Wp.isB_7, Wp.isB_8, Wp.isB_9, Wp.isB_10, Wp.isB_11, Wp.isB_12, Wp.isB_13, Wp.isB_14, Wp.isB_15, Wp.isB_16, Wp.isB_17, Wp.isB_18, Wp.isB_19, Wp.isB_20, Wp.isB_21, Wp.isB_22, Wp.isB_23, Wp.isB_24, Wp.isB_25, Wp.isB_26, Wp.isB_27, Wp.isB_28, Wp.isB_29, Wp.isB_30, Wp.isB_31, Wp.isB_32, Wp.isB_33, Wp.isB_34, Wp.isB_35, Wp.cmul_l, Wp.cmul_r, Wp.cpow_lit, Wp.size_le, Wp.size_lt, Wp.atI_0, Wp.atI_1, Wp.atI_2, Wp.atI_3, Wp.atI_4, Wp.atI_5, Wp.atI_6, Wp.ixN_0, Wp.ixN_1, Wp.ixN_2, Wp.itemsT, Wp.tyT, reduceIte, Wp.wFld, Wp.wFSet, Wp.wFAug, Wp.wMeth, Wp.wMake, Wp.rIxA, Wp.rInA, Wp.rSetA, Wp.ixA, Wp.inA, Wp.setA, Wp.lenA, Wp.getD, Option.map_some, Option.bind_some, Option.getD_some,  Wp.gIxA, Wp.wDNew, Wp.wDNewT, Wp.rLenA, Wp.rSortD, Wp.rMaxL, Wp.rPopL, Wp.rGet1, Wp.rGet2, Wp.wGet1, Wp.wGet2, Wp.wPop1, Wp.wPop2, Wp.wDel, Wp.isDT, Wp.keyT, Wp.keysT, Wp.keysL, Wp.ex_ins, Wp.ex_dct, Wp.wIf, Wp.rGt, Wp.wTry, Wp.wMethX, Wp.wCallX, Wp.wRaise, Wp.rAddI, Int.cast_ofNat_Int, Int.reduceBEq, lk_Reader_row, pt_Reader_row, lk_Reader_place, pt_Reader_place, no_Reader_byte, no_Reader_inner, no_Reader_is_done, no_Reader_number, no_Reader_part, no_Reader_value, no_Reader_word, ln_Reader, mk_Reader, Wp.rMulB])
local macro_rules | `(tactic| walk_at "r0") => `(tactic| repeat (first | walk_at "w0" | walk_at "go"))
variable {C CB : Addr}
def spValA : WSp := fun ts S Q E => ∃ d : Nat, d ≤ 9 ∧ spVal d ts S Q E
theorem dp_flat : ∀ n : Nat, (List.replicate n [T.int 3, .int 1, .int 1]).flatten ++ [.int 3, .int 0] = (dp n).map T.int
  | 0 => rfl
  | n + 1 => by
    rw [List.replicate_succ, List.flatten_cons, List.append_assoc, dp_flat n]
    rfl
abbrev law1 (C CB : Addr) : WS := l1_law C CB spBag3 spWr spValA spDr spRight spTurn (spTold CB) spLs
def laE (C CB : Addr) : WS := (wIfS (wOr (wNot (wTest (wCall 1 spRight (wCons (wVar 6) wNil)))) (wTest (wOp (rEq true) (wCB rLenA (wCons (wCall 1 (spTold CB) (wCons (wCB rTupOf (wCons (wCall 1 spLs (wCons (wVar 6) wNil)) wNil)) wNil)) wNil)) (wCB rInt1 (wCons (wOp rLe (wVar 5) (wC (.int 16))) wNil))))) (wRet (wC (.bl false))) wNext)
def laS (C CB : Addr) : WS := wSeq (wSet 6 (wOp rAdd (wOp rMulB (wLst (wCons (wC (.int 3)) (wCons (wC (.int 1)) (wCons (wC (.int 1)) wNil)))) (wOp rSub (wVar 5) (wC (.int 1)))) (wLst (wCons (wC (.int 3)) (wCons (wC (.int 0)) wNil))))) (laE C CB)
def laT (C CB : Addr) : WS := wSeq (wFor (iRg1 (wCons (wC (.int 12)) wNil)) (gNm 4) (law1 C CB))
    (wSeq (wSet 5 (wOp rAdd (wC (.int 14)) (wCall 2 spDr (wCons (wVar 2) (wCons (wC (.int 5)) wNil))))) (laS C CB))
theorem law2_is : l2_law C CB spBag3 spWr spValA spDr spRight spTurn (spTold CB) spLs = wSeq (wSet 2 (wCall 2 spBag3 (wCons (wVar 0) (wCons (wVar 1) wNil))))
    (wSeq (wSet 3 (wSl (wCB rListOf (wCons (wCall 1 spWr (wCons (wCall 3 spValA (wCons (wVar 2) (wCons (wLst (wCons (wC (.int 30)) wNil)) (wCons (wCall 2 spDr (wCons (wVar 2) (wCons (wC (.int 8)) wNil))) wNil)))) wNil)) wNil)) wNoPart (wPart (wNeg (wC (.int 2)))))) (laT C CB)) := rfl
section
variable {p r q : Addr} {D : WEnds} {S : Sta} {v0 v1 v2 v3 v4 v5 v6 : Option T}
theorem laE_ok {n : Nat} (hn : n ≤ 20) (hq : S q = some (.lst ((dp n).map T.int))) (nx : ∀ S', D.nx [v0, v1, v2, v3, v4, some (.int (n + 1)), some (.ref q)] S') :
    laE C CB D [v0, v1, v2, v3, v4, some (.int (n + 1)), some (.ref q)] S := by
  have dl := dp_len n
  unfold laE
  walk_at "r0"
  refine ⟨dp n, hq, dp_byt n, by omega, fun S1 g1 => ?_⟩
  show wif (!true) _ _
  refine wif_f ?_
  have hq1 := g1 _ _ hq
  refine ⟨dp n, hq1, by omega, fun z S2 nz g2 e2 => ?_⟩
  refine ⟨(dp n ++ sumBytes (dp n)).map T.int, by simp only [e2], ?_⟩
  have sb : ∀ x ∈ sumBytes (dp n), 0 ≤ x ∧ x ≤ 255 := fun x hx => by
    simp only [sumBytes, List.mem_cons, List.not_mem_nil, or_false] at hx
    rcases hx with rfl | rfl <;> omega
  refine ⟨dp n ++ sumBytes (dp n), rfl, fun x hx => ?_, by rw [List.length_append, sb_len]; omega, by rw [frnt_app, rear_app], ?_, ?_⟩
  · rcases List.mem_append.mp hx with z | z
    · exact dp_byt n x z
    · exact sb x z
  · rw [frnt_app]
    intro v ev t S3 g3 e3
    have hlt : n < 16 := by
      rcases Nat.lt_or_ge n 16 with z | z
      · exact z
      · rw [dp_none n 16 z] at ev; cases ev
    refine ⟨_, lenA_ref e3, ?_⟩
    show wif (!((1 : Int) == (if decide ((n : Int) + 1 ≤ 16) = true then 1 else 0))) _ _
    rw [if_pos (decide_eq_true (show (n : Int) + 1 ≤ 16 by omega))]
    exact wif_f (goS_i (nx S3))
  · rw [frnt_app]
    intro ev t S3 g3 e3
    have hge : 16 ≤ n := by
      rcases Nat.lt_or_ge n 16 with z | z
      · obtain ⟨v, hv⟩ := dp_some n 16 z
        exact absurd hv (ev v)
      · exact z
    refine ⟨_, lenA_ref e3, ?_⟩
    show wif (!((0 : Int) == (if decide ((n : Int) + 1 ≤ 16) = true then 1 else 0))) _ _
    rw [if_neg (by rw [decide_eq_false (show ¬ ((n : Int) + 1 ≤ 16) by omega)]; decide)]
    exact wif_f (goS_i (nx S3))
theorem laS_ok {n : Nat} (hn : n ≤ 20) (nx : ∀ v6 S', D.nx [v0, v1, v2, v3, v4, some (.int (n + 1)), v6] S') :
    laS C CB D [v0, v1, v2, v3, v4, some (.int (n + 1)), v6] S := by
  unfold laS
  have ee := fun (D : WEnds) S' q hq => laE_ok (C := C) (CB := CB) (q := q) (D := D) (S := S') (v0 := v0) (v1 := v1) (v2 := v2) (v3 := v3) (v4 := v4) hn hq
  generalize laE C CB = LE at ee ⊢
  walk_at "r0"
  intro a ha
  obtain ⟨S1, w1, g1, e1⟩ := al_ (o := .lst [.int 3, .int 1, .int 1]) ha
  rw [w1]
  refine ⟨_, e1, by omega, by omega, ?_, fun b hb => ?_⟩
  · rw [show ((n : Int) + 1 - 1) = ((n : Nat) : Int) by omega, Int.toNat_natCast]
    exact le_sz (by show 3 * n ≤ _; omega)
  · obtain ⟨S2, w2, g2, e2⟩ := al_ (o := .lst (List.replicate ((n : Int) + 1 - 1).toNat [.int 3, .int 1, .int 1]).flatten) hb
    rw [w2]
    intro c hc
    have hbc : b ≠ c := fun z => by rw [z] at e2; rw [hc] at e2; cases e2
    refine ⟨_, (upS_ne hbc).trans e2, _, upS_same, ?_, fun d hd => goS_i (ee _ _ d ?_ fun S' => nx _ S')⟩
    · rw [show ((n : Int) + 1 - 1) = ((n : Nat) : Int) by omega, Int.toNat_natCast]
      exact le_sz (by simp; omega)
    · rw [show ((n : Int) + 1 - 1) = ((n : Nat) : Int) by omega, Int.toNat_natCast, upS_same, dp_flat]
theorem laT_ok {xs : List Int} (hb : IsBag none S p) (hr : S r = some (.lst (xs.map T.int))) (nr : r ≠ p) (hl : xs.length ≤ 5000) (hB : Byt xs) (nx : ∀ v4 v5 v6 S', D.nx [v0, v1, some (.ref p), some (.ref r), v4, v5, v6] S') :
    laT C CB D [v0, v1, some (.ref p), some (.ref r), v4, v5, v6] S := by
  have ee := fun (D : WEnds) S' v4 v6 n hn => laS_ok (C := C) (CB := CB) (D := D) (S := S') (v0 := v0) (v1 := v1) (v2 := some (.ref p)) (v3 := some (.ref r)) (v4 := v4) (v6 := v6) (n := n) hn
  unfold laT
  generalize laS C CB = LS at ee ⊢
  walk_at "r0"
  refine ⟨by omega, by omega, ?_⟩
  refine loop_inv (fun i σ S' => ∃ v4, σ = [v0, v1, some (.ref p), some (.ref r), v4, v5, v6] ∧ Grb none p S S') ⟨_, rfl, .refl hb⟩ (fun _ _ _ _ => trivial) (fun i x σ S1 LP hx hI nx1 => ?_) (fun σ S1 hI => ?_)
  · obtain ⟨v4, rfl, g1⟩ := hI
    show law1 C CB _ [v0, v1, some (.ref p), some (.ref r), some x, v5, v6] S1
    unfold law1 l1_law
    walk_at "r0"
    refine ⟨xs, g1.bag, g1.keep r _ hr nr, nr, by omega, hB, fun q ys S2 g2 e2 hy ly => ⟨ys, e2, hy, by omega, fun S3 g3 => ?_⟩⟩
    show wif (!true) _ _
    exact wif_f (goS_i (nx1 _ _ ⟨_, rfl, (g1.trans g2).gr g3⟩))
  · obtain ⟨v4, rfl, g1⟩ := hI
    walk_at "r0"
    refine ⟨g1.bag, by decide, by decide, fun c S2 c0 c1 g2 => ?_⟩
    obtain ⟨m, hm⟩ : ∃ m : Nat, 14 + c = (m : Int) + 1 := ⟨(13 + c).toNat, by omega⟩
    show goS (LS D) [v0, v1, some (.ref p), some (.ref r), v4, some (.int (14 + c)), v6] S2
    rw [hm]
    exact goS_i (ee _ _ _ _ m (by omega) fun v6 S' => nx _ _ _ S')
theorem law2_ok {ns : List Int} (hn : ns.length ≤ 1000) {k : Int} (hk : 0 ≤ k) (nx : ∀ y2 y3 y4 y5 y6 S', D.nx [some (.fl (ns.map T.int)), some (.int k), y2, y3, y4, y5, y6] S') :
    l2_law C CB spBag3 spWr spValA spDr spRight spTurn (spTold CB) spLs D [some (.fl (ns.map T.int)), some (.int k), v2, v3, v4, v5, v6] S := by
  rw [law2_is]
  have tt := fun (D : WEnds) S' p r xs hb hr nr hl hB nx => laT_ok (C := C) (CB := CB) (D := D) (S := S') (p := p) (r := r) (xs := xs) (v0 := some (.fl (ns.map T.int))) (v1 := some (.int k)) (v4 := v4) (v5 := v5) (v6 := v6) hb hr nr hl hB nx
  generalize laT C CB = LL at tt ⊢
  walk_at "r0"
  refine ⟨ns, rfl, hk, hn, fun p S1 hp g1 hb1 => ?_⟩
  walk_at "r0"
  intro f hf
  have hfp := new_ne hb1 hf
  obtain ⟨S2, w2, g2, e2⟩ := al_ (o := .lst [.int 30]) hf
  rw [w2]
  refine ⟨hb1.gr g2, by decide, by decide, fun d S3 d0 d1 g3 => ?_⟩
  have e3 := g3.keep _ _ e2 hfp
  refine ⟨d.toNat, by omega, by omega, g3.bag, hfp, 30, e3, by omega, by omega, fun v S4 fu' hv hp1 hp2 hp3 hp4 g4 e4 => ?_⟩
  have hfu := hp3 (by omega)
  have hv16 : Vl 16 v := hv.up (by omega)
  refine ⟨hv16, by omega, fun S5 g5 => ?_⟩
  refine ⟨_, rfl, fun a ha => ⟨_, by rw [upS_same], fun b hb => ?_⟩⟩
  have b5 : IsBag none S5 p := g4.bag.gr g5
  have b6 : IsBag none (upS (upS S5 a (.lst ((parts v ++ sumBytes (parts v)).map T.int))) b (.lst (cutT ((parts v ++ sumBytes (parts v)).map T.int) none (some (-2))))) p := (b5.gr (gr_new ha)).gr (gr_new hb)
  refine goS_i (tt _ _ p b (parts v) b6 ?_ (new_ne (b5.gr (gr_new ha)) hb) (by omega) (fun x hx => by have := parts_byte hv16 x hx; unfold isByte at this; omega) fun _ _ _ S' => nx _ _ _ _ _ S')
  rw [upS_same, cut_front, List.length_map, ← List.map_take]
  have := frnt_app (parts v)
  unfold frnt at this
  rw [this]
end
theorem hw_law : ∀ ts S Q E, ts.length = 1 → spLaw ts S Q E → b_law C CB spBag3 spWr spValA spDr spRight spTurn (spTold CB) spLs { nx := fun _ S' => Q .non S', rt := Q } (Wp.startT N_law ts) S := by
  intro ts S Q E _ h
  obtain ⟨ns, rfl, hl, hS, hQ⟩ := h
  unfold b_law N_law
  walk_at "r0"
  refine ⟨by split <;> split <;> omega, by split <;> split <;> omega, ?_⟩
  refine loop_inv (fun i σ S' => ∃ y1 y2 y3 y4 y5 y6, σ = [some (.fl (ns.map T.int)), y1, y2, y3, y4, y5, y6]) ⟨_, _, _, _, _, _, rfl⟩ (fun _ _ _ _ => trivial) (fun i x σ S1 LP hx hI nx => ?_) (fun σ S1 hI => ?_)
  · obtain ⟨y1, y2, y3, y4, y5, y6, rfl⟩ := hI
    obtain ⟨hi, rfl⟩ := range_at hx
    exact law2_ok (C := C) (by omega) (by omega) fun y2 y3 y4 y5 y6 S' => nx _ _ ⟨_, y2, y3, y4, y5, y6, rfl⟩
  · obtain ⟨y1, y2, y3, y4, y5, y6, rfl⟩ := hI
    walk_at "r0"
    exact hQ S1
end My

set_option Elab.async false
set_option linter.all false
set_option maxRecDepth 100000
namespace My
open PySem PySem.Spec PyProof.Rows L2 Wp Gn
section
variable {P : Program} {K : PySem.W.Frag} {mg : Str → Option Value}
def spNo : WSp := fun _ _ _ _ => False
theorem fn_no {w : World} {base : Heap} {tl : List Addr} {CX : CXT} {k : Nat} {f : Addr} {fd : FuncData} {ps : List Str} : FnOk P w K mg base CX k f fd ps (Lsp tl K ps.length spNo) := ⟨fun vs H Q E h => lsp_len h, fun A outer s H args us vs Q E hr e0 hb hv h => by
  obtain ⟨_, ts, S, Q0, E0, _, _, _, z, _⟩ := h
  exact z.elim⟩
theorem fn_ex {ι : Type} {w : World} {base : Heap} {tl : List Addr} {k : Nat} {f : Addr} {fd : FuncData} {ps : List Str} {C : ι → Prop} {s : ι → WSp} (F : ∀ i, C i → FnOk P w K mg base CX0 k f fd ps (Lsp tl K ps.length (s i))) : FnOk P w K mg base CX0 k f fd ps (Lsp tl K ps.length fun ts S Q E => ∃ i, C i ∧ s i ts S Q E) :=
  ⟨fun vs H Q E h => lsp_len h, fun A outer s' H args us vs Q E hr e0 hb hv h => by
    obtain ⟨hT, ts, S, Q0, E0, h1, h2, h3, ⟨i, hi, h4⟩, h5⟩ := h
    exact (F i hi).run A outer s' H args us vs Q E hr e0 hb hv ⟨hT, ts, S, Q0, E0, h1, h2, h3, h4, h5⟩⟩
theorem three_in {α : Type} {p a b c : α} (h : p ∈ [a, b, c]) : p = a ∨ p = b ∨ p = c := by simpa using h
theorem law_ok {l : PySem.W.OpenLaw} {w : World} {h : Heap} {fa C_Reader C_BadBytes : Addr} (T : Facts K mg C_Reader C_BadBytes) (X : K.In h) (G : h.Ns mainGlobals mg) (hfa : mg "law" = some (.ref fa)) (TE : TabsE K mg h ["is_bytes", "_can_stand", "_is_word"]) :
    ∃ (fd : FuncData) (cs : List (Addr × Addr)), (∀ (s : Shared) (u : Value), BindsTo s fd ⟨[u], []⟩ [("script", u)]) ∧ (∀ p ∈ cs, h.get? p.2 = some { cls := .none, data := .fields #[] }) ∧ (∀ p ∈ cs, K.lookup p.2 = none) ∧ (∀ p ∈ cs, PySem.W.CodeHd h p.1 p.2) ∧
      ∀ base : Heap, K.In base → base.Ns mainGlobals mg → (∀ p ∈ cs, GxR.TabB base mg p.1 p.2) → FnOk l.prog w K mg base CX0 44 fa fd ["script"] (Lsp (cs.map (·.2)) K 1 spLaw) := by
  obtain ⟨f, fd, F, m, b⟩ := T.d_law
  have e := m.symm.trans hfa
  cases e
  obtain ⟨fC, fdC, c1, P1, FC, mC, bC, tC⟩ := T.d_is_bytes
  obtain ⟨fS, fdS, c2, P2, FS, mS, bS, tS⟩ := T.d__can_stand
  obtain ⟨fW, fdW, c3, P3, FW, mW, bW, tW⟩ := T.d__is_word
  have te1 := TE "is_bytes" (by simp) fC fdC c1 P1 mC (by obtain ⟨oc, od, kV, doc, pm, an, cdv, ct, osl, _, lk, _⟩ := FC.ex; exact ⟨_, _, _, lk⟩) tC
  have te2 := TE "_can_stand" (by simp) fS fdS c2 P2 mS (by obtain ⟨oc, od, kV, doc, pm, an, cdv, ct, osl, _, lk, _⟩ := FS.ex; exact ⟨_, _, _, lk⟩) tS
  have te3 := TE "_is_word" (by simp) fW fdW c3 P3 mW (by obtain ⟨oc, od, kV, doc, pm, an, cdv, ct, osl, _, lk, _⟩ := FW.ex; exact ⟨_, _, _, lk⟩) tW
  refine ⟨fd, [(c1, P1), (c2, P2), (c3, P3)], fun s u => ?_, fun p hp => ?_, fun p hp => ?_, fun p hp => ?_, fun base hb hg hTB => ?_⟩
  · obtain ⟨oc, od, kV, doc, pm, an, cdv, ct, osl, rfl, lk, hcd⟩ := F.ex
    exact .of_eq rfl
  · rcases three_in hp with h | h | h <;> rw [h]
    · exact te1.1
    · exact te2.1
    · exact te3.1
  · rcases three_in hp with h | h | h <;> rw [h]
    · exact tC.no
    · exact tS.no
    · exact tW.no
  · rcases three_in hp with h | h | h <;> rw [h]
    · exact te1.2
    · exact te2.2
    · exact te3.2
  · have t1 : Tab1 base mg [P1, P2, P3] fdC c1 P1 := ⟨tC.code, hTB (c1, P1) (by simp), by simp⟩
    have t2 : Tab1 base mg [P1, P2, P3] fdS c2 P2 := ⟨tS.code, hTB (c2, P2) (by simp), by simp⟩
    have t3 : Tab1 base mg [P1, P2, P3] fdW c3 P3 := ⟨tW.code, hTB (c3, P3) (by simp), by simp⟩
    have c_int : Cal l.prog w K mg base [P1, P2, P3] 1 "is_integer" ["value", "least", "greatest"] spIsI := T.d_is_integer.cal fun f fd F => fn_is_integer (k := 0) T F hw_is_integer
    have c_isb : Cal l.prog w K mg base [P1, P2, P3] 3 "is_bytes" ["value"] spIsB := ⟨fC, fdC, fn_is_bytes (k := 1) T FC t1 c_int hw_isb, mC, FC.kp, bC⟩
    have c_wd : Cal l.prog w K mg base [P1, P2, P3] 2 "_is_word" ["value"] spWd := ⟨fW, fdW, fn__is_word (k := 0) T FW t3 hw_is_word, mW, FW.kp, bW⟩
    have c_dg : Cal l.prog w K mg base [P1, P2, P3] 1 "_digits_of" ["number"] spDig := T.d__digits_of.cal fun f fd F => fn__digits_of (k := 0) T F hw_digits_of
    have c_pn : Cal l.prog w K mg base [P1, P2, P3] 2 "_put_number" ["row", "number"] spPn := T.d__put_number.cal fun f fd F => fn__put_number (k := 1) T F c_dg hw_put_number
    obtain ⟨fU, fdU, FU, mU, bU⟩ := T.d__put
    have pt : ∀ d : Nat, FnOk l.prog w K mg base CX0 (d + 3) fU fdU ["row", "value", "levels"] (Lsp [P1, P2, P3] K 3 (spPut d)) := fun d => by
      induction d with
      | zero => exact fn__put (k := 2) T FU (c_int.mono (by decide)) c_pn c_wd ⟨fU, fdU, fn_no, mU, FU.kp, bU⟩ (hw_put 0 spNo fun e z => by cases z)
      | succ d ih => exact fn__put (k := d + 3) T FU (c_int.mono (by omega)) (c_pn.mono (by omega)) (c_wd.mono (by omega)) ⟨fU, fdU, ih, mU, FU.kp, bU⟩ (hw_put (d + 1) (spPut d) fun e z => by cases z; rfl)
    have c_pt : Cal l.prog w K mg base [P1, P2, P3] 19 "_put" ["row", "value", "levels"] (spPut 16) := ⟨fU, fdU, pt 16, mU, FU.kp, bU⟩
    have c_su : Cal l.prog w K mg base [P1, P2, P3] 1 "_sum_of" ["row"] spSumB := T.d__sum_of.cal fun f fd F => fn__sum_of (k := 0) T F hw_sumB
    have c_su2 : Cal l.prog w K mg base [P1, P2, P3] 1 "_sum_of" ["row"] spSum := c_su.imp fun ts S Q E z => .inl z
    have c_wr : Cal l.prog w K mg base [P1, P2, P3] 20 "write" ["value"] spWr := T.d_write.cal fun f fd F => fn_write (k := 19) T F c_pt (c_su2.mono (by decide)) hw_write
    have c_ri : CalI l.prog w K mg base [P1, P2, P3] 1 C_Reader "Reader" ["self", "row"] (spRInit C_Reader) := T.d_Reader_init.cal fun f fd F => fn_Reader_init (k := 0) T F hw_rinit
    have c_rd : CalM l.prog w K mg base [P1, P2, P3] 1 C_Reader "is_done" ["self"] (spRDone C_Reader) := T.d_Reader_is_done.cal fun f fd F => fn_Reader_is_done (k := 0) T F hw_rdone
    have c_part : CalMX l.prog w K mg base [P1, P2, P3] 1 C_Reader "part" ["self", "many"] (spRPart C_Reader C_BadBytes) := T.d_Reader_part.calX fun f fd F => fn_Reader_part (k := 0) T F hw_rpart
    have c_byte : CalMX l.prog w K mg base [P1, P2, P3] 2 C_Reader "byte" ["self"] (spRByte C_Reader C_BadBytes) := T.d_Reader_byte.calX fun f fd F => fn_Reader_byte (k := 1) T F c_part hw_rbyte
    have c_num : CalMX l.prog w K mg base [P1, P2, P3] 3 C_Reader "number" ["self"] (spGNum C_Reader C_BadBytes) := T.d_Reader_number.calX fun f fd F => fn_Reader_number (k := 2) T F (c_part.mono (by decide)) c_byte hw_gnum
    have c_let : CalX l.prog w K mg base [P1, P2, P3] 1 "_letter_of" ["code"] (spGLet C_BadBytes) := T.d__letter_of.calX fun f fd F => fn__letter_of (k := 0) T F hw_glet
    have c_word : CalMX l.prog w K mg base [P1, P2, P3] 4 C_Reader "word" ["self"] (spGWord C_Reader C_BadBytes) := T.d_Reader_word.calX fun f fd F => fn_Reader_word (k := 3) T F c_num (c_part.mono (by decide)) (c_let.mono (by decide)) hw_gword
    obtain ⟨fV, fdV, FV, mV, bV⟩ := T.d_Reader_value
    obtain ⟨fI, fdI, FI, mI, bI⟩ := T.d_Reader_inner
    have rv : ∀ e : Nat, FnOk l.prog w K mg base (L2.CX l.prog w) (2 * e + 5) fV fdV ["self", "levels"] (Lsp [P1, P2, P3] K 2 (spGVal C_Reader C_BadBytes e)) := fun e => by
      induction e with
      | zero => exact fn_Reader_value (k := 4) T FV (c_byte.mono (by decide)) (c_num.mono (by decide)) c_word ⟨fI, fdI, fn_no, mI, bI⟩ (hw_gval 0 spNo fun k z => by cases z)
      | succ e ih =>
        have ri : FnOk l.prog w K mg base (L2.CX l.prog w) (2 * e + 6) fI fdI ["self", "levels"] (Lsp [P1, P2, P3] K 2 (spGInner C_Reader C_BadBytes e)) := fn_Reader_inner (k := 2 * e + 5) T FI (c_num.mono (by omega)) ⟨fV, fdV, ih, mV, bV⟩ (hw_ginner e)
        exact fn_Reader_value (k := 2 * e + 6) T FV (c_byte.mono (by omega)) (c_num.mono (by omega)) (c_word.mono (by omega)) ⟨fI, fdI, ri, mI, bI⟩ (hw_gval (e + 1) (spGInner C_Reader C_BadBytes e) fun k z => by cases z; rfl)
    have c_val : CalMX l.prog w K mg base [P1, P2, P3] 37 C_Reader "value" ["self", "levels"] (spGVal C_Reader C_BadBytes 16) := ⟨fV, fdV, rv 16, mV, bV⟩
    have c_read : CalX l.prog w K mg base [P1, P2, P3] 39 "read" ["row"] (spGRead C_BadBytes) := T.d_read.calX fun f fd F => fn_read (k := 37) T F (c_isb.mono (by decide)) (c_su.mono (by decide)) (c_ri.mono (by decide)) c_val (c_rd.mono (by decide)) hw_gread
    have c_told : Cal l.prog w K mg base [P1, P2, P3] 40 "_law_told" ["row"] (spTold C_BadBytes) := T.d__law_told.cal fun f fd F => fn__law_told (k := 39) T F c_read hw_told
    have c_ls : Cal l.prog w K mg base [P1, P2, P3] 1 "_law_summed" ["row"] spLs := T.d__law_summed.cal fun f fd F => fn__law_summed (k := 0) T F hw_law_summed
    have cs : ∀ d : Nat, FnOk l.prog w K mg base CX0 (2 * d + 4) fS fdS ["value", "levels"] (Lsp [P1, P2, P3] K 2 (spCan d)) := fun d => by
      induction d with
      | zero => exact fn__can_stand (k := 2) T FS t2 ⟨fS, fdS, fn_no, mS, FS.kp, bS⟩ (c_int.mono (by decide)) c_wd (hw_can 0 spNo fun e z => by cases z)
      | succ d ih => exact fn__can_stand (k := 2 * d + 4) T FS t2 ⟨fS, fdS, ih, mS, FS.kp, bS⟩ (c_int.mono (by omega)) (c_wd.mono (by omega)) (hw_can (d + 1) (spCan d) fun e z => by cases z; rfl)
    have c_cs : Cal l.prog w K mg base [P1, P2, P3] 36 "_can_stand" ["value", "levels"] (spCan 16) := ⟨fS, fdS, cs 16, mS, FS.kp, bS⟩
    have c_cb : Cal l.prog w K mg base [P1, P2, P3] 37 "can_be_written" ["value"] spCanB := T.d_can_be_written.cal fun f fd F => fn_can_be_written (k := 36) T F c_cs hw_canb
    have c_rt : Cal l.prog w K mg base [P1, P2, P3] 42 "_law_right" ["row"] spRight := T.d__law_right.cal fun f fd F => fn__law_right (k := 41) T F (c_ls.mono (by decide)) (c_told.mono (by decide)) (c_cb.mono (by decide)) (c_wr.mono (by decide)) hw_right
    have c_bag : Cal l.prog w K mg base [P1, P2, P3] 1 "_law_bag" ["script", "k"] spBag3 := T.d__law_bag.cal fun f fd F => fn__law_bag (k := 0) T F hw_bag3A
    have c_dr : Cal l.prog w K mg base [P1, P2, P3] 1 "_law_draw" ["bag", "many"] spDr := T.d__law_draw.cal fun f fd F => fn__law_draw (k := 0) T F hw_dr
    have c_lw : Cal l.prog w K mg base [P1, P2, P3] 2 "_law_word" ["bag"] spWord := T.d__law_word.cal fun f fd F => fn__law_word (k := 1) T F c_dr hw_law_word
    have c_ln : Cal l.prog w K mg base [P1, P2, P3] 2 "_law_number" ["bag"] spNum := T.d__law_number.cal fun f fd F => fn__law_number (k := 1) T F c_dr hw_law_number
    obtain ⟨fL, fdL, FL, mL, bL⟩ := T.d__law_value
    have vl : ∀ d : Nat, d ≤ 9 → FnOk l.prog w K mg base CX0 (d + 3) fL fdL ["bag", "fuel", "deep"] (Lsp [P1, P2, P3] K 3 (spVal d)) := fun d => by
      induction d with
      | zero => exact fun hd => fn__law_value (k := 2) T FL (c_dr.mono (by decide)) c_lw c_ln ⟨fL, fdL, fn_no, mL, FL.kp, bL⟩ (hw_law_value 0 hd spNo fun e z => by cases z)
      | succ d ih => exact fun hd => fn__law_value (k := d + 3) T FL (c_dr.mono (by omega)) (c_lw.mono (by omega)) (c_ln.mono (by omega)) ⟨fL, fdL, ih (by omega), mL, FL.kp, bL⟩ (hw_law_value (d + 1) hd (spVal d) fun e z => by cases z; rfl)
    have c_vl : Cal l.prog w K mg base [P1, P2, P3] 12 "_law_value" ["bag", "fuel", "deep"] spValA := ⟨fL, fdL, fn_ex (C := fun d : Nat => d ≤ 9) (s := spVal) fun d hd => (vl d hd).mono (by omega), mL, FL.kp, bL⟩
    have c_tn : Cal l.prog w K mg base [P1, P2, P3] 2 "_law_turned" ["bag", "row"] spTurn := T.d__law_turned.cal fun f fd F => fn__law_turned (k := 1) T F c_dr hw_turned
    exact fn_law (k := 43) T F (c_bag.mono (by decide)) (c_wr.mono (by decide)) (c_vl.mono (by decide)) (c_dr.mono (by decide)) (c_rt.mono (by decide)) (c_tn.mono (by decide)) (c_told.mono (by decide)) (c_ls.mono (by decide)) hw_law
end
end My

set_option Elab.async false
set_option linter.all false
set_option maxRecDepth 100000
open PySem PySem.W PyProof.Rows
set_option maxHeartbeats 0 in
theorem PySem.Challenge.cw_heldflows_k08_whole_bytes_that_are_taken_holds : PySem.Challenge.rw_heldflows_k08_whole_bytes_that_are_taken.Holds := by
  w_on; o_law; k_head; (case hw => w_witness2)
  k_fill
  refine Wp.law_walkT (l := PySem.Challenge.rw_heldflows_k08_whole_bytes_that_are_taken) (k := 44) (x := "script") ["is_bytes", "_can_stand", "_is_word"] rfl rfl ⟨rfl, by decide, by decide⟩ (by decide +kernel) (fun w h Y => PySem.W.kIn_of Y) ?F
  case F =>
    intro w mg fa h KX G hmg TE
    refine' My.law_ok (Gn.facts_mk KX G ?aC_Reader ?pg_Reader ?hd_Reader ?po_Reader ?sa_Reader ?mk_Reader ?kc_Reader ?eg_BadBytes ?xx_BadBytes ?ek_BadBytes ?eb_BadBytes ?et_BadBytes ?ei_BadBytes ?ss_BadBytes ?nA_Reader_place ?nA_Reader_row ?i0 ?a0 ?l0 ?c0 ?k0 ?i1 ?a1 ?l1 ?c1 ?k1 ?i2 ?a2 ?l2 ?c2 ?k2 ?i3 ?a3 ?l3 ?c3 ?k3 ?i4 ?a4 ?l4 ?c4 ?k4 ?i5 ?a5 ?l5 ?c5 ?k5 ?i6 ?a6 ?l6 ?c6 ?k6 ?i7 ?a7 ?l7 ?c7 ?k7 ?a8 ?l8 ?c8 ?k8 ?a9 ?l9 ?c9 ?k9 ?x9 ?y9 ?u9 ?v9 ?a10 ?l10 ?c10 ?k10 ?a11 ?l11 ?c11 ?k11 ?a12 ?l12 ?c12 ?k12 ?a13 ?l13 ?c13 ?k13 ?x13 ?y13 ?u13 ?v13 ?a14 ?l14 ?c14 ?k14 ?x14 ?y14 ?u14 ?v14 ?a15 ?l15 ?c15 ?k15 ?a16 ?l16 ?c16 ?k16 ?a17 ?l17 ?c17 ?k17 ?a18 ?l18 ?c18 ?k18 ?a19 ?l19 ?c19 ?k19 ?a20 ?l20 ?c20 ?k20 ?a21 ?l21 ?c21 ?k21 ?a22 ?l22 ?c22 ?k22 ?a23 ?l23 ?c23 ?k23 ?a24 ?l24 ?c24 ?k24 ?a25 ?l25 ?c25 ?k25 ?a26 ?l26 ?c26 ?k26 ?a27 ?l27 ?c27 ?k27 ?a28 ?l28 ?c28 ?k28 ?a29 ?l29 ?c29 ?k29 ?n_INTEGER ?n_LETTERS ?n_MOST_BYTES ?n_MOST_INTEGER ?n_MOST_NESTED ?n_MOST_WORD ?n_NONE ?n_SUM_BYTES ?n_SUM_DIVISOR ?n_TUPLE ?n_WORD ?z_all ?z_bool ?z_divmod ?z_enumerate ?z_int ?z_isinstance ?z_len ?z_list ?z_max ?z_min ?z_ord ?z_range ?z_str ?z_sum ?z_tuple) KX G hmg TE
    (case aC_Reader => k_is); (case pg_Reader => k_is); (case hd_Reader => k_is); (case po_Reader => k_is); (case sa_Reader => k_is); (case mk_Reader => k_is); (case kc_Reader => k_is); (case eg_BadBytes => k_is); (case xx_BadBytes => k_exc); (case ek_BadBytes => k_is); (case eb_BadBytes => k_is); (case et_BadBytes => k_is); (case ei_BadBytes => k_is); (case ss_BadBytes => first | rfl | k_is); (case nA_Reader_place => k_is); (case nA_Reader_row => k_is); (case i0 => k_is); (case a0 => k_is); (case l0 => k_is); (case c0 => k_is); (case k0 => k_is); (case i1 => k_is); (case a1 => k_is); (case l1 => k_is); (case c1 => k_is); (case k1 => k_is); (case i2 => k_is); (case a2 => k_is); (case l2 => k_is); (case c2 => k_is); (case k2 => k_is); (case i3 => k_is); (case a3 => k_is); (case l3 => k_is); (case c3 => k_is); (case k3 => k_is); (case i4 => k_is); (case a4 => k_is); (case l4 => k_is); (case c4 => k_is); (case k4 => k_is); (case i5 => k_is); (case a5 => k_is); (case l5 => k_is); (case c5 => k_is); (case k5 => k_is); (case i6 => k_is); (case a6 => k_is); (case l6 => k_is); (case c6 => k_is); (case k6 => k_is); (case i7 => k_is); (case a7 => k_is); (case l7 => k_is); (case c7 => k_is); (case k7 => k_is); (case a8 => k_is); (case l8 => k_is); (case c8 => k_is); (case k8 => k_is); (case a9 => k_is); (case l9 => k_is); (case c9 => k_is); (case k9 => k_is); (case x9 => first | rfl | k_is | decide); (case y9 => k_is); (case u9 => first | rfl | k_is | decide); (case v9 => first | rfl | k_is | decide); (case a10 => k_is); (case l10 => k_is); (case c10 => k_is); (case k10 => k_is); (case a11 => k_is); (case l11 => k_is); (case c11 => k_is); (case k11 => k_is); (case a12 => k_is); (case l12 => k_is); (case c12 => k_is); (case k12 => k_is); (case a13 => k_is); (case l13 => k_is); (case c13 => k_is); (case k13 => k_is); (case x13 => first | rfl | k_is | decide); (case y13 => k_is); (case u13 => first | rfl | k_is | decide); (case v13 => first | rfl | k_is | decide); (case a14 => k_is); (case l14 => k_is); (case c14 => k_is); (case k14 => k_is); (case x14 => first | rfl | k_is | decide); (case y14 => k_is); (case u14 => first | rfl | k_is | decide); (case v14 => first | rfl | k_is | decide); (case a15 => k_is); (case l15 => k_is); (case c15 => k_is); (case k15 => k_is); (case a16 => k_is); (case l16 => k_is); (case c16 => k_is); (case k16 => k_is); (case a17 => k_is); (case l17 => k_is); (case c17 => k_is); (case k17 => k_is); (case a18 => k_is); (case l18 => k_is); (case c18 => k_is); (case k18 => k_is); (case a19 => k_is); (case l19 => k_is); (case c19 => k_is); (case k19 => k_is); (case a20 => k_is); (case l20 => k_is); (case c20 => k_is); (case k20 => k_is); (case a21 => k_is); (case l21 => k_is); (case c21 => k_is); (case k21 => k_is); (case a22 => k_is); (case l22 => k_is); (case c22 => k_is); (case k22 => k_is); (case a23 => k_is); (case l23 => k_is); (case c23 => k_is); (case k23 => k_is); (case a24 => k_is); (case l24 => k_is); (case c24 => k_is); (case k24 => k_is); (case a25 => k_is); (case l25 => k_is); (case c25 => k_is); (case k25 => k_is); (case a26 => k_is); (case l26 => k_is); (case c26 => k_is); (case k26 => k_is); (case a27 => k_is); (case l27 => k_is); (case c27 => k_is); (case k27 => k_is); (case a28 => k_is); (case l28 => k_is); (case c28 => k_is); (case k28 => k_is); (case a29 => k_is); (case l29 => k_is); (case c29 => k_is); (case k29 => k_is); (case n_INTEGER => k_is); (case n_LETTERS => k_is); (case n_MOST_BYTES => k_is); (case n_MOST_INTEGER => k_is); (case n_MOST_NESTED => k_is); (case n_MOST_WORD => k_is); (case n_NONE => k_is); (case n_SUM_BYTES => k_is); (case n_SUM_DIVISOR => k_is); (case n_TUPLE => k_is); (case n_WORD => k_is); (case z_all => k_is); (case z_bool => k_is); (case z_divmod => k_is); (case z_enumerate => k_is); (case z_int => k_is); (case z_isinstance => k_is); (case z_len => k_is); (case z_list => k_is); (case z_max => k_is); (case z_min => k_is); (case z_ord => k_is); (case z_range => k_is); (case z_str => k_is); (case z_sum => k_is); (case z_tuple => k_is)

