import PyProof.Rows.All
import Wide.All
import OpenK.AllK
import Wide.FinOn
import HandS.ForMost
import HandS.TupAny
import HandS.TupMul
import HandS.SortInts
import HandS.IsInst
import HandS.Deep
import HandS.Style
import HandS.Zip
import HandS.Conv
import PySem.Challenge.RW_tabletalk_k01_forms_of_tables
set_option Elab.async false
set_option linter.all false
set_option maxRecDepth 100000
set_option autoImplicit false
set_option maxHeartbeats 4000000
namespace Pu
open PySem PySem.Spec PyProof.Rows L2

/-! ## data, stores, results -/
inductive D where
  | non | bl (b : Bool) | int (i : Int) | str (s : Str) | tup (xs : List D) | ref (i : Nat) | fz (xs : List D) | fr (xs : List D)
inductive Ob where
  | lst (xs : List D)
  | dK (kvs : List (Key × D))
  | dT (kvs : List (List Key × D))
abbrev Sto := List Ob
inductive R (α : Type) where
  | ok (a : α) (S : Sto)
  | exc (c : Str) (fs : List (Str × D)) (S : Sto)
  | bad
abbrev M (α : Type) := Sto → R α
def R.bind {α β : Type} : R α → (α → M β) → R β
  | .ok a S, f => f a S
  | .exc c fs S, _ => .exc c fs S
  | .bad, _ => .bad
def mret {α : Type} (a : α) : M α := fun S => .ok a S
def mbad {α : Type} : M α := fun _ => .bad
def mbind {α β : Type} (m : M α) (f : α → M β) : M β := fun S => (m S).bind f
/-- a check that nothing reckons out by itself -/
noncomputable def chk {α : Type} (p : Prop) (m : M α) : M α := @ite _ p (Classical.propDecidable p) m mbad
theorem chk_pos {α : Type} {p : Prop} {m : M α} (h : p) : chk p m = m := if_pos h
theorem chk_neg {α : Type} {p : Prop} {m : M α} (h : ¬ p) : chk p m = mbad := if_neg h
theorem mret_ap {α : Type} (a : α) (S : Sto) : mret a S = .ok a S := rfl
theorem mbad_ap {α : Type} (S : Sto) : (mbad S : R α) = .bad := rfl
theorem mbind_ap {α β : Type} (m : M α) (f : α → M β) (S : Sto) : mbind m f S = (m S).bind f := rfl
theorem bind_ok {α β : Type} (a : α) (S : Sto) (f : α → M β) : (R.ok a S).bind f = f a S := rfl
theorem bind_bad {α β : Type} (f : α → M β) : (R.bad : R α).bind f = .bad := rfl
theorem bind_exc {α β : Type} (c : Str) (x : List (Str × D)) (S : Sto) (f : α → M β) : (R.exc c x S).bind f = .exc c x S := rfl
abbrev Env' := List (Option D)

/-! ## how data lies in the heap -/
/-- a list that nothing changes, known to the object or written in the text -/
def FrL (K : PySem.W.Frag) (H : Hp) (a : Addr) (xs : List V) : Prop :=
  (∃ o, H a = some (.frz o (.lst xs))) ∨
    ∃ (o : Obj) (its : Array Value) (n : Nat), K.lookup a = some o ∧ o.cls = .type "list" ∧ o.dict = none ∧ o.data = .seq its n ∧ its.size ≤ sizeLine ∧ Vals xs its.toList
theorem FrL.sq {K : PySem.W.Frag} {H : Hp} {a : Addr} {xs : List V} (h : FrL K H a xs) : SqL K H a xs := by
  rcases h with ⟨o, h⟩ | h
  · exact .inl (.inr ⟨o, h⟩)
  · exact .inr h
mutual
def Rep (K : PySem.W.Frag) (as : List Addr) (H : Hp) : D → V → Prop
  | .non, v => v = .non
  | .bl b, v => v = .bl b
  | .int i, v => v = .int i
  | .str s, v => v = .str s
  | .tup ds, v => ∃ a vs, v = .ref a ∧ SqT K H a vs ∧ Reps K as H ds vs
  | .ref i, v => ∃ a, as[i]? = some a ∧ v = .ref a
  | .fz ds, v => ∃ a vs, v = .ref a ∧ (∃ o, H a = some (.frz o (.lst vs))) ∧ Reps K as H ds vs
  | .fr ds, v => ∃ a vs, v = .ref a ∧ FrL K H a vs ∧ Reps K as H ds vs
def Reps (K : PySem.W.Frag) (as : List Addr) (H : Hp) : List D → List V → Prop
  | [], vs => vs = []
  | d :: ds, vs => ∃ v r, vs = v :: r ∧ Rep K as H d v ∧ Reps K as H ds r
end
/-- what never changes -/
def Fxd (o : HO) : Prop := (∃ vs, o = .tup vs) ∨ ∃ ob u, o = .frz ob u
structure Ex0 (as : List Addr) (H : Hp) (as' : List Addr) (H' : Hp) : Prop where
  pre : ∀ (i : Nat) (a : Addr), as[i]? = some a → as'[i]? = some a
  fix : ∀ a o, H a = some o → Fxd o → H' a = some o
structure Ext (as : List Addr) (H : Hp) (as' : List Addr) (H' : Hp) : Prop extends Ex0 as H as' H' where
  keep : ∀ a o, H a = some o → a ∉ as → H' a = some o
  new : ∀ a, a ∈ as' → a ∈ as ∨ H a = none
theorem Ext.refl (as : List Addr) (H : Hp) : Ext as H as H := ⟨⟨fun _ _ h => h, fun _ _ h _ => h⟩, fun _ _ h _ => h, fun _ h => .inl h⟩
theorem Ext.out {as as' : List Addr} {H H' : Hp} (e : Ext as H as' H') {a : Addr} {o : HO} (h : H a = some o) (n : a ∉ as) : a ∉ as' := fun q => by
  rcases e.new a q with z | z
  · exact n z
  · rw [h] at z; cases z
theorem Ext.trans {as as1 as2 : List Addr} {H H1 H2 : Hp} (a : Ext as H as1 H1) (b : Ext as1 H1 as2 H2) : Ext as H as2 H2 :=
  ⟨⟨fun i x h => b.pre i x (a.pre i x h), fun x o h f => b.fix x o (a.fix x o h f) f⟩, fun x o h n => b.keep x o (a.keep x o h n) (a.out h n), fun x hx => by
    rcases b.new x hx with z | z
    · exact a.new x z
    · by_cases n : x ∈ as
      · exact .inl n
      · cases q : H x with
        | none => exact .inr rfl
        | some o => rw [a.keep x o q n] at z; cases z⟩
section
variable {K : PySem.W.Frag} {as as' : List Addr} {H H' : Hp}
theorem Ex0.sqT (e : Ex0 as H as' H') {a : Addr} {xs : List V} (h : SqT K H a xs) : SqT K H' a xs := by
  rcases h with (h | ⟨o, h⟩) | h
  · exact .inl (.inl (e.fix _ _ h (.inl ⟨_, rfl⟩)))
  · exact .inl (.inr ⟨o, e.fix _ _ h (.inr ⟨_, _, rfl⟩)⟩)
  · exact .inr h
theorem Ex0.fr (e : Ex0 as H as' H') {a : Addr} {xs : List V} (h : FrL K H a xs) : FrL K H' a xs := by
  rcases h with ⟨o, h⟩ | h
  · exact .inl ⟨o, e.fix _ _ h (.inr ⟨_, _, rfl⟩)⟩
  · exact .inr h
mutual
theorem Rep.mono0 (e : Ex0 as H as' H') : ∀ {d : D} {v : V}, Rep K as H d v → Rep K as' H' d v
  | .non, _, h => h
  | .bl _, _, h => h
  | .int _, _, h => h
  | .str _, _, h => h
  | .tup ds, v, h => by
    obtain ⟨a, vs, h1, h2, h3⟩ := h
    exact ⟨a, vs, h1, e.sqT h2, Reps.mono0 e h3⟩
  | .ref i, v, h => by
    obtain ⟨a, h1, h2⟩ := h
    exact ⟨a, e.pre _ _ h1, h2⟩
  | .fz ds, v, h => by
    obtain ⟨a, vs, h1, h2, h3⟩ := h
    obtain ⟨o, h2⟩ := h2
    exact ⟨a, vs, h1, ⟨o, e.fix _ _ h2 (.inr ⟨_, _, rfl⟩)⟩, Reps.mono0 e h3⟩
  | .fr ds, v, h => by
    obtain ⟨a, vs, h1, h2, h3⟩ := h
    exact ⟨a, vs, h1, e.fr h2, Reps.mono0 e h3⟩
theorem Reps.mono0 (e : Ex0 as H as' H') : ∀ {ds : List D} {vs : List V}, Reps K as H ds vs → Reps K as' H' ds vs
  | [], _, h => h
  | d :: ds, vs, h => by
    obtain ⟨v, r, h1, h2, h3⟩ := h
    exact ⟨v, r, h1, Rep.mono0 e h2, Reps.mono0 e h3⟩
end
theorem Rep.mono {d : D} {v : V} (r : Rep K as H d v) (e : Ext as H as' H') : Rep K as' H' d v := Rep.mono0 e.toEx0 r
theorem Reps.mono {d : List D} {v : List V} (r : Reps K as H d v) (e : Ext as H as' H') : Reps K as' H' d v := Reps.mono0 e.toEx0 r
theorem Reps.length : ∀ {ds : List D} {vs : List V}, Reps K as H ds vs → vs.length = ds.length
  | [], _, h => by
    have h : _ = [] := h
    subst h; rfl
  | d :: ds, vs, h => by
    obtain ⟨v, r, rfl, h2, h3⟩ := h
    simp [Reps.length h3]
theorem Reps.get : ∀ {ds : List D} {vs : List V} {i : Nat} {d : D}, Reps K as H ds vs → ds[i]? = some d → ∃ v, vs[i]? = some v ∧ Rep K as H d v
  | [], _, _, _, _, e => by simp at e
  | d :: ds, vs, 0, d', h, e => by
    obtain ⟨v, r, rfl, h2, h3⟩ := h
    simp at e; subst e
    exact ⟨v, rfl, h2⟩
  | d :: ds, vs, i + 1, d', h, e => by
    obtain ⟨v, r, rfl, h2, h3⟩ := h
    obtain ⟨w, h4, h5⟩ := Reps.get (i := i) h3 (by simpa using e)
    exact ⟨w, by simpa using h4, h5⟩
theorem Reps.append : ∀ {ds es : List D} {vs us : List V}, Reps K as H ds vs → Reps K as H es us → Reps K as H (ds ++ es) (vs ++ us)
  | [], _, _, _, h, h' => by
    have h : _ = [] := h
    subst h; exact h'
  | d :: ds, es, vs, us, h, h' => by
    obtain ⟨v, r, rfl, h2, h3⟩ := h
    exact ⟨v, r ++ us, rfl, h2, Reps.append h3 h'⟩
theorem Reps.nil : Reps K as H [] [] := rfl
theorem Reps.cons {d : D} {v : V} {ds : List D} {vs : List V} (h : Rep K as H d v) (t : Reps K as H ds vs) : Reps K as H (d :: ds) (v :: vs) := ⟨v, vs, rfl, h, t⟩
theorem Reps.one {d : D} {v : V} (h : Rep K as H d v) : Reps K as H [d] [v] := Reps.cons h Reps.nil
theorem Reps.take (n : Nat) : ∀ {ds : List D} {vs : List V}, Reps K as H ds vs → Reps K as H (ds.take n) (vs.take n) := by
  induction n with
  | zero => intro ds vs _; simp; exact Reps.nil
  | succ n ih =>
    intro ds vs h
    cases ds with
    | nil => have h : _ = [] := h; subst h; exact Reps.nil
    | cons d ds => obtain ⟨v, r, rfl, h2, h3⟩ := h; exact Reps.cons h2 (ih h3)
theorem Reps.drop (n : Nat) : ∀ {ds : List D} {vs : List V}, Reps K as H ds vs → Reps K as H (ds.drop n) (vs.drop n) := by
  induction n with
  | zero => intro ds vs h; exact h
  | succ n ih =>
    intro ds vs h
    cases ds with
    | nil => have h : _ = [] := h; subst h; exact Reps.nil
    | cons d ds => obtain ⟨v, r, rfl, h2, h3⟩ := h; exact ih h3
theorem Reps.set {d : D} {v : V} (r : Rep K as H d v) : ∀ {ds : List D} {vs : List V} (i : Nat), Reps K as H ds vs → Reps K as H (ds.set i d) (vs.set i v)
  | [], _, _, h => by have h : _ = [] := h; subst h; exact Reps.nil
  | d' :: ds, vs, 0, h => by obtain ⟨v', r', rfl, h2, h3⟩ := h; exact Reps.cons r h3
  | d' :: ds, vs, i + 1, h => by obtain ⟨v', r', rfl, h2, h3⟩ := h; exact Reps.cons h2 (Reps.set r i h3)
theorem Reps.eraseIdx : ∀ {ds : List D} {vs : List V} (i : Nat), Reps K as H ds vs → Reps K as H (ds.eraseIdx i) (vs.eraseIdx i)
  | [], _, _, h => by have h : _ = [] := h; subst h; exact Reps.nil
  | d' :: ds, vs, 0, h => by obtain ⟨v', r', rfl, h2, h3⟩ := h; exact h3
  | d' :: ds, vs, i + 1, h => by obtain ⟨v', r', rfl, h2, h3⟩ := h; exact Reps.cons h2 (Reps.eraseIdx i h3)
theorem Reps.reverse : ∀ {ds : List D} {vs : List V}, Reps K as H ds vs → Reps K as H ds.reverse vs.reverse
  | [], _, h => by have h : _ = [] := h; subst h; exact Reps.nil
  | d :: ds, vs, h => by
    obtain ⟨v, r, rfl, h2, h3⟩ := h
    rw [List.reverse_cons, List.reverse_cons]
    exact Reps.append (Reps.reverse h3) (Reps.one h2)
theorem Reps.ints : ∀ {ns : List Int} {vs : List V}, Reps K as H (ns.map D.int) vs → vs = ns.map V.int
  | [], _, h => h
  | n :: ns, vs, h => by
    obtain ⟨v, r, rfl, h2, h3⟩ := h
    have h2 : v = .int n := h2
    rw [h2, Reps.ints h3]; rfl
theorem Reps.of_ints : ∀ (ns : List Int), Reps K as H (ns.map D.int) (ns.map V.int)
  | [] => rfl
  | n :: ns => ⟨_, _, rfl, rfl, Reps.of_ints ns⟩
end

def RepKs (K : PySem.W.Frag) (as : List Addr) (H : Hp) {κ : Type} : List (κ × D) → List (κ × V) → Prop
  | [], vs => vs = []
  | p :: ds, vs => ∃ v r, vs = (p.1, v) :: r ∧ Rep K as H p.2 v ∧ RepKs K as H ds r
theorem RepKs.mono0 {K : PySem.W.Frag} {as as' : List Addr} {H H' : Hp} {κ : Type} (e : Ex0 as H as' H') : ∀ {ds : List (κ × D)} {vs : List (κ × V)}, RepKs K as H ds vs → RepKs K as' H' ds vs
  | [], _, h => h
  | d :: ds, vs, h => by
    obtain ⟨v, r, h1, h2, h3⟩ := h
    exact ⟨v, r, h1, Rep.mono0 e h2, RepKs.mono0 e h3⟩
def RepO (K : PySem.W.Frag) (as : List Addr) (H : Hp) (a : Addr) : Ob → Prop
  | .lst ds => ∃ vs, H a = some (.lst vs) ∧ Reps K as H ds vs
  | .dK kvs => ∃ vs, H a = some (.dK vs) ∧ RepKs K as H kvs vs
  | .dT kvs => ∃ vs, H a = some (.dT vs) ∧ RepKs K as H kvs vs
theorem RepO.some {K : PySem.W.Frag} {as : List Addr} {H : Hp} {a : Addr} {o : Ob} (h : RepO K as H a o) : ∃ u, H a = some u ∧ ¬ Fxd u := by
  cases o with
  | lst ds => obtain ⟨vs, h1, _⟩ := h; exact ⟨_, h1, by rintro (⟨_, q⟩ | ⟨_, _, q⟩) <;> cases q⟩
  | dK ds => obtain ⟨vs, h1, _⟩ := h; exact ⟨_, h1, by rintro (⟨_, q⟩ | ⟨_, _, q⟩) <;> cases q⟩
  | dT ds => obtain ⟨vs, h1, _⟩ := h; exact ⟨_, h1, by rintro (⟨_, q⟩ | ⟨_, _, q⟩) <;> cases q⟩
/-- the object itself as it stands, the rest anywhere -/
theorem RepO.move {K : PySem.W.Frag} {as as' : List Addr} {H H' : Hp} {a : Addr} {o : Ob} (h : RepO K as H a o) (e : Ex0 as H as' H') (s : H' a = H a) : RepO K as' H' a o := by
  cases o with
  | lst ds => obtain ⟨vs, h1, h2⟩ := h; exact ⟨vs, s.trans h1, Reps.mono0 e h2⟩
  | dK ds => obtain ⟨vs, h1, h2⟩ := h; exact ⟨vs, s.trans h1, RepKs.mono0 e h2⟩
  | dT ds => obtain ⟨vs, h1, h2⟩ := h; exact ⟨vs, s.trans h1, RepKs.mono0 e h2⟩
structure Sim (K : PySem.W.Frag) (as : List Addr) (S : Sto) (H : Hp) : Prop where
  len : as.length = S.length
  inj : ∀ (i j : Nat) (a : Addr), as[i]? = some a → as[j]? = some a → i = j
  ob : ∀ (i : Nat) (a : Addr) (o : Ob), as[i]? = some a → S[i]? = some o → RepO K as H a o
section
variable {K : PySem.W.Frag} {as as' : List Addr} {H H' : Hp} {S : Sto}
theorem Sim.look (s : Sim K as S H) {i : Nat} {o : Ob} (h : S[i]? = some o) : ∃ a, as[i]? = some a ∧ RepO K as H a o := by
  have hl : i < S.length := (List.getElem?_eq_some_iff.mp h).1
  have hl' : i < as.length := by rw [s.len]; exact hl
  exact ⟨as[i], List.getElem?_eq_getElem hl', s.ob i _ o (List.getElem?_eq_getElem hl') h⟩
theorem Sim.has (s : Sim K as S H) {i : Nat} {a : Addr} (h : as[i]? = some a) : ∃ o, S[i]? = some o ∧ RepO K as H a o := by
  have hl : i < as.length := (List.getElem?_eq_some_iff.mp h).1
  have hl' : i < S.length := by rw [← s.len]; exact hl
  exact ⟨S[i], List.getElem?_eq_getElem hl', s.ob i _ _ h (List.getElem?_eq_getElem hl')⟩
/-- a fixed thing is laid -/
theorem Ext.fixed {p : Addr} {o : HO} (hp : H p = none) : Ext as H as (upd H p o) :=
  ⟨⟨fun _ _ h => h, fun a u h _ => by rw [upd_ne (ne_of_none h hp)]; exact h⟩, fun a u h _ => by rw [upd_ne (ne_of_none h hp)]; exact h, fun _ h => .inl h⟩
theorem Sim.fixed (s : Sim K as S H) {p : Addr} {o : HO} (hp : H p = none) : Sim K as S (upd H p o) :=
  ⟨s.len, s.inj, fun i a u h1 h2 => by
    have r := s.ob i a u h1 h2
    obtain ⟨w, hw, _⟩ := r.some
    exact r.move (Ext.fixed hp).toEx0 (upd_ne (ne_of_none hw hp))⟩
/-- a new object of the store -/
theorem Ext.alloc {p : Addr} {o : HO} (hp : H p = none) : Ext as H (as ++ [p]) (upd H p o) :=
  ⟨⟨fun i a h => by
    have hl : i < as.length := (List.getElem?_eq_some_iff.mp h).1
    rw [List.getElem?_append_left hl]; exact h, fun a u h _ => by rw [upd_ne (ne_of_none h hp)]; exact h⟩, fun a u h _ => by rw [upd_ne (ne_of_none h hp)]; exact h, fun a h => by
    rcases List.mem_append.mp h with z | z
    · exact .inl z
    · rw [List.mem_singleton.mp z]; exact .inr hp⟩
theorem Sim.new (s : Sim K as S H) {p : Addr} {o : HO} {u : Ob} (hp : H p = none) (ho : RepO K (as ++ [p]) (upd H p o) p u) : Sim K (as ++ [p]) (S ++ [u]) (upd H p o) := by
  refine ⟨by simp [s.len], fun i j a h1 h2 => ?_, fun i a w h1 h2 => ?_⟩
  · have free : ∀ k : Nat, as[k]? = some p → False := fun k hk => by
      obtain ⟨o', _, r⟩ := s.has hk
      obtain ⟨w, hw, _⟩ := r.some
      rw [hp] at hw; cases hw
    by_cases hi : i < as.length
    · rw [List.getElem?_append_left hi] at h1
      by_cases hj : j < as.length
      · rw [List.getElem?_append_left hj] at h2
        exact s.inj i j a h1 h2
      · rw [List.getElem?_append_right (by omega)] at h2
        have h3 := List.getElem?_eq_some_iff.mp h2
        obtain ⟨h4, h5⟩ := h3
        simp at h4 h5
        subst h5
        exact (free i h1).elim
    · rw [List.getElem?_append_right (by omega)] at h1
      obtain ⟨h4, h5⟩ := List.getElem?_eq_some_iff.mp h1
      simp at h4 h5
      by_cases hj : j < as.length
      · rw [List.getElem?_append_left hj] at h2
        subst h5
        exact (free j h2).elim
      · rw [List.getElem?_append_right (by omega)] at h2
        obtain ⟨h6, h7⟩ := List.getElem?_eq_some_iff.mp h2
        simp at h6 h7
        omega
  · by_cases hi : i < as.length
    · rw [List.getElem?_append_left hi] at h1
      rw [List.getElem?_append_left (by rw [← s.len]; exact hi)] at h2
      have r := s.ob i a w h1 h2
      obtain ⟨z, hz, _⟩ := r.some
      exact r.move (Ext.alloc hp).toEx0 (upd_ne (ne_of_none hz hp))
    · rw [List.getElem?_append_right (by omega)] at h1
      rw [List.getElem?_append_right (by rw [← s.len]; omega)] at h2
      obtain ⟨h4, h5⟩ := List.getElem?_eq_some_iff.mp h1
      obtain ⟨h6, h7⟩ := List.getElem?_eq_some_iff.mp h2
      simp at h4 h5 h6 h7
      subst h5; subst h7
      exact ho
/-- an object of the store is changed -/
theorem Sim.ext (s : Sim K as S H) {i : Nat} {p : Addr} {o : HO} (h : as[i]? = some p) : Ext as H as (upd H p o) :=
  ⟨⟨fun _ _ h => h, fun a u hu f => by
    obtain ⟨o', _, r⟩ := s.has h
    obtain ⟨z, hz, nz⟩ := r.some
    have : a ≠ p := fun e => by subst e; rw [hz] at hu; cases hu; exact nz f
    rw [upd_ne this]; exact hu⟩, fun a u hu n => by
    have : a ≠ p := fun e => by subst e; exact n (List.mem_of_getElem? h)
    rw [upd_ne this]; exact hu, fun _ h => .inl h⟩
theorem Sim.set (s : Sim K as S H) {i : Nat} {p : Addr} {o : HO} {u : Ob} (h : as[i]? = some p) (ho : RepO K as (upd H p o) p u) : Sim K as (S.set i u) (upd H p o) := by
  refine ⟨by simp [s.len], s.inj, fun j a w h1 h2 => ?_⟩
  by_cases e : j = i
  · subst e
    rw [h] at h1; cases h1
    have hl : j < S.length := by rw [← s.len]; exact (List.getElem?_eq_some_iff.mp h).1
    rw [List.getElem?_set_self hl] at h2
    cases h2; exact ho
  · rw [List.getElem?_set_ne (fun q => e q.symm)] at h2
    have r := s.ob j a w h1 h2
    have : a ≠ p := fun q => by subst q; exact e (s.inj j i _ h1 h)
    exact r.move (s.ext h).toEx0 (upd_ne this)
end
/-- the slots -/
structure EnvR (K : PySem.W.Frag) (as : List Addr) (H : Hp) (σ : L2.St) (ρ : Env') : Prop where
  len : σ.length = ρ.length
  look : ∀ (i : Nat) (d : D), ρ[i]? = some (some d) → ∃ v, σ[i]? = some (some v) ∧ Rep K as H d v
theorem EnvR.mono {K : PySem.W.Frag} {as as' : List Addr} {H H' : Hp} {σ : L2.St} {ρ : Env'} (r : EnvR K as H σ ρ) (e : Ext as H as' H') : EnvR K as' H' σ ρ :=
  ⟨r.len, fun i d h => let ⟨v, h1, h2⟩ := r.look i d h; ⟨v, h1, h2.mono e⟩⟩
theorem EnvR.set {K : PySem.W.Frag} {as : List Addr} {H : Hp} {σ : L2.St} {ρ : Env'} (r : EnvR K as H σ ρ) {d : D} {v : V} (h : Rep K as H d v) (i : Nat) : EnvR K as H (σ.set i (some v)) (ρ.set i (some d)) := by
  refine ⟨by simp [r.len], fun j d' hj => ?_⟩
  by_cases e : j = i
  · subst e
    have hl : j < ρ.length := by
      have := (List.getElem?_eq_some_iff.mp hj).1
      simpa using this
    rw [List.getElem?_set_self hl] at hj
    cases hj
    exact ⟨v, by rw [List.getElem?_set_self (by rw [r.len]; exact hl)], h⟩
  · rw [List.getElem?_set_ne (fun q => e q.symm)] at hj
    obtain ⟨w, h1, h2⟩ := r.look j d' hj
    exact ⟨w, by rw [List.getElem?_set_ne (fun q => e q.symm)]; exact h1, h2⟩
theorem EnvR.forget {K : PySem.W.Frag} {as : List Addr} {H : Hp} {σ : L2.St} {ρ : Env'} (r : EnvR K as H σ ρ) (i : Nat) : EnvR K as H (σ.set i none) (ρ.set i none) := by
  refine ⟨by simp [r.len], fun j d' hj => ?_⟩
  by_cases e : j = i
  · subst e
    have hl : j < ρ.length := by
      have := (List.getElem?_eq_some_iff.mp hj).1
      simpa using this
    rw [List.getElem?_set_self hl] at hj
    cases hj
  · rw [List.getElem?_set_ne (fun q => e q.symm)] at hj
    obtain ⟨w, h1, h2⟩ := r.look j d' hj
    exact ⟨w, by rw [List.getElem?_set_ne (fun q => e q.symm)]; exact h1, h2⟩
def wipeE (ρ : Env') : List Nat → Env'
  | [] => ρ
  | v :: vs => (wipeE ρ vs).set v none
theorem EnvR.wipe {K : PySem.W.Frag} {as : List Addr} {H : Hp} {σ : L2.St} {ρ : Env'} (r : EnvR K as H σ ρ) : ∀ vs : List Nat, EnvR K as H (L2.wipe σ vs) (wipeE ρ vs)
  | [] => r
  | v :: vs => (EnvR.wipe r vs).forget v

/-! ## ends -/
section
variable (K : PySem.W.Frag) (mg : Str → Option Value) (E : XK)
/-- an exception of the class c of the text, with its fields -/
def FinX (as : List Addr) (H : Hp) (c : Str) (fs : List (Str × D)) (S : Sto) : Prop :=
  ∀ (as' : List Addr) (H' : Hp) (C dd : Addr) (vs : List (Str × V)), Ext as H as' H' → Sim K as' S H' → mg c = some (.ref C) → H' dd = some (.xd vs) → RepKs K as' H' fs vs → E (.ref C) (some dd) H'
def Fin {α β : Type} (Rl : List Addr → Hp → α → β → Prop) (as : List Addr) (H : Hp) : R α → (β → Hp → Prop) → Prop
  | .ok a S', Q => ∀ (as' : List Addr) (H' : Hp) (b : β), Ext as H as' H' → Sim K as' S' H' → Rl as' H' a b → Q b H'
  | .exc c fs S', _ => FinX K mg E as H c fs S'
  | .bad, _ => False
def tM {α β : Type} (Rl : List Addr → Hp → α → β → Prop) (m : Env' → M α) : L2.St → Hp → (β → Hp → Prop) → Prop := fun σ H Q =>
  ∃ (as : List Addr) (S : Sto) (ρ : Env'), Sim K as S H ∧ EnvR K as H σ ρ ∧ Fin K mg E Rl as H (m ρ S) Q
abbrev tD (m : Env' → M D) : TE := tM K mg E (Rep K) m
abbrev tDs (m : Env' → M (List D)) : TA := tM K mg E (Reps K) m
abbrev RlB (_ : List Addr) (_ : Hp) (a b : Bool) : Prop := a = b
abbrev tB' (m : Env' → M Bool) : TT := tM K mg E RlB m
end
section
variable {K : PySem.W.Frag} {mg : Str → Option Value} {E : XK} {α β γ δ : Type} {Rl : List Addr → Hp → α → β → Prop} {Rl' : List Addr → Hp → γ → δ → Prop} {as as1 : List Addr} {H H1 : Hp}
theorem FinX.ext {c : Str} {fs : List (Str × D)} {S : Sto} (h : FinX K mg E as H c fs S) (e : Ext as H as1 H1) : FinX K mg E as1 H1 c fs S :=
  fun as' H' C dd vs e' => h as' H' C dd vs (e.trans e')
theorem Fin.ext {r : R α} {Q : β → Hp → Prop} (h : Fin K mg E Rl as H r Q) (e : Ext as H as1 H1) : Fin K mg E Rl as1 H1 r Q := by
  cases r with
  | ok a S => exact fun as' H' b e' => h as' H' b (e.trans e')
  | exc c fs S => exact FinX.ext h e
  | bad => exact h
theorem Fin.bind {m : R α} {f : α → M γ} {Q : δ → Hp → Prop} (h : Fin K mg E Rl' as H (m.bind f) Q) :
    Fin K mg E Rl as H m (fun b H1 => ∃ (as1 : List Addr) (S1 : Sto) (a : α), Ext as H as1 H1 ∧ Sim K as1 S1 H1 ∧ Rl as1 H1 a b ∧ Fin K mg E Rl' as1 H1 (f a S1) Q) := by
  cases m with
  | ok a S => exact fun as1 H1 b e s r => ⟨as1, S, a, e, s, r, Fin.ext (h : Fin K mg E Rl' as H (f a S) Q) e⟩
  | exc c fs S => exact h
  | bad => exact h
theorem Fin.imp {m : R α} {Q Q' : β → Hp → Prop} (h : Fin K mg E Rl as H m Q) (f : ∀ b H', Q b H' → Q' b H') : Fin K mg E Rl as H m Q' := by
  cases m with
  | ok a S => exact fun as1 H1 b e s r => f _ _ (h as1 H1 b e s r)
  | exc c fs S => exact h
  | bad => exact h
theorem Fin.chk {p : Prop} {m : M α} {S : Sto} {Q : β → Hp → Prop} (h : Fin K mg E Rl as H (Pu.chk p m S) Q) : p ∧ Fin K mg E Rl as H (m S) Q := by
  by_cases hp : p
  · rw [chk_pos hp] at h; exact ⟨hp, h⟩
  · rw [chk_neg hp] at h; exact h.elim
theorem Fin.ret {a : α} {b : β} {S : Sto} {Q : β → Hp → Prop} (h : Fin K mg E Rl as H (.ok a S) Q) (s : Sim K as S H) (r : Rl as H a b) : Q b H := h as H b (Ext.refl _ _) s r
end
end Pu

namespace Pu
open PySem PySem.Spec PyProof.Rows L2

/-! ## the small language -/
inductive Tg where
  | nm (i : Nat)
  | tp (ts : List Tg)
inductive Ty where
  | int | bool | str | tuple | list | dict
inductive Bi where
  | len | all | any | abs | int | list (own : Bool) | tuple | sorted (own : Bool) | sum | min1 | max1 | min2 | max2
inductive Mt where
  | append | extend | popAt
mutual
inductive X' where
  | var (i : Nat)
  | cst (d : D)
  | bin (op : Operator) (a b : X')
  | neg (a : X')
  | cmp (op : CmpOp) (a b : X')
  | chn (o1 o2 : CmpOp) (a b c : X')
  | and (a b : X')
  | or (a b : X')
  | not (a : X')
  | ife (t : T') (a b : X')
  | tup (es : List X')
  | lst (own : Bool) (es : List X')
  | cat (own : Bool) (a b : X')
  | rep (own : Bool) (a b : X')
  | call (f : Nat) (es : List X')
  | blt (b : Bi) (es : List X')
  | isi (a : X') (t : Ty)
  | idx (a b : X')
  | slc (own : Bool) (a : X') (lo hi : P')
  | rev (own : Bool) (a : X')
  | mth (m : Mt) (a : X') (es : List X')
  | lc (own : Bool) (elt : X') (tg : Tg) (it : I') (ifs : List T') (ws : List Nat)
  | lrng (own : Bool) (a : X')
inductive I' where
  | seq (e : X')
  | zip (a b : X')
  | rng (a : X')
  | rng2 (a b : X')
inductive P' where
  | no
  | ex (e : X')
inductive T' where
  | val (e : X')
  | bv (e : X')
  | and (a b : T')
  | or (a b : T')
  | not (a : T')
end
inductive S' where
  | set (i : Nat) (e : X')
  | asg (t : Tg) (e : X')
  | sto (o i e : X')
  | expr (e : X')
  | ret (e : X')
  | ife (t : T') (a b : List S')
  | frr (t : Tg) (it : I') (body : List S')
  | brk
  | cnt
  | pass

/-! ## the evaluator's steps -/
def line : Nat := 16777216
def lstOf : D → Sto → Option (List D)
  | .fz xs, _ => some xs
  | .fr xs, _ => some xs
  | .ref i, S => match S[i]? with
    | some (.lst xs) => some xs
    | _ => none
  | _, _ => none
def seqOf : D → Sto → Option (List D)
  | .tup xs, _ => some xs
  | d, S => lstOf d S
/-- a list that is told by its own object -/
def tlsOf : D → Sto → Option (List D)
  | .fz xs, _ => some xs
  | .ref i, S => match S[i]? with
    | some (.lst xs) => some xs
    | _ => none
  | _, _ => none
def asInts : List D → Option (List Int)
  | [] => some []
  | .int i :: r => (asInts r).map (i :: ·)
  | _ :: _ => none
def asBools : List D → Option (List Bool)
  | [] => some []
  | .bl i :: r => (asBools r).map (i :: ·)
  | _ :: _ => none
def newL (own : Bool) (xs : List D) : M D := fun S => if xs.length ≤ line then (if own then .ok (.ref S.length) (S ++ [.lst xs]) else .ok (.fz xs) S) else .bad
def newT (xs : List D) : M D := fun S => if xs.length ≤ line then .ok (.tup xs) S else .bad
def ofO {α : Type} (o : Option α) : M α := fun S => match o with
  | some a => .ok a S
  | none => .bad
def isK : Ty → D → Sto → Option Bool
  | _, .non, _ => some false
  | t, .bl _, _ => some (match t with | .bool => true | .int => true | _ => false)
  | t, .int _, _ => some (match t with | .int => true | _ => false)
  | t, .str _, _ => some (match t with | .str => true | _ => false)
  | t, .tup _, _ => some (match t with | .tuple => true | _ => false)
  | t, .fz _, _ => some (match t with | .list => true | _ => false)
  | t, .fr _, _ => some (match t with | .list => true | _ => false)
  | t, .ref i, S => match S[i]? with
    | some (.lst _) => some (match t with | .list => true | _ => false)
    | some (.dK _) => some (match t with | .dict => true | _ => false)
    | some (.dT _) => some (match t with | .dict => true | _ => false)
    | none => none
mutual
/-- as data; f: of the store's objects -/
def toPyG (f : Nat → Option PyData) : D → Option PyData
  | .non => some .none
  | .bl b => some (.bool b)
  | .int i => some (.int i)
  | .str x => some (.str x)
  | .tup xs => (toPysG f xs).map .tuple
  | .fz xs => (toPysG f xs).map .list
  | .fr xs => (toPysG f xs).map .list
  | .ref i => f i
def toPysG (f : Nat → Option PyData) : List D → Option (List PyData)
  | [] => some []
  | d :: ds => match toPyG f d, toPysG f ds with
    | some p, some ps => some (p :: ps)
    | _, _ => none
end
def toPy0 : D → Option PyData := toPyG fun _ => none
def toPys0 : List D → Option (List PyData) := toPysG fun _ => none
def deref (S : Sto) (i : Nat) : Option PyData := match S[i]? with
  | some (.lst xs) => (toPys0 xs).map .list
  | _ => none
def toPy (S : Sto) (d : D) : Option PyData := toPyG (deref S) d
def eqM (neg : Bool) (d e : D) : M D := fun S => match toPy S d, toPy S e with
  | some p, some q => if SeqAt.shaped p && SeqAt.shaped q then .ok (.bl (if neg then !PyData.eqv p q else PyData.eqv p q)) S else .bad
  | _, _ => .bad
def flatD : D → Bool
  | .non => true
  | .bl _ => true
  | .int _ => true
  | .str _ => true
  | _ => false
def eqF : D → D → Bool
  | .non, .non => true
  | .bl a, .bl b => a == b
  | .bl a, .int b => (if a then 1 else 0) == b
  | .int a, .bl b => a == (if b then 1 else 0)
  | .int a, .int b => a == b
  | .str a, .str b => a == b
  | _, _ => false
def inM (neg : Bool) (d e : D) : M D := fun S => match e with
  | .tup xs => if flatD d && xs.all flatD then .ok (.bl (if neg then !xs.any fun y => eqF y d else xs.any fun y => eqF y d)) S else .bad
  | _ => match toPy S d, toPy S e with
    | some p, some (.list qs) => if SeqAt.shaped p && SeqAt.shaped (.list qs) then .ok (.bl (if neg then !qs.any (fun z => PyData.eqv z p) else qs.any (fun z => PyData.eqv z p))) S else .bad
    | _, _ => .bad
def ltM (d e : D) : M D := fun S => match d, e with
  | .int i, .int j => .ok (.bl (decide (i < j))) S
  | .tup xs, .tup ys => match asInts xs, asInts ys with
    | some ns, some ms => .ok (.bl (HT.lexLt ns ms)) S
    | _, _ => .bad
  | _, _ => .bad
def isM (neg : Bool) (d e : D) : M D := fun S => match e with
  | .non => .ok (.bl (match d with | .non => !neg | _ => neg)) S
  | _ => .bad
def cmpM : CmpOp → D → D → M D
  | .Lt, d, e => ltM d e
  | .LtE, .int i, .int j => mret (.bl (decide (i ≤ j)))
  | .Gt, .int i, .int j => mret (.bl (decide (j < i)))
  | .GtE, .int i, .int j => mret (.bl (decide (j ≤ i)))
  | .Eq, .int i, .int j => mret (.bl (decide (i = j)))
  | .NotEq, .int i, .int j => mret (.bl (!decide (i = j)))
  | .Eq, d, e => eqM false d e
  | .NotEq, d, e => eqM true d e
  | .Is, d, e => isM false d e
  | .IsNot, d, e => isM true d e
  | .In, d, e => inM false d e
  | .NotIn, d, e => inM true d e
  | _, _, _ => mbad
noncomputable def binM : Operator → D → D → M D
  | .Sub, .int i, .int j => mret (.int (i - j))
  | .Mod, .int i, .int j => chk (0 < j) (mret (.int (i % j)))
  | .FloorDiv, .int i, .int j => chk (0 < j ∧ j < 1073741824) (mret (.int (i / j)))
  | .Pow, .int i, .int j => chk (0 ≤ j ∧ j ≤ 1000000 ∧ i.natAbs < 18446744073709551616) (mret (.int (i ^ j.toNat)))
  | _, _, _ => mbad
def catM (own : Bool) (d e : D) : M D := fun S => match d, e with
  | .int i, .int j => .ok (.int (i + j)) S
  | .tup xs, .tup ys => newT (xs ++ ys) S
  | .str x, .str y => if x.length + y.length ≤ line then .ok (.str (x ++ y)) S else .bad
  | _, _ => match tlsOf d S, tlsOf e S with
    | some xs, some ys => newL own (xs ++ ys) S
    | _, _ => .bad
noncomputable def repM (own : Bool) (d e : D) : M D := fun S => match d, e with
  | .int i, .int j => chk ((-18446744073709551616 < i ∧ i < 18446744073709551616) ∨ (-18446744073709551616 < j ∧ j < 18446744073709551616)) (mret (.int (i * j))) S
  | .tup xs, .int k => if xs ≠ [] ∧ 2 ≤ k ∧ k ≤ 1000 ∧ xs.length ≤ 1000 then .ok (.tup (List.replicate k.toNat xs).flatten) S else .bad
  | _, .int k => match tlsOf d S with
    | some xs => chk (0 ≤ k ∧ k < 9223372036854775808) (newL own (List.replicate k.toNat xs).flatten) S
    | none => .bad
  | _, _ => .bad
def negM : D → M D
  | .int i => mret (.int (-i))
  | _ => mbad
def truM (d : D) : M Bool := fun S => match d with
  | .non => .ok false S
  | .bl b => .ok b S
  | .int i => .ok (i != 0) S
  | .str x => if x.length ≤ line then .ok (x.length != 0) S else .bad
  | _ => match seqOf d S with
    | some xs => .ok (!xs.isEmpty) S
    | none => .bad
def blM (d : D) : M Bool := fun S => match d with
  | .bl b => .ok b S
  | _ => .bad
def idxM (d e : D) : M D := fun S => match e with
  | .int i => match seqOf d S with
    | some xs => match atI xs i with
      | some x => .ok x S
      | none => .bad
    | none => .bad
  | _ => .bad
def intO (d : D) : M (Option Int) := fun S => match d with
  | .int i => .ok (some i) S
  | _ => .bad
def cutD (xs : List D) (lo hi : Option Int) : List D := (xs.drop (HT.sIx xs.length 0 lo)).take (HT.sIx xs.length xs.length hi - HT.sIx xs.length 0 lo)
def slcP (own : Bool) (d : D) (lo hi : Option Int) : M D := fun S => match d with
  | .tup xs => .ok (.tup (cutD xs lo hi)) S
  | _ => match lstOf d S with
    | some xs => newL own (cutD xs lo hi) S
    | none => .bad
def revM (own : Bool) (d : D) : M D := fun S => match d with
  | .tup xs => .ok (.tup xs.reverse) S
  | _ => match lstOf d S with
    | some xs => newL own xs.reverse S
    | none => .bad
def sortI (ns : List Int) : List Int := ns.mergeSort fun a b => decide (a ≤ b)
def leastI : List Int → Option Int
  | [] => none
  | n :: r => some (r.foldl (fun a b => if b < a then b else a) n)
def mostI : List Int → Option Int
  | [] => none
  | n :: r => some (r.foldl (fun a b => if a < b then b else a) n)
def lstInts (d : D) (S : Sto) : Option (List Int) := (lstOf d S).bind asInts
def lenM : List D → M D
  | [.str x] => fun S => if x.length ≤ line then .ok (.int x.length) S else .bad
  | [d] => fun S => match seqOf d S with
    | some xs => .ok (.int xs.length) S
    | none => .bad
  | _ => mbad
def allM : List D → M D
  | [d] => fun S => match (lstOf d S).bind asBools with
    | some bs => .ok (.bl (bs.all id)) S
    | none => .bad
  | _ => mbad
def anyM : List D → M D
  | [d] => fun S => match (lstOf d S).bind asBools with
    | some bs => .ok (.bl (bs.any id)) S
    | none => .bad
  | _ => mbad
def absM : List D → M D
  | [.int i] => mret (.int (if i < 0 then -i else i))
  | _ => mbad
def intM : List D → M D
  | [.int i] => mret (.int i)
  | [.bl b] => mret (.int (if b then 1 else 0))
  | _ => mbad
def listM (own : Bool) : List D → M D
  | [d] => fun S => match seqOf d S with
    | some xs => newL own xs S
    | none => .bad
  | _ => mbad
def tupleM : List D → M D
  | [d] => fun S => match seqOf d S with
    | some xs => .ok (.tup xs) S
    | none => .bad
  | _ => mbad
def sortedM (own : Bool) : List D → M D
  | [d] => fun S => match (seqOf d S).bind asInts with
    | some ns => newL own ((sortI ns).map D.int) S
    | none => .bad
  | _ => mbad
def sumM : List D → M D
  | [d] => fun S => match lstInts d S with
    | some ns => .ok (.int ns.sum) S
    | none => .bad
  | _ => mbad
def min1M : List D → M D
  | [d] => fun S => match (lstInts d S).bind leastI with
    | some n => .ok (.int n) S
    | none => .bad
  | _ => mbad
def max1M : List D → M D
  | [d] => fun S => match (lstInts d S).bind mostI with
    | some n => .ok (.int n) S
    | none => .bad
  | _ => mbad
def min2M : List D → M D
  | [.int i, .int j] => mret (.int (if j < i then j else i))
  | _ => mbad
def max2M : List D → M D
  | [.int i, .int j] => mret (.int (if j > i then j else i))
  | _ => mbad
def bltM : Bi → List D → M D
  | .len => lenM
  | .all => allM
  | .any => anyM
  | .abs => absM
  | .int => intM
  | .list own => listM own
  | .tuple => tupleM
  | .sorted own => sortedM own
  | .sum => sumM
  | .min1 => min1M
  | .max1 => max1M
  | .min2 => min2M
  | .max2 => max2M
def appendM (x : D) (ds : List D) : M D := fun S => match x, ds with
  | .ref i, [d] => match S[i]? with
    | some (.lst xs) => if xs.length < line then .ok .non (S.set i (.lst (xs ++ [d]))) else .bad
    | _ => .bad
  | _, _ => .bad
def extendM (x : D) (ds : List D) : M D := fun S => match x, ds with
  | .ref i, [e] => match S[i]?, tlsOf e S with
    | some (.lst xs), some ys => if xs.length + ys.length ≤ line then .ok .non (S.set i (.lst (xs ++ ys))) else .bad
    | _, _ => .bad
  | _, _ => .bad
def popAtM (x : D) (ds : List D) : M D := fun S => match x, ds with
  | .ref i, [.int k] => match S[i]? with
    | some (.lst xs) => match ixN xs.length k with
      | some j => match xs[j]? with
        | some y => .ok y (S.set i (.lst (xs.eraseIdx j)))
        | none => .bad
      | none => .bad
    | _ => .bad
  | _, _ => .bad
def mthM : Mt → D → List D → M D
  | .append => appendM
  | .extend => extendM
  | .popAt => popAtM
def stoM (o i d : D) : M Unit := fun S => match o, i with
  | .ref r, .int k => match S[r]? with
    | some (.lst xs) => match ixN xs.length k with
      | some j => .ok () (S.set r (.lst (xs.set j d)))
      | none => .bad
    | _ => .bad
  | _, _ => .bad
def varM (i : Nat) (ρ : Env') : M D := fun S => match ρ[i]? with
  | some (some d) => .ok d S
  | _ => .bad

/-! ## what is walked -/
structure Src where
  n : Nat
  nxt : Nat → Sto → Option (Option D)
def srcOf (d : D) (S : Sto) : Option Src := match d with
  | .tup xs => some ⟨xs.length, fun i _ => some xs[i]?⟩
  | .fz xs => some ⟨xs.length, fun i _ => some xs[i]?⟩
  | .fr xs => some ⟨xs.length, fun i _ => some xs[i]?⟩
  | .ref r => match S[r]? with
    | some (.lst xs) => some ⟨xs.length, fun i S' => match S'[r]? with | some (.lst ys) => some ys[i]? | _ => none⟩
    | _ => none
  | _ => none
def pairD (x y : Option D) : Option D := match x, y with
  | some a, some b => some (.tup [a, b])
  | _, _ => none
def zipOf (d e : D) (S : Sto) : Option Src := match d, e with
  | .tup xs, .tup ys => some ⟨xs.length, fun i _ => some (pairD xs[i]? ys[i]?)⟩
  | .tup _, _ => none
  | _, .tup _ => none
  | _, _ => match lstOf d S, lstOf e S with
    | some xs, some _ => some ⟨xs.length, fun i S' => match lstOf d S', lstOf e S' with
      | some us, some vs => some (pairD us[i]? vs[i]?)
      | _, _ => none⟩
    | _, _ => none
def rngOf (lo : Int) (n : Nat) : Src := ⟨n, fun i _ => some (if i < n then some (.int (lo + i)) else none)⟩
mutual
def tgSet : Tg → D → Env' → Option Env'
  | .nm i, d, ρ => some (ρ.set i (some d))
  | .tp ts, .tup ds, ρ => tgSets ts ds ρ
  | .tp _, _, _ => none
def tgSets : List Tg → List D → Env' → Option Env'
  | [], [], ρ => some ρ
  | t :: ts, d :: ds, ρ => (tgSet t d ρ).bind fun ρ' => tgSets ts ds ρ'
  | _, _, _ => none
end
/-- nothing is raised within -/
def nox {α : Type} (m : M α) : M α := fun S => match m S with
  | .exc _ _ _ => .bad
  | r => r
def lcLoop (elt : Env' → M D) (ifs : Env' → M Bool) (tg : Tg) (src : Src) : Nat → Nat → Env' → List D → M (List D)
  | n, i, ρ, acc => fun S => match src.nxt i S with
    | none => .bad
    | some none => .ok acc S
    | some (some d) => match n with
      | 0 => .bad
      | n + 1 => match tgSet tg d ρ with
        | none => .bad
        | some ρ' => (ifs ρ' S).bind fun b => if b then mbind (elt ρ') fun y S2 => if acc.length < line then lcLoop elt ifs tg src n (i + 1) ρ (acc ++ [y]) S2 else .bad
          else lcLoop elt ifs tg src n (i + 1) ρ acc
inductive Fl where
  | nx (ρ : Env')
  | rt (d : D)
  | bk (ρ : Env')
  | ct (ρ : Env')
def forLoop (body : Env' → M Fl) (tg : Tg) (src : Src) : Nat → Nat → Env' → M Fl
  | n, i, ρ => fun S => match src.nxt i S with
    | none => .bad
    | some none => .ok (.nx ρ) S
    | some (some d) => match n with
      | 0 => .bad
      | n + 1 => match tgSet tg d ρ with
        | none => .bad
        | some ρ' => (body ρ' S).bind fun fl => match fl with
          | .nx ρ2 => forLoop body tg src n (i + 1) ρ2
          | .ct ρ2 => forLoop body tg src n (i + 1) ρ2
          | .bk ρ2 => mret (.nx ρ2)
          | .rt d => mret (.rt d)

/-! ## the evaluator; F: what the text's functions do -/
noncomputable section
variable (F : Nat → List D → M D)
mutual
def evE : X' → (Env' → M D)
  | .var i => fun ρ => varM i ρ
  | .cst d => fun _ => mret d
  | .bin op a b => fun ρ => mbind (evE a ρ) fun x => mbind (evE b ρ) fun y => binM op x y
  | .neg a => fun ρ => mbind (evE a ρ) fun x => negM x
  | .cmp op a b => fun ρ => mbind (evE a ρ) fun x => mbind (evE b ρ) fun y => cmpM op x y
  | .chn o1 o2 a b c => fun ρ => mbind (evE a ρ) fun x => mbind (evE b ρ) fun y => mbind (cmpM o1 x y) fun k => mbind (blM k) fun t =>
      if t then mbind (evE c ρ) fun z => cmpM o2 y z else mret (.bl false)
  | .and a b => fun ρ => mbind (evE a ρ) fun x => mbind (blM x) fun t => if t then evE b ρ else mret (.bl false)
  | .or a b => fun ρ => mbind (evE a ρ) fun x => mbind (blM x) fun t => if t then mret (.bl true) else evE b ρ
  | .not a => fun ρ => mbind (evE a ρ) fun x => mbind (blM x) fun t => mret (.bl (!t))
  | .ife t a b => fun ρ => mbind (evT t ρ) fun k => if k then evE a ρ else evE b ρ
  | .tup es => fun ρ => mbind (evEs es ρ) fun xs => newT xs
  | .lst own es => fun ρ => mbind (evEs es ρ) fun xs => newL own xs
  | .cat own a b => fun ρ => mbind (evE a ρ) fun x => mbind (evE b ρ) fun y => catM own x y
  | .rep own a b => fun ρ => mbind (evE a ρ) fun x => mbind (evE b ρ) fun y => repM own x y
  | .call f es => fun ρ => mbind (evEs es ρ) fun xs => F f xs
  | .blt b es => fun ρ => mbind (evEs es ρ) fun xs => bltM b xs
  | .isi a t => fun ρ => mbind (evE a ρ) fun x S => match isK t x S with
    | some b => .ok (.bl b) S
    | none => .bad
  | .idx a b => fun ρ => mbind (evE a ρ) fun x => mbind (evE b ρ) fun y => idxM x y
  | .slc own a lo hi => fun ρ => mbind (evE a ρ) fun x => mbind (evP lo ρ) fun l => mbind (evP hi ρ) fun h => slcP own x l h
  | .rev own a => fun ρ => mbind (evE a ρ) fun x => revM own x
  | .mth m a es => fun ρ => mbind (evE a ρ) fun x S => match x with
    | .ref i => match S[i]? with
      | some (.lst _) => mbind (evEs es ρ) (mthM m x) S
      | _ => .bad
    | _ => .bad
  | .lc own elt tg it ifs ws => fun ρ => mbind (evI it ρ) fun src => mbind (nox (lcLoop (evE elt) (evTs ifs) tg src src.n 0 (wipeE ρ ws) [])) fun xs => newL own xs
  | .lrng own a => fun ρ => mbind (evE a ρ) fun x => match x with
    | .int j => chk (-4611686018427387904 ≤ j) (newL own ((List.range j.toNat).map fun (k : Nat) => D.int (k : Int)))
    | _ => mbad
def evEs : List X' → (Env' → M (List D))
  | [] => fun _ => mret []
  | e :: es => fun ρ => mbind (evE e ρ) fun x => mbind (evEs es ρ) fun xs => mret (x :: xs)
def evT : T' → (Env' → M Bool)
  | .and a b => fun ρ => mbind (evT a ρ) fun t => if t then evT b ρ else mret false
  | .or a b => fun ρ => mbind (evT a ρ) fun t => if t then mret true else evT b ρ
  | .not a => fun ρ => mbind (evT a ρ) fun t => mret (!t)
  | .val e => fun ρ => mbind (evE e ρ) truM
  | .bv e => fun ρ => mbind (evE e ρ) blM
def evTs : List T' → (Env' → M Bool)
  | [] => fun _ => mret true
  | e :: es => fun ρ => mbind (evT e ρ) fun t => if t then evTs es ρ else mret false
def evP : P' → (Env' → M (Option Int))
  | .no => fun _ => mret none
  | .ex e => fun ρ => mbind (evE e ρ) intO
def evI : I' → (Env' → M Src)
  | .seq e => fun ρ => mbind (evE e ρ) fun x S => match srcOf x S with
    | some src => .ok src S
    | none => .bad
  | .zip a b => fun ρ => mbind (evE a ρ) fun x => mbind (evE b ρ) fun y S => match zipOf x y S with
    | some src => .ok src S
    | none => .bad
  | .rng a => fun ρ => mbind (evE a ρ) fun x => match x with
    | .int j => chk (-4611686018427387904 ≤ j ∧ j < 4611686018427387904) (mret (rngOf 0 j.toNat))
    | _ => mbad
  | .rng2 a b => fun ρ => mbind (evE a ρ) fun x => mbind (evE b ρ) fun y => match x, y with
    | .int i, .int j => chk (-4611686018427387904 ≤ i ∧ i < 4611686018427387904 ∧ -4611686018427387904 ≤ j ∧ j < 4611686018427387904) (mret (rngOf i (j - i).toNat))
    | _, _ => mbad
end
mutual
def evS : S' → (Env' → M Fl)
  | .set i e => fun ρ => mbind (evE F e ρ) fun x => mret (.nx (ρ.set i (some x)))
  | .asg t e => fun ρ => mbind (evE F e ρ) fun x => match tgSet t x ρ with
    | some ρ' => mret (.nx ρ')
    | none => mbad
  | .sto o i e => fun ρ => mbind (evE F e ρ) fun x => mbind (evE F o ρ) fun r => mbind (evE F i ρ) fun k => mbind (stoM r k x) fun _ => mret (.nx ρ)
  | .expr e => fun ρ => mbind (evE F e ρ) fun _ => mret (.nx ρ)
  | .ret e => fun ρ => mbind (evE F e ρ) fun x => mret (.rt x)
  | .ife t a b => fun ρ => mbind (evT F t ρ) fun k => if k then evSs a ρ else evSs b ρ
  | .frr t it body => fun ρ => mbind (evI F it ρ) fun src => forLoop (evSs body) t src src.n 0 ρ
  | .brk => fun ρ => mret (.bk ρ)
  | .cnt => fun ρ => mret (.ct ρ)
  | .pass => fun ρ => mret (.nx ρ)
def evSs : List S' → (Env' → M Fl)
  | [] => fun ρ => mret (.nx ρ)
  | s :: r => fun ρ => mbind (evS s ρ) fun fl => match fl with
    | .nx ρ' => evSs r ρ'
    | f => mret f
end
end
/-- a def: how many slots, its body -/
structure Fn' where
  slots : Nat
  body : List S'
def envOf (n : Nat) (ds : List D) : Env' := ds.map some ++ List.replicate (n - ds.length) none
noncomputable def runB (F : Nat → List D → M D) (f : Fn') (ds : List D) : M D := mbind (evSs F f.body (envOf f.slots ds)) fun fl => match fl with
  | .nx _ => mret .non
  | .rt d => mret d
  | _ => mbad
/-- the text's functions, k calls deep -/
noncomputable def runF (tab : List Fn') : Nat → Nat → List D → M D
  | 0, _, _ => mbad
  | k + 1, f, ds => match tab[f]? with
    | some fn => runB (runF tab k) fn ds
    | none => mbad
end Pu

namespace L2
open PySem PySem.Spec PyProof.Rows
section
variable {X : Cx} {pins : List (Addr × Obj)} {σ : L2.St} {H : Hp} {s : Shared} {l : Addr} {xs : List V}
/-- a list that is read: tracked or frozen -/
theorem Inv.lstR (I : Inv X pins σ H s) (hH : Rd H l (.lst xs)) : xs.length ≤ sizeLine ∧ ∃ (its : List Value) (n : Nat), Vals xs its ∧ xs.length = its.length ∧ s.heap.get? l = some { cls := .type "list", data := .seq its.toArray n } :=
  let ⟨z, its, n, r, e⟩ := hH.ok I.hok
  ⟨z, its, n, r, r.length, e⟩
theorem op_catR : OpR X (binaryOp .Add) (fun x y H Q => ∃ l b xs zs, x = .ref l ∧ y = .ref b ∧ Rd H l (.lst xs) ∧ Rd H b (.lst zs) ∧ xs.length + zs.length ≤ sizeLine ∧ ∀ p, H p = none → Q (.ref p) (upd H p (.lst (xs ++ zs)))) := by
  intro pins s σ H x y v u Q I rx ry h
  obtain ⟨l, b, xs, zs, rfl, rfl, hH, hB, hz, q⟩ := h
  cases rx; cases ry
  obtain ⟨z, its, n, r, hl, e⟩ := I.lstR hH
  obtain ⟨z2, its2, n2, r2, hl2, e2⟩ := I.lstR hB
  refine PySem.P.add_list e e2 ?_ (by simp only [List.size_toArray]; omega)
  rw [show its.toArray ++ its2.toArray = (its ++ its2).toArray by simp]
  exact ⟨.ref _, _, I.lnew (t' := s.toks) (r.append r2) (by simp only [List.length_append]; omega), rfl, q _ I.fresh⟩
theorem fold_rep (its : List Value) (m : Nat) : List.foldl (fun x1 x2 => x1 ++ x2) #[] (List.replicate m its.toArray) = (List.replicate m its).flatten.toArray := by
  simpa using foldl_rep its m []
/-- follows HandS.List's rule of a tracked list -/
theorem op_repR : OpR X (binaryOp .Mult) (fun x y H Q => ∃ l k xs, x = .ref l ∧ y = .int k ∧ Rd H l (.lst xs) ∧ -(2 ^ 63) ≤ k ∧ k < 2 ^ 63 ∧ xs.length * k.toNat ≤ sizeLine ∧ ∀ p, H p = none → Q (.ref p) (upd H p (.lst (List.replicate k.toNat xs).flatten))) := by
  intro pins s σ H x y v u Q I rx ry h
  obtain ⟨l, k, xs, rfl, rfl, hH, h1, h2, hz, q⟩ := h
  cases rx
  obtain ⟨t, rfl⟩ := ry
  obtain ⟨z, its, n, r, hl, e⟩ := I.lstR hH
  have hlen : its.toArray.size * k.toNat ≤ sizeLine := by simp only [List.size_toArray, ← hl]; exact hz
  have big : (sizeLine : Nat) ≤ (2 ^ 63 - 1) / 8 := by decide
  have hcap : ¬ its.toArray.size * k.toNat > (2 ^ 63 - 1) / 8 := by omega
  have hfit : ¬ (!Builtin.List.listFitsIndex k) = true := by simp [fitsIndex_both h1 h2]
  have hlong : ¬ Builtin.List.listTooLong (its.toArray.size * k.toNat) = true := by rw [notLongL hlen]; decide
  have hnew : List.foldl (fun x1 x2 => x1 ++ x2) #[] (List.replicate (if its.toArray.isEmpty = true then 0 else k.toNat) its.toArray) = (List.replicate k.toNat its).flatten.toArray := by
    rw [fold_rep]
    cases its <;> simp
  refine wpAny_binaryOp_repeat_ref (T := "list") (U := "int") (by decide) ⟨_, e, rfl⟩ (fun s2 => typeIs_int s2 k t) noFill_list_mul PySem.F.fills_int_mul PySem.F.slot_int_rmul repeat_list PySem.F.slot_int_index.lookup ?_
  refine call_meets PySem.F.slot_int_rmul (typeIs_int s k t) PySem.F.entry_int_rmul (PySem.F.args_int_rmul_2 _ _) (int___rmul___int_list k t l its.toArray n) ⟨e, rfl, ⟨_, e, rfl⟩, ?_⟩
  refine call_meets PySem.F.slot_list_mul ⟨_, e, rfl⟩ PySem.F.entry_list_mul (PySem.F.args_list_mul_2 _ _) (AutoListH.list___mul___list_int_3 l its.toArray n k t hfit hcap hlong) ⟨e, ?_⟩
  rw [hnew]
  exact ⟨.ref _, _, I.lnew (t' := s.toks) (r.rep k.toNat) (by rw [PyProof.Rows.lm_len_rep_flat, Nat.mul_comm]; exact hz), rfl, q _ I.fresh⟩
theorem mt_extendR : MtM X "list.extend" (fun x vs H Q => ∃ l b xs zs, x = .ref l ∧ vs = [.ref b] ∧ H l = some (.lst xs) ∧ Rd H b (.lst zs) ∧ xs.length + zs.length ≤ sizeLine ∧ Q .non (upd H l (.lst (xs ++ zs)))) := by
  intro pins s σ H x vs v us Q I rx rv h
  obtain ⟨l, b, xs, zs, rfl, rfl, hH, hB, hz, q⟩ := h
  cases rx
  obtain ⟨u, rfl, ru⟩ := rv.one
  cases ru
  obtain ⟨z, its, n, r, hl, e⟩ := I.lstM hH
  obtain ⟨z2, its2, n2, r2, hl2, e2⟩ := I.lstR hB
  have hsz : its.toArray.size + its2.toArray.size ≤ sizeLine := by simp only [List.size_toArray]; omega
  have hlong : ¬ (!its.toArray.isEmpty && Builtin.List.listTooLong (its.toArray.size + its2.toArray.size)) = true := by rw [notLongL hsz, Bool.and_false]; decide
  refine call_meets PySem.F.slot_list_extend ⟨_, e, rfl⟩ PySem.F.entry_list_extend (PySem.F.args_list_extend_2 _ _) (AutoSeq1.list_extend_list_list_0 l its.toArray n b its2.toArray n2 hlong (by simp only [List.size_toArray]; omega) (by omega)) ⟨e, e2, ?_⟩
  exact ⟨.non, _, I.lset (its' := its ++ its2) hH e (by simp) (r.append r2) (by simp only [List.length_append]; omega), rfl, q⟩
/-- what is wanted of a new list: own: that it can be changed; else it is frozen at once -/
def QL (own : Bool) (Q : VK) : VK := if own then Q else fun v H1 => ∃ a xs, v = .ref a ∧ H1 a = some (.lst xs) ∧ ∀ o, Q v (upd H1 a (.frz o (.lst xs)))
theorem ql_ep {own : Bool} {Q : VK} {u : Value} (h : EP X pins σ (QL own Q) u s) : EP X pins σ Q u s := by
  cases own with
  | true => exact h
  | false =>
    obtain ⟨v, H', I, r, a, xs, rfl, ha, q⟩ := h
    obtain ⟨o, I'⟩ := I.lock ha trivial
    exact ⟨_, _, I', r, q o⟩
theorem ql {own : Bool} {Q : VK} {t : Sem Value} {s0 : Shared} {A : Around} {M : Model} {E : Value → Shared → Prop} (h : wpAny M A t (EP X pins σ (QL own Q)) E s0) : wpAny M A t (EP X pins σ Q) E s0 := thn h fun _ _ => ql_ep
end
end L2
namespace Pu
open PySem PySem.Spec PyProof.Rows L2

theorem line_eq : line = sizeLine := by rw [sizeLine_eq]; rfl
section
variable {K : PySem.W.Frag} {mg : Str → Option Value} {E : XK} {as : List Addr} {H : Hp} {S : Sto} {Q : VK}
theorem asInts_eq : ∀ {ds : List D} {ns : List Int}, asInts ds = some ns → ds = ns.map D.int
  | [], ns, h => by cases h; rfl
  | .int i :: r, ns, h => by
    have h : (asInts r).map (i :: ·) = some ns := h
    cases q : asInts r with
    | none => rw [q] at h; cases h
    | some ms => rw [q] at h; cases h; rw [asInts_eq q]; rfl
  | .non :: _, _, h | .bl _ :: _, _, h | .str _ :: _, _, h | .tup _ :: _, _, h | .ref _ :: _, _, h | .fz _ :: _, _, h | .fr _ :: _, _, h => by cases h
theorem asBools_eq : ∀ {ds : List D} {ns : List Bool}, asBools ds = some ns → ds = ns.map D.bl
  | [], ns, h => by cases h; rfl
  | .bl i :: r, ns, h => by
    have h : (asBools r).map (i :: ·) = some ns := h
    cases q : asBools r with
    | none => rw [q] at h; cases h
    | some ms => rw [q] at h; cases h; rw [asBools_eq q]; rfl
  | .non :: _, _, h | .int _ :: _, _, h | .str _ :: _, _, h | .tup _ :: _, _, h | .ref _ :: _, _, h | .fz _ :: _, _, h | .fr _ :: _, _, h => by cases h
theorem Reps.bls : ∀ {ns : List Bool} {vs : List V}, Reps K as H (ns.map D.bl) vs → vs = ns.map V.bl
  | [], _, h => h
  | n :: ns, vs, h => by
    obtain ⟨v, r, rfl, h2, h3⟩ := h
    have h2 : v = .bl n := h2
    rw [h2, Reps.bls h3]; rfl
theorem tls_ok (sim : Sim K as S H) {d : D} {xs : List D} {x : V} (h : tlsOf d S = some xs) (r : Rep K as H d x) : ∃ a vs, x = .ref a ∧ Rd H a (.lst vs) ∧ Reps K as H xs vs := by
  cases d with
  | fz ys =>
    cases h
    obtain ⟨a, vs, h1, h2, h3⟩ := r
    exact ⟨a, vs, h1, .inr h2, h3⟩
  | ref i =>
    simp only [tlsOf] at h
    obtain ⟨a, ha, hx⟩ := r
    obtain ⟨o, ho, hr⟩ := sim.has ha
    rw [ho] at h
    cases o with
    | lst ys =>
      cases h
      obtain ⟨vs, h1, h2⟩ := hr
      exact ⟨a, vs, hx, .inl h1, h2⟩
    | _ => cases h
  | _ => cases h
theorem lst_ok (sim : Sim K as S H) {d : D} {xs : List D} {x : V} (h : lstOf d S = some xs) (r : Rep K as H d x) : ∃ a vs, x = .ref a ∧ SqL K H a vs ∧ Reps K as H xs vs := by
  cases d with
  | fr ys =>
    cases h
    obtain ⟨a, vs, h1, h2, h3⟩ := r
    exact ⟨a, vs, h1, h2.sq, h3⟩
  | fz ys =>
    obtain ⟨a, vs, h1, h2, h3⟩ := tls_ok sim (show tlsOf (.fz ys) S = some xs from h) r
    exact ⟨a, vs, h1, .inl h2, h3⟩
  | ref i =>
    obtain ⟨a, vs, h1, h2, h3⟩ := tls_ok sim (show tlsOf (.ref i) S = some xs from h) r
    exact ⟨a, vs, h1, .inl h2, h3⟩
  | _ => cases h
theorem seq_ok (sim : Sim K as S H) {d : D} {xs : List D} {x : V} (h : seqOf d S = some xs) (r : Rep K as H d x) : ∃ a vs, x = .ref a ∧ (SqL K H a vs ∨ SqT K H a vs) ∧ Reps K as H xs vs := by
  cases d with
  | tup ys =>
    cases h
    obtain ⟨a, vs, h1, h2, h3⟩ := r
    exact ⟨a, vs, h1, .inr h2, h3⟩
  | _ =>
    obtain ⟨a, vs, h1, h2, h3⟩ := lst_ok (xs := xs) sim (by simpa only [seqOf] using h) r
    exact ⟨a, vs, h1, .inl h2, h3⟩
/-- a new tuple; a new list -/
theorem fin_T {xs : List D} {vs : List V} (fin : Fin K mg E (Rep K) as H (newT xs S) Q) (sim : Sim K as S H) (r : Reps K as H xs vs) : vs.length ≤ sizeLine ∧ ∀ p, H p = none → Q (.ref p) (upd H p (.tup vs)) := by
  unfold newT at fin
  by_cases h : xs.length ≤ line
  · rw [if_pos h] at fin
    rw [line_eq] at h
    refine ⟨by rw [r.length]; exact h, fun p hp => fin as _ _ (Ext.fixed hp) (sim.fixed hp) ⟨p, vs, rfl, SqT.of upd_same, r.mono (Ext.fixed hp)⟩⟩
  · rw [if_neg h] at fin; exact fin.elim
theorem ext_frz {p : Addr} {o : HO} (hp : H p = none) : Ext as H as (upd H p o) := Ext.fixed hp
theorem fin_L {own : Bool} {xs : List D} {vs : List V} (fin : Fin K mg E (Rep K) as H (newL own xs S) Q) (sim : Sim K as S H) (r : Reps K as H xs vs) : vs.length ≤ sizeLine ∧ ∀ p, H p = none → QL own Q (.ref p) (upd H p (.lst vs)) := by
  unfold newL at fin
  by_cases h : xs.length ≤ line
  · rw [if_pos h] at fin
    rw [line_eq] at h
    refine ⟨by rw [r.length]; exact h, fun p hp => ?_⟩
    cases own with
    | true =>
      refine fin (as ++ [p]) _ _ (Ext.alloc hp) (sim.new hp ⟨vs, upd_same, r.mono (Ext.alloc hp)⟩) ⟨p, ?_, rfl⟩
      rw [← sim.len, List.getElem?_append_right (Nat.le_refl _)]
      simp
    | false =>
      refine ⟨p, vs, rfl, upd_same, fun o => ?_⟩
      rw [upd_upd]
      exact fin as _ _ (Ext.fixed hp) (sim.fixed hp) ⟨p, vs, rfl, ⟨o, upd_same⟩, r.mono (Ext.fixed hp)⟩
  · rw [if_neg h] at fin; exact fin.elim
mutual
theorem py_ok {f : Nat → Option PyData} (hf : ∀ i p a, f i = some p → as[i]? = some a → Dp K H (.ref a) p) : ∀ {d : D} {p : PyData} {x : V}, toPyG f d = some p → Rep K as H d x → Dp K H x p
  | .non, p, x, h, r => by
    simp only [toPyG] at h; cases h
    have r : x = _ := r
    subst r; exact .non
  | .bl b, p, x, h, r => by
    simp only [toPyG] at h; cases h
    have r : x = _ := r
    subst r; exact .bl b
  | .int b, p, x, h, r => by
    simp only [toPyG] at h; cases h
    have r : x = _ := r
    subst r; exact .int b
  | .str b, p, x, h, r => by
    simp only [toPyG] at h; cases h
    have r : x = _ := r
    subst r; exact .str b
  | .tup ds, p, x, h, r => by
    simp only [toPyG] at h
    cases q : toPysG f ds with
    | none => rw [q] at h; cases h
    | some ps =>
      rw [q] at h; cases h
      obtain ⟨a, vs, rfl, h2, h3⟩ := r
      exact .tup h2 (pys_ok hf q h3)
  | .fz ds, p, x, h, r => by
    simp only [toPyG] at h
    cases q : toPysG f ds with
    | none => rw [q] at h; cases h
    | some ps =>
      rw [q] at h; cases h
      obtain ⟨a, vs, rfl, h2, h3⟩ := r
      exact .lst (.inl (.inr h2)) (pys_ok hf q h3)
  | .fr ds, p, x, h, r => by
    simp only [toPyG] at h
    cases q : toPysG f ds with
    | none => rw [q] at h; cases h
    | some ps =>
      rw [q] at h; cases h
      obtain ⟨a, vs, rfl, h2, h3⟩ := r
      exact .lst h2.sq (pys_ok hf q h3)
  | .ref i, p, x, h, r => by
    simp only [toPyG] at h
    obtain ⟨a, ha, rfl⟩ := r
    exact hf i p a h ha
theorem pys_ok {f : Nat → Option PyData} (hf : ∀ i p a, f i = some p → as[i]? = some a → Dp K H (.ref a) p) : ∀ {ds : List D} {ps : List PyData} {vs : List V}, toPysG f ds = some ps → Reps K as H ds vs → DpAll K H vs ps
  | [], ps, vs, h, r => by
    simp only [toPysG] at h; cases h
    have r : vs = [] := r
    subst r; exact .nil
  | d :: ds, ps, vs, h, r => by
    simp only [toPysG] at h
    obtain ⟨v, t, rfl, h2, h3⟩ := r
    cases q : toPyG f d with
    | none => rw [q] at h; cases h
    | some p =>
      cases q' : toPysG f ds with
      | none => rw [q, q'] at h; cases h
      | some ps' =>
        rw [q, q'] at h; cases h
        exact .cons (py_ok hf q h2) (pys_ok hf q' h3)
end
theorem toPy_ok (sim : Sim K as S H) {d : D} {p : PyData} {x : V} (h : toPy S d = some p) (r : Rep K as H d x) : Dp K H x p := by
  refine py_ok (fun i p a hi ha => ?_) h r
  unfold deref at hi
  obtain ⟨o, ho, hr⟩ := sim.has ha
  rw [ho] at hi
  cases o with
  | lst xs =>
    simp only at hi
    cases q : toPys0 xs with
    | none => rw [q] at hi; cases hi
    | some ps =>
      rw [q] at hi; cases hi
      obtain ⟨vs, h1, h2⟩ := hr
      exact .lst (SqL.of h1) (pys_ok (fun _ _ _ z => by cases z) q h2)
  | _ => cases hi
end

/-! ## operators -/
def rD2 (K : PySem.W.Frag) (mg : Str → Option Value) (E : XK) (g : D → D → M D) : R2 := fun x y H Q => ∃ as S d e, Sim K as S H ∧ Rep K as H d x ∧ Rep K as H e y ∧ Fin K mg E (Rep K) as H (g d e S) Q
section
variable {X : Cx} {mg : Str → Option Value} {E : XK}
theorem or_cat (own : Bool) : OpR X (binaryOp .Add) (rD2 X.K mg E (catM own)) := by
  intro pins s σ H x y v u Q I rx ry h
  obtain ⟨as, S, d, e, sim, hd, he, fin⟩ := h
  have gen : ∀ xs ys, tlsOf d S = some xs → tlsOf e S = some ys → Fin X.K mg E (Rep X.K) as H (newL own (xs ++ ys) S) Q → wpAny (model X.prog X.w) X.A (binaryOp .Add v u) (EP X pins σ Q) X.xe s := fun xs ys h1 h2 f => by
    obtain ⟨a, vs, rfl, ha, r1⟩ := tls_ok sim h1 hd
    obtain ⟨b, us, rfl, hb, r2⟩ := tls_ok sim h2 he
    obtain ⟨hz, q⟩ := fin_L f sim (r1.append r2)
    exact ql (own := own) (op_catR pins s σ H _ _ v u _ I rx ry ⟨a, b, vs, us, rfl, rfl, ha, hb, by rw [← List.length_append]; exact hz, q⟩)
  unfold catM at fin
  split at fin
  · cases hd; cases he
    exact op_add pins s σ H _ _ v u Q I rx ry ⟨_, _, rfl, rfl, fin.ret sim rfl⟩
  · obtain ⟨a, vs, rfl, ha, r1⟩ := hd
    obtain ⟨b, us, rfl, hb, r2⟩ := he
    have hz : vs.length + us.length ≤ sizeLine := by
      have := (fin_T fin sim (r1.append r2)).1
      rw [List.length_append] at this; exact this
    have fin2 := fin
    unfold newT at fin
    rw [if_pos (by rw [line_eq, ← (r1.append r2).length, List.length_append]; exact hz)] at fin
    refine op_catA pins s σ H _ _ v u Q I rx ry ⟨a, b, vs, us, rfl, rfl, ha, hb, hz, fun e => ?_, fun _ e => ?_, fun _ _ p hp => (fin_T fin2 sim (r1.append r2)).2 p hp⟩
    · subst e
      exact fin.ret sim ⟨b, us, rfl, hb, r1.append r2⟩
    · subst e
      refine fin.ret sim ⟨a, vs, rfl, ha, ?_⟩
      have := r1.append r2
      rw [List.append_nil] at this; exact this
  · split at fin
    · rename_i h
      cases hd; cases he
      rw [line_eq] at h
      exact op_add_str pins s σ H _ _ v u Q I rx ry ⟨_, _, rfl, rfl, h, fin.ret sim rfl⟩
    · exact fin.elim
  · split at fin
    · rename_i h1 h2
      exact gen _ _ h1 h2 fin
    · exact fin.elim
theorem or_rep (own : Bool) : OpR X (binaryOp .Mult) (rD2 X.K mg E (repM own)) := by
  intro pins s σ H x y v u Q I rx ry h
  obtain ⟨as, S, d, e, sim, hd, he, fin⟩ := h
  have repR : ∀ {ds : List D} {vs : List V} (k : Nat), Reps X.K as H ds vs → Reps X.K as H (List.replicate k ds).flatten (List.replicate k vs).flatten := fun {ds vs} k r => by
    induction k with
    | zero => exact Reps.nil
    | succ k ih =>
      rw [List.replicate_succ, List.replicate_succ, List.flatten_cons, List.flatten_cons]
      exact r.append ih
  unfold repM at fin
  split at fin
  · obtain ⟨h, fin⟩ := Fin.chk fin
    cases hd; cases he
    exact op_mul pins s σ H _ _ v u Q I rx ry ⟨_, _, rfl, rfl, (by unfold CMul; omega), Fin.ret fin sim rfl⟩
  · split at fin
    · rename_i h
      obtain ⟨h1, h2, h3, h4⟩ := h
      obtain ⟨a, vs, rfl, ha, r1⟩ := hd
      cases he
      refine op_repT pins s σ H _ _ v u Q I rx ry ⟨a, _, vs, rfl, rfl, ha, fun z => h1 ?_, h2, h3, by rw [r1.length]; exact h4, fun p hp => ?_⟩
      · subst z
        have := r1.length
        exact List.length_eq_zero_iff.mp this.symm
      · exact fin as _ _ (Ext.fixed hp) (sim.fixed hp) ⟨p, _, rfl, SqT.of upd_same, (repR _ r1).mono (Ext.fixed hp)⟩
    · exact fin.elim
  · rename_i k _ _
    split at fin
    · rename_i xs hx
      obtain ⟨hk, fin⟩ := Fin.chk fin
      obtain ⟨a, vs, rfl, ha, r1⟩ := tls_ok sim hx hd
      cases he
      obtain ⟨hz, q⟩ := fin_L fin sim (repR k.toNat r1)
      refine ql (own := own) (op_repR pins s σ H _ _ v u _ I rx ry ⟨a, k, vs, rfl, rfl, ha, by omega, by omega, ?_, q⟩)
      have : (List.replicate k.toNat vs).flatten.length = vs.length * k.toNat := by simp [Nat.mul_comm]
      rw [← this]; exact hz
    · exact fin.elim
  · exact fin.elim
theorem or_sub : OpR X (binaryOp .Sub) (rD2 X.K mg E (binM .Sub)) := by
  intro pins s σ H x y v u Q I rx ry h
  obtain ⟨as, S, d, e, sim, hd, he, fin⟩ := h
  cases d <;> cases e <;> first | exact fin.elim | (cases hd; cases he; exact op_sub pins s σ H _ _ v u Q I rx ry ⟨_, _, rfl, rfl, Fin.ret fin sim rfl⟩)
theorem or_mod : OpR X (binaryOp .Mod) (rD2 X.K mg E (binM .Mod)) := by
  intro pins s σ H x y v u Q I rx ry h
  obtain ⟨as, S, d, e, sim, hd, he, fin⟩ := h
  cases d <;> cases e <;> first | exact fin.elim | skip
  rename_i i j
  cases hd; cases he
  simp only [binM] at fin
  obtain ⟨h, fin⟩ := Fin.chk fin
  exact op_mod pins s σ H _ _ v u Q I rx ry ⟨_, _, rfl, rfl, h, Fin.ret fin sim rfl⟩
theorem or_fdiv : OpR X (binaryOp .FloorDiv) (rD2 X.K mg E (binM .FloorDiv)) := by
  intro pins s σ H x y v u Q I rx ry h
  obtain ⟨as, S, d, e, sim, hd, he, fin⟩ := h
  cases d <;> cases e <;> first | exact fin.elim | skip
  rename_i i j
  cases hd; cases he
  simp only [binM] at fin
  obtain ⟨h, fin⟩ := Fin.chk fin
  exact op_fdiv pins s σ H _ _ v u Q I rx ry ⟨_, _, rfl, rfl, h, Fin.ret fin sim rfl⟩
theorem or_pow : OpR X (binaryOp .Pow) (rD2 X.K mg E (binM .Pow)) := by
  intro pins s σ H x y v u Q I rx ry h
  obtain ⟨as, S, d, e, sim, hd, he, fin⟩ := h
  cases d <;> cases e <;> first | exact fin.elim | skip
  rename_i i j
  cases hd; cases he
  simp only [binM] at fin
  obtain ⟨h, fin⟩ := Fin.chk fin
  exact op_pow pins s σ H _ _ v u Q I rx ry ⟨_, _, rfl, rfl, ⟨h.1, h.2.1, by omega⟩, Fin.ret fin sim rfl⟩
theorem ur_neg : UnR X (unaryOp .USub) (fun x H Q => ∃ as S d, Sim X.K as S H ∧ Rep X.K as H d x ∧ Fin X.K mg E (Rep X.K) as H (negM d S) Q) := by
  intro pins s σ H x v Q I rx h
  obtain ⟨as, S, d, sim, hd, fin⟩ := h
  cases d <;> first | exact fin.elim | skip
  cases hd
  exact un_neg pins s σ H _ v Q I rx ⟨_, rfl, Fin.ret fin sim rfl⟩

/-! ## comparisons -/
theorem or_eqG (hu : X.A.units + 64 < cLine) : OpR X (compareOp .Eq) (rD2 X.K mg E (eqM false)) := by
  intro pins s σ H x y v u Q I rx ry h
  obtain ⟨as, S, d, e, sim, hd, he, fin⟩ := h
  simp only [eqM] at fin
  split at fin
  · rename_i p q h1 h2
    split at fin
    · rename_i hs
      rw [Bool.and_eq_true] at hs
      exact op_eqD hu pins s σ H _ _ v u Q I rx ry ⟨p, q, toPy_ok sim h1 hd, toPy_ok sim h2 he, hs.1, hs.2, fin.ret sim rfl⟩
    · exact fin.elim
  · exact fin.elim
theorem or_neG (hu : X.A.units + 64 < cLine) : OpR X (compareOp .NotEq) (rD2 X.K mg E (eqM true)) := by
  intro pins s σ H x y v u Q I rx ry h
  obtain ⟨as, S, d, e, sim, hd, he, fin⟩ := h
  simp only [eqM] at fin
  split at fin
  · rename_i p q h1 h2
    split at fin
    · rename_i hs
      rw [Bool.and_eq_true] at hs
      exact op_neD hu pins s σ H _ _ v u Q I rx ry ⟨p, q, toPy_ok sim h1 hd, toPy_ok sim h2 he, hs.1, hs.2, fin.ret sim rfl⟩
    · exact fin.elim
  · exact fin.elim
theorem flat_ok {K : PySem.W.Frag} {as : List Addr} {H : Hp} {d : D} {x : V} (r : Rep K as H d x) (h : flatD d = true) : flatV x = true := by
  cases d <;> first | (cases r; rfl) | (simp [flatD] at h)
theorem flats_ok {K : PySem.W.Frag} {as : List Addr} {H : Hp} : ∀ {ds : List D} {xs : List V}, Reps K as H ds xs → ds.all flatD = true → xs.all flatV = true
  | [], xs, r, _ => by have r : xs = [] := r; subst r; rfl
  | d :: ds, xs, r, h => by
    obtain ⟨v, t, rfl, h2, h3⟩ := r
    rw [List.all_cons, Bool.and_eq_true] at h
    rw [List.all_cons, flat_ok h2 h.1, flats_ok h3 h.2]; rfl
theorem eqF_ok {K : PySem.W.Frag} {as : List Addr} {H : Hp} {d e : D} {x y : V} (r : Rep K as H d x) (q : Rep K as H e y) (h : flatD d = true) (h' : flatD e = true) : eqV x y = eqF d e := by
  cases d <;> first | (simp [flatD] at h; done) | (cases e <;> first | (simp [flatD] at h'; done) | (cases r; cases q; rfl))
theorem inF_ok {K : PySem.W.Frag} {as : List Addr} {H : Hp} {d : D} {x : V} (r : Rep K as H d x) (h : flatD d = true) : ∀ {ds : List D} {xs : List V}, Reps K as H ds xs → ds.all flatD = true → inV x xs = ds.any fun y => eqF y d
  | [], xs, q, _ => by have q : xs = [] := q; subst q; rfl
  | e :: ds, xs, q, h' => by
    obtain ⟨v, t, rfl, h2, h3⟩ := q
    rw [List.all_cons, Bool.and_eq_true] at h'
    have ih := inF_ok r h h3 h'.2
    unfold inV at ih ⊢
    rw [List.any_cons, List.any_cons, eqF_ok h2 r h'.1 h, ih]
theorem or_in (hu : X.A.units + 65 < cLine) : OpR X (compareOp .In) (rD2 X.K mg E (inM false)) := by
  intro pins s σ H x y v u Q I rx ry h
  obtain ⟨as, S, d, e, sim, hd, he, fin⟩ := h
  simp only [inM] at fin
  split at fin
  · split at fin
    · rename_i hs
      rw [Bool.and_eq_true] at hs
      obtain ⟨a, vs, rfl, ha, r1⟩ := he
      refine op_in_seq pins s σ H _ _ v u Q I rx ry ⟨a, vs, rfl, .inr ha, flat_ok hd hs.1, flats_ok r1 hs.2, ?_⟩
      rw [inF_ok hd hs.1 r1 hs.2]
      exact fin.ret sim rfl
    · exact fin.elim
  · split at fin
    · rename_i p qs h1 h2
      split at fin
      · rename_i hs
        rw [Bool.and_eq_true] at hs
        exact op_inD hu pins s σ H _ _ v u Q I rx ry ⟨p, qs, toPy_ok sim h1 hd, toPy_ok sim h2 he, hs.1, hs.2, fin.ret sim rfl⟩
      · exact fin.elim
    · exact fin.elim
theorem or_notIn (hu : X.A.units + 65 < cLine) : OpR X (compareOp .NotIn) (rD2 X.K mg E (inM true)) := by
  intro pins s σ H x y v u Q I rx ry h
  obtain ⟨as, S, d, e, sim, hd, he, fin⟩ := h
  simp only [inM] at fin
  split at fin
  · split at fin
    · rename_i hs
      rw [Bool.and_eq_true] at hs
      obtain ⟨a, vs, rfl, ha, r1⟩ := he
      refine op_notIn_seq pins s σ H _ _ v u Q I rx ry ⟨a, vs, rfl, .inr ha, flat_ok hd hs.1, flats_ok r1 hs.2, ?_⟩
      rw [inF_ok hd hs.1 r1 hs.2]
      exact fin.ret sim rfl
    · exact fin.elim
  · split at fin
    · rename_i p qs h1 h2
      split at fin
      · rename_i hs
        rw [Bool.and_eq_true] at hs
        exact op_notInD hu pins s σ H _ _ v u Q I rx ry ⟨p, qs, toPy_ok sim h1 hd, toPy_ok sim h2 he, hs.1, hs.2, fin.ret sim rfl⟩
      · exact fin.elim
    · exact fin.elim
theorem or_lt (hu : X.A.units < cLine) : OpR X (compareOp .Lt) (rD2 X.K mg E ltM) := by
  intro pins s σ H x y v u Q I rx ry h
  obtain ⟨as, S, d, e, sim, hd, he, fin⟩ := h
  unfold ltM at fin
  split at fin
  · cases hd; cases he
    exact op_lt pins s σ H _ _ v u Q I rx ry ⟨_, _, rfl, rfl, fin.ret sim rfl⟩
  · split at fin
    · rename_i h1 h2
      obtain ⟨a, vs, rfl, ha, r1⟩ := hd
      obtain ⟨b, us, rfl, hb, r2⟩ := he
      rw [asInts_eq h1] at r1
      rw [asInts_eq h2] at r2
      rw [r1.ints] at ha
      rw [r2.ints] at hb
      exact op_ltT hu pins s σ H _ _ v u Q I rx ry ⟨a, b, _, _, rfl, rfl, ha, hb, fin.ret sim rfl⟩
    · exact fin.elim
  · exact fin.elim
theorem or_isN : OpR X (compareOp .Is) (rD2 X.K mg E (isM false)) := by
  intro pins s σ H x y v u Q I rx ry h
  obtain ⟨as, S, d, e, sim, hd, he, fin⟩ := h
  simp only [isM] at fin
  split at fin
  · cases he
    refine op_isN pins s σ H _ _ v u Q I rx ry ⟨rfl, ?_⟩
    cases d <;> first | (obtain ⟨a, vs, rfl, _⟩ := hd; exact fin.ret sim rfl) | (obtain ⟨a, _, rfl⟩ := hd; exact fin.ret sim rfl) | (cases hd; exact fin.ret sim rfl)
  · exact fin.elim
theorem or_notN : OpR X (compareOp .IsNot) (rD2 X.K mg E (isM true)) := by
  intro pins s σ H x y v u Q I rx ry h
  obtain ⟨as, S, d, e, sim, hd, he, fin⟩ := h
  simp only [isM] at fin
  split at fin
  · cases he
    refine op_notN pins s σ H _ _ v u Q I rx ry ⟨rfl, ?_⟩
    cases d <;> first | (obtain ⟨a, vs, rfl, _⟩ := hd; exact fin.ret sim rfl) | (obtain ⟨a, _, rfl⟩ := hd; exact fin.ret sim rfl) | (cases hd; exact fin.ret sim rfl)
  · exact fin.elim
theorem or_cmp (hu : X.A.units + 65 < cLine) (op : CmpOp) : OpR X (compareOp op) (rD2 X.K mg E (cmpM op)) := by
  intro pins s σ H x y v u Q I rx ry h
  obtain ⟨as, S, d, e, sim, hd, he, fin⟩ := h
  unfold cmpM at fin
  split at fin
  · exact or_lt (by omega) pins s σ H _ _ v u Q I rx ry ⟨as, S, _, _, sim, hd, he, fin⟩
  · cases hd; cases he
    exact op_le pins s σ H _ _ v u Q I rx ry ⟨_, _, rfl, rfl, Fin.ret fin sim rfl⟩
  · cases hd; cases he
    exact op_gt pins s σ H _ _ v u Q I rx ry ⟨_, _, rfl, rfl, Fin.ret fin sim rfl⟩
  · cases hd; cases he
    exact op_ge pins s σ H _ _ v u Q I rx ry ⟨_, _, rfl, rfl, Fin.ret fin sim rfl⟩
  · cases hd; cases he
    refine op_eq pins s σ H _ _ v u Q I rx ry ⟨rfl, ?_⟩
    rename_i i j
    have : decide (V.int i = V.int j) = decide (i = j) := by simp
    rw [this]
    exact Fin.ret fin sim rfl
  · cases hd; cases he
    refine op_ne pins s σ H _ _ v u Q I rx ry ⟨rfl, ?_⟩
    rename_i i j
    have : decide (V.int i = V.int j) = decide (i = j) := by simp
    rw [this]
    exact Fin.ret fin sim rfl
  · exact or_eqG (by omega) pins s σ H _ _ v u Q I rx ry ⟨as, S, _, _, sim, hd, he, fin⟩
  · exact or_neG (by omega) pins s σ H _ _ v u Q I rx ry ⟨as, S, _, _, sim, hd, he, fin⟩
  · exact or_isN pins s σ H _ _ v u Q I rx ry ⟨as, S, _, _, sim, hd, he, fin⟩
  · exact or_notN pins s σ H _ _ v u Q I rx ry ⟨as, S, _, _, sim, hd, he, fin⟩
  · exact or_in hu pins s σ H _ _ v u Q I rx ry ⟨as, S, _, _, sim, hd, he, fin⟩
  · exact or_notIn hu pins s σ H _ _ v u Q I rx ry ⟨as, S, _, _, sim, hd, he, fin⟩
  · exact fin.elim
end
end Pu

namespace HT
open PySem PyProof.Rows
section
variable {prog : Program} {w : World} {A : Around} {E : Value → Shared → Prop} {s : Shared}
theorem places_back (n : Nat) : Builtin.Slice.slicePlaces ((n : Int) - 1) (-1) (-1) = n := by
  unfold Builtin.Slice.slicePlaces
  have h1 : ¬ ((-1 : Int) > 0) := by omega
  simp only [h1, if_false]
  split
  · rename_i h
    first
      | omega
      | (rw [show (- (-1 : Int)) = 1 by decide, Int.ediv_one]; omega)
      | (simp; omega)
  · omega
theorem adjust_back (n : Nat) : Builtin.Slice.sliceAdjust none none (-1) (n : Int) = ((n : Int) - 1, -1) := by
  have h1 : ((-1 : Int) < 0) := by omega
  unfold Builtin.Slice.sliceAdjust
  simp only [h1, if_true]
theorem sliceApplied_back {sl : Addr} {vl vu vs : Value} {n : Nat} {Q : Int × Int × Nat → Shared → Prop} (hs : s.heap.IsSliceOf sl vl vu vs) (pl : IsPart vl none) (pu : IsPart vu none) (ps : IsPart vs (some (-1)))
    (h : Q ((n : Int) - 1, -1, n) s) : wpAny (model prog w) A (Builtin.Slice.sliceApplied (.ref sl) (pure (n : Int))) Q E s := by
  obtain ⟨os, hos, hcs, hds⟩ := id hs
  unfold Builtin.Slice.sliceApplied Builtin.Slice.sliceFields
  refine wpAny_bind (wpAny_bind (wpAny_field hos hds (x := vl) rfl (wpAny_bind (wpAny_field hos hds (x := vu) rfl (wpAny_bind (wpAny_field hos hds (x := vs) rfl (wpAny_pure ?_)))))))
  refine wpAny_bind (slicePart_ ps ?_)
  show wpAny _ _ (if ((-1 : Int) == 0) = true then _ else _) _ _ s
  rw [if_neg (by decide)]
  refine wpAny_bind (slicePart_ pl (wpAny_bind (slicePart_ pu (wpAny_bind (wpAny_pure ?_)))))
  show wpAny _ _ (match Builtin.Slice.sliceAdjust none none (-1) (n : Int) with | (lo, hi) => pure (lo, (-1 : Int), Builtin.Slice.slicePlaces lo hi (-1))) _ _ s
  rw [adjust_back n]
  show wpAny _ _ (pure ((n : Int) - 1, (-1 : Int), Builtin.Slice.slicePlaces ((n : Int) - 1) (-1) (-1))) _ _ s
  rw [places_back]
  exact wpAny_pure h
theorem pick_back (xs : Array Value) : ((List.range xs.size).filterMap fun (m : Nat) => xs[(((xs.size : Int) - 1) + (m : Int) * (-1)).toNat]?).toArray = xs.toList.reverse.toArray := by
  congr 1
  apply List.ext_getElem?
  intro i
  have e : ∀ (l : List Nat), (∀ m ∈ l, m < xs.size) → l.filterMap (fun (m : Nat) => xs[(((xs.size : Int) - 1) + (m : Int) * (-1)).toNat]?) = l.map fun m => xs.toList.reverse.getD m .none := by
    intro l
    induction l with
    | nil => intro _; rfl
    | cons a l ih =>
      intro h
      have ha : a < xs.size := h a List.mem_cons_self
      have e1 : (((xs.size : Int) - 1) + (a : Int) * (-1)).toNat = xs.size - 1 - a := by omega
      have e2 : xs[xs.size - 1 - a]? = some (xs.toList.reverse.getD a .none) := by
        rw [List.getD_eq_getElem?_getD, List.getElem?_reverse (by simpa using ha)]
        have h3 : xs.size - 1 - a < xs.size := by omega
        rw [show xs.toList.length = xs.size by simp, Array.getElem?_toList, Array.getElem?_eq_getElem h3]
        rfl
      rw [List.filterMap_cons, e1, e2, List.map_cons, ih fun m hm => h m (List.mem_cons_of_mem _ hm)]
  rw [e _ fun m hm => List.mem_range.mp hm]
  by_cases hi : i < xs.size
  · rw [List.getElem?_map, List.getElem?_range hi]
    have h4 : i < xs.toList.reverse.length := by simpa using hi
    rw [List.getElem?_eq_getElem h4]
    show some (xs.toList.reverse.getD i .none) = _
    rw [List.getD_eq_getElem?_getD, List.getElem?_eq_getElem h4]
    rfl
  · rw [List.getElem?_eq_none (by simp; omega), List.getElem?_eq_none (by simp; omega)]
theorem getItem_tuple_back {t sl : Addr} {items : Array Value} {vl vu vs : Value} {Q : Value → Shared → Prop} (ht : IsTup s.heap t items) (hs : s.heap.IsSliceOf sl vl vu vs) (pl : IsPart vl none) (pu : IsPart vu none) (ps : IsPart vs (some (-1)))
    (h : Q (.ref s.heap.objs.size) { s with heap := s.heap.push { cls := .type "tuple", data := .seq items.toList.reverse.toArray } })
    (hsz : items.size ≤ sizeLine) : wpAny (model prog w) A (getItem (.ref t) (.ref sl)) Q E s := by
  have htake : sizeOk (.seq items.toList.reverse.toArray) := by
    show items.toList.reverse.toArray.size ≤ sizeLine
    simp; omega
  obtain ⟨os, hos, hcs, hds⟩ := id hs
  have hTs : s.TypeIs (.ref sl) "slice" := ⟨os, hos, hcs⟩
  unfold getItem
  try with_reducible refine wpAny_holding ?_
  first | refine wpAny_bind (wpAny_pure ?_) | skip
  refine wpAny_bind (wpAny_sequenceKey ht.typeIs (by decide) ?_)
  refine wpAny_bind (wpAny_callSpecial?_slot (name := Str.ofString "__getitem__") ht.typeIs PyProof.Rows.slot_tuple_getitem
    (wpAny_call_entry PyProof.Rows.slot_tuple_getitem ht.typeIs entry_tuple_getitem ?_ (args_tuple_getitem _ _)))
  show wpAny _ _ (Builtin.Tuple.tupleItemsOf (.ref t) >>= _) _ _ s
  refine wpAny_bind (tupleItemsOf_ ht ?_)
  refine wpAny_bind (wpAny_typeOf hTs ?_)
  rw [if_pos (by decide)]
  refine wpAny_bind (sliceApplied_back (n := items.size) hs pl pu ps ?_)
  have hno : ¬ ((((items.size : Int) - 1) == 0 && (-1 : Int) == 1 && items.size == items.size) = true) := by
    intro q
    rw [Bool.and_eq_true, Bool.and_eq_true] at q
    exact absurd q.1.2 (by decide)
  show wpAny _ _ (if (((items.size : Int) - 1) == 0 && (-1 : Int) == 1 && items.size == items.size) = true then _ else _) _ _ s
  rw [if_neg hno, pick_back]
  first
    | exact wpAny_bind (m := Builtin.Tuple.tupleExact _) (wpAny_newObj_type (wpAny_pure ⟨_, rfl, wpAny_pure h⟩) htake)
    | exact wpAny_bind (m := Builtin.Tuple.tupleExact _) (wpAny_newObj_type (wpAny_bind (wpAny_pure (wpAny_pure ⟨_, rfl, wpAny_pure h⟩))) htake)
    | exact wpAny_bind (wpAny_bind (m := Builtin.Tuple.tupleExact _) (wpAny_newObj_type (wpAny_pure (wpAny_pure ⟨_, rfl, wpAny_pure h⟩)) htake))
    | exact wpAny_bind (wpAny_bind (m := Builtin.Tuple.tupleExact _) (wpAny_newObj_type (wpAny_pure ⟨_, rfl, wpAny_pure h⟩) htake))
end
end HT
namespace L2
open PySem PySem.Spec PyProof.Rows
/-- e[::-1], a list's or a tuple's -/
def tRevA (K : PySem.W.Frag) (te : TE) : TE := fun σ H Q => te σ H fun x H1 => ∃ a xs, x = .ref a ∧
  ((SqL K H1 a xs ∧ ∀ p, H1 p = none → Q (.ref p) (upd H1 p (.lst xs.reverse))) ∨ (SqT K H1 a xs ∧ ∀ p, H1 p = none → Q (.ref p) (upd H1 p (.tup xs.reverse))))
theorem pe_revA {X : Cx} {e : Expr} {te : TE} {k : Nat} {p1 p2 p3 pos : Pos} (he : PE X e te) : PE X (.Subscript e (.Slice none none (some (.UnaryOp .USub (.Constant (.int 1) k p1) p2)) p3) pos) (tRevA X.K te) := by
  refine ⟨fun pins s σ H Q I h => ?_⟩
  refine Subscript_ (thn (he.run pins s σ H _ I h) fun v s1 ⟨x, H1, I1, r1, q1⟩ => ?_)
  obtain ⟨a, xs, ex, hx⟩ := q1
  subst ex
  cases r1
  have hst : PO X (some (.UnaryOp .USub (.Constant (.int 1) k p1) p2)) (tPart (tUn (rU fun i => .int (-i)) (tC (.int 1)))) := po_some (pe_un un_neg pe_int)
  refine wpAny_Slice (thn (po_none.run pins s1 σ H1 (fun o H2 => o = none ∧ H2 = H1) I1 ⟨rfl, rfl⟩) fun vl s2 ⟨l, H2, I2, pl, el, e2⟩ => ?_)
  subst el e2
  refine thn (po_none.run pins s2 σ H2 (fun o H3 => o = none ∧ H3 = H2) I2 ⟨rfl, rfl⟩) fun vu s3 ⟨u, H3, I3, pu, eu, e3⟩ => ?_
  subst eu e3
  refine thn (hst.run pins s3 σ H3 (fun o H4 => o = some (-1) ∧ H4 = H3) I3 ⟨1, rfl, -1, rfl, rfl, rfl⟩) fun vs s4 ⟨o, H4, I4, ps, eo, e4⟩ => ?_
  subst eo e4
  have I5 : Inv X pins σ H4 { s4 with heap := s4.heap.push { cls := .type "slice", data := .fields #[vl, vu, vs] } } := I4.kept (t' := s4.toks) fun b ob q => Heap.get?_push_of_some _ q
  show wpAny (model X.prog X.w) X.A (subscriptTail e (.Slice none none (some (.UnaryOp .USub (.Constant (.int 1) k p1) p2)) p3) (.ref a) (.ref s4.heap.objs.size)) (EP X pins σ Q) X.xe { s4 with heap := s4.heap.push { cls := .type "slice", data := .fields #[vl, vu, vs] } }
  rcases hx with ⟨hx, q⟩ | ⟨hx, q⟩
  · obtain ⟨its, r, ht, hz⟩ := I5.list hx
    have hlen := r.length
    refine tail_any (ops := [.ref a, .ref s4.heap.objs.size]) ht.isList.typeIs (PySem.slot_list_getitem.lookup) ?_ (by with_unfolding_all rfl)
    refine wpAny_getItem_list_slice ht.isList (Heap.IsSliceOf.new _ vl vu vs) pl pu ps (by decide) ?_ (by rw [List.size_toArray]; omega)
    rw [PySem.W.krv_pick]
    refine ⟨.ref _, _, I5.laid (t' := s4.toks) (o := .lst xs.reverse) (fun b ob q => Heap.get?_push_of_some _ q) (Nat.le_refl _) ?_, rfl, q _ (I5.hok.fresh (Nat.le_refl _))⟩
    exact ⟨by rw [List.length_reverse]; exact hz, _, 0, r.reverse, Heap.get?_push_size _ rfl⟩
  · obtain ⟨its, r, ht, hz⟩ := I5.tuple hx
    have hlen := r.length
    refine tail_any (ops := [.ref a, .ref s4.heap.objs.size]) ht.typeIs (PyProof.Rows.slot_tuple_getitem.lookup) ?_ (by with_unfolding_all rfl)
    refine HT.getItem_tuple_back ht (Heap.IsSliceOf.new _ vl vu vs) pl pu ps ?_ (by rw [List.size_toArray]; omega)
    refine ⟨.ref _, _, I5.laid (t' := s4.toks) (o := .tup xs.reverse) (fun b ob q => Heap.get?_push_of_some _ q) (Nat.le_refl _) ?_, rfl, q _ (I5.hok.fresh (Nat.le_refl _))⟩
    exact ⟨by rw [List.length_reverse]; exact hz, _, r.reverse, IsTup.new _ _⟩
end L2

namespace Pu
open PySem PySem.Spec PyProof.Rows L2
/-! ## sorted(xs) of a tuple of ints: the items are gathered in a new list, a second one is sorted -/
def gathH (h : Heap) (vs : List Value) : Heap := Heap.update (h.push (seqObj "list" #[] 0)) h.objs.size (Obj.mapSeq fun (us : Array Value) => us ++ vs.toArray)
def twoH (h : Heap) (vs : List Value) : Heap := (gathH h vs).push (seqObj "list" vs.toArray 0)
theorem gathH_size (h : Heap) (vs : List Value) : (gathH h vs).objs.size = h.objs.size + 1 := by
  unfold gathH
  rw [Heap.size_update, size_push']
theorem gathH_old {h : Heap} {vs : List Value} {b : Addr} {o : Obj} (q : h.get? b = some o) : (gathH h vs).get? b = some o := by
  have lt := Heap.lt_size q
  exact (Heap.get?_update_ne _ _ _ _ (Nat.ne_of_lt lt)).trans (Heap.get?_push_of_some _ q)
theorem twoH_new (h : Heap) (vs : List Value) : (twoH h vs).get? (h.objs.size + 1) = some (seqObj "list" vs.toArray 0) := by
  have e := gathH_size h vs
  have z : (twoH h vs).get? (gathH h vs).objs.size = some (seqObj "list" vs.toArray 0) := Heap.get?_push_size _ rfl
  rwa [e] at z
theorem twoH_old {h : Heap} {vs : List Value} {b : Addr} {o : Obj} (q : h.get? b = some o) : (twoH h vs).get? b = some o := Heap.get?_push_of_some _ (gathH_old q)
section
variable {P : Program} {w : World} {A : Around} {E : Value → Shared → Prop} {s : Shared}
theorem gath_tup {l : Addr} {vs : List Value} {Q : List Value → Shared → Prop} (hl : s.heap.IsTuple l vs.toArray) (hz : vs.length ≤ sizeLine) (h : Q vs { s with heap := gathH s.heap vs }) :
    wpAny (model P w) A (collect (.ref l)) Q E s := by
  obtain ⟨o, ho, hc, n, hd⟩ := hl
  have fresh : (s.heap.push (seqObj "list" #[] 0)).get? s.heap.objs.size = some (seqObj "list" #[] 0) := Heap.get?_push_size _ rfl
  have there : (gathH s.heap vs).get? s.heap.objs.size = some _ := get?_update_seq fresh fun us => us ++ vs.toArray
  have same : ((#[] : Array Value) ++ vs.toArray).toList = vs := by simp
  have key : ∀ R : Result → Shared → Prop, R (.ok (.ret (.ref s.heap.objs.size))) { s with heap := gathH s.heap vs } → codeAny (model P w) A (.builtin "proto.collect" ⟨[.ref l], []⟩) R s := fun R r => by
    apply codeAny_builtin entry_proto_collect'
    apply wpAny_bind
    refine wpAny_newList ?_ (Nat.zero_le _)
    apply wpAny_pure
    refine ⟨Code.quiet_builtin _ (by decide +kernel), codeAny_builtin entry_list_iadd' ?_⟩
    exact wpAny_extend_seq (R := R) (s := { s with heap := s.heap.push (seqObj "list" #[] 0) }) s.heap.objs.size l (.ref s.heap.objs.size) 0 (.inr rfl) fresh (Heap.get?_push_of_some _ ho) hc hd r (by simpa using hz)
  unfold collect
  apply wpAny_bind
  refine wpAny_runValue (key _ ?_)
  apply wpAny_bind
  refine wpAny_load there ?_
  show wpAny _ _ (pure ((#[] : Array Value) ++ vs.toArray).toList) Q E _
  rw [same]
  exact wpAny_pure h
theorem sorted_tup {l : Addr} {vs : List Value} {lt : Value → Value → Bool} {Q : Value → Shared → Prop} (O : SrtO.Swo lt) (hl : s.heap.IsTuple l vs.toArray) (hz : vs.length ≤ sizeLine)
    (hS : 2 ≤ vs.length → SrtO.SortableO P w A.in1.in1 { s with heap := twoH s.heap vs } (s.heap.objs.size + 1) vs lt)
    (h : ∀ out : List Value, SrtO.Srtd lt out → SrtO.Stb lt out vs → Q (.ref (s.heap.objs.size + 1)) { s with heap := sortedAll s.heap vs out.toArray }) :
    wpAny (model P w) A (call (.builtin "sorted") [.ref l]) Q E s := by
  have fin := fun (out : List Value) (a : SrtO.Srtd lt out) (b : SrtO.Stb lt out vs) => h out a b
  apply Calls.call_function_entry kind_sorted plain_sorted entry_sorted (args_sorted1 _)
  unfold Builtin.sorted
  apply wpAny_bind
  apply wpAny_pure
  apply wpAny_bind
  apply gath_tup hl hz
  apply wpAny_bind
  refine wpAny_newList ?_ hz
  have big := twoH_new s.heap vs
  show wpAny _ _ _ _ _ { s with heap := twoH s.heap vs }
  dsimp only
  rw [gathH_size]
  apply wpAny_bind
  apply wpAny_holding
  refine wpAny_call_entry slot_list_sort ⟨_, big, rfl⟩ entry_list_sort ?_ (args_list_sort _)
  refine SrtO.list_sort_ord O big hz hS fun out a b => ⟨_, rfl, ?_⟩
  exact wpAny_pure ⟨_, rfl, fin out a b⟩
end
variable {X : Cx}
def rSortedIT (K : PySem.W.Frag) : List V → Hp → VK → Prop := fun vs H Q => ∃ (a : Addr) (ns : List Int), vs = [V.ref a] ∧ SqT K H a (ns.map V.int) ∧
  ∀ (ns' : List Int) (p : Addr), ns'.Perm ns → ns'.Pairwise (fun i j => i ≤ j) → H p = none → Q (.ref p) (upd H p (.lst (ns'.map V.int)))
theorem cr_sortedIT : CallR X (.builtin "sorted") (rSortedIT X.K) := fun pins s σ H vs us Q I r h => by
  obtain ⟨a, ns, rfl, hs, q⟩ := h
  obtain ⟨its, rv, tup, hz⟩ := I.tuple hs
  have hz' : its.length ≤ sizeLine := rv.length ▸ hz
  rw [Vals.ref1 r]
  refine sorted_tup SrtO.swo_int (show s.heap.IsTuple a its.toArray from tup) hz' (fun two => SrtO.ints_sortable rv.ints two) fun out up st => ?_
  obtain ⟨are, perm, rises⟩ := SrtO.ints_out rv.ints up st
  obtain ⟨ep, lies⟩ := PyProof.Rows.sortedAll_at s.heap its out.toArray
  have few : ((out.map SrtO.iv).map V.int).length ≤ sizeLine := by
    have := perm.length_eq
    simp only [List.length_map] at this hz ⊢
    omega
  refine ⟨.ref _, upd H (s.heap.objs.size + 1) (.lst ((out.map SrtO.iv).map V.int)), ?_, rfl, q _ _ perm rises (I.hok.fresh (Nat.le_succ _))⟩
  exact I.laid (t' := s.toks) (fun _ _ => PyProof.Rows.sortedAll_old) (Nat.le_succ _) ⟨few, out, ep, vals_of_ints are, lies⟩
end Pu

namespace Pu
open PySem PySem.Spec PyProof.Rows L2
section
variable {X : Cx} {mg : Str → Option Value} {E : XK}

theorem Reps.atI {K : PySem.W.Frag} {as : List Addr} {H : Hp} {ds : List D} {vs : List V} {i : Int} {d : D} (r : Reps K as H ds vs) (h : L2.atI ds i = some d) : ∃ v, L2.atI vs i = some v ∧ Rep K as H d v := by
  unfold L2.atI at h ⊢
  rw [r.length]
  cases q : ixN ds.length i with
  | none => rw [q] at h; cases h
  | some j =>
    rw [q] at h
    obtain ⟨v, h1, h2⟩ := r.get (i := j) h
    exact ⟨v, h1, h2⟩
theorem xr_idx : IxR X (rD2 X.K mg E idxM) := by
  intro value slice pins s σ H x y v u Q I rx ry h hs
  obtain ⟨as, S, d, e, sim, hd, he, fin⟩ := h
  unfold idxM at fin
  split at fin
  · split at fin
    · rename_i xs hx
      split at fin
      · rename_i z hz
        cases he
        obtain ⟨a, vs, rfl, hq, r⟩ := seq_ok sim hx hd
        obtain ⟨w, hw, rw'⟩ := r.atI hz
        rcases hq with hq | hq
        · exact ix_list value slice pins s σ H _ _ v u Q I rx ry ⟨a, vs, _, w, rfl, rfl, hq, hw, fin.ret sim rw'⟩ hs
        · exact ix_tup value slice pins s σ H _ _ v u Q I rx ry ⟨a, vs, _, w, rfl, rfl, hq, hw, fin.ret sim rw'⟩ hs
      · exact fin.elim
    · exact fin.elim
  · exact fin.elim
/-! ## slices -/
theorem Reps.cut {K : PySem.W.Frag} {as : List Addr} {H : Hp} {ds : List D} {vs : List V} (lo hi : Option Int) (r : Reps K as H ds vs) : Reps K as H (cutD ds lo hi) (cutV vs lo hi) := by
  unfold cutD cutV
  rw [r.length]
  exact (r.drop _).take _
def rSl (K : PySem.W.Frag) (mg : Str → Option Value) (E : XK) (own : Bool) : V → Option Int → Option Int → Hp → VK → Prop := fun x lo hi H Q => ∃ as S d, Sim K as S H ∧ Rep K as H d x ∧ Fin K mg E (Rep K) as H (slcP own d lo hi S) Q
theorem sr_slc (own : Bool) : SlR X (rSl X.K mg E own) := by
  intro pins s σ H x v vl vu lo hi sl Q I rx hs pl pu h
  obtain ⟨as, S, d, sim, hd, fin⟩ := h
  unfold slcP at fin
  split at fin
  · obtain ⟨a, vs, rfl, ha, r⟩ := hd
    refine sl_tupA pins s σ H _ v vl vu lo hi sl Q I rx hs pl pu ⟨a, vs, rfl, ha, fun hw => ?_, fun _ p hp => ?_⟩
    · refine fin.ret sim ⟨a, vs, rfl, ha, ?_⟩
      have := r.cut lo hi
      have e : cutV vs lo hi = vs := by
        unfold cutV
        rw [hw.1, hw.2]
        simp
      rw [e] at this; exact this
    · exact fin as _ _ (Ext.fixed hp) (sim.fixed hp) ⟨p, _, rfl, SqT.of upd_same, (r.cut lo hi).mono (Ext.fixed hp)⟩
  · split at fin
    · rename_i xs hx
      obtain ⟨a, vs, rfl, ha, r⟩ := lst_ok sim hx hd
      obtain ⟨T, id, h1, h2, h3⟩ := sl_list pins s σ H _ v vl vu lo hi sl _ I rx hs pl pu ⟨a, vs, rfl, ha, (fin_L fin sim (r.cut lo hi)).2⟩
      exact ⟨T, id, h1, h2, ql (own := own) h3⟩
    · exact fin.elim
/-! ## truth -/
theorem tr_tru {K : PySem.W.Frag} {as : List Addr} {H : Hp} {S : Sto} {d : D} {x : V} {Q : Bool → Hp → Prop} (sim : Sim K as S H) (r : Rep K as H d x) (fin : Fin K mg E RlB as H (truM d S) Q) : ∃ k, TruV K x H k ∧ Q k H := by
  unfold truM at fin
  split at fin
  · cases r; exact ⟨_, rfl, fin.ret sim rfl⟩
  · cases r; exact ⟨_, rfl, fin.ret sim rfl⟩
  · cases r; exact ⟨_, rfl, fin.ret sim rfl⟩
  · split at fin
    · rename_i h
      cases r
      rw [line_eq] at h
      rename_i y
      refine ⟨(y.length != 0), ⟨h, ?_⟩, fin.ret sim rfl⟩
      by_cases z : y.length = 0
      · rw [z]; rfl
      · have z2 : (y.length : Int) ≠ 0 := by omega
        rw [bne_iff_ne.mpr z, bne_iff_ne.mpr z2]
    · exact fin.elim
  · split at fin
    · rename_i xs hx
      obtain ⟨a, vs, rfl, hq, rr⟩ := seq_ok sim hx r
      have e : (!xs.isEmpty) = !vs.isEmpty := by
        have := rr.length
        cases xs <;> cases vs <;> simp_all
      refine ⟨!vs.isEmpty, ?_, by rw [← e]; exact fin.ret sim rfl⟩
      rcases hq with hq | hq
      · exact .inl ⟨vs, hq, rfl⟩
      · exact .inr (.inl ⟨vs, hq, rfl⟩)
    · exact fin.elim
/-! ## built-ins -/
def rDs (K : PySem.W.Frag) (mg : Str → Option Value) (E : XK) (g : List D → M D) : List V → Hp → VK → Prop := fun xs H Q => ∃ as S ds, Sim K as S H ∧ Reps K as H ds xs ∧ Fin K mg E (Rep K) as H (g ds S) Q
theorem rs1 {K : PySem.W.Frag} {as : List Addr} {H : Hp} {d : D} {xs : List V} (r : Reps K as H [d] xs) : ∃ x, xs = [x] ∧ Rep K as H d x := by
  obtain ⟨v, t, rfl, h2, h3⟩ := r
  have h3 : t = [] := h3
  subst h3
  exact ⟨v, rfl, h2⟩
theorem rs2 {K : PySem.W.Frag} {as : List Addr} {H : Hp} {d e : D} {xs : List V} (r : Reps K as H [d, e] xs) : ∃ x y, xs = [x, y] ∧ Rep K as H d x ∧ Rep K as H e y := by
  obtain ⟨v, t, rfl, h2, h3⟩ := r
  obtain ⟨y, rfl, h4⟩ := rs1 h3
  exact ⟨v, y, rfl, h2, h4⟩
theorem mem_perm_eq {ns ms : List Int} (p : ns.Perm ms) (s : ns.Pairwise (· ≤ ·)) : ns = sortI ms := by
  have h1 : (sortI ms).Pairwise (fun a b : Int => a ≤ b) := by
    have := List.pairwise_mergeSort (le := fun a b : Int => decide (a ≤ b)) (fun a b c h1 h2 => by simp at *; omega) (fun a b => by simp; omega) ms
    exact this.imp fun h => by simpa using h
  have h2 : (sortI ms).Perm ms := List.mergeSort_perm ms _
  exact (p.trans h2.symm).eq_of_pairwise (fun a b _ _ h1 h2 => by omega) s h1
theorem least_ok : ∀ {ns : List Int} {m : Int}, leastI ns = some m → m ∈ ns ∧ ∀ y ∈ ns, m ≤ y := by
  have go : ∀ (r : List Int) (a : Int), (r.foldl (fun a b => if b < a then b else a) a = a ∨ r.foldl (fun a b => if b < a then b else a) a ∈ r) ∧ r.foldl (fun a b => if b < a then b else a) a ≤ a ∧ ∀ y ∈ r, r.foldl (fun a b => if b < a then b else a) a ≤ y := by
    intro r
    induction r with
    | nil => intro a; simp
    | cons b r ih =>
      intro a
      obtain ⟨h1, h2, h3⟩ := ih (if b < a then b else a)
      simp only [List.foldl_cons]
      refine ⟨?_, ?_, ?_⟩
      · rcases h1 with h1 | h1
        · by_cases hb : b < a
          · rw [if_pos hb] at h1 ⊢; rw [h1]; exact .inr List.mem_cons_self
          · rw [if_neg hb] at h1 ⊢; exact .inl h1
        · exact .inr (List.mem_cons_of_mem _ h1)
      · by_cases hb : b < a
        · rw [if_pos hb] at h2 ⊢; omega
        · rw [if_neg hb] at h2 ⊢; omega
      · intro y hy
        rcases List.mem_cons.mp hy with e | hy
        · subst e
          by_cases hb : y < a
          · rw [if_pos hb] at h2 ⊢; omega
          · rw [if_neg hb] at h2 ⊢; omega
        · exact h3 y hy
  intro ns m h
  cases ns with
  | nil => cases h
  | cons n r =>
    cases h
    obtain ⟨h1, h2, h3⟩ := go r n
    refine ⟨?_, fun y hy => ?_⟩
    · rcases h1 with h1 | h1
      · rw [h1]; exact List.mem_cons_self
      · exact List.mem_cons_of_mem _ h1
    · rcases List.mem_cons.mp hy with e | hy
      · subst e; exact h2
      · exact h3 y hy
theorem most_ok : ∀ {ns : List Int} {m : Int}, mostI ns = some m → m ∈ ns ∧ ∀ y ∈ ns, y ≤ m := by
  have go : ∀ (r : List Int) (a : Int), (r.foldl (fun a b => if a < b then b else a) a = a ∨ r.foldl (fun a b => if a < b then b else a) a ∈ r) ∧ a ≤ r.foldl (fun a b => if a < b then b else a) a ∧ ∀ y ∈ r, y ≤ r.foldl (fun a b => if a < b then b else a) a := by
    intro r
    induction r with
    | nil => intro a; simp
    | cons b r ih =>
      intro a
      obtain ⟨h1, h2, h3⟩ := ih (if a < b then b else a)
      simp only [List.foldl_cons]
      refine ⟨?_, ?_, ?_⟩
      · rcases h1 with h1 | h1
        · by_cases hb : a < b
          · rw [if_pos hb] at h1 ⊢; rw [h1]; exact .inr List.mem_cons_self
          · rw [if_neg hb] at h1 ⊢; exact .inl h1
        · exact .inr (List.mem_cons_of_mem _ h1)
      · by_cases hb : a < b
        · rw [if_pos hb] at h2 ⊢; omega
        · rw [if_neg hb] at h2 ⊢; omega
      · intro y hy
        rcases List.mem_cons.mp hy with e | hy
        · subst e
          by_cases hb : a < y
          · rw [if_pos hb] at h2 ⊢; omega
          · rw [if_neg hb] at h2 ⊢; omega
        · exact h3 y hy
  intro ns m h
  cases ns with
  | nil => cases h
  | cons n r =>
    cases h
    obtain ⟨h1, h2, h3⟩ := go r n
    refine ⟨?_, fun y hy => ?_⟩
    · rcases h1 with h1 | h1
      · rw [h1]; exact List.mem_cons_self
      · exact List.mem_cons_of_mem _ h1
    · rcases List.mem_cons.mp hy with e | hy
      · subst e; exact h2
      · exact h3 y hy
theorem ints_ok {K : PySem.W.Frag} {as : List Addr} {H : Hp} {S : Sto} (sim : Sim K as S H) {d : D} {ns : List Int} {x : V} (h : lstInts d S = some ns) (r : Rep K as H d x) : ∃ a, x = .ref a ∧ SqL K H a (ns.map V.int) := by
  unfold lstInts at h
  cases q : lstOf d S with
  | none => rw [q] at h; cases h
  | some xs =>
    rw [q] at h
    obtain ⟨a, vs, rfl, ha, rr⟩ := lst_ok sim q r
    rw [asInts_eq h] at rr
    rw [rr.ints] at ha
    exact ⟨a, rfl, ha⟩
theorem cr_len' : CallR X (.builtin "len") (rDs X.K mg E lenM) := by
  intro pins s σ H xs us Q I rx h
  obtain ⟨as, S, ds, sim, hr, fin⟩ := h
  unfold lenM at fin
  split at fin
  · split at fin
    · rename_i h
      rw [line_eq] at h
      obtain ⟨x, rfl, rfl⟩ := rs1 hr
      exact call_len_str pins s σ H _ us Q I rx ⟨_, rfl, h, fin.ret sim rfl⟩
    · exact fin.elim
  · dsimp only at fin
    split at fin
    · rename_i ys hy
      obtain ⟨x, rfl, r⟩ := rs1 hr
      obtain ⟨a, vs, rfl, hq, rr⟩ := seq_ok sim hy r
      refine call_len_seq pins s σ H _ us Q I rx ⟨a, vs, rfl, hq, ?_⟩
      rw [rr.length]
      exact fin.ret sim rfl
    · exact fin.elim
  · exact fin.elim
theorem bools_ok {K : PySem.W.Frag} {as : List Addr} {H : Hp} {S : Sto} (sim : Sim K as S H) {d : D} {ns : List Bool} {x : V} (h : (lstOf d S).bind asBools = some ns) (r : Rep K as H d x) : ∃ a, x = .ref a ∧ SqL K H a (ns.map V.bl) := by
  cases q : lstOf d S with
  | none => rw [q] at h; cases h
  | some xs =>
    rw [q] at h
    obtain ⟨a, vs, rfl, ha, rr⟩ := lst_ok sim q r
    rw [asBools_eq h] at rr
    rw [rr.bls] at ha
    exact ⟨a, rfl, ha⟩
theorem cr_all' (hc : X.calm = true) : CallR X (.builtin "all") (rDs X.K mg E allM) := by
  intro pins s σ H xs us Q I rx h
  obtain ⟨as, S, ds, sim, hr, fin⟩ := h
  unfold allM at fin
  split at fin
  · split at fin
    · rename_i bs hb
      obtain ⟨x, rfl, r⟩ := rs1 hr
      obtain ⟨a, rfl, ha⟩ := bools_ok sim hb r
      exact cr_all hc pins s σ H _ us Q I rx ⟨a, bs, rfl, ha, fin.ret sim rfl⟩
    · exact fin.elim
  · exact fin.elim
theorem cr_any' (hc : X.calm = true) : CallR X (.builtin "any") (rDs X.K mg E anyM) := by
  intro pins s σ H xs us Q I rx h
  obtain ⟨as, S, ds, sim, hr, fin⟩ := h
  unfold anyM at fin
  split at fin
  · split at fin
    · rename_i bs hb
      obtain ⟨x, rfl, r⟩ := rs1 hr
      obtain ⟨a, rfl, ha⟩ := bools_ok sim hb r
      exact cr_any hc pins s σ H _ us Q I rx ⟨a, bs, rfl, ha, fin.ret sim rfl⟩
    · exact fin.elim
  · exact fin.elim
theorem cr_abs' : CallR X (.builtin "abs") (rDs X.K mg E absM) := by
  intro pins s σ H xs us Q I rx h
  obtain ⟨as, S, ds, sim, hr, fin⟩ := h
  unfold absM at fin
  split at fin
  · obtain ⟨x, rfl, rfl⟩ := rs1 hr
    exact call_abs pins s σ H _ us Q I rx ⟨_, rfl, Fin.ret fin sim rfl⟩
  · exact fin.elim
theorem cr_int' : CallR X (.type "int") (rDs X.K mg E intM) := by
  intro pins s σ H xs us Q I rx h
  obtain ⟨as, S, ds, sim, hr, fin⟩ := h
  unfold intM at fin
  split at fin
  · obtain ⟨x, rfl, rfl⟩ := rs1 hr
    exact call_int1 pins s σ H _ us Q I rx (.inl ⟨_, rfl, Fin.ret fin sim rfl⟩)
  · obtain ⟨x, rfl, rfl⟩ := rs1 hr
    exact call_int1 pins s σ H _ us Q I rx (.inr ⟨_, rfl, Fin.ret fin sim rfl⟩)
  · exact fin.elim
theorem cr_list' (own : Bool) : CallR X (.type "list") (rDs X.K mg E (listM own)) := by
  intro pins s σ H xs us Q I rx h
  obtain ⟨as, S, ds, sim, hr, fin⟩ := h
  unfold listM at fin
  split at fin
  · split at fin
    · rename_i ys hy
      obtain ⟨x, rfl, r⟩ := rs1 hr
      obtain ⟨a, vs, rfl, hq, rr⟩ := seq_ok sim hy r
      exact ql (own := own) (call_list_of pins s σ H _ us _ I rx ⟨a, vs, rfl, hq, (fin_L fin sim rr).2⟩)
    · exact fin.elim
  · exact fin.elim
theorem cr_tuple' : CallR X (.type "tuple") (rDs X.K mg E tupleM) := by
  intro pins s σ H xs us Q I rx h
  obtain ⟨as, S, ds, sim, hr, fin⟩ := h
  unfold tupleM at fin
  split at fin
  · split at fin
    · rename_i ys hy
      obtain ⟨x, rfl, r⟩ := rs1 hr
      obtain ⟨a, vs, rfl, hq, rr⟩ := seq_ok sim hy r
      refine call_tuple_of pins s σ H _ us Q I rx ⟨a, vs, rfl, ?_⟩
      rcases hq with hq | hq
      · exact .inl ⟨hq, fun p hp => fin as _ _ (Ext.fixed hp) (sim.fixed hp) ⟨p, vs, rfl, SqT.of upd_same, rr.mono (Ext.fixed hp)⟩⟩
      · exact .inr ⟨hq, fin.ret sim ⟨a, vs, rfl, hq, rr⟩⟩
    · exact fin.elim
  · exact fin.elim
theorem cr_sorted' (own : Bool) : CallR X (.builtin "sorted") (rDs X.K mg E (sortedM own)) := by
  intro pins s σ H xs us Q I rx h
  obtain ⟨as, S, ds, sim, hr, fin⟩ := h
  unfold sortedM at fin
  split at fin
  · split at fin
    · rename_i ns hn
      obtain ⟨x, rfl, r⟩ := rs1 hr
      obtain ⟨ys, hy, hi⟩ := Option.bind_eq_some_iff.mp hn
      obtain ⟨a, vs, rfl, hq, rr⟩ := seq_ok sim hy r
      rw [asInts_eq hi] at rr
      rw [rr.ints] at hq
      rcases hq with ha | ha
      · refine ql (own := own) (cr_sortedI pins s σ H _ us _ I rx ⟨a, ns, rfl, ha, fun ns' p hp hs hf => ?_⟩)
        rw [mem_perm_eq hp hs]
        exact (fin_L fin sim (Reps.of_ints _)).2 p hf
      · refine ql (own := own) (cr_sortedIT pins s σ H _ us _ I rx ⟨a, ns, rfl, ha, fun ns' p hp hs hf => ?_⟩)
        rw [mem_perm_eq hp hs]
        exact (fin_L fin sim (Reps.of_ints _)).2 p hf
    · exact fin.elim
  · exact fin.elim
theorem cr_sum' (hc : X.calm = true) : CallR X (.builtin "sum") (rDs X.K mg E sumM) := by
  intro pins s σ H xs us Q I rx h
  obtain ⟨as, S, ds, sim, hr, fin⟩ := h
  unfold sumM at fin
  split at fin
  · split at fin
    · rename_i ns hn
      obtain ⟨x, rfl, r⟩ := rs1 hr
      obtain ⟨a, rfl, ha⟩ := ints_ok sim hn r
      exact cr_sum hc pins s σ H _ us Q I rx ⟨a, ns, rfl, ha, fin.ret sim rfl⟩
    · exact fin.elim
  · exact fin.elim
theorem cr_min1' (hc : X.calm = true) : CallR X (.builtin "min") (rDs X.K mg E min1M) := by
  intro pins s σ H xs us Q I rx h
  obtain ⟨as, S, ds, sim, hr, fin⟩ := h
  unfold min1M at fin
  split at fin
  · rename_i d
    split at fin
    · rename_i n hn
      obtain ⟨x, rfl, r⟩ := rs1 hr
      cases q : lstInts d S with
      | none => rw [q] at hn; cases hn
      | some ns =>
        rw [q] at hn
        have hn : leastI ns = some n := hn
        obtain ⟨a, rfl, ha⟩ := ints_ok sim q r
        obtain ⟨l1, l2⟩ := least_ok hn
        refine cr_min hc pins s σ H _ us Q I rx ⟨a, ns, rfl, ha, List.length_pos_of_mem l1, fun m hm hle => ?_⟩
        have e1 := hle n l1
        have e2 := l2 m hm
        have : m = n := by omega
        subst this
        exact fin.ret sim rfl
    · exact fin.elim
  · exact fin.elim
theorem cr_max1' (hc : X.calm = true) : CallR X (.builtin "max") (rDs X.K mg E max1M) := by
  intro pins s σ H xs us Q I rx h
  obtain ⟨as, S, ds, sim, hr, fin⟩ := h
  unfold max1M at fin
  split at fin
  · rename_i d
    split at fin
    · rename_i n hn
      obtain ⟨x, rfl, r⟩ := rs1 hr
      cases q : lstInts d S with
      | none => rw [q] at hn; cases hn
      | some ns =>
        rw [q] at hn
        have hn : mostI ns = some n := hn
        obtain ⟨a, rfl, ha⟩ := ints_ok sim q r
        obtain ⟨l1, l2⟩ := most_ok hn
        refine cr_max hc pins s σ H _ us Q I rx ⟨a, ns, rfl, ha, List.length_pos_of_mem l1, fun m hm hle => ?_⟩
        have e1 := hle n l1
        have e2 := l2 m hm
        have : m = n := by omega
        subst this
        exact fin.ret sim rfl
    · exact fin.elim
  · exact fin.elim
theorem cr_min2' (hc : X.calm = true) : CallR X (.builtin "min") (rDs X.K mg E min2M) := by
  intro pins s σ H xs us Q I rx h
  obtain ⟨as, S, ds, sim, hr, fin⟩ := h
  unfold min2M at fin
  split at fin
  · obtain ⟨x, y, rfl, rfl, rfl⟩ := rs2 hr
    exact call_min2 hc pins s σ H _ us Q I rx ⟨_, _, rfl, Fin.ret fin sim rfl⟩
  · exact fin.elim
theorem cr_max2' (hc : X.calm = true) : CallR X (.builtin "max") (rDs X.K mg E max2M) := by
  intro pins s σ H xs us Q I rx h
  obtain ⟨as, S, ds, sim, hr, fin⟩ := h
  unfold max2M at fin
  split at fin
  · obtain ⟨x, y, rfl, rfl, rfl⟩ := rs2 hr
    exact call_max2 hc pins s σ H _ us Q I rx ⟨_, _, rfl, Fin.ret fin sim rfl⟩
  · exact fin.elim
/-! ## methods -/
def rMt (K : PySem.W.Frag) (mg : Str → Option Value) (E : XK) (g : D → List D → M D) : V → List V → Hp → VK → Prop := fun x xs H Q => ∃ as S d ds, Sim K as S H ∧ Rep K as H d x ∧ Reps K as H ds xs ∧ Fin K mg E (Rep K) as H (g d ds S) Q
theorem own_ok {K : PySem.W.Frag} {as : List Addr} {H : Hp} {S : Sto} (sim : Sim K as S H) {i : Nat} {x : V} {xs : List D} (r : Rep K as H (.ref i) x) (h : S[i]? = some (.lst xs)) : ∃ a vs, x = .ref a ∧ as[i]? = some a ∧ H a = some (.lst vs) ∧ Reps K as H xs vs := by
  obtain ⟨a, ha, hx⟩ := r
  obtain ⟨o, ho, hr⟩ := sim.has ha
  rw [h] at ho; cases ho
  obtain ⟨vs, h1, h2⟩ := hr
  exact ⟨a, vs, hx, ha, h1, h2⟩
theorem fin_set {K : PySem.W.Frag} {as : List Addr} {H : Hp} {S : Sto} {α β : Type} {Rl : List Addr → Hp → α → β → Prop} {i : Nat} {a : Addr} {ys : List D} {us : List V} {y : α} {z : β} {Q : β → Hp → Prop} (fin : Fin K mg E Rl as H (.ok y (S.set i (.lst ys))) Q) (sim : Sim K as S H) (ha : as[i]? = some a)
    (r : Reps K as H ys us) (q : Rl as (upd H a (.lst us)) y z) : Q z (upd H a (.lst us)) :=
  fin as _ z (sim.ext ha) (sim.set ha ⟨us, upd_same, r.mono (sim.ext ha)⟩) q
theorem mr_append : MtM X "list.append" (rMt X.K mg E appendM) := by
  intro pins s σ H x xs v us Q I rx rv h
  obtain ⟨as, S, d, ds, sim, hd, hr, fin⟩ := h
  unfold appendM at fin
  split at fin
  · split at fin
    · rename_i ys hy
      split at fin
      · rename_i hl
        obtain ⟨z, rfl, rz⟩ := rs1 hr
        obtain ⟨a, vs, rfl, ha, hH, rr⟩ := own_ok sim hd hy
        rw [line_eq] at hl
        exact mt_append pins s σ H _ _ v us Q I rx rv ⟨a, vs, z, rfl, rfl, hH, by rw [rr.length]; exact hl, fin_set fin sim ha (rr.append (Reps.one rz)) rfl⟩
      · exact fin.elim
    · exact fin.elim
  · exact fin.elim
theorem mr_extend : MtM X "list.extend" (rMt X.K mg E extendM) := by
  intro pins s σ H x xs v us Q I rx rv h
  obtain ⟨as, S, d, ds, sim, hd, hr, fin⟩ := h
  unfold extendM at fin
  split at fin
  · split at fin
    · rename_i ys zs hy hz
      split at fin
      · rename_i hl
        obtain ⟨z, rfl, rz⟩ := rs1 hr
        obtain ⟨a, vs, rfl, ha, hH, rr⟩ := own_ok sim hd hy
        obtain ⟨b, ws, rfl, hb, r2⟩ := tls_ok sim hz rz
        rw [line_eq] at hl
        exact mt_extendR pins s σ H _ _ v us Q I rx rv ⟨a, b, vs, ws, rfl, rfl, hH, hb, by rw [rr.length, r2.length]; exact hl, fin_set fin sim ha (rr.append r2) rfl⟩
      · exact fin.elim
    · exact fin.elim
  · exact fin.elim
theorem mr_popAt : MtM X "list.pop" (rMt X.K mg E popAtM) := by
  intro pins s σ H x xs v us Q I rx rv h
  obtain ⟨as, S, d, ds, sim, hd, hr, fin⟩ := h
  unfold popAtM at fin
  split at fin
  · split at fin
    · rename_i ys hy
      split at fin
      · rename_i j hj
        split at fin
        · rename_i y hyj
          obtain ⟨z, rfl, rfl⟩ := rs1 hr
          obtain ⟨a, vs, rfl, ha, hH, rr⟩ := own_ok sim hd hy
          obtain ⟨w, hw, rw'⟩ := rr.get hyj
          rw [← rr.length] at hj
          obtain ⟨h1, h2, h3, h4⟩ := ixN_seq hj
          have hz : vs.length ≤ sizeLine := (I.lstM hH).1
          have hn := line63
          exact mt_popAt pins s σ H _ _ v us Q I rx rv ⟨a, vs, _, j, w, rfl, rfl, hH, by omega, by omega, h1, hw, fin_set fin sim ha (rr.eraseIdx j) (rw'.mono (sim.ext ha))⟩
        · exact fin.elim
      · exact fin.elim
    · exact fin.elim
  · exact fin.elim
/-! ## stores -/
theorem set_d : PSet X (fun o i v H Q => ∃ as S d e f, Sim X.K as S H ∧ Rep X.K as H d o ∧ Rep X.K as H e i ∧ Rep X.K as H f v ∧ Fin X.K mg E (fun _ _ (_ : Unit) (_ : Unit) => True) as H (stoM d e f S) (fun _ H' => Q H')) := by
  intro pins s σ H o i v ov iv u Q I ro ri rv h
  obtain ⟨as, S, d, e, f, sim, hd, he, hf, fin⟩ := h
  unfold stoM at fin
  split at fin
  · split at fin
    · rename_i ys hy
      split at fin
      · rename_i j hj
        cases he
        obtain ⟨a, vs, rfl, ha, hH, rr⟩ := own_ok sim hd hy
        rw [← rr.length] at hj
        exact set_list pins s σ H _ _ v ov iv u Q I ro ri rv ⟨a, vs, _, j, rfl, rfl, hH, hj, fin_set (z := ()) fin sim ha (rr.set hf j) trivial⟩
      · exact fin.elim
    · exact fin.elim
  · exact fin.elim
/-! ## isinstance -/
def tyName : Ty → String
  | .int => "int" | .bool => "bool" | .str => "str" | .tuple => "tuple" | .list => "list" | .dict => "dict"
theorem isT_ok {K : PySem.W.Frag} {t : Ty} {n : String} {b : Bool} (h : kitB n (tyName t) = some b) : PySem.W.kitOne K (.type n) (.type (tyName t)) = some b := kit_ty h
def isN (t : Ty) (n : String) : Bool := match t with
  | .int => n == "int" || n == "bool"
  | .bool => n == "bool"
  | .str => n == "str"
  | .tuple => n == "tuple"
  | .list => n == "list"
  | .dict => n == "dict"
theorem kit_all (t : Ty) : kitB "NoneType" (tyName t) = some (isN t "NoneType") ∧ kitB "bool" (tyName t) = some (isN t "bool") ∧ kitB "int" (tyName t) = some (isN t "int") ∧ kitB "str" (tyName t) = some (isN t "str")
    ∧ kitB "tuple" (tyName t) = some (isN t "tuple") ∧ kitB "list" (tyName t) = some (isN t "list") ∧ kitB "dict" (tyName t) = some (isN t "dict") := by
  cases t <;> decide +kernel
theorem frl_ty {K : PySem.W.Frag} {H : Hp} {a : Addr} {xs : List V} (h : FrL K H a xs) : TyX K H (.ref a) (.type "list") := by
  rcases h with ⟨o, h⟩ | ⟨o, its, n, h1, h2, _⟩
  · exact .base (.frz h)
  · exact .kList h1 h2
theorem sqt_ty {K : PySem.W.Frag} {H : Hp} {a : Addr} {xs : List V} (h : SqT K H a xs) : TyX K H (.ref a) (.type "tuple") := by
  rcases h with (h | ⟨o, h⟩) | ⟨o, its, n, h1, h2, _⟩
  · exact .base (.tup h)
  · exact .fTuple h
  · exact .kTuple h1 h2
theorem is_ok {K : PySem.W.Frag} {as : List Addr} {H : Hp} {S : Sto} (sim : Sim K as S H) {d : D} {t : Ty} {b : Bool} {x : V} (r : Rep K as H d x) (h : isK t d S = some b) :
    ∃ n, TyX K H x (.type n) ∧ PySem.W.kitOne K (.type n) (.type (tyName t)) = some b := by
  obtain ⟨k1, k2, k3, k4, k5, k6, k7⟩ := kit_all t
  cases d with
  | non => cases r; refine ⟨"NoneType", .base .non, isT_ok ?_⟩; rw [k1]; cases t <;> exact h
  | bl c => cases r; refine ⟨"bool", .base (.bl _), isT_ok ?_⟩; rw [k2]; cases t <;> exact h
  | int c => cases r; refine ⟨"int", .base (.int _), isT_ok ?_⟩; rw [k3]; cases t <;> exact h
  | str c => cases r; refine ⟨"str", .base (.str _), isT_ok ?_⟩; rw [k4]; cases t <;> exact h
  | tup c =>
    obtain ⟨a, vs, rfl, h2, _⟩ := r
    refine ⟨"tuple", sqt_ty h2, isT_ok ?_⟩; rw [k5]; cases t <;> exact h
  | fz c =>
    obtain ⟨a, vs, rfl, h2, _⟩ := r
    obtain ⟨o, h2⟩ := h2; refine ⟨"list", .base (.frz h2), isT_ok ?_⟩; rw [k6]; cases t <;> exact h
  | fr c =>
    obtain ⟨a, vs, rfl, h2, _⟩ := r
    refine ⟨"list", frl_ty h2, isT_ok ?_⟩; rw [k6]; cases t <;> exact h
  | ref i =>
    obtain ⟨a, ha, rfl⟩ := r
    obtain ⟨o, ho, hr⟩ := sim.has ha
    simp only [isK, ho] at h
    cases o with
    | lst ys => obtain ⟨vs, h1, _⟩ := hr; refine ⟨"list", .base (.lst h1), isT_ok ?_⟩; rw [k6]; cases t <;> exact h
    | dK ys => obtain ⟨vs, h1, _⟩ := hr; refine ⟨"dict", .base (.dK h1), isT_ok ?_⟩; rw [k7]; cases t <;> exact h
    | dT ys => obtain ⟨vs, h1, _⟩ := hr; refine ⟨"dict", .base (.dT h1), isT_ok ?_⟩; rw [k7]; cases t <;> exact h
end
end Pu

namespace L2
open PySem PySem.Spec PyProof.Rows
section
variable {X : Cx} {e : Expr} {es : List Expr}
theorem PE.imp {t t' : TE} (h : PE X e t) (f : ∀ σ H Q, t' σ H Q → t σ H Q) : PE X e t' := ⟨fun pins s σ H Q I q => h.run pins s σ H Q I (f _ _ _ q)⟩
theorem PT.imp {t t' : TT} (h : PT X e t) (f : ∀ σ H Q, t' σ H Q → t σ H Q) : PT X e t' := ⟨fun pins s σ H Q I q => h.run pins s σ H Q I (f _ _ _ q)⟩
theorem PA.imp {t t' : TA} (h : PA X es t) (f : ∀ σ H Q, t' σ H Q → t σ H Q) : PA X es t' := ⟨fun pos pins s σ H Q I q => h.run pos pins s σ H Q I (f _ _ _ q)⟩
theorem PI.imp {tg : Expr} {t t' : TI} (h : PI X tg e t) (f : ∀ σ H Q, t' σ H Q → t σ H Q) : PI X tg e t' := ⟨fun pins s σ H Q I q => h.run pins s σ H Q I (f _ _ _ q)⟩
theorem PS.imp {st : Stmt} {t t' : TS} (h : PS X st t) (f : ∀ D σ H, t' D σ H → t D σ H) : PS X st t' := ⟨fun pins s σ H D I q => h.run pins s σ H D I (f _ _ _ q)⟩
theorem PSs.imp {st : List Stmt} {t t' : TS} (h : PSs X st t) (f : ∀ D σ H, t' D σ H → t D σ H) : PSs X st t' := ⟨fun pins s σ H D I q => h.run pins s σ H D I (f _ _ _ q)⟩
theorem PW.imp {t t' : TT} (h : PW X e t) (f : ∀ σ H Q, t' σ H Q → t σ H Q) : PW X e t' := ⟨fun w pins s σ H Q I q => h.run w pins s σ H Q I (f _ _ _ q)⟩
end
end L2
namespace Pu
open PySem PySem.Spec PyProof.Rows L2

section
variable {X : Cx} {mg : Str → Option Value} {E : XK} {a b c e : Expr} {es : List Expr} {pos : Pos} {ma mb mc : Env' → M D} {ms : Env' → M (List D)}
/-- X e m: the expression does what m says -/
abbrev ME (X : Cx) (mg : Str → Option Value) (E : XK) (e : Expr) (m : Env' → M D) : Prop := PE X e (tD X.K mg E m)
abbrev MT (X : Cx) (mg : Str → Option Value) (E : XK) (e : Expr) (m : Env' → M Bool) : Prop := PT X e (tB' X.K mg E m)
abbrev MA (X : Cx) (mg : Str → Option Value) (E : XK) (es : List Expr) (m : Env' → M (List D)) : Prop := PA X es (tDs X.K mg E m)

theorem t_bind {K : PySem.W.Frag} {α β γ δ : Type} {Rl : List Addr → Hp → α → β → Prop} {Rl' : List Addr → Hp → γ → δ → Prop} {m : Env' → M α} {f : Env' → α → M γ} {σ : L2.St} {H : Hp} {Q : δ → Hp → Prop}
    (h : tM K mg E Rl' (fun ρ => mbind (m ρ) (f ρ)) σ H Q) :
    tM K mg E Rl m σ H (fun b H1 => ∃ (as : List Addr) (S : Sto) (ρ : Env') (a : α), Sim K as S H1 ∧ EnvR K as H1 σ ρ ∧ Rl as H1 a b ∧ Fin K mg E Rl' as H1 (f ρ a S) Q) := by
  obtain ⟨as, S, ρ, sim, env, fin⟩ := h
  refine ⟨as, S, ρ, sim, env, (Fin.bind (Rl := Rl) fin).imp ?_⟩
  rintro b H1 ⟨as1, S1, a, e1, sim1, r1, fin1⟩
  exact ⟨as1, S1, ρ, a, sim1, env.mono e1, r1, fin1⟩
theorem t_bind2 {K : PySem.W.Frag} {g : D → D → M D} {σ : L2.St} {H : Hp} {Q : VK} (h : tD K mg E (fun ρ => mbind (ma ρ) fun x => mbind (mb ρ) fun y => g x y) σ H Q) :
    tD K mg E ma σ H fun x H1 => tD K mg E mb σ H1 fun y H2 => rD2 K mg E g x y H2 Q := by
  obtain ⟨as, S, ρ, sim, env, fin⟩ := h
  refine ⟨as, S, ρ, sim, env, (Fin.bind (Rl := Rep K) fin).imp ?_⟩
  rintro x H1 ⟨as1, S1, d, e1, sim1, r1, fin1⟩
  refine ⟨as1, S1, ρ, sim1, env.mono e1, (Fin.bind (Rl := Rep K) fin1).imp ?_⟩
  rintro y H2 ⟨as2, S2, d2, e2, sim2, r2, fin2⟩
  exact ⟨as2, S2, d, d2, sim2, r1.mono e2, r2, fin2⟩
theorem t_ret {K : PySem.W.Frag} {α β : Type} {Rl : List Addr → Hp → α → β → Prop} {σ : L2.St} {H : Hp} {Q : β → Hp → Prop} {as : List Addr} {S : Sto} {ρ : Env'} {m : Env' → M α} (sim : Sim K as S H) (env : EnvR K as H σ ρ) (fin : Fin K mg E Rl as H (m ρ S) Q) : tM K mg E Rl m σ H Q :=
  ⟨as, S, ρ, sim, env, fin⟩

/-! ## expressions -/
theorem me_var {i : Nat} {x : Str} (hN : X.N[i]? = some x) (hv : Vis X.env.scope x) (h1 : (x == ("__debug__" : Str)) = false) (h2 : (x == ("__classdict__" : Str)) = false) : ME X mg E (.Name x pos) (varM i) := by
  refine (pe_var hN hv h1 h2).imp fun σ H Q h => ?_
  obtain ⟨as, S, ρ, sim, env, fin⟩ := h
  unfold varM at fin
  try dsimp only at fin
  split at fin
  · rename_i d hd
    obtain ⟨v, hv, r⟩ := env.look i d hd
    exact ⟨v, hv, fin.ret sim r⟩
  · exact fin.elim
theorem me_glob {x : Str} {v : V} {u : Value} {d : D} (hg : Gl X x) (hm : X.mg x = some u) (r : RelV v u) (hr : ∀ as H, Rep X.K as H d v) (h1 : (x == ("__debug__" : Str)) = false) : ME X mg E (.Name x pos) (fun _ => mret d) := by
  refine (pe_glob hg hm r h1).imp fun σ H Q h => ?_
  obtain ⟨as, S, ρ, sim, env, fin⟩ := h
  exact Fin.ret fin sim (hr _ _)
theorem me_int {i : Int} {j : Nat} : ME X mg E (.Constant (.int i) j pos) (fun _ => mret (.int i)) := pe_int.imp fun σ H Q h => by
  obtain ⟨as, S, ρ, sim, env, fin⟩ := h
  exact Fin.ret fin sim rfl
theorem me_bl {i : Bool} {j : Nat} : ME X mg E (.Constant (.bool i) j pos) (fun _ => mret (.bl i)) := pe_bl.imp fun σ H Q h => by
  obtain ⟨as, S, ρ, sim, env, fin⟩ := h
  exact Fin.ret fin sim rfl
theorem me_str {i : Str} {j : Nat} : ME X mg E (.Constant (.str i) j pos) (fun _ => mret (.str i)) := pe_str.imp fun σ H Q h => by
  obtain ⟨as, S, ρ, sim, env, fin⟩ := h
  exact Fin.ret fin sim rfl
theorem me_non {j : Nat} : ME X mg E (.Constant .none j pos) (fun _ => mret .non) := pe_non.imp fun σ H Q h => by
  obtain ⟨as, S, ρ, sim, env, fin⟩ := h
  exact Fin.ret fin sim rfl
theorem me_op {op : Operator} {g : D → D → M D} (ho : OpR X (binaryOp op) (rD2 X.K mg E g)) (ha : ME X mg E a ma) (hb : ME X mg E b mb) : ME X mg E (.BinOp a op b pos) (fun ρ => mbind (ma ρ) fun x => mbind (mb ρ) fun y => g x y) :=
  (pe_op ho ha hb).imp fun _ _ _ h => t_bind2 h
theorem me_neg (ha : ME X mg E a ma) : ME X mg E (.UnaryOp .USub a pos) (fun ρ => mbind (ma ρ) negM) :=
  (pe_un (ur_neg (mg := mg) (E := E)) ha).imp fun σ H Q h => by
    obtain ⟨as, S, ρ, sim, env, fin⟩ := h
    refine ⟨as, S, ρ, sim, env, (Fin.bind (Rl := Rep X.K) fin).imp ?_⟩
    rintro x H1 ⟨as1, S1, d, e1, sim1, r1, fin1⟩
    exact ⟨as1, S1, d, sim1, r1, fin1⟩
theorem me_cmp {op : CmpOp} (hu : X.A.units + 65 < cLine) (ha : ME X mg E a ma) (hb : ME X mg E b mb) (hm : behindInMarks op b = false) : ME X mg E (.Compare a [op] [b] pos) (fun ρ => mbind (ma ρ) fun x => mbind (mb ρ) fun y => cmpM op x y) :=
  (pe_cmpR (or_cmp hu op) ha hb hm).imp fun _ _ _ h => t_bind2 h
theorem bl_of {K : PySem.W.Frag} {as : List Addr} {H : Hp} {S : Sto} {d : D} {x : V} {β : Type} {α : Type} {Rl : List Addr → Hp → α → β → Prop} {f : Bool → M α} {Q : β → Hp → Prop} (r : Rep K as H d x) (fin : Fin K mg E Rl as H ((blM d S).bind f) Q) :
    ∃ k, x = .bl k ∧ Fin K mg E Rl as H (f k S) Q := by
  unfold blM at fin
  try dsimp only at fin
  split at fin
  · cases r; exact ⟨_, rfl, fin⟩
  · exact fin.elim
theorem mt_cmp {op : CmpOp} (hu : X.A.units + 65 < cLine) (ha : ME X mg E a ma) (hb : ME X mg E b mb) (hm : behindInMarks op b = false) : MT X mg E (.Compare a [op] [b] pos) (fun ρ => mbind (mbind (ma ρ) fun x => mbind (mb ρ) fun y => cmpM op x y) blM) :=
  (pt_cmpR (or_cmp (mg := mg) (E := E) hu op) ha hb hm).imp fun σ H Q h => by
    refine t_bind2 (Q := fun x H1 => ∃ k, x = .bl k ∧ Q k H1) (ma := ma) (mb := mb) ?_
    obtain ⟨as, S, ρ, sim, env, fin⟩ := h
    refine ⟨as, S, ρ, sim, env, (Fin.bind (Rl := Rep X.K) fin).imp ?_⟩
    rintro x H1 ⟨as1, S1, d, e1, sim1, r1, fin1⟩
    cases d with
    | bl k => cases r1; exact ⟨k, rfl, Fin.ret fin1 sim1 rfl⟩
    | _ => exact fin1.elim
/-- op a b, op' b c -/
theorem t_chain {o1 o2 : CmpOp} {σ : L2.St} {H : Hp} {Q : VK} (h : tD X.K mg E (fun ρ => mbind (ma ρ) fun x => mbind (mb ρ) fun y => mbind (cmpM o1 x y) fun k => mbind (blM k) fun t => if t then mbind (mc ρ) fun z => cmpM o2 y z else mret (.bl false)) σ H Q) :
    tChain (rD2 X.K mg E (cmpM o1)) (rD2 X.K mg E (cmpM o2)) (tD X.K mg E ma) (tD X.K mg E mb) (tD X.K mg E mc) σ H Q := by
  obtain ⟨as, S, ρ, sim, env, fin⟩ := h
  refine ⟨as, S, ρ, sim, env, (Fin.bind (Rl := Rep X.K) fin).imp ?_⟩
  rintro x H1 ⟨as1, S1, d, e1, sim1, r1, fin1⟩
  have env1 := env.mono e1
  refine ⟨as1, S1, ρ, sim1, env1, (Fin.bind (Rl := Rep X.K) fin1).imp ?_⟩
  rintro y H2 ⟨as2, S2, d2, e2, sim2, r2, fin2⟩
  have env2 := env1.mono e2
  refine ⟨as2, S2, d, d2, sim2, r1.mono e2, r2, (Fin.bind (Rl := Rep X.K) fin2).imp ?_⟩
  rintro z H3 ⟨as3, S3, k, e3, sim3, r3, fin3⟩
  obtain ⟨t, rfl, fin4⟩ := bl_of r3 fin3
  refine ⟨t, rfl, ?_⟩
  cases t with
  | false =>
    rw [if_neg Bool.false_ne_true]
    exact Fin.ret fin4 sim3 rfl
  | true =>
    rw [if_pos rfl]
    refine ⟨as3, S3, ρ, sim3, env2.mono e3, (Fin.bind (Rl := Rep X.K) fin4).imp ?_⟩
    rintro w H4 ⟨as4, S4, d4, e4, sim4, r4, fin5⟩
    exact ⟨as4, S4, d2, d4, sim4, (r2.mono e3).mono e4, r4, fin5⟩
theorem me_chn {o1 o2 : CmpOp} (hu : X.A.units + 65 < cLine) (ha : ME X mg E a ma) (hb : ME X mg E b mb) (hc : ME X mg E c mc) (hm : lastMarks [o1, o2] [b, c] = false) :
    ME X mg E (.Compare a [o1, o2] [b, c] pos) (fun ρ => mbind (ma ρ) fun x => mbind (mb ρ) fun y => mbind (cmpM o1 x y) fun k => mbind (blM k) fun t => if t then mbind (mc ρ) fun z => cmpM o2 y z else mret (.bl false)) :=
  (pe_chain (or_cmp hu o1) (or_cmp hu o2) ha hb hc hm).imp fun _ _ _ h => t_chain h
theorem mt_chn {o1 o2 : CmpOp} (hu : X.A.units + 65 < cLine) (ha : ME X mg E a ma) (hb : ME X mg E b mb) (hc : ME X mg E c mc) (hm : lastMarks [o1, o2] [b, c] = false) :
    MT X mg E (.Compare a [o1, o2] [b, c] pos) (fun ρ => mbind (mbind (ma ρ) fun x => mbind (mb ρ) fun y => mbind (cmpM o1 x y) fun k => mbind (blM k) fun t => if t then mbind (mc ρ) fun z => cmpM o2 y z else mret (.bl false)) blM) :=
  (pt_chain (or_cmp (mg := mg) (E := E) hu o1) (or_cmp (mg := mg) (E := E) hu o2) ha hb hc hm).imp fun σ H Q h => by
    refine t_chain (Q := fun x H1 => ∃ k, x = .bl k ∧ Q k H1) ?_
    obtain ⟨as, S, ρ, sim, env, fin⟩ := h
    refine ⟨as, S, ρ, sim, env, (Fin.bind (Rl := Rep X.K) fin).imp ?_⟩
    rintro x H1 ⟨as1, S1, d, e1, sim1, r1, fin1⟩
    cases d with
    | bl k => cases r1; exact ⟨k, rfl, Fin.ret fin1 sim1 rfl⟩
    | _ => exact fin1.elim
theorem me_and {rest : List Expr} (ha : ME X mg E a ma) (hb : ME X mg E (.BoolOp .And (b :: rest) pos) mb) : ME X mg E (.BoolOp .And (a :: b :: rest) pos) (fun ρ => mbind (ma ρ) fun x => mbind (blM x) fun t => if t then mb ρ else mret (.bl false)) :=
  (pe_and ha hb).imp fun σ H Q h => by
    obtain ⟨as, S, ρ, sim, env, fin⟩ := h
    refine ⟨as, S, ρ, sim, env, (Fin.bind (Rl := Rep X.K) fin).imp ?_⟩
    rintro x H1 ⟨as1, S1, d, e1, sim1, r1, fin1⟩
    obtain ⟨t, rfl, fin2⟩ := bl_of r1 fin1
    refine ⟨t, rfl, ?_⟩
    cases t with
    | false => rw [if_neg Bool.false_ne_true]; exact Fin.ret fin2 sim1 rfl
    | true => rw [if_pos rfl]; exact ⟨as1, S1, ρ, sim1, env.mono e1, fin2⟩
theorem me_or {rest : List Expr} (ha : ME X mg E a ma) (hb : ME X mg E (.BoolOp .Or (b :: rest) pos) mb) : ME X mg E (.BoolOp .Or (a :: b :: rest) pos) (fun ρ => mbind (ma ρ) fun x => mbind (blM x) fun t => if t then mret (.bl true) else mb ρ) :=
  (pe_or ha hb).imp fun σ H Q h => by
    obtain ⟨as, S, ρ, sim, env, fin⟩ := h
    refine ⟨as, S, ρ, sim, env, (Fin.bind (Rl := Rep X.K) fin).imp ?_⟩
    rintro x H1 ⟨as1, S1, d, e1, sim1, r1, fin1⟩
    obtain ⟨t, rfl, fin2⟩ := bl_of r1 fin1
    refine ⟨t, rfl, ?_⟩
    cases t with
    | false => rw [if_neg Bool.false_ne_true]; exact ⟨as1, S1, ρ, sim1, env.mono e1, fin2⟩
    | true => rw [if_pos rfl]; exact Fin.ret fin2 sim1 rfl
theorem me_one {op : BoolOp} (ha : ME X mg E a ma) : ME X mg E (.BoolOp op [a] pos) ma := pe_one ha
theorem me_not (ha : ME X mg E a ma) : ME X mg E (.UnaryOp .Not a pos) (fun ρ => mbind (ma ρ) fun x => mbind (blM x) fun t => mret (.bl (!t))) :=
  (pe_not ha).imp fun σ H Q h => by
    obtain ⟨as, S, ρ, sim, env, fin⟩ := h
    refine ⟨as, S, ρ, sim, env, (Fin.bind (Rl := Rep X.K) fin).imp ?_⟩
    rintro x H1 ⟨as1, S1, d, e1, sim1, r1, fin1⟩
    obtain ⟨t, rfl, fin2⟩ := bl_of r1 fin1
    exact ⟨t, rfl, Fin.ret fin2 sim1 rfl⟩
theorem me_ife {mt : Env' → M Bool} (hc : MT X mg E c mt) (ha : ME X mg E a ma) (hb : ME X mg E b mb) : ME X mg E (.IfExp c a b pos) (fun ρ => mbind (mt ρ) fun k => if k then ma ρ else mb ρ) :=
  (pe_ifExp hc ha hb).imp fun σ H Q h => by
    obtain ⟨as, S, ρ, sim, env, fin⟩ := h
    refine ⟨as, S, ρ, sim, env, (Fin.bind (Rl := RlB) fin).imp ?_⟩
    rintro x H1 ⟨as1, S1, d, e1, sim1, rfl, fin1⟩
    cases d with
    | false => rw [if_neg Bool.false_ne_true]; exact ⟨as1, S1, ρ, sim1, env.mono e1, fin1⟩
    | true => rw [if_pos rfl]; exact ⟨as1, S1, ρ, sim1, env.mono e1, fin1⟩
/-! ## tests -/
theorem mt_val (ha : ME X mg E a ma) (he : ∀ whole, isTrue a X.env whole = (do let v ← whole; standAt a.pos; holding [v] (truthy v))) : MT X mg E a (fun ρ => mbind (ma ρ) truM) :=
  (pt_truth ha he).imp fun σ H Q h => by
    obtain ⟨as, S, ρ, sim, env, fin⟩ := h
    refine ⟨as, S, ρ, sim, env, (Fin.bind (Rl := Rep X.K) fin).imp ?_⟩
    rintro x H1 ⟨as1, S1, d, e1, sim1, r1, fin1⟩
    exact tr_tru sim1 r1 fin1
abbrev MW (X : Cx) (mg : Str → Option Value) (E : XK) (e : Expr) (m : Env' → M Bool) : Prop := PW X e (tB' X.K mg E m)
theorem mw_and {ta tb : Env' → M Bool} {rest : List Expr} (ha : MT X mg E a ta) (hb : MW X mg E (.BoolOp .And (b :: rest) pos) tb) : MW X mg E (.BoolOp .And (a :: b :: rest) pos) (fun ρ => mbind (ta ρ) fun t => if t then tb ρ else mret false) :=
  ((pw_and ha hb)).imp fun σ H Q h => by
    obtain ⟨as, S, ρ, sim, env, fin⟩ := h
    refine ⟨as, S, ρ, sim, env, (Fin.bind (Rl := RlB) fin).imp ?_⟩
    rintro x H1 ⟨as1, S1, d, e1, sim1, rfl, fin1⟩
    cases d with
    | false => rw [if_neg Bool.false_ne_true]; exact Fin.ret fin1 sim1 rfl
    | true => rw [if_pos rfl]; exact ⟨as1, S1, ρ, sim1, env.mono e1, fin1⟩
theorem mw_or {ta tb : Env' → M Bool} {rest : List Expr} (ha : MT X mg E a ta) (hb : MW X mg E (.BoolOp .Or (b :: rest) pos) tb) : MW X mg E (.BoolOp .Or (a :: b :: rest) pos) (fun ρ => mbind (ta ρ) fun t => if t then mret true else tb ρ) :=
  ((pw_or ha hb)).imp fun σ H Q h => by
    obtain ⟨as, S, ρ, sim, env, fin⟩ := h
    refine ⟨as, S, ρ, sim, env, (Fin.bind (Rl := RlB) fin).imp ?_⟩
    rintro x H1 ⟨as1, S1, d, e1, sim1, rfl, fin1⟩
    cases d with
    | false => rw [if_neg Bool.false_ne_true]; exact ⟨as1, S1, ρ, sim1, env.mono e1, fin1⟩
    | true => rw [if_pos rfl]; exact Fin.ret fin1 sim1 rfl
theorem mt_not {ta : Env' → M Bool} (ha : MT X mg E a ta) : MT X mg E (.UnaryOp .Not a pos) (fun ρ => mbind (ta ρ) fun t => mret (!t)) :=
  (pt_not ha).imp fun σ H Q h => by
    obtain ⟨as, S, ρ, sim, env, fin⟩ := h
    refine ⟨as, S, ρ, sim, env, (Fin.bind (Rl := RlB) fin).imp ?_⟩
    rintro x H1 ⟨as1, S1, d, e1, sim1, rfl, fin1⟩
    exact Fin.ret fin1 sim1 rfl
/-! ## arguments, displays, calls -/
theorem ma_nil : MA X mg E [] (fun _ => mret []) := pa_nil.imp fun σ H Q h => by
  obtain ⟨as, S, ρ, sim, env, fin⟩ := h
  exact Fin.ret fin sim rfl
theorem ma_cons (ha : ME X mg E e ma) (hr : MA X mg E es ms) (hs : starEach (e :: es) X.env = (false, eval e X.env) :: starEach es X.env) : MA X mg E (e :: es) (fun ρ => mbind (ma ρ) fun x => mbind (ms ρ) fun xs => mret (x :: xs)) :=
  (pa_cons ha hr hs).imp fun σ H Q h => by
    obtain ⟨as, S, ρ, sim, env, fin⟩ := h
    refine ⟨as, S, ρ, sim, env, (Fin.bind (Rl := Rep X.K) fin).imp ?_⟩
    rintro x H1 ⟨as1, S1, d, e1, sim1, r1, fin1⟩
    refine ⟨as1, S1, ρ, sim1, env.mono e1, (Fin.bind (Rl := Reps X.K) fin1).imp ?_⟩
    rintro xs H2 ⟨as2, S2, ds, e2, sim2, r2, fin2⟩
    exact Fin.ret fin2 sim2 ⟨x, xs, rfl, r1.mono e2, r2⟩
theorem me_tup {k : Nat} (h : MA X mg E es ms) : ME X mg E (.Tuple es k pos) (fun ρ => mbind (ms ρ) newT) :=
  (pe_tup h).imp fun σ H Q h => by
    obtain ⟨as, S, ρ, sim, env, fin⟩ := h
    refine ⟨as, S, ρ, sim, env, (Fin.bind (Rl := Reps X.K) fin).imp ?_⟩
    rintro xs H1 ⟨as1, S1, ds, e1, sim1, r1, fin1⟩
    exact fin_T fin1 sim1 r1
theorem pe_ql {t : TE} (own : Bool) (h : PE X e t) : PE X e (fun σ H Q => t σ H (QL own Q)) := ⟨fun pins s σ H Q I q => ql (own := own) (h.run pins s σ H _ I q)⟩
theorem me_lst (own : Bool) (h : MA X mg E es ms) : ME X mg E (.List es pos) (fun ρ => mbind (ms ρ) (newL own)) :=
  (pe_ql own (pe_lst h)).imp fun σ H Q h => by
    obtain ⟨as, S, ρ, sim, env, fin⟩ := h
    refine ⟨as, S, ρ, sim, env, (Fin.bind (Rl := Reps X.K) fin).imp ?_⟩
    rintro xs H1 ⟨as1, S1, ds, e1, sim1, r1, fin1⟩
    exact fin_L fin1 sim1 r1
theorem t_call {K : PySem.W.Frag} {g : List D → M D} {σ : L2.St} {H : Hp} {Q : VK} (h : tD K mg E (fun ρ => mbind (ms ρ) g) σ H Q) : tDs K mg E ms σ H fun vs H1 => rDs K mg E g vs H1 Q := by
  obtain ⟨as, S, ρ, sim, env, fin⟩ := h
  refine ⟨as, S, ρ, sim, env, (Fin.bind (Rl := Reps K) fin).imp ?_⟩
  rintro xs H1 ⟨as1, S1, ds, e1, sim1, r1, fin1⟩
  exact ⟨as1, S1, ds, sim1, r1, fin1⟩
theorem me_callB {x : Str} {p : Pos} {id : String} {g : List D → M D} (hc : CallR X (.builtin id) (rDs X.K mg E g)) (hg : Gl X x) (hm : X.mg x = none) (hv : bootBuiltins x = some (.builtin id)) (ha : MA X mg E (e :: es) ms)
    (hn : x ≠ "__name__") (hdb : (x == ("__debug__" : Str)) = false) (he : starEach (e :: es) X.env = (false, eval e X.env) :: starEach es X.env) (hpl : (backTo pos (starEach es X.env)).any (·.1) = false) :
    ME X mg E (.Call (.Name x p) (e :: es) [] pos) (fun ρ => mbind (ms ρ) g) := (pe_callB hc hg hm hv ha hn hdb he hpl).imp fun _ _ _ h => t_call h
theorem me_callT {x : Str} {p : Pos} {T : String} {g : List D → M D} (hc : CallR X (.type T) (rDs X.K mg E g)) (hg : Gl X x) (hm : X.mg x = none) (hv : bootBuiltins x = some (.type T)) (ha : MA X mg E (e :: es) ms)
    (hn : x ≠ "__name__") (hdb : (x == ("__debug__" : Str)) = false) (he : starEach (e :: es) X.env = (false, eval e X.env) :: starEach es X.env) (hpl : (backTo pos (starEach es X.env)).any (·.1) = false) :
    ME X mg E (.Call (.Name x p) (e :: es) [] pos) (fun ρ => mbind (ms ρ) g) := (pe_callTy hc hg hm hv ha hn hdb he hpl).imp fun _ _ _ h => t_call h
/-- the promise of a def of the text; n: how many parameters -/
def spM (K : PySem.W.Frag) (mg : Str → Option Value) (n : Nat) (g : List D → M D) : Sp := fun vs H Q E => vs.length = n ∧ ∃ as S ds, Sim K as S H ∧ Reps K as H ds vs ∧ Fin K mg E (Rep K) as H (g ds S) Q
theorem me_call {CX : CXT} {k n : Nat} {f : Addr} {fd : FuncData} {ps : List Str} {x : Str} {p : Pos} {g : List D → M D} (F : FnOk X.prog X.w X.K X.mg X.base CX k f fd ps (spM X.K mg n g)) (hr : Room k X.A) (hg : Gl X x) (hm : X.mg x = some (.ref f)) (hk : PySem.W.keepIn X.K (.ref f) = true)
    (hb : Binds X.K fd ps []) (hx : Passes CX X E) (ha : MA X mg E (e :: es) ms) (hn : n = (e :: es).length) (hl : ∀ ρ S, ∀ ds S', ms ρ S = .ok ds S' → ds.length = (e :: es).length) (hdb : (x == ("__debug__" : Str)) = false) (he : starEach (e :: es) X.env = (false, eval e X.env) :: starEach es X.env) (hpl : (backTo pos (starEach es X.env)).any (·.1) = false) :
    ME X mg E (.Call (.Name x p) (e :: es) [] pos) (fun ρ => mbind (ms ρ) g) :=
  (pe_call F hr hg hm hk hb .nil hx ha hdb he hpl).imp fun σ H Q h => by
    obtain ⟨as, S, ρ, sim, env, fin⟩ := h
    refine ⟨as, S, ρ, sim, env, ?_⟩
    have hl' := hl ρ S
    cases hq : ms ρ S with
    | bad => simp only [mbind, hq, R.bind] at fin; exact fin.elim
    | exc c fs S' => simp only [mbind, hq, R.bind] at fin; exact fin
    | ok ds S' =>
      have hd := hl' ds S' hq
      simp only [mbind, hq, R.bind] at fin
      intro as1 H1 xs e1 sim1 r1
      refine ⟨by rw [List.append_nil, r1.length, hd, hn], as1, S', ds, sim1, by rw [List.append_nil]; exact r1, Fin.ext fin e1⟩
theorem me_isi {x y : Str} {p p2 : Pos} {t : Ty} (hg : Gl X x) (hm : X.mg x = none) (hv : bootBuiltins x = some (.builtin "isinstance")) (hg2 : Gl X y) (hm2 : X.mg y = none) (hv2 : bootBuiltins y = some (.type (tyName t))) (hn2 : y ≠ "__name__") (hdb2 : (y == ("__debug__" : Str)) = false)
    (ha : ME X mg E a ma) (hn : x ≠ "__name__") (hdb : (x == ("__debug__" : Str)) = false) (hs : ∀ r, starEach (a :: r) X.env = (false, eval a X.env) :: starEach r X.env) (hpl : (backTo pos (starEach [.Name y p2] X.env)).any (·.1) = false) :
    ME X mg E (.Call (.Name x p) [a, .Name y p2] [] pos) (fun ρ => mbind (ma ρ) fun d S => match isK t d S with
      | some b => .ok (.bl b) S
      | none => .bad) :=
  (pe_callB call_isi hg hm hv (pa_cons ha (pa_cons (pe_bltn (v := .ty (tyName t)) hg2 hm2 hv2 rfl hn2 hdb2) pa_nil rfl) (hs _)) hn hdb (hs _) hpl).imp fun σ H Q h => by
    obtain ⟨as, S, ρ, sim, env, fin⟩ := h
    refine ⟨as, S, ρ, sim, env, (Fin.bind (Rl := Rep X.K) fin).imp ?_⟩
    rintro v H1 ⟨as1, S1, d, e1, sim1, r1, fin1⟩
    try dsimp only at fin1
    split at fin1
    · rename_i b hb
      obtain ⟨n, h1, h2⟩ := is_ok sim1 r1 hb
      exact ⟨v, .ty (tyName t), _, _, b, rfl, .ty _, h1, h2, fin1.ret sim1 rfl⟩
    · exact fin1.elim
theorem me_lrng {x y : Str} {p p1 pos1 : Pos} (own : Bool) (hc : X.calm = true) (hg : Gl X "list") (hm : X.mg "list" = none) (hg2 : Gl X "range") (hm2 : X.mg "range" = none) (ha : ME X mg E a ma) (hs : starEach [a] X.env = (false, eval a X.env) :: starEach [] X.env) :
    ME X mg E (.Call (.Name "list" p) [.Call (.Name "range" p1) [a] [] pos1] [] pos) (fun ρ => mbind (ma ρ) fun x => match x with
    | .int j => chk (-4611686018427387904 ≤ j) (newL own ((List.range j.toNat).map fun (k : Nat) => D.int (k : Int)))
    | _ => mbad) :=
  (pe_ql own (pe_listRg hc hg hm (prg_1 hg2 hm2 ha hs) rfl)).imp fun σ H Q h => by
    obtain ⟨as, S, ρ, sim, env, fin⟩ := h
    refine ⟨as, S, ρ, sim, env, (Fin.bind (Rl := Rep X.K) fin).imp ?_⟩
    rintro v H1 ⟨as1, S1, d, e1, sim1, r1, fin1⟩
    cases d <;> first | exact fin1.elim | skip
    rename_i j
    obtain ⟨hj, fin1⟩ := Fin.chk fin1
    · skip
      cases r1
      have rr : Reps X.K as1 H1 ((List.range j.toNat).map fun (k : Nat) => D.int (k : Int)) (rgV 0 j) := by
        unfold rgV
        rw [Int.sub_zero]
        have go : ∀ l : List Nat, Reps X.K as1 H1 (l.map fun (k : Nat) => D.int (k : Int)) (l.map fun (i : Nat) => V.int (0 + (i : Int))) := by
          intro l
          induction l with
          | nil => rfl
          | cons n l ih => exact ⟨_, _, rfl, by show V.int (0 + (n : Int)) = V.int (n : Int); rw [Int.zero_add], ih⟩
        exact go _
      obtain ⟨hz, q⟩ := fin_L fin1 sim1 rr
      rw [rgV_length, Int.sub_zero, sizeLine_eq] at hz
      refine ⟨j, rfl, ⟨by omega, by omega, by omega, by omega, by rw [Int.sub_zero]; omega⟩, q⟩
/-! ## subscripts, slices, methods -/
theorem me_idx (ha : ME X mg E a ma) (hb : ME X mg E b mb) (hs : PlainIx b) : ME X mg E (.Subscript a b pos) (fun ρ => mbind (ma ρ) fun x => mbind (mb ρ) fun y => idxM x y) :=
  (pe_ix (xr_idx (mg := mg) (E := E)) ha hb hs).imp fun _ _ _ h => t_bind2 h
abbrev RlO (_ : List Addr) (_ : Hp) (a b : Option Int) : Prop := a = b
abbrev MO (X : Cx) (mg : Str → Option Value) (E : XK) (e : Option Expr) (m : Env' → M (Option Int)) : Prop := PO X e (tM X.K mg E RlO m)
theorem mo_none : MO X mg E none (fun _ => mret none) := ⟨fun pins s σ H Q I h => po_none.run pins s σ H Q I (by
    obtain ⟨as, S, ρ, sim, env, fin⟩ := h
    exact Fin.ret fin sim rfl)⟩
theorem mo_some (ha : ME X mg E a ma) : MO X mg E (some a) (fun ρ => mbind (ma ρ) intO) := ⟨fun pins s σ H Q I h => (po_some ha).run pins s σ H Q I (by
    obtain ⟨as, S, ρ, sim, env, fin⟩ := h
    refine ⟨as, S, ρ, sim, env, (Fin.bind (Rl := Rep X.K) fin).imp ?_⟩
    rintro v H1 ⟨as1, S1, d, e1, sim1, r1, fin1⟩
    cases d <;> first | exact fin1.elim | skip
    cases r1
    exact ⟨_, rfl, Fin.ret fin1 sim1 rfl⟩)⟩
theorem me_slc {lo hi : Option Expr} {ml mh : Env' → M (Option Int)} {p2 : Pos} (own : Bool) (ha : ME X mg E a ma) (hl : MO X mg E lo ml) (hh : MO X mg E hi mh) :
    ME X mg E (.Subscript a (.Slice lo hi none p2) pos) (fun ρ => mbind (ma ρ) fun x => mbind (ml ρ) fun l => mbind (mh ρ) fun h => slcP own x l h) :=
  (pe_slice (sr_slc (mg := mg) (E := E) own) ha hl hh).imp fun σ H Q h => by
    obtain ⟨as, S, ρ, sim, env, fin⟩ := h
    refine ⟨as, S, ρ, sim, env, (Fin.bind (Rl := Rep X.K) fin).imp ?_⟩
    rintro v H1 ⟨as1, S1, d, e1, sim1, r1, fin1⟩
    refine ⟨as1, S1, ρ, sim1, env.mono e1, (Fin.bind (Rl := RlO) fin1).imp ?_⟩
    rintro l H2 ⟨as2, S2, l', e2, sim2, rfl, fin2⟩
    refine ⟨as2, S2, ρ, sim2, (env.mono e1).mono e2, (Fin.bind (Rl := RlO) fin2).imp ?_⟩
    rintro u H3 ⟨as3, S3, u', e3, sim3, rfl, fin3⟩
    exact ⟨as3, S3, d, sim3, (r1.mono e2).mono e3, fin3⟩
theorem me_rev {k : Nat} {p1 p2 p3 : Pos} (own : Bool) (ha : ME X mg E a ma) : ME X mg E (.Subscript a (.Slice none none (some (.UnaryOp .USub (.Constant (.int 1) k p1) p2)) p3) pos) (fun ρ => mbind (ma ρ) (revM own)) := by
  have h := pe_revA (k := k) (p1 := p1) (p2 := p2) (p3 := p3) (pos := pos) ha
  refine ⟨fun pins s σ H Q I q => ?_⟩
  -- a tuple's answer as it is, a list's frozen where it is not to change
  refine thn (h.run pins s σ H (fun v H1 => Q v H1 ∨ QL own Q v H1) I ?_) fun u s' hu => ?_
  · obtain ⟨as, S, ρ, sim, env, fin⟩ := q
    refine ⟨as, S, ρ, sim, env, (Fin.bind (Rl := Rep X.K) fin).imp ?_⟩
    rintro v H1 ⟨as1, S1, d, e1, sim1, r1, fin1⟩
    unfold revM at fin1
    split at fin1
    · obtain ⟨p, vs, rfl, ha, r⟩ := r1
      exact ⟨p, vs, rfl, .inr ⟨ha, fun q hq => .inl (fin1 as1 _ _ (Ext.fixed hq) (sim1.fixed hq) ⟨q, _, rfl, SqT.of upd_same, r.reverse.mono (Ext.fixed hq)⟩)⟩⟩
    · split at fin1
      · rename_i xs hx
        obtain ⟨p, vs, rfl, ha, r⟩ := lst_ok sim1 hx r1
        exact ⟨p, vs, rfl, .inl ⟨ha, fun q hq => .inr ((fin_L fin1 sim1 r.reverse).2 q hq)⟩⟩
      · exact fin1.elim
  · obtain ⟨v, H', I', r, q | q⟩ := hu
    · exact ⟨v, H', I', r, q⟩
    · exact ql_ep (own := own) ⟨v, H', I', r, q⟩
/-- o.m(..) of a list's method -/
theorem me_mth {o : Expr} {mo : Env' → M D} {name : Str} {apos cpos : Pos} {id : String} {g : D → List D → M D} (slot : Slot "list" name id) (hty : typeOf (.builtin id) = pure (.type "method_descriptor"))
    (hm : MtM X id (rMt X.K mg E g)) (ho : ME X mg E o mo) (ha : MA X mg E (e :: es) ms)
    (hbase : attributeBase o name X.env (eval o X.env) = eval o X.env)
    (hfew : ((backTo cpos (starEach (e :: es) X.env)).all (fun x => !x.1) && (backToKw cpos (keywordEach [] X.env)).all (fun x => x.1.isSome)
      && decide ((e :: es).length + ([] : List Keyword).length + (if ([] : List Keyword).isEmpty then 0 else 1) < 30)) = true)
    (hline : (apos.endLine == cpos.line) = true) (hs : starEach (e :: es) X.env = (false, eval e X.env) :: starEach es X.env) (hplain : (backTo cpos (starEach es X.env)).any (·.1) = false) :
    ME X mg E (.Call (.Attribute o name apos) (e :: es) [] cpos) (fun ρ => mbind (mo ρ) fun x S => match x with
      | .ref i => match S[i]? with
        | some (.lst _) => mbind (ms ρ) (g x) S
        | _ => .bad
      | _ => .bad) :=
  (pe_bm PySem.F.plainAttrs_list slot hty hm ho ha hbase hfew hline hs hplain).imp fun σ H Q h => by
    obtain ⟨as, S, ρ, sim, env, fin⟩ := h
    refine ⟨as, S, ρ, sim, env, (Fin.bind (Rl := Rep X.K) fin).imp ?_⟩
    rintro v H1 ⟨as1, S1, d, e1, sim1, r1, fin1⟩
    try dsimp only at fin1
    split at fin1
    · split at fin1
      · rename_i ys hy
        obtain ⟨a, vs, rfl, haa, hH, rr⟩ := own_ok sim1 r1 hy
        refine ⟨.inl ⟨rfl, vs, SqL.of hH⟩, as1, S1, ρ, sim1, env.mono e1, (Fin.bind (Rl := Reps X.K) fin1).imp ?_⟩
        rintro xs H2 ⟨as2, S2, ds, e2, sim2, r2, fin2⟩
        exact ⟨as2, S2, _, ds, sim2, r1.mono e2, r2, fin2⟩
      · exact fin1.elim
    · exact fin1.elim
end
end Pu

namespace Pu
open PySem PySem.Spec PyProof.Rows L2

/-! ## targets -/
mutual
def tgIn (ws : List Nat) : Tg → Bool
  | .nm i => ws.contains i
  | .tp ts => tgsIn ws ts
def tgsIn (ws : List Nat) : List Tg → Bool
  | [] => true
  | t :: ts => tgIn ws t && tgsIn ws ts
end
theorem wipe_get (ws : List Nat) : ∀ (σ : L2.St) (j : Nat), (L2.wipe σ ws)[j]? = if j ∈ ws ∧ j < σ.length then some none else σ[j]? := by
  induction ws with
  | nil => intro σ j; simp [L2.wipe]
  | cons w ws ih =>
    intro σ j
    show ((L2.wipe σ ws).set w none)[j]? = _
    by_cases e : j = w
    · subst e
      by_cases hl : j < σ.length
      · rw [List.getElem?_set_self (by rw [wipe_length]; exact hl), if_pos ⟨List.mem_cons_self, hl⟩]
      · rw [List.getElem?_eq_none (by rw [List.length_set, wipe_length]; omega), if_neg (fun q => hl q.2), List.getElem?_eq_none (by omega)]
    · rw [List.getElem?_set_ne (fun q => e q.symm), ih σ j]
      by_cases h : j ∈ ws ∧ j < σ.length
      · rw [if_pos h, if_pos ⟨List.mem_cons_of_mem _ h.1, h.2⟩]
      · rw [if_neg h, if_neg (fun q => h ⟨(List.mem_cons.mp q.1).resolve_left e, q.2⟩)]
theorem wipe_set {ws : List Nat} {i : Nat} (h : i ∈ ws) (σ : L2.St) (x : Option V) : L2.wipe (σ.set i x) ws = L2.wipe σ ws := by
  apply List.ext_getElem?
  intro j
  rw [wipe_get, wipe_get, List.length_set]
  by_cases c : j ∈ ws ∧ j < σ.length
  · rw [if_pos c, if_pos c]
  · rw [if_neg c, if_neg c]
    by_cases e : i = j
    · subst e
      have hl : ¬ i < σ.length := fun q => c ⟨h, q⟩
      rw [List.getElem?_eq_none (by rw [List.length_set]; omega), List.getElem?_eq_none (by omega)]
    · rw [List.getElem?_set_ne e]
/-- what storing to a target does; the slots outside the target stay -/
def gM (K : PySem.W.Frag) (tg : Tg) : TG := fun v σ H Q => ∃ (as : List Addr) (ρ ρ' : Env') (d : D), EnvR K as H σ ρ ∧ Rep K as H d v ∧ tgSet tg d ρ = some ρ' ∧
  ∀ σ', EnvR K as H σ' ρ' → (∀ ws, tgIn ws tg = true → L2.wipe σ' ws = L2.wipe σ ws) → Q σ' H
def gsM (K : PySem.W.Frag) (tgs : List Tg) : TGs := fun vs σ H Q => ∃ (as : List Addr) (ρ ρ' : Env') (ds : List D), EnvR K as H σ ρ ∧ Reps K as H ds vs ∧ tgSets tgs ds ρ = some ρ' ∧
  ∀ σ', EnvR K as H σ' ρ' → (∀ ws, tgsIn ws tgs = true → L2.wipe σ' ws = L2.wipe σ ws) → Q σ' H
section
variable {X : Cx} {mg : Str → Option Value} {E : XK}
theorem PG_imp {e : Expr} {t t' : TG} (h : PG X e t) (f : ∀ v σ H Q, t' v σ H Q → t v σ H Q) : PG X e t' := ⟨fun pins s σ H v u Q I r q => h.run pins s σ H v u Q I r (f _ _ _ _ q)⟩
theorem PGs_imp {e : List Expr} {t t' : TGs} (h : PGs X e t) (f : ∀ v σ H Q, t' v σ H Q → t v σ H Q) : PGs X e t' := ⟨fun pins s σ H v u Q I r q => h.run pins s σ H v u Q I r (f _ _ _ _ q)⟩
theorem mg_nm {i : Nat} {x : Str} {pos : Pos} (hN : X.N.Nodup) (hi : X.N[i]? = some x) (hx : Loc X.env.scope x) (hf : X.fn x = true ∨ X.env.scope.names.lookup x = some .local) : PG X (.Name x pos) (gM X.K (.nm i)) :=
  PG_imp (pg_name hN hi hx hf) fun v σ H Q h => by
    obtain ⟨as, ρ, ρ', d, env, r, ht, q⟩ := h
    simp only [tgSet] at ht
    cases ht
    refine q _ (env.set r i) fun ws hw => ?_
    simp only [tgIn, List.contains_iff_mem] at hw
    exact wipe_set hw σ _
theorem mgs_nil : PGs X [] (gsM X.K []) := PGs_imp pgs_nil fun vs σ H Q h => by
  obtain ⟨as, ρ, ρ', ds, env, r, ht, q⟩ := h
  cases ds with
  | nil =>
    simp only [tgSets] at ht; cases ht
    have r : vs = [] := r
    exact ⟨r, q σ env fun _ _ => rfl⟩
  | cons d ds => simp only [tgSets] at ht; cases ht
theorem PGs_cons_ok {e : Expr} {es : List Expr} {t : Tg} {ts : List Tg} (h1 : PG X e (gM X.K t)) (h2 : PGs X es (gsM X.K ts)) (h : PGs X (e :: es) (gCons (gM X.K t) (gsM X.K ts))) : PGs X (e :: es) (gsM X.K (t :: ts)) :=
  PGs_imp h fun vs σ H Q h => by
    obtain ⟨as, ρ, ρ', ds, env, r, ht, q⟩ := h
    cases ds with
    | nil => simp only [tgSets] at ht; cases ht
    | cons d ds =>
      obtain ⟨v, rest, rfl, rd, rds⟩ := r
      simp only [tgSets] at ht
      cases hq : tgSet t d ρ with
      | none => rw [hq] at ht; cases ht
      | some ρ1 =>
        rw [hq] at ht
        have ht : tgSets ts ds ρ1 = some ρ' := ht
        refine ⟨v, rest, rfl, as, ρ, ρ1, d, env, rd, hq, fun σ1 env1 w1 => ⟨as, ρ1, ρ', ds, env1, rds, ht, fun σ2 env2 w2 => q σ2 env2 fun ws hw => ?_⟩⟩
        simp only [tgsIn, Bool.and_eq_true] at hw
        rw [w2 ws hw.2, w1 ws hw.1]
theorem tgSets_len : ∀ {ts : List Tg} {ds : List D} {ρ ρ' : Env'}, tgSets ts ds ρ = some ρ' → ds.length = ts.length
  | [], [], _, _, _ => rfl
  | [], _ :: _, _, _, h => by simp only [tgSets] at h; cases h
  | _ :: _, [], _, _, h => by simp only [tgSets] at h; cases h
  | t :: ts, d :: ds, ρ, ρ', h => by
    simp only [tgSets] at h
    cases hq : tgSet t d ρ with
    | none => rw [hq] at h; cases h
    | some ρ1 =>
      rw [hq] at h
      have h : tgSets ts ds ρ1 = some ρ' := h
      simp [tgSets_len h]
theorem PG_tup_ok {es : List Expr} {ts : List Tg} {k : Nat} {pos : Pos} {n : Nat} (h : PG X (.Tuple es k pos) (gTup X.K n (gsM X.K ts))) (hn : n = ts.length) : PG X (.Tuple es k pos) (gM X.K (.tp ts)) :=
  PG_imp h fun v σ H Q h => by
    obtain ⟨as, ρ, ρ', d, env, r, ht, q⟩ := h
    cases d with
    | tup ds =>
      simp only [tgSet] at ht
      obtain ⟨a, vs, rfl, ha, rr⟩ := r
      exact ⟨a, vs, rfl, ha, by rw [rr.length, tgSets_len ht, hn], as, ρ, ρ', ds, env, rr, ht, fun σ' env' w => q σ' env' fun ws hw => w ws (by simpa only [tgIn] using hw)⟩
    | _ => simp only [tgSet] at ht; cases ht

/-! ## what is walked -/
def IterOk (K : PySem.W.Frag) (as0 : List Addr) (H0 : Hp) (src : Src) (J : It) : Prop := ∀ (as : List Addr) (S : Sto) (H : Hp) (i : Nat), Ext as0 H0 as H → Sim K as S H → match src.nxt i S with
  | none => True
  | some none => J.stop i H
  | some (some d) => J.go i H ∧ ∀ x H', J.yld i H x H' → Ext as H as H' ∧ Sim K as S H' ∧ Rep K as H' d x
abbrev MI (X : Cx) (mg : Str → Option Value) (E : XK) (tg e : Expr) (m : Env' → M Src) : Prop := PI X tg e (tM X.K mg E (IterOk X.K) m)
theorem pi_any {tg l : Expr} {tl : TE} (hl : PE X l tl) : PI X tg l (fun σ H R => tl σ H fun x H1 => ∃ a, x = .ref a ∧ (((∃ xs, SqL X.K H1 a xs) ∧ R (Itl X.K a) H1) ∨ ((∃ xs, SqT X.K H1 a xs) ∧ R (Itt X.K a) H1))) := by
  refine ⟨fun pins s σ H R I h => ?_⟩
  refine thn (hl.run pins s σ H _ I h) fun v s1 ⟨x, H1, I1, r1, q1⟩ => ?_
  obtain ⟨a, e, q | q⟩ := q1
  · subst e
    cases r1
    obtain ⟨⟨xs, hq⟩, q⟩ := q
    obtain ⟨its, rv, p, hz⟩ := I1.list hq
    refine wpAny_pyIter_list p.isList ?_
    refine ⟨s1.heap.objs.size, [s1.heap.objs.size], _, _, H1, rfl, I1.kept (t' := s1.toks) fun b o e => Heap.get?_push_of_some _ e, turn_list a _, ⟨_, Heap.get?_push_size _ rfl, rfl, rfl⟩, fun b hb => ?_, q⟩
    rw [List.mem_singleton.mp hb]
    exact I1.fpOk (Nat.le_refl _) (I1.hok.fresh (Nat.le_refl _))
  · subst e
    cases r1
    obtain ⟨⟨xs, hq⟩, q⟩ := q
    obtain ⟨its, rv, p, hz⟩ := I1.tuple hq
    refine wpAny_pyIter_tuple (show s1.heap.IsTuple a its.toArray from p) ?_
    refine ⟨s1.heap.objs.size, [s1.heap.objs.size], _, _, H1, rfl, I1.kept (t' := s1.toks) fun b o e => Heap.get?_push_of_some _ e, turn_tuple a _, ⟨_, Heap.get?_push_size _ rfl, rfl, rfl⟩, fun b hb => ?_, q⟩
    rw [List.mem_singleton.mp hb]
    exact I1.fpOk (Nat.le_refl _) (I1.hok.fresh (Nat.le_refl _))
theorem reps_end {K : PySem.W.Frag} {as : List Addr} {H : Hp} {ds : List D} {vs : List V} {i : Nat} (r : Reps K as H ds vs) (h : ds[i]? = none) : vs.length ≤ i := by
  rw [r.length]; exact List.getElem?_eq_none_iff.mp h
/-- the items of a list that stays -/
theorem it_list {K : PySem.W.Frag} {as0 : List Addr} {H0 : Hp} {n : Nat} {ds : List D} {a : Addr} {vs : List V} (hs : ∀ as H, Ext as0 H0 as H → SqL K H a vs) (hi : ∀ H us, SqL K H a vs → SqL K H a us → us = vs) (r : Reps K as0 H0 ds vs) : IterOk K as0 H0 ⟨n, fun i _ => some ds[i]?⟩ (Itl K a) := by
  intro as S H i e sim
  show match some ds[i]? with | none => True | some none => _ | some (some d) => _
  have q := hs as H e
  have rr := r.mono e
  cases h : ds[i]? with
  | none => exact ⟨vs, q, reps_end r h⟩
  | some d =>
    obtain ⟨v, hv, rv⟩ := rr.get h
    refine ⟨⟨vs, v, q, hv⟩, ?_⟩
    rintro x H' ⟨rfl, y⟩
    have := y vs q
    rw [hv] at this; cases this
    exact ⟨Ext.refl _ _, sim, rv⟩
theorem it_tup {K : PySem.W.Frag} {as0 : List Addr} {H0 : Hp} {n : Nat} {ds : List D} {a : Addr} {vs : List V} (hs : SqT K H0 a vs) (r : Reps K as0 H0 ds vs) : IterOk K as0 H0 ⟨n, fun i _ => some ds[i]?⟩ (Itt K a) := by
  intro as S H i e sim
  show match some ds[i]? with | none => True | some none => _ | some (some d) => _
  have q := e.toEx0.sqT hs
  have rr := r.mono e
  cases h : ds[i]? with
  | none => exact ⟨vs, q, reps_end r h⟩
  | some d =>
    obtain ⟨v, hv, rv⟩ := rr.get h
    refine ⟨⟨vs, v, q, hv⟩, ?_⟩
    rintro x H' ⟨rfl, y⟩
    have := y vs q
    rw [hv] at this; cases this
    exact ⟨Ext.refl _ _, sim, rv⟩
theorem it_own {K : PySem.W.Frag} {as0 : List Addr} {H0 : Hp} {n r : Nat} {a : Addr} (ha : as0[r]? = some a) : IterOk K as0 H0 ⟨n, fun i S' => match S'[r]? with | some (.lst ys) => some ys[i]? | _ => none⟩ (Itl K a) := by
  intro as S H i e sim
  show match (match S[r]? with | some (.lst ys) => some ys[i]? | _ => none) with | none => True | some none => _ | some (some d) => _
  have ha' := e.pre r a ha
  obtain ⟨o, ho, hr⟩ := sim.has ha'
  rw [ho]
  cases o with
  | lst ys =>
    obtain ⟨vs, h1, h2⟩ := hr
    show match some ys[i]? with | none => True | some none => _ | some (some d) => _
    cases h : ys[i]? with
    | none => exact ⟨vs, SqL.of h1, reps_end h2 h⟩
    | some d =>
      obtain ⟨v, hv, rv⟩ := h2.get h
      refine ⟨⟨vs, v, SqL.of h1, hv⟩, ?_⟩
      rintro x H' ⟨rfl, y⟩
      have := y vs (SqL.of h1)
      rw [hv] at this; cases this
      exact ⟨Ext.refl _ _, sim, rv⟩
  | _ => exact True.intro
theorem mi_seq {tg e : Expr} {me : Env' → M D} (h : ME X mg E e me) : MI X mg E tg e (fun ρ => mbind (me ρ) fun x S => match srcOf x S with
    | some src => .ok src S
    | none => .bad) :=
  (pi_any h).imp fun σ H R hq => by
    obtain ⟨as, S, ρ, sim, env, fin⟩ := hq
    refine ⟨as, S, ρ, sim, env, (Fin.bind (Rl := Rep X.K) fin).imp ?_⟩
    rintro v H1 ⟨as1, S1, d, e1, sim1, r1, fin1⟩
    cases d with
    | tup ds =>
      obtain ⟨a, vs, rfl, ha, rr⟩ := r1
      exact ⟨a, rfl, .inr ⟨⟨vs, ha⟩, Fin.ret fin1 sim1 (it_tup ha rr)⟩⟩
    | fz ds =>
      obtain ⟨a, vs, rfl, ⟨o, ha⟩, rr⟩ := r1
      have go : ∀ as H, Ext as1 H1 as H → SqL X.K H a vs := fun as H e => .inl (.inr ⟨o, e.fix _ _ ha (.inr ⟨_, _, rfl⟩)⟩)
      refine ⟨a, rfl, .inl ⟨⟨vs, go as1 H1 (Ext.refl _ _)⟩, Fin.ret fin1 sim1 ?_⟩⟩
      intro as S H i e sim
      have hH : H a = some (.frz o (.lst vs)) := e.fix _ _ ha (.inr ⟨_, _, rfl⟩)
      show match some ds[i]? with | none => True | some none => _ | some (some d) => _
      have rr' := rr.mono e
      cases h : ds[i]? with
      | none => exact ⟨vs, go as H e, reps_end rr h⟩
      | some d =>
        obtain ⟨v, hv, rv⟩ := rr'.get h
        refine ⟨⟨vs, v, go as H e, hv⟩, ?_⟩
        rintro x H' ⟨rfl, y⟩
        have := y vs (go as _ e)
        rw [hv] at this; cases this
        exact ⟨Ext.refl _ _, sim, rv⟩
    | fr ds =>
      obtain ⟨a, vs, rfl, ha, rr⟩ := r1
      have go : ∀ as H, Ext as1 H1 as H → SqL X.K H a vs := fun as H e => (e.toEx0.fr ha).sq
      refine ⟨a, rfl, .inl ⟨⟨vs, go as1 H1 (Ext.refl _ _)⟩, Fin.ret fin1 sim1 ?_⟩⟩
      intro as S H i e sim
      show match some ds[i]? with | none => True | some none => _ | some (some d) => _
      have rr' := rr.mono e
      cases h : ds[i]? with
      | none => exact ⟨vs, go as H e, reps_end rr h⟩
      | some d =>
        obtain ⟨v, hv, rv⟩ := rr'.get h
        refine ⟨⟨vs, v, go as H e, hv⟩, ?_⟩
        rintro x H' ⟨rfl, y⟩
        have := y vs (go as _ e)
        rw [hv] at this; cases this
        exact ⟨Ext.refl _ _, sim, rv⟩
    | ref r =>
      obtain ⟨a, ha, rfl⟩ := r1
      obtain ⟨o, ho, hr⟩ := sim1.has ha
      simp only [srcOf, ho] at fin1
      cases o with
      | lst ys =>
        obtain ⟨vs, h1, h2⟩ := hr
        exact ⟨a, rfl, .inl ⟨⟨vs, SqL.of h1⟩, Fin.ret fin1 sim1 (it_own ha)⟩⟩
      | _ => exact fin1.elim
    | _ => exact fin1.elim
theorem it_rng {K : PySem.W.Frag} {as0 : List Addr} {H0 : Hp} (lo : Int) (n : Nat) : IterOk K as0 H0 (rngOf lo n) (Itr lo n) := by
  intro as S H i e sim
  show match (some (if i < n then some (D.int (lo + i)) else none)) with | none => True | some none => _ | some (some d) => _
  by_cases h : i < n
  · rw [if_pos h]
    refine ⟨h, ?_⟩
    rintro x H' ⟨rfl, rfl⟩
    exact ⟨Ext.refl _ _, sim, rfl⟩
  · rw [if_neg h]
    exact Nat.le_of_not_lt h
theorem mi_rng {tg a : Expr} {p pos : Pos} {ma : Env' → M D} (hg : Gl X "range") (hm : X.mg "range" = none) (ha : ME X mg E a ma) (hs : starEach [a] X.env = [(false, eval a X.env)]) :
    MI X mg E tg (.Call (.Name "range" p) [a] [] pos) (fun ρ => mbind (ma ρ) fun x => match x with
    | .int j => chk (-4611686018427387904 ≤ j ∧ j < 4611686018427387904) (mret (rngOf 0 j.toNat))
    | _ => mbad) :=
  (pi_range1 hg hm (pa_cons ha pa_nil hs) hs).imp fun σ H R hq => by
    obtain ⟨as, S, ρ, sim, env, fin⟩ := hq
    refine ⟨as, S, ρ, sim, env, (Fin.bind (Rl := Rep X.K) fin).imp ?_⟩
    rintro v H1 ⟨as1, S1, d, e1, sim1, r1, fin1⟩
    cases d <;> first | exact fin1.elim | skip
    rename_i j
    obtain ⟨hj, fin1⟩ := Fin.chk fin1
    cases r1
    exact ⟨j, rfl, by omega, by omega, Fin.ret fin1 sim1 (it_rng 0 _)⟩
theorem mi_rng2 {tg a b : Expr} {p pos : Pos} {ma mb : Env' → M D} (hg : Gl X "range") (hm : X.mg "range" = none) (ha : ME X mg E a ma) (hb : ME X mg E b mb) (hs : starEach [a, b] X.env = [(false, eval a X.env), (false, eval b X.env)]) (hs2 : starEach [b] X.env = [(false, eval b X.env)]) :
    MI X mg E tg (.Call (.Name "range" p) [a, b] [] pos) (fun ρ => mbind (ma ρ) fun x => mbind (mb ρ) fun y => match x, y with
    | .int i, .int j => chk (-4611686018427387904 ≤ i ∧ i < 4611686018427387904 ∧ -4611686018427387904 ≤ j ∧ j < 4611686018427387904) (mret (rngOf i (j - i).toNat))
    | _, _ => mbad) :=
  (pi_range2 hg hm (pa_cons ha (pa_cons hb pa_nil hs2) (by rw [hs, hs2])) hs hs2).imp fun σ H R hq => by
    obtain ⟨as, S, ρ, sim, env, fin⟩ := hq
    refine ⟨as, S, ρ, sim, env, (Fin.bind (Rl := Rep X.K) fin).imp ?_⟩
    rintro v H1 ⟨as1, S1, d, e1, sim1, r1, fin1⟩
    refine ⟨as1, S1, ρ, sim1, env.mono e1, (Fin.bind (Rl := Rep X.K) fin1).imp ?_⟩
    rintro u H2 ⟨as2, S2, d2, e2, sim2, r2, fin2⟩
    cases d <;> first | exact fin2.elim | skip
    cases d2 <;> first | exact fin2.elim | skip
    rename_i i j
    obtain ⟨hj, fin2⟩ := Fin.chk fin2
    cases r1; cases r2
    exact ⟨i, j, rfl, by omega, Fin.ret fin2 sim2 (it_rng i _)⟩
/-- two sequences side by side -/
theorem lst_later {K : PySem.W.Frag} {as0 as : List Addr} {H0 H : Hp} {S : Sto} {d : D} {a : Addr} (r : Rep K as0 H0 d (.ref a)) (e : Ext as0 H0 as H) (sim : Sim K as S H) {ys : List D} (h : lstOf d S = some ys) : ∃ vs, SqL K H a vs ∧ Reps K as H ys vs := by
  obtain ⟨b, vs, h1, h2, h3⟩ := lst_ok sim h (r.mono e)
  cases h1
  exact ⟨vs, h2, h3⟩
theorem it_zipL {K : PySem.W.Frag} {as0 : List Addr} {H0 : Hp} {n : Nat} {d1 d2 : D} {a b : Addr} (r1 : Rep K as0 H0 d1 (.ref a)) (r2 : Rep K as0 H0 d2 (.ref b)) :
    IterOk K as0 H0 ⟨n, fun i S' => match lstOf d1 S', lstOf d2 S' with
      | some us, some vs => some (pairD us[i]? vs[i]?)
      | _, _ => none⟩ (Itz K a b) := by
  intro as S H i e sim
  show match (match lstOf d1 S, lstOf d2 S with | some us, some vs => some (pairD us[i]? vs[i]?) | _, _ => none) with | none => True | some none => _ | some (some d) => _
  cases h1 : lstOf d1 S with
  | none => exact True.intro
  | some xs =>
    cases h2 : lstOf d2 S with
    | none => exact True.intro
    | some ys =>
      obtain ⟨us, q1, rr1⟩ := lst_later r1 e sim h1
      obtain ⟨ws, q2, rr2⟩ := lst_later r2 e sim h2
      show match some (pairD xs[i]? ys[i]?) with | none => True | some none => _ | some (some d) => _
      cases hx : xs[i]? with
      | none => exact ⟨us, ws, q1, q2, .inl (reps_end rr1 hx)⟩
      | some x =>
        cases hy : ys[i]? with
        | none => exact ⟨us, ws, q1, q2, .inr (reps_end rr2 hy)⟩
        | some y =>
          obtain ⟨v, hv, rv⟩ := rr1.get hx
          obtain ⟨w, hw, rw'⟩ := rr2.get hy
          refine ⟨⟨us, ws, v, w, q1, q2, hv, hw⟩, ?_⟩
          rintro z H' ⟨T, v', w', rfl, hT, rfl, y1, y2⟩
          have t1 := y1 us q1
          have t2 := y2 ws q2
          rw [hv] at t1; cases t1
          rw [hw] at t2; cases t2
          exact ⟨Ext.fixed hT, sim.fixed hT, T, _, rfl, SqT.of upd_same, (Reps.cons rv (Reps.one rw')).mono (Ext.fixed hT)⟩
theorem it_zipT {K : PySem.W.Frag} {as0 : List Addr} {H0 : Hp} {n : Nat} {xs ys : List D} {a b : Addr} {us ws : List V} (q1 : SqT K H0 a us) (r1 : Reps K as0 H0 xs us) (q2 : SqT K H0 b ws) (r2 : Reps K as0 H0 ys ws) :
    IterOk K as0 H0 ⟨n, fun i _ => some (pairD xs[i]? ys[i]?)⟩ (RZ.ItzT K a b) := by
  intro as S H i e sim
  show match some (pairD xs[i]? ys[i]?) with | none => True | some none => _ | some (some d) => _
  have q1 := e.toEx0.sqT q1
  have q2 := e.toEx0.sqT q2
  have rr1 := r1.mono e
  have rr2 := r2.mono e
  cases hx : xs[i]? with
  | none => exact ⟨us, ws, q1, q2, .inl (reps_end rr1 hx)⟩
  | some x =>
    cases hy : ys[i]? with
    | none => exact ⟨us, ws, q1, q2, .inr (reps_end rr2 hy)⟩
    | some y =>
      obtain ⟨v, hv, rv⟩ := rr1.get hx
      obtain ⟨w, hw, rw'⟩ := rr2.get hy
      refine ⟨⟨us, ws, v, w, q1, q2, hv, hw⟩, ?_⟩
      rintro z H' ⟨T, v', w', rfl, hT, rfl, y1, y2⟩
      have t1 := y1 us q1
      have t2 := y2 ws q2
      rw [hv] at t1; cases t1
      rw [hw] at t2; cases t2
      exact ⟨Ext.fixed hT, sim.fixed hT, T, _, rfl, SqT.of upd_same, (Reps.cons rv (Reps.one rw')).mono (Ext.fixed hT)⟩
theorem mi_zip {a b : Expr} {p pos tpos : Pos} {elts : List Expr} {kk : Nat} {ma mb : Env' → M D} (hg : Gl X "zip") (hm : X.mg "zip" = none) (ha : ME X mg E a ma) (hb : ME X mg E b mb)
    (hs : starEach [a, b] X.env = (false, eval a X.env) :: starEach [b] X.env) (hs2 : starEach [b] X.env = [(false, eval b X.env)]) (hpl : (backTo pos (starEach [b] X.env)).any (·.1) = false) :
    MI X mg E (.Tuple elts kk tpos) (.Call (.Name "zip" p) [a, b] [] pos) (fun ρ => mbind (ma ρ) fun x => mbind (mb ρ) fun y S => match zipOf x y S with
    | some src => .ok src S
    | none => .bad) :=
  (RZ.pi_zipA hg hm (pa_cons ha (pa_cons hb pa_nil hs2) hs) hs hpl).imp fun σ H R hq => by
    obtain ⟨as, S, ρ, sim, env, fin⟩ := hq
    refine ⟨as, S, ρ, sim, env, (Fin.bind (Rl := Rep X.K) fin).imp ?_⟩
    rintro v H1 ⟨as1, S1, d, e1, sim1, r1, fin1⟩
    refine ⟨as1, S1, ρ, sim1, env.mono e1, (Fin.bind (Rl := Rep X.K) fin1).imp ?_⟩
    rintro u H2 ⟨as2, S2, d2, e2, sim2, r2, fin2⟩
    have r1' := r1.mono e2
    have lists : ∀ xs ys, lstOf d S2 = some xs → lstOf d2 S2 = some ys → Fin X.K mg E (IterOk X.K) as2 H2 (.ok ⟨xs.length, fun i S' => match lstOf d S', lstOf d2 S' with
        | some us, some vs => some (pairD us[i]? vs[i]?)
        | _, _ => none⟩ S2) R → ∃ a b xs ys, [v, u] = [V.ref a, .ref b] ∧ ((SqL X.K H2 a xs ∧ SqL X.K H2 b ys ∧ R (Itz X.K a b) H2) ∨ (SqT X.K H2 a xs ∧ SqT X.K H2 b ys ∧ R (RZ.ItzT X.K a b) H2)) := fun xs ys h1 h2 f => by
      obtain ⟨a, vs, rfl, q1, rr1⟩ := lst_ok sim2 h1 r1'
      obtain ⟨b, ws, rfl, q2, rr2⟩ := lst_ok sim2 h2 r2
      exact ⟨a, b, vs, ws, rfl, .inl ⟨q1, q2, Fin.ret f sim2 (it_zipL r1' r2)⟩⟩
    unfold zipOf at fin2
    try dsimp only at fin2
    split at fin2
    · rename_i src hsrc
      split at hsrc
      · cases hsrc
        obtain ⟨a, vs, rfl, q1, rr1⟩ := r1'
        obtain ⟨b, ws, rfl, q2, rr2⟩ := r2
        exact ⟨a, b, vs, ws, rfl, .inr ⟨q1, q2, Fin.ret fin2 sim2 (it_zipT q1 rr1 q2 rr2)⟩⟩
      · cases hsrc
      · cases hsrc
      · split at hsrc
        · rename_i xs ys h1 h2
          cases hsrc
          exact lists _ _ h1 h2 fin2
        · cases hsrc
    · exact fin2.elim
end
end Pu

namespace Pu
open PySem PySem.Spec PyProof.Rows L2

section
variable {K : PySem.W.Frag} {as : List Addr} {H : Hp} {S : Sto}
theorem Sim.notIn (s : Sim K as S H) {p : Addr} (h : H p = none) : p ∉ as := fun q => by
  obtain ⟨i, hi⟩ := List.mem_iff_getElem?.mp q
  obtain ⟨o, _, r⟩ := s.has hi
  obtain ⟨w, hw, _⟩ := r.some
  rw [h] at hw; cases hw
/-- a list that no object of the store is, changed -/
theorem Ex0.out {p : Addr} {vs : List V} {o : HO} (h : H p = some (.lst vs)) : Ex0 as H as (upd H p o) :=
  ⟨fun _ _ h => h, fun a u hu f => by
    have : a ≠ p := fun e => by
      subst e; rw [h] at hu; cases hu
      rcases f with ⟨_, q⟩ | ⟨_, _, q⟩ <;> cases q
    rw [upd_ne this]; exact hu⟩
theorem Sim.out (s : Sim K as S H) {p : Addr} {vs : List V} {o : HO} (h : H p = some (.lst vs)) (n : p ∉ as) : Sim K as S (upd H p o) :=
  ⟨s.len, s.inj, fun i a u h1 h2 => by
    have ne : a ≠ p := fun e => by subst e; exact n (List.mem_of_getElem? h1)
    exact (s.ob i a u h1 h2).move (Ex0.out h) (upd_ne ne)⟩
/-- such a list becomes an object of the store -/
theorem Sim.adopt (s : Sim K as S H) {p : Addr} {vs : List V} {ds : List D} (h : H p = some (.lst vs)) (n : p ∉ as) (r : Reps K as H ds vs) : Sim K (as ++ [p]) (S ++ [.lst ds]) H := by
  have e : Ex0 as H (as ++ [p]) H := ⟨fun i a h => by
    rw [List.getElem?_append_left (List.getElem?_eq_some_iff.mp h).1]; exact h, fun _ _ h _ => h⟩
  have last : ∀ (i : Nat) (a : Addr), (as ++ [p])[i]? = some a → ¬ i < as.length → i = as.length ∧ a = p := fun i a h hl => by
    rw [List.getElem?_append_right (by omega)] at h
    obtain ⟨h4, h5⟩ := List.getElem?_eq_some_iff.mp h
    simp at h4 h5
    exact ⟨by omega, h5.symm⟩
  refine ⟨by simp [s.len], fun i j a h1 h2 => ?_, fun i a o h1 h2 => ?_⟩
  · by_cases hi : i < as.length
    · rw [List.getElem?_append_left hi] at h1
      by_cases hj : j < as.length
      · rw [List.getElem?_append_left hj] at h2
        exact s.inj i j a h1 h2
      · obtain ⟨_, e2⟩ := last j a h2 hj
        subst e2
        exact (n (List.mem_of_getElem? h1)).elim
    · obtain ⟨e1, e2⟩ := last i a h1 hi
      by_cases hj : j < as.length
      · rw [List.getElem?_append_left hj] at h2
        subst e2
        exact (n (List.mem_of_getElem? h2)).elim
      · obtain ⟨e3, _⟩ := last j a h2 hj
        omega
  · by_cases hi : i < as.length
    · rw [List.getElem?_append_left hi] at h1
      rw [List.getElem?_append_left (by rw [← s.len]; exact hi)] at h2
      exact (s.ob i a o h1 h2).move e rfl
    · obtain ⟨e1, e2⟩ := last i a h1 hi
      subst e1; subst e2
      rw [List.getElem?_append_right (by rw [← s.len]; exact Nat.le_refl _)] at h2
      have h2 : [Ob.lst ds][as.length - S.length]? = some o := h2
      rw [s.len, Nat.sub_self] at h2
      cases h2
      exact ⟨vs, h, Reps.mono0 e r⟩
end
section
variable {X : Cx} {mg : Str → Option Value} {E : XK} {pos : Pos}
theorem wipe_twice (σ : L2.St) (ws : List Nat) : L2.wipe (L2.wipe σ ws) ws = L2.wipe σ ws := by
  apply List.ext_getElem?
  intro j
  rw [wipe_get, wipe_length, wipe_get]
  by_cases c : j ∈ ws ∧ j < σ.length
  · rw [if_pos c, if_pos c]
  · rw [if_neg c]
theorem lc_read {K : PySem.W.Frag} {tg' : Tg} {mi : Env' → M Src} {mel : Env' → M D} {mt : Env' → M Bool} (ownF : Bool) {ws : List Nat} (hw : tgIn ws tg' = true) {σ : L2.St} {H : Hp} {Q Q' : VK} (hQ : ∀ v H1, QL ownF Q v H1 → Q' v H1)
    (h : tD K mg E (fun ρ => mbind (mi ρ) fun src => mbind (nox (lcLoop mel mt tg' src src.n 0 (wipeE ρ ws) [])) fun xs => newL ownF xs) σ H Q) :
    tLc (tM K mg E (IterOk K) mi) (gM K tg') (tB' K mg E0 mt) (tD K mg E0 mel) ws σ H Q' := by
  obtain ⟨as0, S0, ρ, sim0, env0, fin0⟩ := h
  refine ⟨as0, S0, ρ, sim0, env0, (Fin.bind (Rl := IterOk K) fin0).imp ?_⟩
  rintro J H1 ⟨as1, S1, src, e1, sim1, itok, fin1⟩
  intro D hD
  have env1 := (env0.mono e1).wipe ws
  generalize wipeE ρ ws = ρw at fin1 env1
  let Inv' : Nat → Nat → Hp → Prop := fun i m H => ∃ as S acc vs, Sim K as S H ∧ Ext as1 H1 as H ∧ H D = some (.lst vs) ∧ D ∉ as ∧ Reps K as H acc vs ∧ Fin K mg E (Rep K) as1 H1 ((nox (lcLoop mel mt tg' src m i ρw acc) S).bind (newL ownF)) Q
  show ∃ W : Nat → Nat → Hp → Prop, _
  refine ⟨Inv', ⟨src.n, as1, S1, [], [], sim1.fixed hD, Ext.fixed hD, upd_same, sim1.notIn hD, Reps.nil, fin1⟩, ?_⟩
  rintro i m H ⟨as, S, acc, vs, sim, e, hDv, hDn, racc, fin⟩
  have it := itok as S H i e sim
  unfold lcLoop at fin
  cases hn : src.nxt i S with
  | none => simp only [nox, hn] at fin; exact fin.elim
  | some o =>
    rw [hn] at it
    cases o with
    | none =>
      refine .inl ⟨it, ?_⟩
      simp only [nox, hn, R.bind] at fin
      unfold newL at fin
      by_cases hl : acc.length ≤ line
      · rw [if_pos hl] at fin
        cases ownF with
        | true =>
          refine hQ _ _ (fin (as ++ [D]) H _ ⟨⟨fun i a h => ?_, e.fix⟩, e.keep, fun a ha => ?_⟩ (sim.adopt hDv hDn racc) ⟨D, ?_, rfl⟩)
          · have h2 := e.pre i a h
            rw [List.getElem?_append_left (List.getElem?_eq_some_iff.mp h2).1]; exact h2
          · rcases List.mem_append.mp ha with z | z
            · exact e.new a z
            · rw [List.mem_singleton.mp z]; exact .inr hD
          · rw [← sim.len, List.getElem?_append_right (Nat.le_refl _)]; simp
        | false =>
          refine hQ _ _ ⟨D, vs, rfl, hDv, fun o => fin as _ _ ⟨⟨e.pre, fun a u hu f => ?_⟩, fun a u hu n => ?_, e.new⟩ (sim.out hDv hDn) ⟨D, vs, rfl, ⟨o, upd_same⟩, Reps.mono0 (Ex0.out hDv) racc⟩⟩
          · rw [upd_ne (ne_of_none hu hD)]; exact e.fix a u hu f
          · rw [upd_ne (ne_of_none hu hD)]; exact e.keep a u hu n
      · rw [if_neg hl] at fin; exact fin.elim
    | some d =>
      obtain ⟨hgo, hy⟩ := it
      refine .inr ⟨hgo, ?_⟩
      cases m with
      | zero => simp only [nox, hn] at fin; exact fin.elim
      | succ m =>
        refine ⟨Inv' (i + 1) m, fun H' h => ⟨m, Nat.lt_succ_self m, h⟩, fun x H2 y => ?_⟩
        obtain ⟨e2, sim2, rx⟩ := hy x H2 y
        simp only [nox, hn] at fin
        cases htg : tgSet tg' d ρw with
        | none => rw [htg] at fin; exact fin.elim
        | some ρ' =>
          rw [htg] at fin
          have eb := e.trans e2
          refine ⟨as, ρw, ρ', d, env1.mono eb, rx, htg, fun σ' env' w' => ⟨by rw [w' ws hw, wipe_twice], as, S, ρ', sim2, env', ?_⟩⟩
          have hD2 : H2 D = some (.lst vs) := e2.keep _ _ hDv hDn
          cases hm : mt ρ' S with
          | bad => simp only [hm, R.bind] at fin; exact fin.elim
          | exc c fs S3 => simp only [hm, R.bind] at fin; exact fin.elim
          | ok b S3 =>
            simp only [hm, R.bind] at fin
            intro as3 H3 b' e3 sim3 hb
            have hb : b = b' := hb
            subst hb
            have hD3 : H3 D = some (.lst vs) := e3.keep _ _ hD2 hDn
            have hn3 : D ∉ as3 := e3.out hD2 hDn
            have racc3 := (racc.mono e2).mono e3
            cases b with
            | false =>
              rw [if_neg Bool.false_ne_true]
              simp only [Bool.false_eq_true, if_false] at fin
              exact ⟨as3, S3, acc, vs, sim3, eb.trans e3, hD3, hn3, racc3, fin⟩
            | true =>
              rw [if_pos rfl]
              refine ⟨as3, S3, ρ', sim3, env'.mono e3, ?_⟩
              cases hq : mel ρ' S3 with
              | bad => simp only [mbind, hq, R.bind, if_true] at fin; exact fin.elim
              | exc c fs S4 => simp only [mbind, hq, R.bind, if_true] at fin; exact fin.elim
              | ok z S4 =>
                simp only [mbind, hq, R.bind, if_true] at fin
                intro as4 H4 v e4 sim4 rv
                by_cases hl : acc.length < line
                · rw [if_pos hl] at fin
                  have hD4 : H4 D = some (.lst vs) := e4.keep _ _ hD3 hn3
                  have hn4 : D ∉ as4 := e4.out hD3 hn3
                  have racc4 := racc3.mono e4
                  have eB := (eb.trans e3).trans e4
                  rw [line_eq] at hl
                  refine ⟨vs, hD4, by rw [racc4.length]; exact hl, as4, S4, acc ++ [z], vs ++ [v], sim4.out hD4 hn4, ⟨⟨eB.pre, fun a u hu f => ?_⟩, fun a u hu n => ?_, eB.new⟩, upd_same, hn4, Reps.mono0 (Ex0.out hD4) (racc4.append (Reps.one rv)), fin⟩
                  · rw [upd_ne (ne_of_none hu hD)]; exact eB.fix a u hu f
                  · rw [upd_ne (ne_of_none hu hD)]; exact eB.keep a u hu n
                · rw [if_neg hl] at fin; exact fin.elim
theorem me_lc {elt tg iter : Expr} {ifs : List Expr} {scope : Scope} {own : List (Str × Nat)} {tg' : Tg} {mi : Env' → M Src} {mel : Env' → M D} {mt : Env' → M Bool} (ownF : Bool) (hc : X.calm = true) (hN : X.N.Nodup) (hi : MI X mg E tg iter mi) (ok : BlkOk X.N X.env.scope scope own)
    (hg : ∀ (s : Shared) (H : Hp) (C : Addr) (cl : List (Str × Addr)) (fp : List Addr), PG (X.blk s H scope (compEnvC scope cl C X.env) fp) tg (gM X.K tg'))
    (ht : ∀ (s : Shared) (H : Hp) (C : Addr) (cl : List (Str × Addr)) (fp : List Addr), PTs (X.blk s H scope (compEnvC scope cl C X.env) fp) ifs (tB' X.K mg E0 mt))
    (he : ∀ (s : Shared) (H : Hp) (C : Addr) (cl : List (Str × Addr)) (fp : List Addr), PE (X.blk s H scope (compEnvC scope cl C X.env) fp) elt (tD X.K mg E0 mel))
    (hw : tgIn (own.map (·.2)) tg' = true) (hs : ∀ x, foldedSetIterable iter X.env x = pure x) :
    ME X mg E (.ListComp elt [⟨tg, iter, ifs, 0⟩] scope pos) (fun ρ => mbind (mi ρ) fun src => mbind (nox (lcLoop mel mt tg' src src.n 0 (wipeE ρ (own.map (·.2))) [])) fun xs => newL ownF xs) := by
  exact (pe_ql ownF (pe_lc hc hN hi ok hg ht he hs)).imp fun σ H Q h => lc_read ownF hw (fun _ _ q => q) h
theorem mts_nil : PTs X [] (tB' X.K mg E (fun _ => mret true)) := ⟨fun pins s σ H Q I h => pts_nil.run pins s σ H Q I (by
  obtain ⟨as, S, ρ, sim, env, fin⟩ := h
  exact Fin.ret fin sim rfl)⟩
theorem mts_one {c : Expr} {ta : Env' → M Bool} (h : MT X mg E c ta) : PTs X [c] (tB' X.K mg E (fun ρ => mbind (ta ρ) fun t => if t then mret true else mret false)) := ⟨fun pins s σ H Q I q => (pts_one h).run pins s σ H Q I (by
  obtain ⟨as, S, ρ, sim, env, fin⟩ := q
  refine ⟨as, S, ρ, sim, env, (Fin.bind (Rl := RlB) fin).imp ?_⟩
  rintro x H1 ⟨as1, S1, d, e1, sim1, rfl, fin1⟩
  cases d with
  | false => exact Fin.ret fin1 sim1 rfl
  | true => exact Fin.ret fin1 sim1 rfl)⟩
end

/-! ## statements -/
def FinS (K : PySem.W.Frag) (mg : Str → Option Value) (E : XK) (D : Ends) (as : List Addr) (H : Hp) : R Fl → Prop
  | .ok (.nx ρ) S' => ∀ as' H' σ', Ext as H as' H' → Sim K as' S' H' → EnvR K as' H' σ' ρ → D.nx σ' H'
  | .ok (.rt d) S' => ∀ as' H' v, Ext as H as' H' → Sim K as' S' H' → Rep K as' H' d v → D.rt v H'
  | .ok (.bk ρ) S' => ∀ as' H' σ', Ext as H as' H' → Sim K as' S' H' → EnvR K as' H' σ' ρ → D.bk σ' H'
  | .ok (.ct ρ) S' => ∀ as' H' σ', Ext as H as' H' → Sim K as' S' H' → EnvR K as' H' σ' ρ → D.ct σ' H'
  | .exc c fs S' => FinX K mg E as H c fs S'
  | .bad => False
def tSt (K : PySem.W.Frag) (mg : Str → Option Value) (E : XK) (m : Env' → M Fl) : TS := fun D σ H => ∃ (as : List Addr) (S : Sto) (ρ : Env'), Sim K as S H ∧ EnvR K as H σ ρ ∧ FinS K mg E D as H (m ρ S)
section
variable {K : PySem.W.Frag} {mg : Str → Option Value} {E : XK} {D : Ends} {as as1 : List Addr} {H H1 : Hp}
theorem FinS.ext {r : R Fl} (h : FinS K mg E D as H r) (e : Ext as H as1 H1) : FinS K mg E D as1 H1 r := by
  cases r with
  | ok f S => cases f with
    | nx ρ => exact fun as' H' σ' e' => h as' H' σ' (e.trans e')
    | rt d => exact fun as' H' v e' => h as' H' v (e.trans e')
    | bk ρ => exact fun as' H' σ' e' => h as' H' σ' (e.trans e')
    | ct ρ => exact fun as' H' σ' e' => h as' H' σ' (e.trans e')
  | exc c fs S => exact FinX.ext h e
  | bad => exact h
theorem FinS.bind {α β : Type} {Rl : List Addr → Hp → α → β → Prop} {m : R α} {f : α → M Fl} (h : FinS K mg E D as H (m.bind f)) :
    Fin K mg E Rl as H m (fun b H1 => ∃ (as1 : List Addr) (S1 : Sto) (a : α), Ext as H as1 H1 ∧ Sim K as1 S1 H1 ∧ Rl as1 H1 a b ∧ FinS K mg E D as1 H1 (f a S1)) := by
  cases m with
  | ok a S => exact fun as1 H1 b e s r => ⟨as1, S, a, e, s, r, FinS.ext (h : FinS K mg E D as H (f a S)) e⟩
  | exc c fs S => exact h
  | bad => exact h
end
section
variable {X : Cx} {mg : Str → Option Value} {E : XK} {pos : Pos} {e o i : Expr} {st : Stmt} {sts : List Stmt} {me mo mi : Env' → M D}
abbrev MS (X : Cx) (mg : Str → Option Value) (E : XK) (st : Stmt) (m : Env' → M Fl) : Prop := PS X st (tSt X.K mg E m)
abbrev MSs (X : Cx) (mg : Str → Option Value) (E : XK) (st : List Stmt) (m : Env' → M Fl) : Prop := PSs X st (tSt X.K mg E m)
theorem t_set {j : Nat} {D : Ends} {σ : L2.St} {H : Hp} (h : tSt X.K mg E (fun ρ => mbind (me ρ) fun x => mret (.nx (ρ.set j (some x)))) D σ H) : tD X.K mg E me σ H fun x H1 => gName j x σ H1 D.nx := by
  obtain ⟨as, S, ρ, sim, env, fin⟩ := h
  refine ⟨as, S, ρ, sim, env, (FinS.bind (Rl := Rep X.K) fin).imp ?_⟩
  rintro v H1 ⟨as1, S1, d, e1, sim1, r1, fin1⟩
  exact fin1 as1 H1 _ (Ext.refl _ _) sim1 ((env.mono e1).set r1 j)
theorem ms_set {j : Nat} {x : Str} {p : Pos} (hN : X.N.Nodup) (hi : X.N[j]? = some x) (hx : Loc X.env.scope x) (he : ME X mg E e me) (hs : swapsWith e (some (.Name x p)) pos.line X.env = pure false) (hf : X.fn x = true ∨ X.env.scope.names.lookup x = some .local) :
    MS X mg E (.Assign [.Name x p] e pos) (fun ρ => mbind (me ρ) fun x => mret (.nx (ρ.set j (some x)))) := (ps_set hN hi hx he hs hf).imp fun _ _ _ h => t_set h
/-- a list that the statement leaves is frozen behind it -/
theorem ps_frz {t : TS} (h : PS X st t) : PS X st (fun D σ H => t { D with nx := fun σ' H' => D.nx σ' H' ∨ ∃ a xs, H' a = some (.lst xs) ∧ ∀ o, D.nx σ' (upd H' a (.frz o (.lst xs))) } σ H) := ⟨fun pins s σ H D I q => by
  refine thn (h.run pins s σ H _ I q) fun f s' hf => ?_
  cases f with
  | next =>
    obtain ⟨σ', H', I', q | ⟨a, xs, ha, q⟩⟩ := hf
    · exact ⟨σ', H', I', q⟩
    · obtain ⟨o, I2⟩ := I'.lock ha trivial
      exact ⟨σ', _, I2, q o⟩
  | brk => exact hf
  | cont => exact hf
  | ret u => exact hf⟩
theorem ms_setLc {elt tg iter : Expr} {ifs : List Expr} {scope : Scope} {own : List (Str × Nat)} {tg' : Tg} {mi : Env' → M Src} {mel : Env' → M D} {mt : Env' → M Bool} {cpos : Pos} {j : Nat} {x : Str} {p : Pos} (ownF : Bool) (hc : X.calm = true) (hN : X.N.Nodup)
    (hj : X.N[j]? = some x) (hx : X.env.scope.names.lookup x = some .local) (hsw : swapsWith (.ListComp elt [⟨tg, iter, ifs, 0⟩] scope cpos) (some (.Name x p)) pos.line X.env = pure true) (hi : MI X mg E tg iter mi) (ok : BlkOk X.N X.env.scope scope own)
    (hg : ∀ (s : Shared) (H : Hp) (C : Addr) (cl : List (Str × Addr)) (fp : List Addr), PG (X.blk s H scope (compEnvC scope cl C X.env) fp) tg (gM X.K tg'))
    (ht : ∀ (s : Shared) (H : Hp) (C : Addr) (cl : List (Str × Addr)) (fp : List Addr), PTs (X.blk s H scope (compEnvC scope cl C X.env) fp) ifs (tB' X.K mg E0 mt))
    (he : ∀ (s : Shared) (H : Hp) (C : Addr) (cl : List (Str × Addr)) (fp : List Addr), PE (X.blk s H scope (compEnvC scope cl C X.env) fp) elt (tD X.K mg E0 mel))
    (hw : tgIn (own.map (·.2)) tg' = true) (hs : ∀ x, foldedSetIterable iter X.env x = pure x) :
    MS X mg E (.Assign [.Name x p] (.ListComp elt [⟨tg, iter, ifs, 0⟩] scope cpos) pos) (fun ρ => mbind (mbind (mi ρ) fun src => mbind (nox (lcLoop mel mt tg' src src.n 0 (wipeE ρ (own.map (·.2))) [])) fun xs => newL ownF xs) fun x => mret (.nx (ρ.set j (some x)))) :=
  (ps_frz (ps_setLc hc hN hj hx hsw hi ok hg ht he hs)).imp fun D σ H h => lc_read ownF hw (fun v H1 q => by
    cases ownF with
    | true => exact .inl q
    | false =>
      obtain ⟨a, xs, rfl, ha, q⟩ := q
      exact .inr ⟨a, xs, ha, q⟩) (t_set h)
theorem ms_asg {tg : Expr} {tg' : Tg} (he : ME X mg E e me) (hg : PG X tg (gM X.K tg')) (hs : swapsWithSole [tg] e pos.line X.env = pure false) (hw : swappedStores [tg] e X.env = pure none) (h1 : (assignEach [tg] X.env).map (·.2) = [assign tg X.env]) :
    MS X mg E (.Assign [tg] e pos) (fun ρ => mbind (me ρ) fun x => match tgSet tg' x ρ with
      | some ρ' => mret (.nx ρ')
      | none => mbad) := (ps_asg he hg hs hw h1).imp fun D σ H h => by
  obtain ⟨as, S, ρ, sim, env, fin⟩ := h
  refine ⟨as, S, ρ, sim, env, (FinS.bind (Rl := Rep X.K) fin).imp ?_⟩
  rintro v H1 ⟨as1, S1, d, e1, sim1, r1, fin1⟩
  cases ht : tgSet tg' d ρ with
  | none => rw [ht] at fin1; exact fin1.elim
  | some ρ' =>
    rw [ht] at fin1
    exact ⟨as1, ρ, ρ', d, env.mono e1, r1, ht, fun σ' env' _ => fin1 as1 H1 σ' (Ext.refl _ _) sim1 env'⟩
theorem ms_sto {p : Pos} (he : ME X mg E e me) (ho : ME X mg E o mo) (hi : ME X mg E i mi) (hs : swapsWithSole [.Subscript o i p] e pos.line X.env = pure false) (hw : swappedStores [.Subscript o i p] e X.env = pure none)
    (h1 : (assignEach [.Subscript o i p] X.env).map (·.2) = [assign (.Subscript o i p) X.env]) (hg : ∀ t, PSet X t → PG X (.Subscript o i p) (gSub (tD X.K mg E mo) (tD X.K mg E mi) t)) :
    MS X mg E (.Assign [.Subscript o i p] e pos) (fun ρ => mbind (me ρ) fun x => mbind (mo ρ) fun r => mbind (mi ρ) fun k => mbind (stoM r k x) fun _ => mret (.nx ρ)) :=
  (ps_asg he (hg _ (set_d (mg := mg) (E := E))) hs hw h1).imp fun D σ H h => by
  obtain ⟨as, S, ρ, sim, env, fin⟩ := h
  refine ⟨as, S, ρ, sim, env, (FinS.bind (Rl := Rep X.K) fin).imp ?_⟩
  rintro v H1 ⟨as1, S1, d, e1, sim1, r1, fin1⟩
  refine ⟨as1, S1, ρ, sim1, env.mono e1, (FinS.bind (Rl := Rep X.K) fin1).imp ?_⟩
  rintro v2 H2 ⟨as2, S2, d2, e2, sim2, r2, fin2⟩
  refine ⟨as2, S2, ρ, sim2, (env.mono e1).mono e2, (FinS.bind (Rl := Rep X.K) fin2).imp ?_⟩
  rintro v3 H3 ⟨as3, S3, d3, e3, sim3, r3, fin3⟩
  refine ⟨as3, S3, d2, d3, d, sim3, r2.mono e3, r3, (r1.mono e2).mono e3, (FinS.bind (Rl := fun _ _ (_ : Unit) (_ : Unit) => True) fin3).imp ?_⟩
  rintro _ H4 ⟨as4, S4, _, e4, sim4, _, fin4⟩
  exact fin4 as4 H4 σ (Ext.refl _ _) sim4 ((((env.mono e1).mono e2).mono e3).mono e4)
theorem ms_expr (he : ME X mg E e me) (hs : swapsWith e none pos.line X.env = pure false) : MS X mg E (.Expr e pos) (fun ρ => mbind (me ρ) fun _ => mret (.nx ρ)) := (ps_expr he hs).imp fun D σ H h => by
  obtain ⟨as, S, ρ, sim, env, fin⟩ := h
  refine ⟨as, S, ρ, sim, env, (FinS.bind (Rl := Rep X.K) fin).imp ?_⟩
  rintro v H1 ⟨as1, S1, d, e1, sim1, r1, fin1⟩
  exact fin1 as1 H1 _ (Ext.refl _ _) sim1 (env.mono e1)
theorem ms_ret (he : ME X mg E e me) : MS X mg E (.Return (some e) pos) (fun ρ => mbind (me ρ) fun x => mret (.rt x)) := (ps_ret he).imp fun D σ H h => by
  obtain ⟨as, S, ρ, sim, env, fin⟩ := h
  refine ⟨as, S, ρ, sim, env, (FinS.bind (Rl := Rep X.K) fin).imp ?_⟩
  rintro v H1 ⟨as1, S1, d, e1, sim1, r1, fin1⟩
  exact fin1 as1 H1 _ (Ext.refl _ _) sim1 r1
theorem ms_ife {c : Expr} {a b : List Stmt} {mc : Env' → M Bool} {ma mb : Env' → M Fl} (hc : MT X mg E c mc) (ha : MSs X mg E a ma) (hb : MSs X mg E b mb) : MS X mg E (.If c a b pos) (fun ρ => mbind (mc ρ) fun k => if k then ma ρ else mb ρ) :=
  (ps_if hc ha hb).imp fun D σ H h => by
  obtain ⟨as, S, ρ, sim, env, fin⟩ := h
  refine ⟨as, S, ρ, sim, env, (FinS.bind (Rl := RlB) fin).imp ?_⟩
  rintro v H1 ⟨as1, S1, d, e1, sim1, rfl, fin1⟩
  cases d with
  | false => rw [if_neg Bool.false_ne_true]; exact ⟨as1, S1, ρ, sim1, env.mono e1, fin1⟩
  | true => rw [if_pos rfl]; exact ⟨as1, S1, ρ, sim1, env.mono e1, fin1⟩
theorem ms_brk : MS X mg E (.Break pos) (fun ρ => mret (.bk ρ)) := ps_break.imp fun D σ H h => by
  obtain ⟨as, S, ρ, sim, env, fin⟩ := h
  exact fin as H σ (Ext.refl _ _) sim env
theorem ms_cnt : MS X mg E (.Continue pos) (fun ρ => mret (.ct ρ)) := ps_continue.imp fun D σ H h => by
  obtain ⟨as, S, ρ, sim, env, fin⟩ := h
  exact fin as H σ (Ext.refl _ _) sim env
theorem ms_pass : MS X mg E (.Pass pos) (fun ρ => mret (.nx ρ)) := ps_pass.imp fun D σ H h => by
  obtain ⟨as, S, ρ, sim, env, fin⟩ := h
  exact fin as H σ (Ext.refl _ _) sim env
theorem mss_nil : MSs X mg E [] (fun ρ => mret (.nx ρ)) := pss_nil.imp fun D σ H h => by
  obtain ⟨as, S, ρ, sim, env, fin⟩ := h
  exact fin as H σ (Ext.refl _ _) sim env
theorem mss_cons {m1 m2 : Env' → M Fl} (h1 : MS X mg E st m1) (h2 : MSs X mg E sts m2) : MSs X mg E (st :: sts) (fun ρ => mbind (m1 ρ) fun fl => match fl with
    | .nx ρ' => m2 ρ'
    | f => mret f) := (pss_cons h1 h2).imp fun D σ H h => by
  obtain ⟨as, S, ρ, sim, env, fin⟩ := h
  refine ⟨as, S, ρ, sim, env, ?_⟩
  cases hq : m1 ρ S with
  | bad => simp only [mbind, hq, R.bind] at fin; exact fin.elim
  | exc c fs S1 => simp only [mbind, hq, R.bind] at fin; exact fin
  | ok f S1 =>
    simp only [mbind, hq, R.bind] at fin
    cases f with
    | nx ρ' => exact fun as1 H1 σ1 e1 sim1 env1 => ⟨as1, S1, ρ', sim1, env1, FinS.ext fin e1⟩
    | rt d => exact fin
    | bk ρ' => exact fin
    | ct ρ' => exact fin
theorem ms_for {tg iter : Expr} {body : List Stmt} {tg' : Tg} {mit : Env' → M Src} {mb : Env' → M Fl} (hp : PassesOwn (model X.prog X.w) X.A X.env X.xe) (hc : X.calm = true) (hi : MI X mg E tg iter mit) (hg : PG X tg (gM X.K tg')) (hb : MSs X mg E body mb)
    (hs : ∀ x, foldedSetIterable iter X.env x = pure x) : MS X mg E (.For tg iter body [] pos) (fun ρ => mbind (mit ρ) fun src => forLoop mb tg' src src.n 0 ρ) :=
  (ps_for hp hc hi hg hb hs).imp fun D σ H h => by
  obtain ⟨as0, S0, ρ0, sim0, env0, fin0⟩ := h
  refine ⟨as0, S0, ρ0, sim0, env0, (FinS.bind (Rl := IterOk X.K) fin0).imp ?_⟩
  rintro J H1 ⟨as1, S1, src, e1, sim1, itok, fin1⟩
  let W : Nat → Nat → L2.St → Hp → Prop := fun i m σ H => ∃ as S ρ, Sim X.K as S H ∧ Ext as1 H1 as H ∧ EnvR X.K as H σ ρ ∧ FinS X.K mg E D as1 H1 (forLoop mb tg' src m i ρ S)
  refine ⟨W, ⟨src.n, as1, S1, ρ0, sim1, Ext.refl _ _, env0.mono e1, fin1⟩, ?_⟩
  rintro i m σ H ⟨as, S, ρ, sim, e, env, fin⟩
  have it := itok as S H i e sim
  unfold forLoop at fin
  cases hn : src.nxt i S with
  | none => simp only [hn] at fin; exact fin.elim
  | some o =>
    rw [hn] at it
    cases o with
    | none =>
      simp only [hn] at fin
      exact .inl ⟨it, fin as H σ e sim env⟩
    | some d =>
      obtain ⟨hgo, hy⟩ := it
      refine .inr ⟨hgo, ?_⟩
      cases m with
      | zero => simp only [hn] at fin; exact fin.elim
      | succ m =>
        refine ⟨W (i + 1) m, fun σ' H' h => ⟨m, Nat.lt_succ_self m, h⟩, fun x H2 y => ?_⟩
        obtain ⟨e2, sim2, rx⟩ := hy x H2 y
        simp only [hn] at fin
        cases htg : tgSet tg' d ρ with
        | none => rw [htg] at fin; exact fin.elim
        | some ρ' =>
          rw [htg] at fin
          refine ⟨as, ρ, ρ', d, env.mono e2, rx, htg, fun σ' env' w' => ⟨as, S, ρ', sim2, env', ?_⟩⟩
          have eb := e.trans e2
          simp only at fin
          cases hm : mb ρ' S with
          | bad => simp only [hm, R.bind] at fin; exact fin.elim
          | exc c fs S3 => simp only [hm, R.bind] at fin; exact FinX.ext fin eb
          | ok f S3 =>
            simp only [hm, R.bind] at fin
            cases f with
            | nx ρ2 => exact fun as3 H3 σ3 e3 sim3 env3 => ⟨as3, S3, ρ2, sim3, eb.trans e3, env3, fin⟩
            | ct ρ2 => exact fun as3 H3 σ3 e3 sim3 env3 => ⟨as3, S3, ρ2, sim3, eb.trans e3, env3, fin⟩
            | bk ρ2 => exact fun as3 H3 σ3 e3 sim3 env3 => fin as3 H3 σ3 (eb.trans e3) sim3 env3
            | rt d => exact fun as3 H3 v e3 sim3 r3 => fin as3 H3 v (eb.trans e3) sim3 r3
end
end Pu

namespace Pu
open PySem PySem.Spec PyProof.Rows L2

/-! ## from the text's trees to the small language -/
structure Gi where
  fns : List (Str × Nat)
  ar : List Nat
  cst : List (Str × D)
  own : List (Nat × Nat)
def Gi.isOwn (G : Gi) (p : Pos) : Bool := G.own.contains (p.line, p.col)
def visK (sc : Scope) (x : Str) : Bool := match sc.names.lookup x with
  | some .local => true
  | some .cell => true
  | some .free => true
  | _ => false
def glK (sc : Scope) (x : Str) : Bool := match sc.names.lookup x with
  | some .globalImplicit => true
  | _ => false
def locK (sc : Scope) (x : Str) : Bool := match sc.names.lookup x with
  | some .local => true
  | _ => false
def dbg (x : Str) : Bool := (x == ("__debug__" : Str)) || (x == ("__classdict__" : Str)) || (x == ("__name__" : Str))
def ixOf : List Str → Str → Option Nat
  | [], _ => none
  | y :: r, x => if y = x then some 0 else (ixOf r x).map (· + 1)
def relab (scope outer : Scope) : Scope :=
  { scope with names := scope.names.map fun (n, k) => if (k == .free && outer.kind == .function && outer.names.lookup n == some .cell) then (n, .cell) else (n, k) }
def mapO {α β : Type} (f : α → Option β) : List α → Option (List β)
  | [] => some []
  | a :: r => match f a, mapO f r with
    | some b, some bs => some (b :: bs)
    | _, _ => none
def tyOf (x : Str) : Option Ty :=
  if x = "int" then some .int else if x = "bool" then some .bool else if x = "str" then some .str else if x = "tuple" then some .tuple else if x = "list" then some .list else if x = "dict" then some .dict else none
def tyStr : Ty → Str
  | .int => "int" | .bool => "bool" | .str => "str" | .tuple => "tuple" | .list => "list" | .dict => "dict"
/-- a built-in function or class by its name, how many arguments it is given -/
def bltOf (x : Str) (n : Nat) (own : Bool) : Option Bi :=
  if n = 1 then
    if x = "len" then some .len else if x = "all" then some .all else if x = "any" then some .any else if x = "abs" then some .abs else if x = "int" then some .int
    else if x = "list" then some (.list own) else if x = "tuple" then some .tuple else if x = "sorted" then some (.sorted own) else if x = "sum" then some .sum else if x = "min" then some .min1 else if x = "max" then some .max1 else none
  else if n = 2 then
    if x = "min" then some .min2 else if x = "max" then some .max2 else none
  else none
def mtOf (x : Str) : Option Mt := if x = "append" then some .append else if x = "extend" then some .extend else if x = "pop" then some .popAt else none
/-- what may stand ahead of a method's name -/
def attrOk : Expr → Bool
  | .Name _ _ => true
  | .Subscript _ _ _ => true
  | _ => false
/-- what may be an index -/
def ixOk : Expr → Bool
  | .Name _ _ => true
  | .Constant _ _ _ => true
  | .BinOp _ _ _ _ => true
  | .UnaryOp _ _ _ => true
  | .Call _ _ _ _ => true
  | .Subscript _ _ _ => true
  | _ => false
/-- a test that is the value's truth -/
def truOk : Expr → Bool
  | .Name _ _ => true
  | .Constant _ _ _ => true
  | .BinOp _ _ _ _ => true
  | .Call _ _ _ _ => true
  | .Subscript _ _ _ => true
  | .List _ _ => true
  | .Tuple _ _ _ => true
  | _ => false
def isTup : Expr → Bool
  | .Tuple _ _ _ => true
  | _ => false
mutual
def trTg (N : List Str) (sc : Scope) (cl : Bool) : Nat → Expr → Option Tg
  | 0, _ => none
  | n + 1, e => match e with
    | .Name x _ => match sc.names.lookup x with
      | some .local => (ixOf N x).map .nm
      | some .cell => if cl then (ixOf N x).map .nm else none
      | _ => none
    | .Tuple es _ _ => (trTgs N sc cl n es).map .tp
    | _ => none
def trTgs (N : List Str) (sc : Scope) (cl : Bool) : Nat → List Expr → Option (List Tg)
  | 0, _ => none
  | n + 1, es => match es with
    | [] => some []
    | e :: r => match trTg N sc cl n e, trTgs N sc cl n r with
      | some t, some ts => some (t :: ts)
      | _, _ => none
end
def tgNames : Nat → Expr → List Str
  | 0, _ => []
  | n + 1, e => match e with
    | .Name x _ => [x]
    | .Tuple es _ _ => (es.map (tgNames n)).flatten
    | _ => []
def ownOf (N : List Str) (scope : Scope) : List (Str × Nat) := scope.names.filterMap fun (x, k) => if (k == .local || k == .cell) then (ixOf N x).map fun i => (x, i) else none
section
variable (G : Gi) (N : List Str)
mutual
def trE : Nat → Scope → Expr → Option X'
  | 0, _, _ => none
  | n + 1, sc, e => match e with
    | .Name x _ => if dbg x then none else if visK sc x then (ixOf N x).map .var else if glK sc x then (G.cst.lookup x).map .cst else none
    | .Constant c _ _ => match c with
      | .none => some (.cst .non)
      | .bool b => some (.cst (.bl b))
      | .int i => some (.cst (.int i))
      | .str s => some (.cst (.str s))
      | _ => none
    | .BinOp a op b pos => match trE n sc a, trE n sc b with
      | some x, some y => match op with
        | .Add => some (.cat (G.isOwn pos) x y)
        | .Mult => some (.rep (G.isOwn pos) x y)
        | .Sub => some (.bin .Sub x y)
        | .Mod => some (.bin .Mod x y)
        | .FloorDiv => some (.bin .FloorDiv x y)
        | .Pow => some (.bin .Pow x y)
        | _ => none
      | _, _ => none
    | .UnaryOp op a _ => match op with
      | .USub => (trE n sc a).map .neg
      | .Not => (trE n sc a).map .not
      | _ => none
    | .BoolOp op vs pos => match vs with
      | [] => none
      | [a] => trE n sc a
      | a :: b :: r => match trE n sc a, trE n sc (.BoolOp op (b :: r) pos) with
        | some x, some y => match op with
          | .And => some (.and x y)
          | .Or => some (.or x y)
        | _, _ => none
    | .Compare a ops cs _ => match ops, cs with
      | [op], [b] => if behindInMarks op b then none else match trE n sc a, trE n sc b with
        | some x, some y => some (.cmp op x y)
        | _, _ => none
      | [o1, o2], [b, c] => if lastMarks [o1, o2] [b, c] then none else match trE n sc a, trE n sc b, trE n sc c with
        | some x, some y, some z => some (.chn o1 o2 x y z)
        | _, _, _ => none
      | _, _ => none
    | .IfExp t a b _ => match trT n sc t, trE n sc a, trE n sc b with
      | some t, some x, some y => some (.ife t x y)
      | _, _, _ => none
    | .Tuple es _ _ => (trEs n sc es).map .tup
    | .List es pos => (trEs n sc es).map (.lst (G.isOwn pos))
    | .Call f args kws pos => match f, kws with
      | .Name x _, [] => if dbg x || !glK sc x then none else match G.fns.lookup x with
        | some i => match args with
          | [] => none
          | e :: es => if G.ar[i]? = some (e :: es).length then (trEs n sc (e :: es)).map (.call i) else none
        | none => match args with
          | [a, .Name y _] => if x = "isinstance" then
              if dbg y || !glK sc y || (G.fns.lookup y).isSome then none else match tyOf y, trE n sc a with
                | some t, some u => some (.isi u t)
                | _, _ => none
            else match bltOf x 2 (G.isOwn pos) with
              | some b => (trEs n sc args).map (.blt b)
              | none => none
          | [.Call (.Name r _) [a] [] _] => if x = "list" && r = "range" && glK sc r && !(G.fns.lookup r).isSome then (trE n sc a).map (.lrng (G.isOwn pos))
            else match bltOf x 1 (G.isOwn pos) with
              | some b => (trEs n sc args).map (.blt b)
              | none => none
          | [] => none
          | _ => match bltOf x args.length (G.isOwn pos) with
            | some b => (trEs n sc args).map (.blt b)
            | none => none
      | .Attribute o m apos, [] => match args with
        | [a] => if attrOk o && (apos.endLine == pos.line) then match mtOf m, trE n sc o, trEs n sc [a] with
            | some t, some x, some ys => some (.mth t x ys)
            | _, _, _ => none
          else none
        | _ => none
      | _, _ => none
    | .Subscript a sl pos => match sl with
      | .Slice lo hi st _ => match lo, hi, st with
        | none, none, some (.UnaryOp .USub (.Constant (.int 1) _ _) _) => (trE n sc a).map (.rev (G.isOwn pos))
        | lo, hi, none => match trE n sc a, trP n sc lo, trP n sc hi with
          | some x, some l, some h => some (.slc (G.isOwn pos) x l h)
          | _, _, _ => none
        | _, _, _ => none
      | b => if ixOk b then match trE n sc a, trE n sc b with
          | some x, some y => some (.idx x y)
          | _, _ => none
        else none
    | .ListComp elt gens scope pos => match gens with
      | [⟨tg, iter, ifs, asy⟩] => if asy = 0 && blkC N sc scope (ownOf N scope) then
          match trI n sc tg iter, trTg N (relab scope sc) false n tg, trE n (relab scope sc) elt with
          | some it, some t, some x => if tgIn ((ownOf N scope).map (·.2)) t then match ifs with
              | [] => some (.lc (G.isOwn pos) x t it [] ((ownOf N scope).map (·.2)))
              | [c] => match trT n (relab scope sc) c with
                | some c => some (.lc (G.isOwn pos) x t it [c] ((ownOf N scope).map (·.2)))
                | none => none
              | _ => none
            else none
          | _, _, _ => none
        else none
      | _ => none
    | _ => none
def trEs : Nat → Scope → List Expr → Option (List X')
  | 0, _, _ => none
  | n + 1, sc, es => match es with
    | [] => some []
    | e :: r => match trE n sc e, trEs n sc r with
      | some x, some xs => some (x :: xs)
      | _, _ => none
def trP : Nat → Scope → Option Expr → Option P'
  | 0, _, _ => none
  | n + 1, sc, o => match o with
    | none => some .no
    | some e => (trE n sc e).map .ex
def trT : Nat → Scope → Expr → Option T'
  | 0, _, _ => none
  | n + 1, sc, e => match e with
    | .UnaryOp .Not a _ => (trT n sc a).map .not
    | .BoolOp op vs pos => match vs with
      | [] => none
      | [a] => trT n sc a
      | a :: b :: r => match trT n sc a, trT n sc (.BoolOp op (b :: r) pos) with
        | some x, some y => match op with
          | .And => some (.and x y)
          | .Or => some (.or x y)
        | _, _ => none
    | .Compare _ _ _ _ => (trE n sc e).map .bv
    | e => if truOk e then (trE n sc e).map .val else none
def trI : Nat → Scope → Expr → Expr → Option I'
  | 0, _, _, _ => none
  | n + 1, sc, tg, e => match e with
    | .Call (.Name x p) args [] pos => if x = "range" then
        if dbg x || !glK sc x || (G.fns.lookup x).isSome then none else match args with
        | [a] => (trE n sc a).map .rng
        | [a, b] => match trE n sc a, trE n sc b with
          | some x, some y => some (.rng2 x y)
          | _, _ => none
        | _ => none
      else if x = "zip" then
        if dbg x || !glK sc x || (G.fns.lookup x).isSome || !isTup tg then none else match args with
        | [a, b] => match trE n sc a, trE n sc b with
          | some x, some y => some (.zip x y)
          | _, _ => none
        | _ => none
      else (trE n sc (.Call (.Name x p) args [] pos)).map .seq
    | e => (trE n sc e).map .seq
end
mutual
def trS : Nat → Scope → Stmt → Option S'
  | 0, _, _ => none
  | n + 1, sc, st => match st with
    | .Assign tgs e pos => match tgs with
      | [.Name x p] => match trTg N sc true n (.Name x p), trE G N n sc e with
        | some (.nm i), some y => match e with
          | .ListComp _ _ scope cpos => if locK sc x && (p.line == cpos.line) && !(scope.names.any fun (m, k) => m == x && (k == .local || k == .cell)) then some (.set i y) else none
          | .SetComp _ _ _ _ => none
          | .DictComp _ _ _ _ _ => none
          | _ => some (.set i y)
        | _, _ => none
      | [.Tuple es k p] => match e with
        | .Name _ _ => match trTg N sc true n (.Tuple es k p), trE G N n sc e with
          | some t, some y => some (.asg t y)
          | _, _ => none
        | .Call _ _ _ _ => match trTg N sc true n (.Tuple es k p), trE G N n sc e with
          | some t, some y => some (.asg t y)
          | _, _ => none
        | .Subscript _ _ _ => match trTg N sc true n (.Tuple es k p), trE G N n sc e with
          | some t, some y => some (.asg t y)
          | _, _ => none
        | _ => none
      | [.Subscript o i p] => match e with
        | .ListComp _ _ _ _ => none
        | _ => match trE G N n sc e, trE G N n sc o, trE G N n sc i with
          | some y, some r, some k => if ixOk i then some (.sto r k y) else none
          | _, _, _ => none
      | _ => none
    | .Expr e _ => match e with
      | .Call f as ks p => (trE G N n sc (.Call f as ks p)).map .expr
      | _ => none
    | .Return (some e) _ => (trE G N n sc e).map .ret
    | .If t a b _ => match trT G N n sc t, trSs n sc a, trSs n sc b with
      | some t, some a, some b => some (.ife t a b)
      | _, _, _ => none
    | .For tg it body orelse _ => match orelse with
      | [] => match trTg N sc true n tg, trI G N n sc tg it, trSs n sc body with
        | some t, some i, some b => some (.frr t i b)
        | _, _, _ => none
      | _ => none
    | .Break _ => some .brk
    | .Continue _ => some .cnt
    | .Pass _ => some .pass
    | _ => none
def trSs : Nat → Scope → List Stmt → Option (List S')
  | 0, _, _ => none
  | n + 1, sc, l => match l with
    | [] => some []
    | s :: r => match trS n sc s, trSs n sc r with
      | some x, some xs => some (x :: xs)
      | _, _ => none
end
end
end Pu

namespace Pu
open PySem PySem.Spec PyProof.Rows L2

def bltNames : List Str := ["len", "all", "any", "abs", "int", "list", "tuple", "sorted", "sum", "min", "max", "isinstance", "bool", "str", "dict", "range", "zip"]
structure Good (CX : CXT) (G : Gi) (N : List Str) (F : Nat → List D → M D) (E : XK) (k : Nat) (cl : Bool) (sc : Scope) (X : Cx) : Prop where
  hN : X.N = N
  nd : N.Nodup
  hsc : X.env.scope = sc
  calm : X.calm = true
  room : Room k X.A
  pas : Passes CX X E
  own : PassesOwn (model X.prog X.w) X.A X.env X.xe
  fn : cl = true → ∀ x, X.fn x = true
  kind : cl = true → sc.kind = .function
  fns : ∀ x i, G.fns.lookup x = some i → ∃ f fd ps n, X.mg x = some (.ref f) ∧ PySem.W.keepIn X.K (.ref f) = true ∧ Binds X.K fd ps [] ∧ FnOk X.prog X.w X.K X.mg X.base CX k f fd ps (spM X.K X.mg n (F i)) ∧ G.ar[i]? = some n
  blt : ∀ x, x ∈ bltNames → G.fns.lookup x = none → X.mg x = none
  cst : ∀ x d, G.cst.lookup x = some d → ∃ v u, X.mg x = some u ∧ RelV v u ∧ ∀ as H, Rep X.K as H d v
  hE0 : ∀ l H s e s', CX l H s E0 e s' → False
section
variable {CX : CXT} {G : Gi} {N : List Str} {F : Nat → List D → M D} {E : XK} {k : Nat} {cl : Bool} {sc : Scope} {X : Cx}
theorem Good.blk (g : Good CX G N F E k cl sc X) (scope : Scope) (s : Shared) (H : Hp) (C : Addr) (cls : List (Str × Addr)) (fp : List Addr) :
    Good CX G N F E0 k false (relab scope sc) (X.blk s H scope (compEnvC scope cls C X.env) fp) where
  hN := g.hN
  nd := g.nd
  hsc := by
    have := g.hsc
    subst this
    rfl
  calm := g.calm
  room := g.room
  pas := fun pins σ H s e s' _ h => (g.hE0 _ _ _ _ _ h).elim
  own := PassesOwn.never
  fn := fun h => by cases h
  kind := fun h => by cases h
  fns := g.fns
  blt := g.blt
  cst := g.cst
  hE0 := g.hE0
theorem ixOf_ok : ∀ {N : List Str} {x : Str} {i : Nat}, ixOf N x = some i → N[i]? = some x
  | [], _, _, h => by cases h
  | y :: r, x, i, h => by
    unfold ixOf at h
    by_cases e : y = x
    · rw [if_pos e] at h; cases h; subst e; rfl
    · rw [if_neg e] at h
      cases q : ixOf r x with
      | none => rw [q] at h; cases h
      | some j =>
      rw [q] at h; cases h
      simpa using ixOf_ok q
theorem vis_ok {sc : Scope} {x : Str} (h : visK sc x = true) : Vis sc x := by
  unfold visK at h
  split at h
  · exact .inl (by assumption)
  · exact .inr (.inl (by assumption))
  · exact .inr (.inr (by assumption))
  · cases h
theorem gl_ok (g : Good CX G N F E k cl sc X) {x : Str} (h : glK sc x = true) : Gl X x := by
  unfold glK at h
  split at h
  · have := g.hsc
    show X.env.scope.names.lookup x = some .globalImplicit
    rw [this]; assumption
  · cases h
theorem dbg_ok {x : Str} (h : dbg x = false) : (x == ("__debug__" : Str)) = false ∧ (x == ("__classdict__" : Str)) = false ∧ x ≠ "__name__" := by
  unfold dbg at h
  rw [Bool.or_eq_false_iff, Bool.or_eq_false_iff] at h
  exact ⟨h.1.1, h.1.2, fun e => by rw [e] at h; exact absurd h.2 (by decide)⟩
theorem notStar {n : Nat} {e : Expr} {p : X'} (h : trE G N n sc e = some p) (r : List Expr) (env : Env) : starEach (e :: r) env = (false, eval e env) :: starEach r env := by
  cases n with
  | zero => simp only [trE] at h; cases h
  | succ n => cases e <;> first | rfl | (simp only [trE] at h; cases h)
theorem notStars : ∀ {n : Nat} {es : List Expr} {ps : List X'}, trEs G N n sc es = some ps → ∀ (pos : Pos) (env : Env), (backTo pos (starEach es env)).any (·.1) = false
  | 0, _, _, h => by simp only [trEs] at h; cases h
  | n + 1, [], ps, h => fun _ _ => rfl
  | n + 1, e :: r, ps, h => fun pos env => by
    simp only [trEs] at h
    split at h
    · rename_i x xs h1 h2
      rw [notStar h1]
      show ((backTo pos (starEach r env)).any (·.1)) = false
      exact notStars h2 pos env
    · cases h
theorem evEs_len : ∀ (ps : List X') (ρ : Env') (S S' : Sto) (ds : List D), evEs F ps ρ S = .ok ds S' → ds.length = ps.length
  | [], ρ, S, S', ds, h => by
    simp only [evEs, mret] at h; cases h; rfl
  | p :: ps, ρ, S, S', ds, h => by
    cases h1 : evE F p ρ S with
    | bad => simp only [evEs, mbind, h1, R.bind] at h; cases h
    | exc c fs S1 => simp only [evEs, mbind, h1, R.bind] at h; cases h
    | ok d S1 =>
      cases h2 : evEs F ps ρ S1 with
      | bad => simp only [evEs, mbind, h1, R.bind, h2] at h; cases h
      | exc c fs S2 => simp only [evEs, mbind, h1, R.bind, h2] at h; cases h
      | ok ds' S2 =>
        simp only [evEs, mbind, h1, R.bind, h2, mret] at h
        cases h
        simp [evEs_len ps ρ _ _ ds' h2]
theorem trEs_len : ∀ {n : Nat} {es : List Expr} {ps : List X'}, trEs G N n sc es = some ps → ps.length = es.length
  | 0, _, _, h => by simp only [trEs] at h; cases h
  | n + 1, [], ps, h => by simp only [trEs] at h; cases h; rfl
  | n + 1, e :: r, ps, h => by
    simp only [trEs] at h
    split at h
    · rename_i x xs h1 h2
      cases h
      simp [trEs_len h2]
    · cases h
theorem noFold {n : Nat} {e : Expr} {p : X'} (h : trE G N n sc e = some p) (env : Env) (x : Value) : foldedSetIterable e env x = pure x := by
  cases n with
  | zero => simp only [trE] at h; cases h
  | succ n => cases e <;> first | rfl | (simp only [trE] at h; cases h)
theorem asg_one {n : Nat} {e : Expr} {t : Tg} (h : trTg N sc cl n e = some t) (r : List Expr) (env : Env) : assignEach (e :: r) env = (false, assign e env) :: assignEach r env := by
  cases n with
  | zero => simp only [trTg] at h; cases h
  | succ n => cases e <;> first | rfl | (simp only [trTg] at h; cases h)
theorem asg_each : ∀ {n : Nat} {es : List Expr} {ts : List Tg}, trTgs N sc cl n es = some ts → ∀ env : Env, (assignEach es env).length = es.length ∧ (assignEach es env).findIdx? (·.1) = none
  | 0, _, _, h => by simp only [trTgs] at h; cases h
  | n + 1, [], ts, h => fun _ => ⟨rfl, rfl⟩
  | n + 1, e :: r, ts, h => fun env => by
    simp only [trTgs] at h
    split at h
    · rename_i t ts' h1 h2
      obtain ⟨h3, h4⟩ := asg_each h2 env
      rw [asg_one h1]
      refine ⟨by simp [h3], ?_⟩
      rw [List.findIdx?_cons, h4]
      rfl
    · cases h
theorem tg_ok : ∀ (n : Nat), (∀ (tg : Expr) (t : Tg), Good CX G N F E k cl sc X → trTg N sc cl n tg = some t → PG X tg (gM X.K t)) ∧ (∀ (tgs : List Expr) (ts : List Tg), Good CX G N F E k cl sc X → trTgs N sc cl n tgs = some ts → PGs X tgs (gsM X.K ts) ∧ tgs.length = ts.length)
  | 0 => ⟨fun _ _ _ h => (by simp only [trTg] at h; cases h), fun _ _ _ h => (by simp only [trTgs] at h; cases h)⟩
  | n + 1 => by
    obtain ⟨ih1, ih2⟩ := tg_ok n
    refine ⟨fun tg t g h => ?_, fun tgs ts g h => ?_⟩
    · have hn : X.N.Nodup := by rw [g.hN]; exact g.nd
      cases tg with
      | Tuple es kk pos =>
        simp only [trTg] at h
        cases q : trTgs N sc cl n es with
        | none => rw [q] at h; cases h
        | some ts =>
          rw [q] at h; cases h
          obtain ⟨h1, h2⟩ := ih2 es ts g q
          obtain ⟨h3, h4⟩ := asg_each q X.env
          exact PG_tup_ok (pg_tup g.calm h1 h3 h4) h2
      | Name x pos =>
        simp only [trTg] at h
        split at h
        · rename_i hl
          cases q : ixOf N x with
          | none => rw [q] at h; cases h
          | some i =>
            rw [q] at h; cases h
            exact mg_nm hn (by rw [g.hN]; exact ixOf_ok q) (.inl (by rw [g.hsc]; exact hl)) (.inr (by rw [g.hsc]; exact hl))
        · rename_i hl
          split at h
          · rename_i hc
            cases q : ixOf N x with
            | none => rw [q] at h; cases h
            | some i =>
              rw [q] at h; cases h
              exact mg_nm hn (by rw [g.hN]; exact ixOf_ok q) (.inr (by rw [g.hsc]; exact hl)) (.inl (g.fn hc x))
          · cases h
        · cases h
      | _ => simp only [trTg] at h; cases h
    · cases tgs with
      | nil => simp only [trTgs] at h; cases h; exact ⟨mgs_nil, rfl⟩
      | cons e r =>
        simp only [trTgs] at h
        split at h
        · rename_i t ts' h1 h2
          cases h
          obtain ⟨h3, h4⟩ := ih2 r ts' g h2
          have h5 := ih1 e t g h1
          have h6 : (assignEach (e :: r) X.env).map (·.2) = assign e X.env :: (assignEach r X.env).map (·.2) := by rw [asg_one h1]; rfl
          exact ⟨PGs_cons_ok h5 h3 (pgs_cons h5 h3 h6), by simp [h4]⟩
        · cases h
end
end Pu

namespace Pu
open PySem PySem.Spec PyProof.Rows L2

def BltOk (x : Str) (b : Bi) : Prop := x ∈ bltNames ∧
  ((∃ id, bootBuiltins x = some (.builtin id) ∧ ∀ (X : Cx) (mg : Str → Option Value) (E : XK), X.calm = true → CallR X (.builtin id) (rDs X.K mg E (bltM b))) ∨
   (∃ T, bootBuiltins x = some (.type T) ∧ ∀ (X : Cx) (mg : Str → Option Value) (E : XK), X.calm = true → CallR X (.type T) (rDs X.K mg E (bltM b))))
theorem blt_ok {x : Str} {n : Nat} {own : Bool} {b : Bi} (h : bltOf x n own = some b) : BltOk x b := by
  unfold bltOf at h
  split at h
  · split at h
    · rename_i e; subst e; cases h; exact ⟨by decide +kernel, .inl ⟨"len", by decide +kernel, fun X mg E c => cr_len'⟩⟩
    · split at h
      · rename_i e; subst e; cases h; exact ⟨by decide +kernel, .inl ⟨"all", by decide +kernel, fun X mg E c => cr_all' c⟩⟩
      · split at h
        · rename_i e; subst e; cases h; exact ⟨by decide +kernel, .inl ⟨"any", by decide +kernel, fun X mg E c => cr_any' c⟩⟩
        · split at h
          · rename_i e; subst e; cases h; exact ⟨by decide +kernel, .inl ⟨"abs", by decide +kernel, fun X mg E c => cr_abs'⟩⟩
          · split at h
            · rename_i e; subst e; cases h; exact ⟨by decide +kernel, .inr ⟨"int", by decide +kernel, fun X mg E c => cr_int'⟩⟩
            · split at h
              · rename_i e; subst e; cases h; exact ⟨by decide +kernel, .inr ⟨"list", by decide +kernel, fun X mg E c => cr_list' own⟩⟩
              · split at h
                · rename_i e; subst e; cases h; exact ⟨by decide +kernel, .inr ⟨"tuple", by decide +kernel, fun X mg E c => cr_tuple'⟩⟩
                · split at h
                  · rename_i e; subst e; cases h; exact ⟨by decide +kernel, .inl ⟨"sorted", by decide +kernel, fun X mg E c => cr_sorted' own⟩⟩
                  · split at h
                    · rename_i e; subst e; cases h; exact ⟨by decide +kernel, .inl ⟨"sum", by decide +kernel, fun X mg E c => cr_sum' c⟩⟩
                    · split at h
                      · rename_i e; subst e; cases h; exact ⟨by decide +kernel, .inl ⟨"min", by decide +kernel, fun X mg E c => cr_min1' c⟩⟩
                      · split at h
                        · rename_i e; subst e; cases h; exact ⟨by decide +kernel, .inl ⟨"max", by decide +kernel, fun X mg E c => cr_max1' c⟩⟩
                        · cases h
  · split at h
    · split at h
      · rename_i e; subst e; cases h; exact ⟨by decide +kernel, .inl ⟨"min", by decide +kernel, fun X mg E c => cr_min2' c⟩⟩
      · split at h
        · rename_i e; subst e; cases h; exact ⟨by decide +kernel, .inl ⟨"max", by decide +kernel, fun X mg E c => cr_max2' c⟩⟩
        · cases h
    · cases h
theorem ty_ok {y : Str} {t : Ty} (h : tyOf y = some t) : y ∈ bltNames ∧ bootBuiltins y = some (.type (tyName t)) := by
  unfold tyOf at h
  split at h
  · rename_i e; subst e; cases h; exact ⟨by decide +kernel, by decide +kernel⟩
  · split at h
    · rename_i e; subst e; cases h; exact ⟨by decide +kernel, by decide +kernel⟩
    · split at h
      · rename_i e; subst e; cases h; exact ⟨by decide +kernel, by decide +kernel⟩
      · split at h
        · rename_i e; subst e; cases h; exact ⟨by decide +kernel, by decide +kernel⟩
        · split at h
          · rename_i e; subst e; cases h; exact ⟨by decide +kernel, by decide +kernel⟩
          · split at h
            · rename_i e; subst e; cases h; exact ⟨by decide +kernel, by decide +kernel⟩
            · cases h
theorem ix_plain {b : Expr} (h : ixOk b = true) : PlainIx b := by
  cases b <;> first | (simp only [ixOk] at h; cases h; done) | exact fun _ _ => rfl
theorem tru_plain {a : Expr} (h : truOk a = true) (env : Env) : ∀ whole, isTrue a env whole = (do let v ← whole; standAt a.pos; holding [v] (truthy v)) := by
  cases a <;> first | (simp only [truOk] at h; cases h; done) | exact fun _ => rfl
theorem attr_plain {o : Expr} (h : attrOk o = true) (m : Str) (env : Env) : attributeBase o m env (eval o env) = eval o env := by
  cases o <;> first | (simp only [attrOk] at h; cases h; done) | rfl
section
variable {CX : CXT} {G : Gi} {N : List Str} {F : Nat → List D → M D} {k : Nat}
structure TrOk (CX : CXT) (G : Gi) (N : List Str) (F : Nat → List D → M D) (k n : Nat) : Prop where
  e : ∀ sc cl E X, Good CX G N F E k cl sc X → ∀ e p, trE G N n sc e = some p → ME X X.mg E e (evE F p)
  es : ∀ sc cl E X, Good CX G N F E k cl sc X → ∀ es ps, trEs G N n sc es = some ps → MA X X.mg E es (evEs F ps)
  p : ∀ sc cl E X, Good CX G N F E k cl sc X → ∀ o p, trP G N n sc o = some p → MO X X.mg E o (evP F p)
  t : ∀ sc cl E X, Good CX G N F E k cl sc X → ∀ e p, trT G N n sc e = some p → MT X X.mg E e (evT F p)
  w : ∀ sc cl E X, Good CX G N F E k cl sc X → ∀ op vs pos p, trT G N n sc (.BoolOp op vs pos) = some p → MW X X.mg E (.BoolOp op vs pos) (evT F p)
  i : ∀ sc cl E X, Good CX G N F E k cl sc X → ∀ tg e p, trI G N n sc tg e = some p → MI X X.mg E tg e (evI F p)
theorem units_ok {A : Around} {k : Nat} (r : Room k A) : A.units + 65 < cLine := by have := r.un; omega
theorem tr_call {n : Nat} (ih : TrOk CX G N F k n) {sc : Scope} {cl : Bool} {E : XK} {X : Cx} (g : Good CX G N F E k cl sc X) {x : Str} {p pos : Pos} {args : List Expr} {b : Bi} {xs : List X'} (hd : dbg x = false) (hgl : glK sc x = true) (hf : G.fns.lookup x = none)
    (hb : BltOk x b) (ht : trEs G N n sc args = some xs) (hne : args ≠ []) : ME X X.mg E (.Call (.Name x p) args [] pos) (evE F (.blt b xs)) := by
  obtain ⟨hm, h⟩ := hb
  obtain ⟨d1, d2, d3⟩ := dbg_ok hd
  cases args with
  | nil => exact absurd rfl hne
  | cons e es =>
    cases n with
    | zero => simp only [trEs] at ht; cases ht
    | succ n =>
      have ht0 := ht
      simp only [trEs] at ht
      split at ht
      · rename_i y ys h1 h2
        cases ht
        have ha := ih.es sc cl E X g _ _ ht0
        rcases h with ⟨id, hv, hc⟩ | ⟨T, hv, hc⟩
        · exact me_callB (hc X X.mg E g.calm) (gl_ok g hgl) (g.blt x hm hf) hv ha d3 d1 (notStar h1 _ _) (notStars h2 _ _)
        · exact me_callT (hc X X.mg E g.calm) (gl_ok g hgl) (g.blt x hm hf) hv ha d3 d1 (notStar h1 _ _) (notStars h2 _ _)
      · cases ht
theorem tr_ok (CX : CXT) (G : Gi) (N : List Str) (F : Nat → List D → M D) (k : Nat) : ∀ n, TrOk CX G N F k n
  | 0 => ⟨fun _ _ _ _ _ _ _ h => (by simp only [trE] at h; cases h), fun _ _ _ _ _ _ _ h => (by simp only [trEs] at h; cases h), fun _ _ _ _ _ _ _ h => (by simp only [trP] at h; cases h),
      fun _ _ _ _ _ _ _ h => (by simp only [trT] at h; cases h), fun _ _ _ _ _ _ _ _ _ h => (by simp only [trT] at h; cases h), fun _ _ _ _ _ _ _ _ h => (by simp only [trI] at h; cases h)⟩
  | n + 1 => by
    have ih := tr_ok CX G N F k n
    have hw : ∀ sc cl E X, Good CX G N F E k cl sc X → ∀ op vs pos p, trT G N (n + 1) sc (.BoolOp op vs pos) = some p → MW X X.mg E (.BoolOp op vs pos) (evT F p) := by
      intro sc cl E X g op vs pos p h
      cases vs with
      | nil => simp only [trT] at h; cases h
      | cons a r =>
        cases r with
        | nil =>
          simp only [trT] at h
          have ha := ih.t sc cl E X g a p h
          cases op with
          | And => exact pw_and1 ha
          | Or => exact pw_or1 ha
        | cons b r =>
          simp only [trT] at h
          split at h
          · rename_i x y h1 h2
            have ha := ih.t sc cl E X g a x h1
            have hb := ih.w sc cl E X g op (b :: r) pos y h2
            cases op with
            | And => cases h; exact mw_and ha hb
            | Or => cases h; exact mw_or ha hb
          · cases h
    refine ⟨?_, ?_, ?_, ?_, hw, ?_⟩
    · -- expressions
      intro sc cl E X g e p h
      have hu := units_ok g.room
      cases e with
      | Name x pos =>
        simp only [trE] at h
        split at h
        · cases h
        · rename_i hd
          obtain ⟨d1, d2, d3⟩ := dbg_ok (Bool.eq_false_iff.mpr hd)
          split at h
          · rename_i hv
            cases q : ixOf N x with
            | none => rw [q] at h; cases h
            | some i =>
              rw [q] at h; cases h
              exact me_var (by rw [g.hN]; exact ixOf_ok q) (by rw [g.hsc]; exact vis_ok hv) d1 d2
          · split at h
            · rename_i hgl
              cases q : G.cst.lookup x with
              | none => rw [q] at h; cases h
              | some d =>
                rw [q] at h; cases h
                obtain ⟨v, u, h1, h2, h3⟩ := g.cst x d q
                exact me_glob (gl_ok g hgl) h1 h2 h3 d1
            · cases h
      | Constant c kk pos =>
        cases c <;> simp only [trE] at h <;> first | (cases h; done) | skip
        · cases h; exact me_non
        · cases h; exact me_bl
        · cases h; exact me_int
        · cases h; exact me_str
      | BinOp a op b pos =>
        simp only [trE] at h
        split at h
        · rename_i x y h1 h2
          have ha := ih.e sc cl E X g a x h1
          have hb := ih.e sc cl E X g b y h2
          cases op <;> simp only at h <;> first | (cases h; done) | skip
          · cases h; exact me_op (or_cat _) ha hb
          · cases h; exact me_op or_sub ha hb
          · cases h; exact me_op (or_rep _) ha hb
          · cases h; exact me_op or_mod ha hb
          · cases h; exact me_op or_pow ha hb
          · cases h; exact me_op or_fdiv ha hb
        · cases h
      | UnaryOp op a pos =>
        cases op <;> simp only [trE] at h <;> first | (cases h; done) | skip
        · cases q : trE G N n sc a with
          | none => rw [q] at h; cases h
          | some x => rw [q] at h; cases h; exact me_not (ih.e sc cl E X g a x q)
        · cases q : trE G N n sc a with
          | none => rw [q] at h; cases h
          | some x => rw [q] at h; cases h; exact me_neg (ih.e sc cl E X g a x q)
      | BoolOp op vs pos =>
        cases vs with
        | nil => simp only [trE] at h; cases h
        | cons a r =>
          cases r with
          | nil => simp only [trE] at h; exact me_one (ih.e sc cl E X g a p h)
          | cons b r =>
            simp only [trE] at h
            split at h
            · rename_i x y h1 h2
              have ha := ih.e sc cl E X g a x h1
              have hb := ih.e sc cl E X g _ y h2
              cases op with
              | And => cases h; exact me_and ha hb
              | Or => cases h; exact me_or ha hb
            · cases h
      | Compare a ops cs pos =>
        simp only [trE] at h
        split at h
        · split at h
          · cases h
          · rename_i hm
            split at h
            · rename_i x y h1 h2
              cases h
              exact me_cmp hu (ih.e sc cl E X g _ _ h1) (ih.e sc cl E X g _ _ h2) (Bool.eq_false_iff.mpr hm)
            · cases h
        · split at h
          · cases h
          · rename_i hm
            split at h
            · rename_i x y z h1 h2 h3
              cases h
              exact me_chn hu (ih.e sc cl E X g _ _ h1) (ih.e sc cl E X g _ _ h2) (ih.e sc cl E X g _ _ h3) (Bool.eq_false_iff.mpr hm)
            · cases h
        · cases h
      | IfExp t a b pos =>
        simp only [trE] at h
        split at h
        · rename_i x y z h1 h2 h3
          cases h
          exact me_ife (ih.t sc cl E X g _ _ h1) (ih.e sc cl E X g _ _ h2) (ih.e sc cl E X g _ _ h3)
        · cases h
      | Tuple es kk pos =>
        simp only [trE] at h
        cases q : trEs G N n sc es with
        | none => rw [q] at h; cases h
        | some xs => rw [q] at h; cases h; exact me_tup (ih.es sc cl E X g _ _ q)
      | List es pos =>
        simp only [trE] at h
        cases q : trEs G N n sc es with
        | none => rw [q] at h; cases h
        | some xs => rw [q] at h; cases h; exact me_lst _ (ih.es sc cl E X g _ _ q)
      | Call f args kws pos =>
        cases kws with
        | cons a r => cases f <;> simp only [trE] at h <;> cases h
        | nil =>
          cases f with
          | Name x p0 =>
            simp only [trE] at h
            split at h
            · cases h
            · rename_i hdg
              rw [Bool.or_eq_true, not_or, Bool.not_eq_true, Bool.not_eq_true, Bool.not_eq_false'] at hdg
              obtain ⟨hd, hgl⟩ := hdg
              obtain ⟨d1, d2, d3⟩ := dbg_ok hd
              split at h
              · -- a def of the text
                rename_i i hi
                cases args with
                | nil => cases h
                | cons e es =>
                  simp only at h
                  split at h
                  · rename_i har
                    cases q : trEs G N n sc (e :: es) with
                    | none => rw [q] at h; cases h
                    | some xs =>
                      rw [q] at h; cases h
                      obtain ⟨f, fd, ps, m, hm, hk, hb, hF, hr⟩ := g.fns x i hi
                      rw [har] at hr
                      have hm' : (e :: es).length = m := Option.some.inj hr
                      have hlen := trEs_len q
                      have hst : (∃ y, trE G N (n - 1) sc e = some y) ∧ ∃ ys, trEs G N (n - 1) sc es = some ys := by
                        cases n with
                        | zero => simp only [trEs] at q; cases q
                        | succ n =>
                          simp only [trEs] at q
                          split at q
                          · rename_i y ys h1 h2; exact ⟨⟨y, h1⟩, ys, h2⟩
                          · cases q
                      obtain ⟨⟨y, hy⟩, ys, hys⟩ := hst
                      exact me_call hF g.room (gl_ok g hgl) hm hk hb g.pas (ih.es sc cl E X g _ _ q) hm'.symm (fun ρ S ds S' hh => by rw [evEs_len xs ρ S S' ds hh, hlen]) d1 (notStar hy _ _) (notStars hys _ _)
                  · cases h
              · -- a built-in
                rename_i hf
                split at h
                · rename_i a y p2
                  split at h
                  · rename_i e; subst e
                    split at h
                    · cases h
                    · rename_i hy
                      rw [Bool.or_eq_true, Bool.or_eq_true, not_or, not_or, Bool.not_eq_true, Bool.not_eq_true, Bool.not_eq_false', Bool.not_eq_true] at hy
                      obtain ⟨⟨y1, y2⟩, y3⟩ := hy
                      obtain ⟨z1, z2, z3⟩ := dbg_ok y1
                      split at h
                      · rename_i t u ht ha
                        cases h
                        obtain ⟨t1, t2⟩ := ty_ok ht
                        exact me_isi (gl_ok g hgl) (g.blt _ (by decide +kernel) hf) (by decide +kernel) (gl_ok g y2) (g.blt _ t1 (Option.not_isSome_iff_eq_none.mp (by simp [y3]))) t2 z3 z1 (ih.e sc cl E X g _ _ ha) d3 d1 (fun r => notStar ha r _) rfl
                      · cases h
                  · split at h
                    · rename_i b hb
                      cases q : trEs G N n sc [a, .Name y p2] with
                      | none => rw [q] at h; cases h
                      | some xs => rw [q] at h; cases h; exact tr_call ih g hd hgl hf (blt_ok hb) q (by simp)
                    · cases h
                · rename_i r p1 a p2
                  split at h
                  · rename_i hc
                    rw [Bool.and_eq_true, Bool.and_eq_true, Bool.and_eq_true] at hc
                    obtain ⟨⟨⟨c1, c2⟩, c3⟩, c4⟩ := hc
                    have c1 := of_decide_eq_true c1
                    have c2 := of_decide_eq_true c2
                    subst c1; subst c2
                    cases q : trE G N n sc a with
                    | none => rw [q] at h; cases h
                    | some u =>
                      rw [q] at h; cases h
                      exact me_lrng (x := "list") (y := "range") _ g.calm (gl_ok g hgl) (g.blt _ (by decide +kernel) hf) (gl_ok g c3) (g.blt _ (by decide +kernel) (by simpa using c4)) (ih.e sc cl E X g _ _ q) (notStar q _ _)
                  · split at h
                    · rename_i b hb
                      cases q : trEs G N n sc [.Call (.Name r p1) [a] [] p2] with
                      | none => rw [q] at h; cases h
                      | some xs => rw [q] at h; cases h; exact tr_call ih g hd hgl hf (blt_ok hb) q (by simp)
                    · cases h
                · cases h
                · rename_i hne
                  split at h
                  · rename_i b hb
                    cases q : trEs G N n sc args with
                    | none => rw [q] at h; cases h
                    | some xs => rw [q] at h; cases h; exact tr_call ih g hd hgl hf (blt_ok hb) q (by assumption)
                  · cases h
          | Attribute o m apos =>
            simp only [trE] at h
            split at h
            · rename_i a
              split at h
              · rename_i hc
                rw [Bool.and_eq_true] at hc
                obtain ⟨c1, c2⟩ := hc
                split at h
                · rename_i t x ys h1 h2 h3
                  cases h
                  have hst : ∃ y, trE G N (n - 1) sc a = some y := by
                    cases n with
                    | zero => simp only [trEs] at h3; cases h3
                    | succ n =>
                      simp only [trEs] at h3
                      split at h3
                      · rename_i y ys h1 h2; exact ⟨y, h1⟩
                      · cases h3
                  obtain ⟨y, hy⟩ := hst
                  have s1 : starEach [a] X.env = (false, eval a X.env) :: starEach [] X.env := notStar hy _ _
                  have ho := ih.e sc cl E X g _ _ h2
                  have ha := ih.es sc cl E X g _ _ h3
                  have few : ((backTo pos (starEach [a] X.env)).all (fun x => !x.1) && (backToKw pos (keywordEach [] X.env)).all (fun x => x.1.isSome) && decide ([a].length + ([] : List Keyword).length + (if ([] : List Keyword).isEmpty then 0 else 1) < 30)) = true := by
                    rw [s1]; rfl
                  unfold mtOf at h1
                  split at h1
                  · rename_i e; subst e; cases h1
                    exact me_mth PySem.F.slot_list_append PySem.F.type_list_append mr_append ho ha (attr_plain c1 _ _) few c2 s1 rfl
                  · split at h1
                    · rename_i e; subst e; cases h1
                      exact me_mth PySem.F.slot_list_extend PySem.F.type_list_extend mr_extend ho ha (attr_plain c1 _ _) few c2 s1 rfl
                    · split at h1
                      · rename_i e; subst e; cases h1
                        exact me_mth PySem.F.slot_list_pop PySem.F.type_list_pop mr_popAt ho ha (attr_plain c1 _ _) few c2 s1 rfl
                      · cases h1
                · cases h
              · cases h
            · cases h
          | _ => simp only [trE] at h; cases h
      | Subscript a sl pos =>
        simp only [trE] at h
        split at h
        · rename_i lo hi st p2
          split at h
          · cases q : trE G N n sc a with
            | none => rw [q] at h; cases h
            | some x => rw [q] at h; cases h; exact me_rev _ (ih.e sc cl E X g _ _ q)
          · split at h
            · rename_i x l hh h1 h2 h3
              cases h
              exact me_slc _ (ih.e sc cl E X g _ _ h1) (ih.p sc cl E X g _ _ h2) (ih.p sc cl E X g _ _ h3)
            · cases h
          · cases h
        · split at h
          · rename_i hix
            split at h
            · rename_i x y h1 h2
              cases h
              exact me_idx (ih.e sc cl E X g _ _ h1) (ih.e sc cl E X g _ _ h2) (ix_plain hix)
            · cases h
          · cases h
      | ListComp elt gens scope pos =>
        simp only [trE] at h
        split at h
        · rename_i tg iter ifs asy
          split at h
          · rename_i hc
            rw [Bool.and_eq_true] at hc
            obtain ⟨c1, c2⟩ := hc
            have c1 := of_decide_eq_true c1
            subst c1
            split at h
            · rename_i it t x h1 h2 h3
              split at h
              · rename_i hti
                have hit := ih.i sc cl E X g tg iter it h1
                have hb := fun s H C cls fp => g.blk scope s H C cls fp
                have hok : BlkOk X.N X.env.scope scope (ownOf N scope) := by rw [g.hN, g.hsc]; exact blkOk_by c2
                have hnf : ∀ y, foldedSetIterable iter X.env y = pure y := by
                  intro y
                  cases n with
                  | zero => simp only [trI] at h1; cases h1
                  | succ n => cases iter <;> first | rfl | (simp only [trI] at h1; cases n <;> (simp only [trE] at h1; cases h1))
                have hN : X.N.Nodup := by rw [g.hN]; exact g.nd
                split at h
                · cases h
                  exact me_lc _ g.calm hN hit hok (fun s H C cls fp => (tg_ok n).1 tg t (hb s H C cls fp) h2) (fun s H C cls fp => mts_nil) (fun s H C cls fp => ih.e _ _ _ _ (hb s H C cls fp) elt x h3) hti hnf
                · rename_i c
                  split at h
                  · rename_i c' hc'
                    cases h
                    exact me_lc _ g.calm hN hit hok (fun s H C cls fp => (tg_ok n).1 tg t (hb s H C cls fp) h2) (fun s H C cls fp => mts_one (ih.t _ _ _ _ (hb s H C cls fp) c c' hc')) (fun s H C cls fp => ih.e _ _ _ _ (hb s H C cls fp) elt x h3) hti hnf
                  · cases h
                · cases h
              · cases h
            · cases h
          · cases h
        · cases h
      | _ => simp only [trE] at h; cases h
    · -- arguments
      intro sc cl E X g es ps h
      cases es with
      | nil => simp only [trEs] at h; cases h; exact ma_nil
      | cons e r =>
        simp only [trEs] at h
        split at h
        · rename_i x xs h1 h2
          cases h
          exact ma_cons (ih.e sc cl E X g _ _ h1) (ih.es sc cl E X g _ _ h2) (notStar h1 _ _)
        · cases h
    · -- a slice's part
      intro sc cl E X g o p h
      cases o with
      | none => simp only [trP] at h; cases h; exact mo_none
      | some e =>
        simp only [trP] at h
        cases q : trE G N n sc e with
        | none => rw [q] at h; cases h
        | some x => rw [q] at h; cases h; exact mo_some (ih.e sc cl E X g _ _ q)
    · -- tests
      intro sc cl E X g e p h
      have hu := units_ok g.room
      have val : ∀ e p, truOk e = true → (if truOk e then (trE G N n sc e).map T'.val else none) = some p → MT X X.mg E e (evT F p) := fun e p ht h => by
        rw [if_pos ht] at h
        cases q : trE G N n sc e with
        | none => rw [q] at h; cases h
        | some x => rw [q] at h; cases h; exact mt_val (ih.e sc cl E X g _ _ q) (tru_plain ht _)
      cases e with
      | UnaryOp op a pos =>
        cases op <;> simp only [trT] at h <;> first | (simp only [truOk] at h; cases h; done) | skip
        cases q : trT G N n sc a with
        | none => rw [q] at h; cases h
        | some x => rw [q] at h; cases h; exact mt_not (ih.t sc cl E X g _ _ q)
      | BoolOp op vs pos => exact (hw sc cl E X g op vs pos p h).pt
      | Compare a ops cs pos =>
        simp only [trT] at h
        cases q : trE G N n sc (.Compare a ops cs pos) with
        | none => rw [q] at h; cases h
        | some x =>
          rw [q] at h; cases h
          cases n with
          | zero => simp only [trE] at q; cases q
          | succ n =>
            have ih' := tr_ok CX G N F k n
            simp only [trE] at q
            split at q
            · split at q
              · cases q
              · rename_i hm
                split at q
                · rename_i x y h1 h2
                  cases q
                  exact mt_cmp hu (ih'.e sc cl E X g _ _ h1) (ih'.e sc cl E X g _ _ h2) (Bool.eq_false_iff.mpr hm)
                · cases q
            · split at q
              · cases q
              · rename_i hm
                split at q
                · rename_i x y z h1 h2 h3
                  cases q
                  exact mt_chn hu (ih'.e sc cl E X g _ _ h1) (ih'.e sc cl E X g _ _ h2) (ih'.e sc cl E X g _ _ h3) (Bool.eq_false_iff.mpr hm)
                · cases q
            · cases q
      | _ => simp only [trT] at h; first | (simp only [truOk] at h; cases h; done) | exact val _ _ rfl h
    · -- what is walked
      intro sc cl E X g tg e p h
      have seq : ∀ e p, (trE G N n sc e).map I'.seq = some p → MI X X.mg E tg e (evI F p) := fun e p h => by
        cases q : trE G N n sc e with
        | none => rw [q] at h; cases h
        | some x => rw [q] at h; cases h; exact mi_seq (ih.e sc cl E X g _ _ q)
      simp only [trI] at h
      split at h
      · rename_i x p0 args pos
        split at h
        · rename_i e; subst e
          split at h
          · cases h
          · rename_i hc
            rw [Bool.or_eq_true, Bool.or_eq_true, not_or, not_or, Bool.not_eq_true, Bool.not_eq_true, Bool.not_eq_false', Bool.not_eq_true] at hc
            obtain ⟨⟨y1, y2⟩, y3⟩ := hc
            have hm := g.blt "range" (by decide +kernel) (Option.not_isSome_iff_eq_none.mp (by simp [y3]))
            split at h
            · rename_i a
              cases q : trE G N n sc a with
              | none => rw [q] at h; cases h
              | some x => rw [q] at h; cases h; exact mi_rng (gl_ok g y2) hm (ih.e sc cl E X g _ _ q) (notStar q _ _)
            · rename_i a b
              split at h
              · rename_i x y h1 h2
                cases h
                exact mi_rng2 (gl_ok g y2) hm (ih.e sc cl E X g _ _ h1) (ih.e sc cl E X g _ _ h2) (by rw [notStar h1, notStar h2]; rfl) (notStar h2 _ _)
              · cases h
            · cases h
        · split at h
          · rename_i e; subst e
            split at h
            · cases h
            · rename_i hc
              rw [Bool.or_eq_true, Bool.or_eq_true, Bool.or_eq_true, not_or, not_or, not_or, Bool.not_eq_true, Bool.not_eq_true, Bool.not_eq_false', Bool.not_eq_true, Bool.not_eq_true, Bool.not_eq_false'] at hc
              obtain ⟨⟨⟨y1, y2⟩, y3⟩, y4⟩ := hc
              have hm := g.blt "zip" (by decide +kernel) (Option.not_isSome_iff_eq_none.mp (by simp [y3]))
              split at h
              · rename_i a b
                split at h
                · rename_i x y h1 h2
                  cases h
                  cases tg <;> first | (simp only [isTup] at y4; cases y4; done) | skip
                  exact mi_zip (gl_ok g y2) hm (ih.e sc cl E X g _ _ h1) (ih.e sc cl E X g _ _ h2) (notStar h1 _ _) (notStar h2 _ _) (by rw [notStar h2]; rfl)
                · cases h
              · cases h
          · exact seq _ _ h
      · exact seq _ _ h
end
end Pu

namespace Pu
open PySem PySem.Spec PyProof.Rows L2
section
variable {CX : CXT} {G : Gi} {N : List Str} {F : Nat → List D → M D} {k : Nat}
theorem noSwap {n : Nat} {sc : Scope} {e : Expr} {p : X'} (h : trE G N n sc e = some p) (hl : ∀ a b c d, e ≠ .ListComp a b c d) (t : Option Expr) (l : Nat) (env : Env) : swapsWith e t l env = pure false := by
  cases n with
  | zero => simp only [trE] at h; cases h
  | succ n =>
    cases e <;> first
      | rfl
      | exact absurd rfl (hl _ _ _ _)
      | (simp only [trE] at h; cases h)
structure TsOk (CX : CXT) (G : Gi) (N : List Str) (F : Nat → List D → M D) (k n : Nat) : Prop where
  s : ∀ sc E X, Good CX G N F E k true sc X → ∀ st p, trS G N n sc st = some p → MS X X.mg E st (evS F p)
  ss : ∀ sc E X, Good CX G N F E k true sc X → ∀ st p, trSs G N n sc st = some p → MSs X X.mg E st (evSs F p)
theorem ts_ok (CX : CXT) (G : Gi) (N : List Str) (F : Nat → List D → M D) (k : Nat) : ∀ n, TsOk CX G N F k n
  | 0 => ⟨fun _ _ _ _ _ _ h => (by simp only [trS] at h; cases h), fun _ _ _ _ _ _ h => (by simp only [trSs] at h; cases h)⟩
  | n + 1 => by
    have ih := ts_ok CX G N F k n
    have ie := tr_ok CX G N F k n
    refine ⟨?_, ?_⟩
    · intro sc E X g st p h
      have hN : X.N.Nodup := by rw [g.hN]; exact g.nd
      have name : ∀ (x : Str) (ps : Pos) (i : Nat), trTg N sc true n (.Name x ps) = some (.nm i) → X.N[i]? = some x ∧ Loc X.env.scope x := fun x ps i h => by
        cases n with
        | zero => simp only [trTg] at h; cases h
        | succ n =>
          simp only [trTg] at h
          split at h
          · rename_i hl
            cases q : ixOf N x with
            | none => rw [q] at h; cases h
            | some j => rw [q] at h; cases h; exact ⟨by rw [g.hN]; exact ixOf_ok q, .inl (by rw [g.hsc]; exact hl)⟩
          · rename_i hl
            simp only [if_true] at h
            cases q : ixOf N x with
            | none => rw [q] at h; cases h
            | some j => rw [q] at h; cases h; exact ⟨by rw [g.hN]; exact ixOf_ok q, .inr (by rw [g.hsc]; exact hl)⟩
          · cases h
      cases st with
      | Assign tgs e pos =>
        simp only [trS] at h
        split at h
        · rename_i x ps
          split at h
          · rename_i i y h1 h2
            obtain ⟨hi, hx⟩ := name x ps i h1
            have he := ie.e sc true E X g e y h2
            have plain : (∀ a b c d, e ≠ .ListComp a b c d) → MS X X.mg E (.Assign [.Name x ps] e pos) (evS F (.set i y)) := fun hl =>
              ms_set hN hi hx he (noSwap h2 hl _ _ _) (.inl (g.fn rfl x))
            cases e with
            | ListComp elt gens scope cpos =>
              simp only at h
              split at h
              · rename_i hc
                cases h
                rw [Bool.and_eq_true, Bool.and_eq_true] at hc
                obtain ⟨⟨c1, c2⟩, c3⟩ := hc
                have c1' : sc.names.lookup x = some .local := by unfold locK at c1; split at c1 <;> first | assumption | cases c1
                have c3' : (scope.names.any fun (m, k) => m == x && (k == .local || k == .cell)) = false := by simpa using c3
                have hsw : ∀ gs, swapsWith (.ListComp elt gs scope cpos) (some (.Name x ps)) pos.line X.env = pure true := fun gs =>
                  sw_true (by rw [g.hsc]; exact g.kind rfl) (by rw [g.hsc]; exact c1') c2 c3'
                cases n with
                | zero => simp only [trE] at h2; cases h2
                | succ n =>
                  have ie := tr_ok CX G N F k n
                  simp only [trE] at h2
                  split at h2
                  · rename_i tg iter ifs asy
                    split at h2
                    · rename_i hc
                      rw [Bool.and_eq_true] at hc
                      obtain ⟨d1, d2⟩ := hc
                      have d1 := of_decide_eq_true d1
                      subst d1
                      split at h2
                      · rename_i it t x' h1' h2' h3'
                        split at h2
                        · rename_i hti
                          have hit := ie.i sc true E X g tg iter it h1'
                          have hb := fun s H C cls fp => g.blk scope s H C cls fp
                          have hok : BlkOk X.N X.env.scope scope (ownOf N scope) := by rw [g.hN, g.hsc]; exact blkOk_by d2
                          have hnf : ∀ y, foldedSetIterable iter X.env y = pure y := by
                            intro y
                            cases n with
                            | zero => simp only [trI] at h1'; cases h1'
                            | succ n => cases iter <;> first | rfl | (simp only [trI] at h1'; cases n <;> (simp only [trE] at h1'; cases h1'))
                          split at h2
                          · cases h2
                            exact ms_setLc _ g.calm hN hi (by rw [g.hsc]; exact c1') (hsw _) hit hok (fun s H C cls fp => (tg_ok n).1 tg t (hb s H C cls fp) h2') (fun s H C cls fp => mts_nil) (fun s H C cls fp => ie.e _ _ _ _ (hb s H C cls fp) elt x' h3') hti hnf
                          · rename_i c
                            split at h2
                            · rename_i c' hc'
                              cases h2
                              exact ms_setLc _ g.calm hN hi (by rw [g.hsc]; exact c1') (hsw _) hit hok (fun s H C cls fp => (tg_ok n).1 tg t (hb s H C cls fp) h2') (fun s H C cls fp => mts_one (ie.t _ _ _ _ (hb s H C cls fp) c c' hc')) (fun s H C cls fp => ie.e _ _ _ _ (hb s H C cls fp) elt x' h3') hti hnf
                            · cases h2
                          · cases h2
                        · cases h2
                      · cases h2
                    · cases h2
                  · cases h2
              · cases h
            | SetComp a b c d => simp only at h; cases h
            | DictComp a b c d e => simp only at h; cases h
            | _ =>
              simp only at h
              cases h
              exact plain (fun _ _ _ _ z => by cases z)
          · cases h
        · rename_i es kk ps
          have tup : ∀ t y, trTg N sc true n (.Tuple es kk ps) = some t → trE G N n sc e = some y → (∀ a b c d, e ≠ .ListComp a b c d) → swappedStores [.Tuple es kk ps] e X.env = pure none → MS X X.mg E (.Assign [.Tuple es kk ps] e pos) (evS F (.asg t y)) := fun t y h1 h2 hl hsw =>
            ms_asg (ie.e sc true E X g e y h2) ((tg_ok n).1 _ t g h1) (by show swapsWith e (some (.Tuple es kk ps)) pos.line X.env = pure false; exact noSwap h2 hl _ _ _) hsw (by rw [asg_one h1]; rfl)
          cases e with
          | Name x p2 =>
            simp only at h
            split at h
            · rename_i t y h1 h2; cases h; exact tup t y h1 h2 (fun _ _ _ _ z => by cases z) rfl
            · cases h
          | Call f as ks p2 =>
            simp only at h
            split at h
            · rename_i t y h1 h2; cases h; exact tup t y h1 h2 (fun _ _ _ _ z => by cases z) rfl
            · cases h
          | Subscript a b p2 =>
            simp only at h
            split at h
            · rename_i t y h1 h2; cases h; exact tup t y h1 h2 (fun _ _ _ _ z => by cases z) rfl
            · cases h
          | _ => simp only at h; cases h
        · rename_i o i ps
          have sto : (∀ a b c d, e ≠ .ListComp a b c d) → (match trE G N n sc e, trE G N n sc o, trE G N n sc i with
              | some y, some r, some k => if ixOk i then some (S'.sto r k y) else none
              | _, _, _ => none) = some p → MS X X.mg E (.Assign [.Subscript o i ps] e pos) (evS F p) := fun hl h => by
            split at h
            · rename_i y r k' h1 h2 h3
              split at h
              · rename_i hix
                cases h
                have ho := ie.e sc true E X g o r h2
                have hi := ie.e sc true E X g i k' h3
                have hsw : swappedStores [.Subscript o i ps] e X.env = pure none := by cases e <;> rfl
                refine ms_sto (ie.e sc true E X g e y h1) ho hi (by show swapsWith e (some (.Subscript o i ps)) pos.line X.env = pure false; exact noSwap h1 hl _ _ _) hsw rfl fun t ht => pg_sub ho hi ht ?_
                intro v
                cases i <;> first | (simp only [ixOk] at hix; cases hix; done) | rfl
              · cases h
            · cases h
          cases e with
          | ListComp a b c d => simp only at h; cases h
          | _ => exact sto (fun _ _ _ _ z => by cases z) h
        · cases h
      | Expr e pos =>
        simp only [trS] at h
        split at h
        · rename_i f as ks p2
          cases q : trE G N n sc (.Call f as ks p2) with
          | none => rw [q] at h; cases h
          | some x => rw [q] at h; cases h; exact ms_expr (ie.e sc true E X g _ _ q) (noSwap q (fun _ _ _ _ z => by cases z) _ _ _)
        · cases h
      | Return e pos =>
        cases e with
        | none => simp only [trS] at h; cases h
        | some e =>
          simp only [trS] at h
          cases q : trE G N n sc e with
          | none => rw [q] at h; cases h
          | some x => rw [q] at h; cases h; exact ms_ret (ie.e sc true E X g _ _ q)
      | If t a b pos =>
        simp only [trS] at h
        split at h
        · rename_i t' a' b' h1 h2 h3
          cases h
          exact ms_ife (ie.t sc true E X g _ _ h1) (ih.ss sc E X g _ _ h2) (ih.ss sc E X g _ _ h3)
        · cases h
      | For tg it body orelse pos =>
        simp only [trS] at h
        split at h
        · split at h
          · rename_i t i b h1 h2 h3
            cases h
            have hnf : ∀ y, foldedSetIterable it X.env y = pure y := by
              intro y
              cases n with
              | zero => simp only [trI] at h2; cases h2
              | succ n => cases it <;> first | rfl | (simp only [trI] at h2; cases n <;> (simp only [trE] at h2; cases h2))
            exact ms_for g.own g.calm (ie.i sc true E X g _ _ _ h2) ((tg_ok n).1 tg t g h1) (ih.ss sc E X g _ _ h3) hnf
          · cases h
        · cases h
      | Break pos => simp only [trS] at h; cases h; exact ms_brk
      | Continue pos => simp only [trS] at h; cases h; exact ms_cnt
      | Pass pos => simp only [trS] at h; cases h; exact ms_pass
      | _ => simp only [trS] at h; cases h
    · intro sc E X g st p h
      cases st with
      | nil => simp only [trSs] at h; cases h; exact mss_nil
      | cons s r =>
        simp only [trSs] at h
        split at h
        · rename_i x xs h1 h2
          cases h
          exact mss_cons (ih.s sc E X g _ _ h1) (ih.ss sc E X g _ _ h2)
        · cases h
end
end Pu

namespace Pu
open PySem PySem.Spec PyProof.Rows L2

/-- a def of the text: its name, its place in the top's list, its parameters, all its names by slot -/
structure FnD where
  name : Str
  st : Stmt
  ps : List Str
  N : List Str
def fnScB (N ps : List Str) (sc : Scope) : Bool :=
  (match sc.kind with | .function => true | _ => false) && !sc.isCoroutine && !sc.isGenerator && decide N.Nodup && decide (N.take ps.length = ps) &&
    ps.all (fun x => match sc.names.lookup x with | some .local => true | some .cell => true | _ => false) && sc.names.all fun y => match y.2 with | .free => false | _ => true
theorem fnSc_ok {N ps : List Str} {sc : Scope} (h : fnScB N ps sc = true) : FnScope N ps sc := by
  unfold fnScB at h
  simp only [Bool.and_eq_true, List.all_eq_true, decide_eq_true_eq, Bool.not_eq_true'] at h
  obtain ⟨⟨⟨⟨⟨⟨h1, h2⟩, h3⟩, h4⟩, h5⟩, h6⟩, h7⟩ := h
  refine ⟨?_, h2, h3, h4, h5, fun x hx => ?_, fun y hy e => ?_⟩
  · split at h1
    · assumption
    · cases h1
  · have q := h6 x hx
    split at q
    · exact .inl (by assumption)
    · exact .inr (by assumption)
    · cases q
  · have q := h7 y hy
    rw [e] at q; cases q
def fuel : Nat := 60
def bodyOf (G : Gi) (d : FnD) : Option (List S') := trSs G d.N fuel (defScope d.st) (defBody d.st)
def mkFn (G : Gi) (d : FnD) : Fn' := ⟨d.N.length, (bodyOf G d).getD []⟩
def okFn (G : Gi) (d : FnD) : Bool := fnScB d.N d.ps (defScope d.st) && (bodyOf G d).isSome
def okTab (G : Gi) (tab : List FnD) : Bool := tab.all (okFn G) && G.fns.all fun (x, i) => match tab[i]? with
  | some d => decide (d.name = x) && decide (G.ar[i]? = some d.ps.length)
  | none => false
/-- what the head says of the text's functions and names -/
structure HeadOk (K : PySem.W.Frag) (mg : Str → Option Value) (G : Gi) (tab : List FnD) : Prop where
  fn : ∀ (i : Nat) (d : FnD), tab[i]? = some d → ∃ f fd, mg d.name = some (.ref f) ∧ Fun K d.name d.name d.st f fd ∧ Binds K fd d.ps []
  blt : ∀ x, x ∈ bltNames → G.fns.lookup x = none → mg x = none
  cst : ∀ x d, G.cst.lookup x = some d → ∃ v u, mg x = some u ∧ RelV v u ∧ ∀ as H, Rep K as H d v
theorem lookup_mem {κ β : Type} [BEq κ] [LawfulBEq κ] : ∀ {l : List (κ × β)} {x : κ} {b : β}, l.lookup x = some b → (x, b) ∈ l
  | [], _, _, h => by cases h
  | (y, c) :: r, x, b, h => by
    rw [List.lookup_cons] at h
    split at h
    · rename_i e
      cases h
      rw [eq_of_beq e]; exact List.mem_cons_self
    · exact List.mem_cons_of_mem _ (lookup_mem h)
theorem envR_start {K : PySem.W.Frag} {as : List Addr} {H : Hp} {N : List Str} {vs : List V} {ds : List D} (r : Reps K as H ds vs) : EnvR K as H (L2.start N vs) (envOf N.length ds) := by
  have hl := r.length
  refine ⟨by simp [L2.start, envOf, hl], fun i d h => ?_⟩
  unfold envOf at h
  unfold L2.start
  by_cases hi : i < ds.length
  · rw [List.getElem?_append_left (by simpa using hi), List.getElem?_map] at h
    cases q : ds[i]? with
    | none => rw [q] at h; cases h
    | some e =>
      rw [q] at h; cases h
      obtain ⟨v, h1, h2⟩ := r.get q
      exact ⟨v, by rw [List.getElem?_append_left (by simpa [hl] using hi), List.getElem?_map, h1]; rfl, h2⟩
  · rw [List.getElem?_append_right (by simpa using Nat.le_of_not_lt hi)] at h
    rw [List.getElem?_replicate] at h
    split at h <;> cases h
section
variable {P : Program} {w : World} {K : PySem.W.Frag} {mg : Str → Option Value} {base : Heap} {G : Gi} {tab : List FnD}
theorem all_ok (hd : HeadOk K mg G tab) (ht : okTab G tab = true) : ∀ (k i : Nat) (d : FnD) (f : Addr) (fd : FuncData), tab[i]? = some d → mg d.name = some (.ref f) → Fun K d.name d.name d.st f fd → Binds K fd d.ps [] →
    FnOk P w K mg base CX0 k f fd d.ps (spM K mg d.ps.length (runF (tab.map (mkFn G)) k i)) := by
  have ht2 := ht
  unfold okTab at ht2
  rw [Bool.and_eq_true, List.all_eq_true, List.all_eq_true] at ht2
  obtain ⟨okF, okN⟩ := ht2
  intro k
  induction k with
  | zero =>
    intro i d f fd hi hm hF hB
    refine ⟨fun vs H Q E h => h.1, fun A outer s H args us vs Q E _ _ _ _ h => ?_⟩
    obtain ⟨_, as, S, ds, _, _, fin⟩ := h
    exact fin.elim
  | succ k ih =>
    intro i d f fd hi hm hF hB
    have ok := okF d (List.mem_of_getElem? hi)
    unfold okFn at ok
    rw [Bool.and_eq_true] at ok
    obtain ⟨ok1, ok2⟩ := ok
    have S := fnSc_ok ok1
    obtain ⟨body, hb⟩ := Option.isSome_iff_exists.mp ok2
    refine hF.ok S (fun vs H Q E h => h.1) fun cdv A outer s H vs Q E hr h => ?_
    have good : Good CX0 G d.N (runF (tab.map (mkFn G)) k) E k true (defScope d.st) (cxOf CX0 P w K mg base d.N d.name (defScope d.st) f cdv A outer s H E).nox :=
      { hN := rfl, nd := S.nd, hsc := rfl, calm := rfl, room := hr, pas := fun _ _ _ _ _ _ _ h => h.elim, own := PassesOwn.never, fn := fun _ _ => rfl, kind := fun _ => S.kind,
        fns := fun x j hx => by
          have q := okN (x, j) (lookup_mem hx)
          dsimp only at q
          split at q
          · rename_i d' hd'
            rw [Bool.and_eq_true] at q
            have q1 := of_decide_eq_true q.1
            have q2 := of_decide_eq_true q.2
            subst q1
            obtain ⟨f', fd', h1, h2, h3⟩ := hd.fn j d' hd'
            exact ⟨f', fd', d'.ps, d'.ps.length, h1, h2.kp, h3, ih j d' f' fd' hd' h1 h2 h3, q2⟩
          · cases q
        blt := hd.blt, cst := hd.cst, hE0 := fun _ _ _ _ _ h => h.elim }
    refine ⟨_, (ts_ok CX0 G d.N (runF (tab.map (mkFn G)) k) k fuel).ss _ _ _ good (defBody d.st) body hb, ?_⟩
    obtain ⟨hl, as, S0, ds, sim, rs, fin⟩ := h
    refine ⟨as, S0, envOf d.N.length ds, sim, envR_start rs, ?_⟩
    have hrun : runF (tab.map (mkFn G)) (k + 1) i ds S0 = runB (runF (tab.map (mkFn G)) k) ⟨d.N.length, body⟩ ds S0 := by
      simp only [runF, List.getElem?_map, hi, Option.map_some, mkFn, hb, Option.getD_some]
    rw [hrun] at fin
    unfold runB at fin
    cases hq : evSs (runF (tab.map (mkFn G)) k) body (envOf d.N.length ds) S0 with
    | bad => simp only [mbind, hq, R.bind] at fin; exact fin.elim
    | exc c fs S1 => simp only [mbind, hq, R.bind] at fin; exact fin
    | ok fl S1 =>
      simp only [mbind, hq, R.bind] at fin
      cases fl with
      | nx ρ => exact fun as1 H1 σ1 e1 sim1 _ => fin as1 H1 .non e1 sim1 rfl
      | rt v => exact fun as1 H1 x e1 sim1 r1 => fin as1 H1 x e1 sim1 r1
      | bk ρ => exact fin.elim
      | ct ρ => exact fin.elim
/-- the law's own promise -/
def spLaw (K : PySem.W.Frag) : Sp := fun vs H Q _ => ∃ (a : Addr) (ns : List Int), vs = [.ref a] ∧ FrL K H a (ns.map V.int) ∧ ns.length ≤ 63 ∧ ∀ H', Q (.bl true) H'
theorem frl_of {H : Hp} {a : Addr} {xs : List V} (o : Only H) (h : SqL K H a xs) : FrL K H a xs := by
  rcases h with (h | ⟨ob, h⟩) | h
  · rcases o a with z | ⟨_, _, z⟩
    · rw [z] at h; cases h
    · rw [z] at h; cases h
  · exact .inl ⟨ob, h⟩
  · exact .inr h
theorem law_ok (hd : HeadOk K mg G tab) (ht : okTab G tab = true) {k i : Nat} {d : FnD} {f : Addr} {fd : FuncData} (hi : tab[i]? = some d) (hm : mg d.name = some (.ref f)) (hF : Fun K d.name d.name d.st f fd) (hB : Binds K fd d.ps []) (hp : d.ps.length = 1)
    (hrun : ∀ ns : List Int, ns.length ≤ 63 → ∃ S', runF (tab.map (mkFn G)) k i [.fr (ns.map D.int)] [] = .ok (.bl true) S') : FnOk P w K mg base CX0 k f fd d.ps (spLaw K) :=
  (all_ok hd ht k i d f fd hi hm hF hB).imp fun vs H Q E h => by
    obtain ⟨a, ns, rfl, hS, hl, q⟩ := h
    obtain ⟨S', hr⟩ := hrun ns hl
    refine ⟨hp.symm, [], [], [.fr (ns.map D.int)], ⟨rfl, fun i j a h => by simp at h, fun i a o h => by simp at h⟩, Reps.one ⟨a, _, rfl, hS, Reps.of_ints ns⟩, ?_⟩
    rw [hr]
    intro as' H' b _ _ r
    have r : b = .bl true := r
    subst r
    exact q H'
end
end Pu

namespace Pu
open PySem PySem.Spec PyProof.Rows L2
/-! ## what the laws' helpers do -/
/-- a stream of draws stands at r -/
def StrAt (S : Sto) (r : Nat) : Prop := ∃ (ns : List Int) (c k : Int), S[r]? = some (.lst [.fz (ns.map D.int), .int c, .int k]) ∧ 0 ≤ c ∧ 0 ≤ k ∧ ns.length ≤ 63
theorem StrAt.lt {S : Sto} {r : Nat} (h : StrAt S r) : r < S.length := by
  obtain ⟨_, _, _, h, _⟩ := h
  exact (List.getElem?_eq_some_iff.mp h).1
theorem atI_0 {α : Type} (a : α) (l : List α) : atI (a :: l) 0 = some a := by
  have := atI_nat (xs := a :: l) (j := 0) (v := a) rfl
  simpa using this
theorem atI_1 {α : Type} (a b : α) (l : List α) : atI (a :: b :: l) 1 = some b := by
  have := atI_nat (xs := a :: b :: l) (j := 1) (v := b) rfl
  simpa using this
theorem atI_2 {α : Type} (a b c : α) (l : List α) : atI (a :: b :: c :: l) 2 = some c := by
  have := atI_nat (xs := a :: b :: c :: l) (j := 2) (v := c) rfl
  simpa using this
theorem ixN_nat {n : Nat} {i : Int} (h0 : 0 ≤ i) (h1 : i < n) : ixN n i = some i.toNat := by
  unfold ixN; rw [if_pos h0, if_pos h1]
def fNext : Fn' := ⟨5, [(.ife (.bv (.cmp .Eq (.idx (.var 0) (.cst (.int 1))) (.cst (.int 0)))) [(.set 2 (.idx (.var 0) (.cst (.int 2)))), (.set 3 (.cat false (.cst (.int 7)) (.var 2))), (.ife (.bv (.cmp .Lt (.var 2) (.blt .len [(.idx (.var 0) (.cst (.int 0)))]))) [(.set 3 (.blt .abs [(.idx (.idx (.var 0) (.cst (.int 0))) (.var 2))]))] []), (.ife (.bv (.cmp .Lt (.var 3) (.bin .Pow (.cst (.int 10)) (.cst (.int 18))))) [(.set 3 (.bin .Mod (.blt .int [(.cat false (.cat false (.rep false (.var 3) (.cst (.int 48271))) (.rep false (.var 2) (.cst (.int 69621)))) (.cst (.int 11)))]) (.cst (.int 2147483647)))), (.set 3 (.cat false (.rep false (.bin .Mod (.blt .int [(.cat false (.rep false (.var 3) (.cst (.int 16807))) (.cst (.int 13)))]) (.cst (.int 2147483647))) (.cst (.int 65537))) (.var 3)))] []), (.sto (.var 0) (.cst (.int 1)) (.var 3)), (.sto (.var 0) (.cst (.int 2)) (.cat false (.var 2) (.cst (.int 1))))] []), (.set 4 (.bin .Mod (.blt .int [(.idx (.var 0) (.cst (.int 1)))]) (.var 1))), (.sto (.var 0) (.cst (.int 1)) (.bin .FloorDiv (.idx (.var 0) (.cst (.int 1))) (.var 1))), (.ret (.var 4))]⟩
def mixI (k c : Int) : Int := (((c * 48271 + k * 69621 + 11) % 2147483647) * 16807 + 13) % 2147483647 * 65537 + (c * 48271 + k * 69621 + 11) % 2147483647
theorem run_next {F : Nat → List D → M D} {S : Sto} {r : Nat} {many : Int} (h : StrAt S r) (h1 : 0 < many) (h2 : many < 1073741824) :
    ∃ d o, runB F fNext [.ref r, .int many] S = .ok (.int d) (S.set r o) ∧ 0 ≤ d ∧ d < many ∧ StrAt (S.set r o) r := by
  have hl := h.lt
  obtain ⟨ns, c, k, hs, hc, hk, hn⟩ := h
  -- where the run ends, from what stands behind the first if
  have go : ∀ (c0 k0 : Int), 0 ≤ c0 → 0 ≤ k0 → runB F fNext [.ref r, .int many] S = .ok (.int (c0 % many)) (S.set r (.lst [.fz (ns.map D.int), .int (c0 / many), .int k0])) →
      ∃ d o, runB F fNext [.ref r, .int many] S = .ok (.int d) (S.set r o) ∧ 0 ≤ d ∧ d < many ∧ StrAt (S.set r o) r := fun c0 k0 hc0 hk0 e =>
    ⟨_, _, e, Int.emod_nonneg _ (by omega), Int.emod_lt_of_pos _ h1, ns, c0 / many, k0, by rw [List.getElem?_set_self hl], Int.ediv_nonneg hc0 (by omega), hk0, hn⟩
  by_cases z : c = 0
  · subst z
    have num : ∀ v : Int, 0 ≤ v → v < 1000000000000000000 → 0 ≤ mixI k v := fun v _ _ => by unfold mixI; omega
    by_cases hkl : k < (ns.length : Int)
    · have hat : ∃ v, atI (ns.map D.int) k = some (.int v) := by
        have hj : k.toNat < ns.length := by omega
        have := atI_nat (xs := ns.map D.int) (j := k.toNat) (v := .int ns[k.toNat]) (by rw [List.getElem?_map, List.getElem?_eq_getElem hj]; rfl)
        rw [show ((k.toNat : Nat) : Int) = k by omega] at this
        exact ⟨_, this⟩
      obtain ⟨v, hat⟩ := hat
      have hv : 0 ≤ (if v < 0 then -v else v) := by split <;> omega
      by_cases big : (if v < 0 then -v else v) < 1000000000000000000
      · refine go (mixI k (if v < 0 then -v else v)) (k + 1) (num _ hv big) (by omega) ?_
        simp [runB, fNext, envOf, evSs, evS, evE, evEs, evT, mbind_ap, mret_ap, bind_ok, varM, idxM, seqOf, lstOf, hs, atI_0, atI_1, atI_2, cmpM, blM, catM, ltM, bltM, lenM, absM, intM, repM, chk, hkl, hat, binM, chk, big, stoM, ixN, List.set_set, List.getElem?_set_self hl, h1, h2, mixI]
      · refine go (if v < 0 then -v else v) (k + 1) hv (by omega) ?_
        simp [runB, fNext, envOf, evSs, evS, evE, evEs, evT, mbind_ap, mret_ap, bind_ok, varM, idxM, seqOf, lstOf, hs, atI_0, atI_1, atI_2, cmpM, blM, catM, ltM, bltM, lenM, absM, intM, repM, chk, hkl, hat, binM, chk, big, stoM, ixN, List.set_set, List.getElem?_set_self hl, h1, h2, mixI]
    · by_cases big : 7 + k < 1000000000000000000
      · refine go (mixI k (7 + k)) (k + 1) (num _ (by omega) big) (by omega) ?_
        simp [runB, fNext, envOf, evSs, evS, evE, evEs, evT, mbind_ap, mret_ap, bind_ok, varM, idxM, seqOf, lstOf, hs, atI_0, atI_1, atI_2, cmpM, blM, catM, ltM, bltM, lenM, absM, intM, repM, chk, hkl, binM, chk, big, stoM, ixN, List.set_set, List.getElem?_set_self hl, h1, h2, mixI]
      · refine go (7 + k) (k + 1) (by omega) (by omega) ?_
        simp [runB, fNext, envOf, evSs, evS, evE, evEs, evT, mbind_ap, mret_ap, bind_ok, varM, idxM, seqOf, lstOf, hs, atI_0, atI_1, atI_2, cmpM, blM, catM, ltM, bltM, lenM, absM, intM, repM, chk, hkl, binM, chk, big, stoM, ixN, List.set_set, List.getElem?_set_self hl, h1, h2, mixI]
  · refine go c k hc hk ?_
    simp [runB, fNext, envOf, evSs, evS, evE, evEs, evT, mbind_ap, mret_ap, bind_ok, varM, idxM, seqOf, lstOf, hs, atI_0, atI_1, atI_2, cmpM, blM, z, bltM, intM, binM, chk, h1, h2, stoM, ixN, List.set_set]
end Pu

namespace Pu
open PySem PySem.Spec PyProof.Rows L2
/-! ## loops, by what holds between two turns -/
def stepM (elt : Env' → M D) (ifs : Env' → M Bool) (tg : Tg) (ρ : Env') (d : D) : M (Option D) := fun S => match tgSet tg d ρ with
  | none => .bad
  | some ρ' => (ifs ρ' S).bind fun b => if b then mbind (elt ρ') (fun y => mret (some y)) else mret none
theorem lc_inv {elt : Env' → M D} {ifs : Env' → M Bool} {tg : Tg} {ρ : Env'} {items : List D} {src : Src} (P : Nat → List D → Sto → Prop) (hl : items.length ≤ line)
    (hsrc : ∀ i acc S, P i acc S → src.nxt i S = some items[i]?)
    (hstep : ∀ i acc S d, items[i]? = some d → P i acc S → ∃ o S', stepM elt ifs tg ρ d S = .ok o S' ∧ P (i + 1) (acc ++ o.toList) S') :
    ∀ (n i : Nat) (acc : List D) (S : Sto), P i acc S → items.length ≤ i + n → i ≤ items.length → acc.length ≤ i → ∃ acc' S', lcLoop elt ifs tg src n i ρ acc S = .ok acc' S' ∧ P items.length acc' S' ∧ acc'.length ≤ items.length := by
  intro n
  induction n with
  | zero =>
    intro i acc S hp h1 h2 h3
    have e : i = items.length := by omega
    subst e
    refine ⟨acc, S, ?_, hp, h3⟩
    unfold lcLoop
    have := hsrc _ _ _ hp
    rw [List.getElem?_eq_none (Nat.le_refl _)] at this
    simp only [this]
  | succ n ih =>
    intro i acc S hp h1 h2 h3
    by_cases hi : i < items.length
    · have hd : items[i]? = some items[i] := List.getElem?_eq_getElem hi
      obtain ⟨o, S', hs, hp'⟩ := hstep i acc S items[i] hd hp
      have hsr := hsrc _ _ _ hp
      rw [hd] at hsr
      have key : lcLoop elt ifs tg src (n + 1) i ρ acc S = lcLoop elt ifs tg src n (i + 1) ρ (acc ++ o.toList) S' := by
        conv => lhs; unfold lcLoop
        simp only [hsr]
        unfold stepM at hs
        cases ht : tgSet tg items[i] ρ with
        | none => simp only [ht] at hs; cases hs
        | some ρ' =>
          simp only [ht] at hs ⊢
          cases hi2 : ifs ρ' S with
          | bad => simp only [hi2, R.bind] at hs; cases hs
          | exc c f S2 => simp only [hi2, R.bind] at hs; cases hs
          | ok b S2 =>
            simp only [hi2, R.bind] at hs ⊢
            cases b with
            | false =>
              simp only [Bool.false_eq_true, if_false, mret] at hs ⊢
              cases hs
              simp
            | true =>
              simp only [if_true, mbind] at hs ⊢
              cases he : elt ρ' S2 with
              | bad => simp only [he, R.bind] at hs; cases hs
              | exc c f S3 => simp only [he, R.bind] at hs; cases hs
              | ok y S3 =>
                simp only [he, R.bind, mret] at hs ⊢
                cases hs
                rw [if_pos (by omega)]
                rfl
      rw [key]
      refine ih (i + 1) _ S' hp' (by omega) (by omega) ?_
      cases o <;> simp <;> omega
    · have e : i = items.length := by omega
      subst e
      refine ⟨acc, S, ?_, hp, h3⟩
      unfold lcLoop
      have := hsrc _ _ _ hp
      rw [List.getElem?_eq_none (Nat.le_refl _)] at this
      simp only [this]
/-- the turns change nothing -/
theorem lc_pure {elt : Env' → M D} {ifs : Env' → M Bool} {tg : Tg} {ρ : Env'} {items : List D} {src : Src} {S : Sto} (g : D → Option D) (hl : items.length ≤ line) (hsrc : ∀ i, src.nxt i S = some items[i]?) (hn : items.length ≤ src.n)
    (hstep : ∀ d, d ∈ items → stepM elt ifs tg ρ d S = .ok (g d) S) : lcLoop elt ifs tg src src.n 0 ρ [] S = .ok (items.filterMap g) S := by
  obtain ⟨acc, S', h1, ⟨h2, h3⟩, _⟩ := lc_inv (elt := elt) (ifs := ifs) (tg := tg) (ρ := ρ) (src := src) (items := items) (fun i acc S' => S' = S ∧ acc = (items.take i).filterMap g) hl (fun i acc S' h => by rw [h.1]; exact hsrc i)
    (fun i acc S' d hd h => by
      obtain ⟨rfl, rfl⟩ := h
      refine ⟨g d, _, hstep d (List.mem_of_getElem? hd), rfl, ?_⟩
      rw [List.take_add_one, hd, List.filterMap_append]
      cases hg : g d <;> simp [hg]) src.n 0 [] S ⟨rfl, by simp⟩ (by omega) (by omega) (Nat.le_refl _)
  rw [h1, h2, h3, List.take_length]
theorem for_inv {body : Env' → M Fl} {tg : Tg} {items : List D} {src : Src} (P : Nat → Env' → Sto → Prop)
    (hsrc : ∀ i ρ S, P i ρ S → src.nxt i S = some items[i]?)
    (hstep : ∀ i ρ S d, items[i]? = some d → P i ρ S → ∃ ρ1, tgSet tg d ρ = some ρ1 ∧ ∃ ρ2 S', (body ρ1 S = .ok (.nx ρ2) S' ∨ body ρ1 S = .ok (.ct ρ2) S') ∧ P (i + 1) ρ2 S') :
    ∀ (n i : Nat) (ρ : Env') (S : Sto), P i ρ S → items.length ≤ i + n → i ≤ items.length → ∃ ρ' S', forLoop body tg src n i ρ S = .ok (.nx ρ') S' ∧ P items.length ρ' S' := by
  intro n
  induction n with
  | zero =>
    intro i ρ S hp h1 h2
    have e : i = items.length := by omega
    subst e
    refine ⟨ρ, S, ?_, hp⟩
    unfold forLoop
    have := hsrc _ _ _ hp
    rw [List.getElem?_eq_none (Nat.le_refl _)] at this
    simp only [this]
  | succ n ih =>
    intro i ρ S hp h1 h2
    by_cases hi : i < items.length
    · have hd : items[i]? = some items[i] := List.getElem?_eq_getElem hi
      obtain ⟨ρ1, ht, ρ2, S', hb, hp'⟩ := hstep i ρ S items[i] hd hp
      have hsr := hsrc _ _ _ hp
      rw [hd] at hsr
      have key : forLoop body tg src (n + 1) i ρ S = forLoop body tg src n (i + 1) ρ2 S' := by
        conv => lhs; unfold forLoop
        simp only [hsr, ht]
        rcases hb with hb | hb <;> simp only [hb, R.bind]
      rw [key]
      exact ih (i + 1) ρ2 S' hp' (by omega) (by omega)
    · have e : i = items.length := by omega
      subst e
      refine ⟨ρ, S, ?_, hp⟩
      unfold forLoop
      have := hsrc _ _ _ hp
      rw [List.getElem?_eq_none (Nat.le_refl _)] at this
      simp only [this]
theorem ev_lc {F : Nat → List D → M D} {own : Bool} {elt : X'} {tg : Tg} {it : I'} {ifs : List T'} {ws : List Nat} {ρ : Env'} {S S1 S2 : Sto} {src : Src} {xs : List D} (h1 : evI F it ρ S = .ok src S1)
    (h2 : lcLoop (evE F elt) (evTs F ifs) tg src src.n 0 (wipeE ρ ws) [] S1 = .ok xs S2) : evE F (.lc own elt tg it ifs ws) ρ S = newL own xs S2 := by
  show ((evI F it ρ S).bind fun src => mbind (nox (lcLoop (evE F elt) (evTs F ifs) tg src src.n 0 (wipeE ρ ws) [])) fun xs => newL own xs) = _
  rw [h1]
  show (nox (lcLoop (evE F elt) (evTs F ifs) tg src src.n 0 (wipeE ρ ws) []) S1).bind (fun xs => newL own xs) = _
  unfold nox
  rw [h2]
  rfl
theorem newL_fz {xs : List D} {S : Sto} (h : xs.length ≤ line) : newL false xs S = .ok (.fz xs) S := by
  unfold newL
  rw [if_pos h]
  rfl
theorem newL_own {xs : List D} {S : Sto} (h : xs.length ≤ line) : newL true xs S = .ok (.ref S.length) (S ++ [.lst xs]) := by
  unfold newL
  rw [if_pos h]
  rfl
/-! ## stores that go on -/
def Adv (r : Nat) (S S' : Sto) : Prop := StrAt S' r ∧ ∃ o G, S' = S.set r o ++ G
theorem Adv.refl {r : Nat} {S : Sto} (h : StrAt S r) : Adv r S S := by
  have hl := h.lt
  refine ⟨h, S[r], [], ?_⟩
  rw [List.append_nil]
  simp
theorem Adv.trans {r : Nat} {S S1 S2 : Sto} (hl : r < S.length) (a : Adv r S S1) (b : Adv r S1 S2) : Adv r S S2 := by
  obtain ⟨_, o, G, rfl⟩ := a
  obtain ⟨h, o', G', rfl⟩ := b
  refine ⟨h, o', G ++ G', ?_⟩
  rw [List.set_append_left _ _ (by simpa using hl), List.set_set, List.append_assoc]
theorem Adv.lt {r : Nat} {S S' : Sto} (a : Adv r S S') : r < S'.length := a.1.lt
theorem Adv.keep {r i : Nat} {S S' : Sto} {o : Ob} (a : Adv r S S') (hi : i ≠ r) (h : S[i]? = some o) : S'[i]? = some o := by
  obtain ⟨_, o', G, rfl⟩ := a
  have hl : i < S.length := (List.getElem?_eq_some_iff.mp h).1
  rw [List.getElem?_append_left (by simpa using hl), List.getElem?_set_ne (fun e => hi e.symm)]
  exact h
theorem Adv.of_set {r : Nat} {S : Sto} {o : Ob} (h : StrAt (S.set r o) r) : Adv r S (S.set r o) := ⟨h, o, [], by rw [List.append_nil]⟩
theorem StrAt.app {r : Nat} {S : Sto} (h : StrAt S r) (G : Sto) : StrAt (S ++ G) r := by
  obtain ⟨ns, c, k, hs, h2⟩ := h
  exact ⟨ns, c, k, by rw [List.getElem?_append_left (List.getElem?_eq_some_iff.mp hs).1]; exact hs, h2⟩
theorem Adv.app {r : Nat} {S : Sto} (h : StrAt S r) (G : Sto) : Adv r S (S ++ G) := by
  refine ⟨h.app G, S[r]'h.lt, G, ?_⟩
  simp
/-- F at i draws -/
def IsNext (F : Nat → List D → M D) (i : Nat) : Prop := ∀ (S : Sto) (r : Nat) (many : Int), StrAt S r → 0 < many → many < 1073741824 → ∃ d S', F i [.ref r, .int many] S = .ok (.int d) S' ∧ 0 ≤ d ∧ d < many ∧ Adv r S S' ∧ S'.length = S.length
theorem isNext_of {fs : List Fn'} {i k : Nat} (h : fs[i]? = some fNext) : IsNext (runF fs (k + 1)) i := fun S r many hs h1 h2 => by
  obtain ⟨d, o, e, h3, h4, h5⟩ := run_next (F := runF fs k) hs h1 h2
  refine ⟨d, _, ?_, h3, h4, .of_set h5, by simp⟩
  simp only [runF, h]
  exact e
def fPick (iN : Nat) : Fn' := ⟨2, [(.ret (.idx (.var 1) (.call iN [(.var 0), (.blt .len [(.var 1)])])))]⟩
def IsPick (F : Nat → List D → M D) (i : Nat) : Prop := ∀ (S : Sto) (r : Nat) (d : D) (xs : List D), StrAt S r → seqOf d S = some xs → (∀ S', Adv r S S' → seqOf d S' = some xs) → xs ≠ [] → xs.length < 1073741824 →
  ∃ x S', F i [.ref r, d] S = .ok x S' ∧ x ∈ xs ∧ Adv r S S' ∧ S'.length = S.length
theorem seqOf_str {d : D} {S : Sto} {xs : List D} (h : seqOf d S = some xs) : ∀ x, d ≠ .str x := fun x e => by subst e; cases h
theorem len_of {F : Nat → List D → M D} {d : D} {S : Sto} {xs : List D} (h : seqOf d S = some xs) : lenM [d] S = .ok (.int xs.length) S := by
  cases d <;> first | (simp only [lenM, h]; done) | (cases h)
theorem isPick_of {fs : List Fn'} {i iN k : Nat} (h : fs[i]? = some (fPick iN)) (hN : IsNext (runF fs k) iN) : IsPick (runF fs (k + 1)) i := fun S r d xs hs hd hk hne hlt => by
  have hlen : (0 : Int) < xs.length := by
    cases xs with
    | nil => exact absurd rfl hne
    | cons x r => simp
  obtain ⟨m, S', e, h1, h2, a, hl⟩ := hN S r xs.length hs hlen (by omega)
  have hat : ∃ x, atI xs m = some x ∧ x ∈ xs := by
    have hj : m.toNat < xs.length := by omega
    have := atI_nat (xs := xs) (j := m.toNat) (v := xs[m.toNat]) (List.getElem?_eq_getElem hj)
    rw [show ((m.toNat : Nat) : Int) = m by omega] at this
    exact ⟨_, this, List.getElem_mem hj⟩
  obtain ⟨x, hx, hmem⟩ := hat
  refine ⟨x, S', ?_, hmem, a, hl⟩
  simp only [runF, h]
  simp [runB, fPick, envOf, evSs, evS, evE, evEs, mbind_ap, mret_ap, bind_ok, varM, bltM, len_of (F := runF fs k) hd, e, idxM, hk S' a, hx]
end Pu

namespace Pu
open PySem PySem.Spec PyProof.Rows L2
/-! ## rows -/
def dI (ns : List Int) : D := .tup (ns.map D.int)
def rowsL (v : Nat) : Nat → List (List Int)
  | 0 => [[]]
  | m + 1 => (rowsL v m).flatMap fun row => (List.range v).map fun (o : Nat) => row ++ [(o : Int)]
theorem rowsL_len (v : Nat) : ∀ m, (rowsL v m).length = v ^ m
  | 0 => rfl
  | m + 1 => by
    simp only [rowsL, List.length_flatMap, List.length_map, List.length_range]
    have : (List.map (fun _ : List Int => v) (rowsL v m)).sum = (rowsL v m).length * v := by
      induction rowsL v m with
      | nil => simp
      | cons a l ih => simp [ih, Nat.add_mul]; omega
    rw [this, rowsL_len v m, Nat.pow_succ]
theorem rowsL_mem {v : Nat} : ∀ {m : Nat} {row : List Int}, row ∈ rowsL v m ↔ row.length = m ∧ ∀ x ∈ row, 0 ≤ x ∧ x < v
  | 0, row => by
    simp only [rowsL, List.mem_singleton]
    constructor
    · rintro rfl; exact ⟨rfl, by simp⟩
    · rintro ⟨h, _⟩; exact List.length_eq_zero_iff.mp h
  | m + 1, row => by
    simp only [rowsL, List.mem_flatMap, List.mem_map, List.mem_range]
    constructor
    · rintro ⟨r, hr, o, ho, rfl⟩
      obtain ⟨h1, h2⟩ := rowsL_mem.mp hr
      refine ⟨by simp [h1], fun x hx => ?_⟩
      rcases List.mem_append.mp hx with h | h
      · exact h2 x h
      · rw [List.mem_singleton.mp h]; omega
    · rintro ⟨h1, h2⟩
      rcases List.eq_nil_or_concat row with e | ⟨r, o, e⟩
      · subst e; simp at h1
      · subst e
        rw [List.concat_eq_append] at h1 h2 ⊢
        have ho := h2 o (by simp)
        refine ⟨r, rowsL_mem.mpr ⟨by simpa using h1, fun x hx => h2 x (by simp [hx])⟩, o.toNat, by omega, ?_⟩
        rw [show ((o.toNat : Nat) : Int) = o by omega]
theorem pow_le_729 {v m : Nat} (hv : v ≤ 3) (hm : m ≤ 6) : v ^ m ≤ 729 := by
  have h1 : v ^ m ≤ 3 ^ m := Nat.pow_le_pow_left hv m
  have h2 : 3 ^ m ≤ 3 ^ 6 := Nat.pow_le_pow_right (by omega) hm
  have h3 : (3 : Nat) ^ 6 = 729 := rfl
  omega
/-- lexicographic order, as the tuples of a table ascend -/
theorem lexLt_append (xs : List Int) (a b : List Int) : HT.lexLt (xs ++ a) (xs ++ b) = HT.lexLt a b := by
  induction xs with
  | nil => rfl
  | cons x xs ih => simp [HT.lexLt, ih]
theorem lexLt_app_of {a b : List Int} : ∀ {xs ys : List Int}, xs.length = ys.length → HT.lexLt xs ys = true → HT.lexLt (xs ++ a) (ys ++ b) = true
  | [], [], _, h => by simp [HT.lexLt] at h
  | x :: xs, y :: ys, hl, h => by
    simp only [List.cons_append, HT.lexLt] at h ⊢
    by_cases e : x = y
    · rw [if_pos e] at h ⊢; exact lexLt_app_of (by simpa using hl) h
    · rw [if_neg e] at h ⊢; exact h
theorem lexLt_irrefl : ∀ (xs : List Int), HT.lexLt xs xs = false
  | [] => rfl
  | x :: xs => by simp [HT.lexLt, lexLt_irrefl xs]
theorem lexLt_trans : ∀ {xs ys zs : List Int}, HT.lexLt xs ys = true → HT.lexLt ys zs = true → HT.lexLt xs zs = true
  | [], [], _, h, _ => by simp [HT.lexLt] at h
  | [], _ :: _, [], _, h => by simp [HT.lexLt] at h
  | [], _ :: _, _ :: _, _, _ => rfl
  | _ :: _, [], _, h, _ => by simp [HT.lexLt] at h
  | _ :: _, _ :: _, [], _, h => by simp [HT.lexLt] at h
  | x :: xs, y :: ys, z :: zs, h1, h2 => by
    simp only [HT.lexLt] at h1 h2 ⊢
    by_cases e1 : x = y
    · rw [if_pos e1] at h1
      by_cases e2 : y = z
      · rw [if_pos e2] at h2; rw [if_pos (e1.trans e2)]; exact lexLt_trans h1 h2
      · rw [if_neg e2] at h2; rw [if_neg (e1 ▸ e2)]; rw [e1]; exact h2
    · rw [if_neg e1] at h1
      have h1 := of_decide_eq_true h1
      by_cases e2 : y = z
      · subst e2; rw [if_neg e1]; exact decide_eq_true h1
      · rw [if_neg e2] at h2
        have h2 := of_decide_eq_true h2
        rw [if_neg (by omega)]; exact decide_eq_true (by omega)
def AscR (rows : List (List Int)) : Prop := rows.Pairwise fun a b => HT.lexLt a b = true
theorem rowsL_asc (v : Nat) : ∀ m, AscR (rowsL v m)
  | 0 => by simp [AscR, rowsL]
  | m + 1 => by
    have ih := rowsL_asc v m
    unfold AscR at ih ⊢
    simp only [rowsL]
    rw [List.pairwise_flatMap]
    refine ⟨fun row _ => ?_, ?_⟩
    · rw [List.pairwise_map]
      refine List.Pairwise.imp ?_ (List.pairwise_lt_range (n := v))
      intro a b hab
      rw [lexLt_append]
      simp only [HT.lexLt]
      rw [if_neg (by omega)]; exact decide_eq_true (by omega)
    · refine List.Pairwise.imp_of_mem ?_ ih
      intro a b ha hb hab x hx y hy
      obtain ⟨o, _, rfl⟩ := List.mem_map.mp hx
      obtain ⟨o', _, rfl⟩ := List.mem_map.mp hy
      exact lexLt_app_of (by rw [(rowsL_mem.mp ha).1, (rowsL_mem.mp hb).1]) hab
/-! ## lists that are made within a call -/
/-- a list xs that was made behind the store's first n objects, or frozen -/
def LstQ (n : Nat) (d : D) (S : Sto) (xs : List D) : Prop := d = .fz xs ∨ ∃ id, d = .ref id ∧ n ≤ id ∧ S[id]? = some (.lst xs)
theorem LstQ.seq {n : Nat} {d : D} {S : Sto} {xs : List D} (h : LstQ n d S xs) : seqOf d S = some xs := by
  rcases h with rfl | ⟨id, rfl, _, h⟩
  · rfl
  · simp only [seqOf, lstOf, h]
theorem LstQ.adv {n r : Nat} {d : D} {S S' : Sto} {xs : List D} (h : LstQ n d S xs) (hr : r < n) (a : Adv r S S') : LstQ n d S' xs := by
  rcases h with rfl | ⟨id, rfl, h1, h⟩
  · exact .inl rfl
  · exact .inr ⟨id, rfl, h1, a.keep (by omega) h⟩
theorem LstQ.src {n r : Nat} {d : D} {S : Sto} {xs : List D} (h : LstQ n d S xs) (hr : r < n) : ∃ src, srcOf d S = some src ∧ src.n = xs.length ∧ ∀ i S', Adv r S S' → src.nxt i S' = some xs[i]? := by
  rcases h with rfl | ⟨id, rfl, h1, h⟩
  · exact ⟨_, rfl, rfl, fun i S' _ => rfl⟩
  · refine ⟨⟨xs.length, fun i S' => match S'[id]? with | some (.lst ys) => some ys[i]? | _ => none⟩, by simp only [srcOf, h] <;> rfl, rfl, fun i S' a => ?_⟩
    have := a.keep (by omega) h
    simp only [this]
def fRows : Fn' := ⟨7, [(.set 2 (.lst false [(.tup [])])), (.frr (.nm 3) (.rng (.var 1)) [(.set 4 (.lst true [])), (.frr (.nm 5) (.seq (.var 2)) [(.expr (.mth .extend (.var 4) [(.lc false (.cat false (.var 5) (.tup [(.var 6)])) (.nm 6) (.rng (.var 0)) [] [6])]))]), (.set 2 (.var 4))]), (.ret (.var 2))]⟩
theorem line_val : line = 16777216 := rfl
/-- one row made longer -/
theorem ev_longer {F : Nat → List D → M D} {S : Sto} {v m : Nat} {a b c : Option D} {id : Nat} {row : List Int} (hv : v ≤ 3) (hr : row.length ≤ 6) :
    evE F (.lc false (.cat false (.var 5) (.tup [(.var 6)])) (.nm 6) (.rng (.var 0)) [] [6]) [some (.int v), a, b, c, some (.ref id), some (dI row), none] S = .ok (.fz (((List.range v).map fun (o : Nat) => row ++ [(o : Int)]).map dI)) S := by
  have hb : (-4611686018427387904 : Int) ≤ (v : Int) ∧ (v : Int) < 4611686018427387904 := by omega
  have key := lc_pure (elt := evE F (.cat false (.var 5) (.tup [(.var 6)]))) (ifs := evTs F []) (tg := .nm 6) (ρ := [some (.int v), a, b, c, some (.ref id), some (dI row), none]) (items := (List.range v).map fun (o : Nat) => D.int (0 + (o : Int))) (src := rngOf 0 v) (S := S)
    (fun d => match d with | .int o => some (dI (row ++ [o])) | _ => none) (by simp [line_val]; omega) (fun i => by
      simp only [rngOf, List.getElem?_map]
      by_cases h : i < v
      · rw [if_pos h, List.getElem?_range h]; rfl
      · rw [if_neg h, List.getElem?_eq_none (by simp; omega)]; rfl) (by simp [rngOf]) (fun d hd => by
      obtain ⟨o, ho, rfl⟩ := List.mem_map.mp hd
      have hlen : row.length + 1 ≤ 16777216 := by omega
      simp [stepM, tgSet, evTs, mret_ap, bind_ok, evE, evEs, mbind_ap, varM, newT, line_val, catM, dI, hlen])
  have hl : ((List.range v).map fun (o : Nat) => D.int (0 + (o : Int))).filterMap (fun d => match d with | .int o => some (dI (row ++ [o])) | _ => none) = ((List.range v).map fun (o : Nat) => row ++ [(o : Int)]).map dI := by
    rw [List.filterMap_map, List.map_map]
    have : ((fun d => match d with | D.int o => some (dI (row ++ [o])) | _ => none) ∘ fun (o : Nat) => D.int (0 + (o : Int))) = fun (o : Nat) => some (dI (row ++ [(o : Int)])) := by
      funext o; simp
    rw [this]
    induction List.range v with
    | nil => rfl
    | cons a l ih => simp [ih]
  rw [hl] at key
  have hi : evI F (.rng (.var 0)) [some (.int v), a, b, c, some (.ref id), some (dI row), none] S = .ok (rngOf 0 v) S := by
    simp only [evI, evE, mbind_ap, varM, List.getElem?_cons_zero, bind_ok, chk_pos hb, mret_ap, Int.toNat_natCast]
  rw [ev_lc hi key, newL_fz (by simp [line_val]; omega)]
end Pu

namespace Pu
open PySem PySem.Spec PyProof.Rows L2
/-! ## data without the store's objects -/
mutual
def fit : D → Bool
  | .ref _ => false
  | .tup xs => decide (xs.length ≤ line) && fits xs
  | .fz xs => fits xs
  | .fr xs => fits xs
  | _ => true
def fits : List D → Bool
  | [] => true
  | d :: ds => fit d && fits ds
end
theorem fits_all : ∀ {xs : List D}, fits xs = true ↔ ∀ d ∈ xs, fit d = true
  | [] => by simp [fits]
  | d :: ds => by simp [fits, fits_all (xs := ds)]
theorem fit_tup {xs : List D} : fit (.tup xs) = true ↔ xs.length ≤ line ∧ ∀ d ∈ xs, fit d = true := by simp [fit, fits_all]
theorem fit_ref {d : D} (h : fit d = true) : ∀ i, d ≠ .ref i := fun i e => by subst e; simp [fit] at h
theorem fit_int (i : Int) : fit (.int i) = true := by simp [fit]
theorem fit_dI {ns : List Int} (h : ns.length ≤ line) : fit (dI ns) = true := by
  unfold dI
  rw [fit_tup]
  refine ⟨by simpa using h, fun d hd => ?_⟩
  obtain ⟨n, _, rfl⟩ := List.mem_map.mp hd
  exact fit_int n
/-! ## whole comprehensions -/
theorem lc_map {F : Nat → List D → M D} {elt : X'} {tg : Tg} {it : I'} {ws : List Nat} {ρ : Env'} {S S1 : Sto} {src : Src} {xs : List D} (g : D → D) (hi : evI F it ρ S = .ok src S1) (hsrc : ∀ i, src.nxt i S1 = some xs[i]?) (hn : xs.length ≤ src.n) (hl : xs.length ≤ line)
    (hstep : ∀ d ∈ xs, ∃ ρ', tgSet tg d (wipeE ρ ws) = some ρ' ∧ evE F elt ρ' S1 = .ok (g d) S1) : evE F (.lc false elt tg it [] ws) ρ S = .ok (.fz (xs.map g)) S1 := by
  have key := lc_pure (elt := evE F elt) (ifs := evTs F []) (tg := tg) (ρ := wipeE ρ ws) (items := xs) (src := src) (S := S1) (fun d => some (g d)) hl hsrc hn (fun d hd => by
    obtain ⟨ρ', h1, h2⟩ := hstep d hd
    simp [stepM, h1, evTs, mret_ap, bind_ok, mbind_ap, h2])
  rw [ev_lc hi key, newL_fz (by simpa using hl)]
  simp
theorem asBools_map {α : Type} (p : α → Bool) (xs : List α) : asBools (xs.map fun d => .bl (p d)) = some (xs.map p) := by
  induction xs with
  | nil => rfl
  | cons a l ih => simp [asBools, ih]
theorem all_map {α : Type} (p : α → Bool) (xs : List α) (S : Sto) : allM [.fz (xs.map fun d => .bl (p d))] S = .ok (.bl (xs.all p)) S := by
  simp only [allM, lstOf, Option.bind_some, asBools_map]
  congr 1
  simp
theorem asInts_map (ns : List Int) : asInts (ns.map D.int) = some ns := by
  induction ns with
  | nil => rfl
  | cons a l ih => simp [asInts, ih]
/-! ## the checks -/
def isInt (d : D) (lo hi : Int) : Bool := match d with | .int i => decide (lo ≤ i) && decide (i ≤ hi) | _ => false
theorem isInt_int {d : D} {lo hi : Int} (h : isInt d lo hi = true) : ∃ i, d = .int i ∧ lo ≤ i ∧ i ≤ hi := by
  cases d <;> simp [isInt] at h
  exact ⟨_, rfl, h.1, h.2⟩
def fInt : Fn' := ⟨3, [(.ife (.or (.val (.isi (.var 0) .bool)) (.not (.val (.isi (.var 0) .int)))) [(.ret (.cst (.bl false)))] []), (.ret (.chn .LtE .LtE (.var 1) (.var 0) (.var 2)))]⟩
theorem run_int (F) (d : D) (lo hi : Int) (S : Sto) (h : ∀ i, d ≠ .ref i) : runB F fInt [d, .int lo, .int hi] S = .ok (.bl (isInt d lo hi)) S := by
  cases d <;> simp [runB, fInt, envOf, evSs, evS, evE, evT, mbind_ap, mret_ap, bind_ok, varM, isK, truM, cmpM, blM, isInt] at h ⊢
  split <;> simp_all [mret_ap, evE, cmpM, bind_ok, mbind_ap, varM] <;> omega
def IsInt (F : Nat → List D → M D) (i : Nat) : Prop := ∀ (d : D) (lo hi : Int) (S : Sto), fit d = true → F i [d, .int lo, .int hi] S = .ok (.bl (isInt d lo hi)) S
theorem isInt_of {fs : List Fn'} {i k : Nat} (h : fs[i]? = some fInt) : IsInt (runF fs (k + 1)) i := fun d lo hi S hd => by
  simp only [runF, h]
  exact run_int _ d lo hi S (fit_ref hd)
def tupB (d : D) (lo hi : Int) : Bool := match d with | .tup xs => decide (lo ≤ xs.length) && decide ((xs.length : Int) ≤ hi) | _ => false
def fTup : Fn' := ⟨3, [(.ret (.and (.isi (.var 0) .tuple) (.chn .LtE .LtE (.var 1) (.blt .len [(.var 0)]) (.var 2))))]⟩
theorem run_tup (F) (d : D) (lo hi : Int) (S : Sto) (h : ∀ i, d ≠ .ref i) : runB F fTup [d, .int lo, .int hi] S = .ok (.bl (tupB d lo hi)) S := by
  cases d <;> simp [runB, fTup, envOf, evSs, evS, evE, evEs, evT, mbind_ap, mret_ap, bind_ok, varM, isK, truM, cmpM, blM, tupB, bltM, lenM, seqOf] at h ⊢
  split
  · simp_all [mret_ap, evE, cmpM, bind_ok, mbind_ap, varM]
  · simp_all [mret_ap, evE, cmpM, bind_ok, mbind_ap, varM]
    try omega
def IsTup (F : Nat → List D → M D) (i : Nat) : Prop := ∀ (d : D) (lo hi : Int) (S : Sto), fit d = true → F i [d, .int lo, .int hi] S = .ok (.bl (tupB d lo hi)) S
theorem isTup_of {fs : List Fn'} {i k : Nat} (h : fs[i]? = some fTup) : IsTup (runF fs (k + 1)) i := fun d lo hi S hd => by
  simp only [runF, h]
  exact run_tup _ d lo hi S (fit_ref hd)
/-! ## ascending -/
def ascB {α : Type} (lt : α → α → Bool) (l : List α) : Bool := (List.zipWith lt l (l.drop 1)).all id
theorem ascB_nil {α : Type} (lt : α → α → Bool) : ascB lt [] = true := rfl
theorem ascB_one {α : Type} (lt : α → α → Bool) (a : α) : ascB lt [a] = true := rfl
theorem ascB_cons {α : Type} (lt : α → α → Bool) (a b : α) (l : List α) : ascB lt (a :: b :: l) = (lt a b && ascB lt (b :: l)) := by simp [ascB]
theorem ascB_of {α : Type} {lt : α → α → Bool} : ∀ {l : List α}, l.Pairwise (fun a b => lt a b = true) → ascB lt l = true
  | [], _ => rfl
  | [_], _ => rfl
  | a :: b :: l, h => by
    rw [ascB_cons]
    rw [List.pairwise_cons] at h
    rw [h.1 b (by simp), ascB_of h.2]; rfl
theorem zw {α β γ : Type} (f : α → β → γ) (as : List α) (bs : List β) : List.zipWith f as bs = (as.zip bs).map fun p => f p.1 p.2 := by simp [List.zip, List.map_zipWith]
theorem run_ret {F : Nat → List D → M D} {n : Nat} {e : X'} {ds : List D} {S S' : Sto} {d : D} (h : evE F e (envOf n ds) S = .ok d S') : runB F ⟨n, [.ret e]⟩ ds S = .ok d S' := by
  simp [runB, evSs, evS, mbind_ap, h, bind_ok, mret_ap]
theorem ev_blt1 {F : Nat → List D → M D} {b : Bi} {e : X'} {ρ : Env'} {S S1 : Sto} {x : D} (h : evE F e ρ S = .ok x S1) : evE F (.blt b [e]) ρ S = bltM b [x] S1 := by
  simp [evE, evEs, mbind_ap, h, bind_ok, mret_ap]
theorem ascB_app {α : Type} {lt : α → α → Bool} : ∀ (p : List α) {a b : α} {q : List α}, lt a b = false → ascB lt (p ++ a :: b :: q) = false
  | [], a, b, q, h => by simp [ascB_cons, h]
  | [x], a, b, q, h => by simp [ascB_cons, h]
  | x :: y :: p, a, b, q, h => by
    have := ascB_app (y :: p) (q := q) h
    simp only [List.cons_append] at this ⊢
    rw [ascB_cons, this, Bool.and_false]
theorem cut_from1 (xs : List D) : cutD xs (some 1) none = xs.drop 1 := by
  cases xs with
  | nil => simp [cutD]
  | cons a l =>
    have h : HT.sIx (a :: l).length 0 (some 1) = 1 := by simp [HT.sIx]
    have h2 : HT.sIx (a :: l).length (a :: l).length none = (a :: l).length := by simp [HT.sIx]
    unfold cutD
    rw [h, h2]
    simp
def fAsc : Fn' := ⟨3, [(.ret (.blt .all [(.lc false (.cmp .Lt (.var 1) (.var 2)) (.tp [(.nm 1), (.nm 2)]) (.zip (.var 0) (.slc false (.var 0) (.ex (.cst (.int 1))) .no)) [] [1, 2])]))]⟩
theorem zip_nxt (xs ys : List D) (i : Nat) : pairD xs[i]? ys[i]? = (List.zipWith (fun a b => D.tup [a, b]) xs ys)[i]? := by
  rw [List.getElem?_zipWith]
  cases xs[i]? <;> cases ys[i]? <;> rfl
theorem run_asc {α : Type} (F : Nat → List D → M D) (e : α → D) (lt : α → α → Bool) (hlt : ∀ a b S, ltM (e a) (e b) S = .ok (.bl (lt a b)) S) (as : List α) (hl : as.length ≤ line) (S : Sto) (d : D) (hd : d = .tup (as.map e) ∨ d = .fz (as.map e)) :
    runB F fAsc [d] S = .ok (.bl (ascB lt as)) S := by
  have main : evE F (.lc false (.cmp .Lt (.var 1) (.var 2)) (.tp [(.nm 1), (.nm 2)]) (.zip (.var 0) (.slc false (.var 0) (.ex (.cst (.int 1))) .no)) [] [1, 2]) [some d, none, none] S = .ok (.fz ((List.zipWith (fun a b => lt a b) as (as.drop 1)).map fun b => D.bl b)) S := by
    have hz : List.zipWith (fun a b => D.tup [a, b]) (as.map e) ((as.map e).drop 1) = (as.zip (as.drop 1)).map fun p => D.tup [e p.1, e p.2] := by
      rw [← List.map_drop, List.zipWith_map, zw]
    have hi : ∃ src, evI F (.zip (.var 0) (.slc false (.var 0) (.ex (.cst (.int 1))) .no)) [some d, none, none] S = .ok src S ∧ (∀ i, src.nxt i S = some (List.zipWith (fun a b => D.tup [a, b]) (as.map e) ((as.map e).drop 1))[i]?) ∧ as.length = src.n := by
      have hl2 : (cutD (as.map e) (some 1) none).length ≤ line := by rw [cut_from1]; simp; omega
      rcases hd with rfl | rfl
      · refine ⟨⟨(as.map e).length, fun i _ => some (pairD (as.map e)[i]? ((as.map e).drop 1)[i]?)⟩, ?_, fun i => by simp only [zip_nxt], by simp⟩
        simp [evI, evE, evP, mbind_ap, mret_ap, bind_ok, varM, slcP, cut_from1, zipOf, intO]
      · refine ⟨⟨(as.map e).length, fun i S' => match lstOf (.fz (as.map e)) S', lstOf (.fz ((as.map e).drop 1)) S' with | some us, some vs => some (pairD us[i]? vs[i]?) | _, _ => none⟩, ?_, fun i => by simp only [lstOf, zip_nxt], by simp⟩
        simp only [evI, evE, evP, mbind_ap, mret_ap, bind_ok, varM, slcP, lstOf, List.getElem?_cons_zero, intO]
        rw [newL_fz hl2, cut_from1]
        rfl
    obtain ⟨src, h1, h2, h3⟩ := hi
    have key := lc_map (F := F) (elt := .cmp .Lt (.var 1) (.var 2)) (tg := .tp [(.nm 1), (.nm 2)]) (ws := [1, 2]) (ρ := [some d, none, none]) (fun q => match q with | .tup [a, b] => (match ltM a b S with | .ok x _ => x | _ => .non) | _ => .non) h1 h2 (by rw [← h3, hz]; simp) (by rw [hz]; simp; omega) (by
      rw [hz]
      intro q hq
      obtain ⟨p, _, rfl⟩ := List.mem_map.mp hq
      refine ⟨_, rfl, ?_⟩
      simp [evE, mbind_ap, varM, wipeE, bind_ok, cmpM, hlt])
    rw [key, hz, List.map_map]
    congr 2
    rw [zw, List.map_map]
    congr 1
    funext p
    simp [hlt]
  refine run_ret ?_
  rw [ev_blt1 (show evE F _ (envOf 3 [d]) S = _ from main)]
  exact all_map id _ S
def IsAsc (F : Nat → List D → M D) (i : Nat) : Prop := (∀ (ns : List Int) (S : Sto), ns.length ≤ line → F i [dI ns] S = .ok (.bl (ascB (fun a b => decide (a < b)) ns)) S) ∧ (∀ (rows : List (List Int)) (S : Sto), rows.length ≤ line → F i [.fz (rows.map dI)] S = .ok (.bl (ascB HT.lexLt rows)) S)
theorem isAsc_of {fs : List Fn'} {i k : Nat} (h : fs[i]? = some fAsc) : IsAsc (runF fs (k + 1)) i := by
  refine ⟨fun ns S hn => ?_, fun rows S hn => ?_⟩
  · simp only [runF, h]
    exact run_asc _ D.int _ (fun a b S => rfl) ns hn S _ (.inl rfl)
  · simp only [runF, h]
    refine run_asc _ dI HT.lexLt (fun a b S => ?_) rows hn S _ (.inr rfl)
    simp only [ltM, dI, asInts_map]
end Pu

namespace Pu
open PySem PySem.Spec PyProof.Rows L2
/-! ## variables, rows, tables, messages -/
def ltI (a b : Int) : Bool := decide (a < b)
def someB (d : D) : Bool := match d with | .tup xs => xs.all (isInt · 0 5) && ascB ltI ((asInts xs).getD []) | _ => false
def scopeB (d : D) : Bool := someB d && (match d with | .tup xs => decide (xs.length ≤ 3) | _ => false)
def rowB (v n : Nat) (d : D) : Bool := match d with | .tup xs => decide (xs.length = n) && xs.all (isInt · 0 ((v : Int) - 1)) | _ => false
def fst0 (d : D) : List Int := match d with | .tup (.tup r :: _) => (asInts r).getD [] | _ => []
def pricedB (v n : Nat) (d : D) : Bool := match d with | .tup [r, c] => rowB v n r && isInt c 0 100 | _ => false
def toldB (v n : Nat) (d : D) : Bool := match d with | .tup [r, c, l] => rowB v n r && (isInt c 1 1000000 && isInt l 0 10000) | _ => false
def tableB (v n : Nat) (d : D) : Bool := match d with | .tup xs => xs.all (pricedB v n) && ascB HT.lexLt (xs.map fst0) | _ => false
def messB (v n : Nat) (d : D) : Bool := match d with | .tup xs => xs.all (toldB v n) && ascB HT.lexLt (xs.map fst0) | _ => false
theorem ints_of : ∀ {xs : List D} {lo hi : Int}, (xs.all (isInt · lo hi)) = true → ∃ ns : List Int, xs = ns.map D.int ∧ ns.length = xs.length ∧ ∀ n ∈ ns, lo ≤ n ∧ n ≤ hi
  | [], _, _, _ => ⟨[], rfl, rfl, by simp⟩
  | d :: ds, lo, hi, h => by
    simp only [List.all_cons, Bool.and_eq_true] at h
    obtain ⟨i, rfl, h1, h2⟩ := isInt_int h.1
    obtain ⟨ns, rfl, h3, h4⟩ := ints_of h.2
    exact ⟨i :: ns, rfl, by simp, by simpa using ⟨⟨h1, h2⟩, fun n hn => h4 n hn⟩⟩
theorem ints_all {ns : List Int} {lo hi : Int} (h : ∀ n ∈ ns, lo ≤ n ∧ n ≤ hi) : ((ns.map D.int).all (isInt · lo hi)) = true := by
  rw [List.all_map, List.all_eq_true]
  intro n hn
  simp [isInt, h n hn]
theorem rowB_dI {v n : Nat} {d : D} (h : rowB v n d = true) : ∃ ns : List Int, d = dI ns ∧ ns.length = n ∧ ∀ x ∈ ns, 0 ≤ x ∧ x ≤ (v : Int) - 1 := by
  cases d <;> simp only [rowB, Bool.and_eq_true, Bool.false_eq_true] at h
  obtain ⟨ns, rfl, h1, h2⟩ := ints_of h.2
  exact ⟨ns, rfl, by rw [h1]; exact of_decide_eq_true h.1, h2⟩
theorem rowB_of {v n : Nat} {ns : List Int} (h1 : ns.length = n) (h2 : ∀ x ∈ ns, 0 ≤ x ∧ x < v) : rowB v n (dI ns) = true := by
  simp only [rowB, dI, Bool.and_eq_true]
  exact ⟨by simp [h1], ints_all fun x hx => ⟨(h2 x hx).1, by have := (h2 x hx).2; omega⟩⟩
section
variable {F : Nat → List D → M D}
theorem ev_and {a b : X'} {ρ : Env'} {S : Sto} {t u : Bool} (h : evE F a ρ S = .ok (.bl t) S) (h2 : t = true → evE F b ρ S = .ok (.bl u) S) : evE F (.and a b) ρ S = .ok (.bl (t && u)) S := by
  cases t with
  | false => simp [evE, mbind_ap, h, bind_ok, blM, mret_ap]
  | true => simp [evE, mbind_ap, h, bind_ok, blM, mret_ap, h2 rfl]
theorem run_guard {n i : Nat} {e : X'} {ds : List D} {d r : D} {S : Sto} (hd : (envOf n ds)[i]? = some (some d)) (hf : ∀ j, d ≠ .ref j) (hn : (∀ xs, d ≠ .tup xs) → r = .bl false) (h : ∀ xs, d = .tup xs → evE F e (envOf n ds) S = .ok r S) :
    runB F ⟨n, [(.ife (.not (.val (.isi (.var i) .tuple))) [(.ret (.cst (.bl false)))] []), (.ret e)]⟩ ds S = .ok r S := by
  cases d with
  | ref j => exact absurd rfl (hf j)
  | tup xs => simp [runB, evSs, evS, evT, evE, varM, hd, isK, truM, mbind_ap, mret_ap, bind_ok, h xs rfl]
  | _ => rw [hn (by simp)]; simp [runB, evSs, evS, evT, evE, varM, hd, isK, truM, mbind_ap, mret_ap, bind_ok]
/-- all([f(..., item) for item in value]) -/
theorem ev_allIn {i j : Nat} {elt : X'} {ρ : Env'} {S : Sto} {xs : List D} (p : D → Bool) (hv : ρ[i]? = some (some (.tup xs))) (hl : xs.length ≤ line) (hstep : ∀ d ∈ xs, evE F elt ((wipeE ρ [j]).set j (some d)) S = .ok (.bl (p d)) S) :
    evE F (.blt .all [(.lc false elt (.nm j) (.seq (.var i)) [] [j])]) ρ S = .ok (.bl (xs.all p)) S := by
  have h : evE F (.lc false elt (.nm j) (.seq (.var i)) [] [j]) ρ S = .ok (.fz (xs.map fun d => .bl (p d))) S := by
    refine lc_map (fun d => .bl (p d)) (src := ⟨xs.length, fun i _ => some xs[i]?⟩) (xs := xs) ?_ (fun i => rfl) (Nat.le_refl _) hl (fun d hd => ⟨_, rfl, hstep d hd⟩)
    simp [evI, evE, varM, hv, mbind_ap, bind_ok, srcOf]
  rw [ev_blt1 h]
  exact all_map p xs S
def fSome (iInt iAsc : Nat) : Fn' := ⟨2, [(.ife (.not (.val (.isi (.var 0) .tuple))) [(.ret (.cst (.bl false)))] []), (.ret (.and (.blt .all [(.lc false (.call iInt [(.var 1), (.cst (.int 0)), (.cst (.int 5))]) (.nm 1) (.seq (.var 0)) [] [1])]) (.call iAsc [(.var 0)])))]⟩
def IsSome (F : Nat → List D → M D) (i : Nat) : Prop := ∀ (d : D) (S : Sto), fit d = true → F i [d] S = .ok (.bl (someB d)) S
theorem isSome_of {fs : List Fn'} {i iInt iAsc k : Nat} (h : fs[i]? = some (fSome iInt iAsc)) (h1 : IsInt (runF fs k) iInt) (h2 : IsAsc (runF fs k) iAsc) : IsSome (runF fs (k + 1)) i := fun d S hd => by
  simp only [runF, h]
  refine run_guard (n := 2) (ds := [d]) (d := d) (r := .bl (someB d)) (i := 0) rfl (fit_ref hd) (fun q => by cases d <;> first | rfl | exact absurd rfl (q _)) ?_
  rintro xs rfl
  obtain ⟨hl, hx⟩ := fit_tup.mp hd
  simp only [someB]
  refine ev_and (ev_allIn (fun d => isInt d 0 5) rfl hl (fun d hd => ?_)) (fun t => ?_)
  · simp [evE, evEs, mbind_ap, mret_ap, bind_ok, varM, wipeE, envOf, h1 d 0 5 S (hx d hd)]
  · obtain ⟨ns, rfl, h3, h4⟩ := ints_of t
    have := h2.1 ns S (by simpa using hl)
    simp [evE, evEs, mbind_ap, mret_ap, bind_ok, varM, envOf, asInts_map]
    exact this
def fScope (iSome : Nat) : Fn' := ⟨1, [(.ret (.and (.call iSome [(.var 0)]) (.cmp .LtE (.blt .len [(.var 0)]) (.cst (.int 3)))))]⟩
def IsScope (F : Nat → List D → M D) (i : Nat) : Prop := ∀ (d : D) (S : Sto), fit d = true → F i [d] S = .ok (.bl (scopeB d)) S
theorem isScope_of {fs : List Fn'} {i iSome k : Nat} (h : fs[i]? = some (fScope iSome)) (h1 : IsSome (runF fs k) iSome) : IsScope (runF fs (k + 1)) i := fun d S hd => by
  simp only [runF, h]
  refine run_ret (ev_and ?_ (fun t => ?_))
  · simp [evE, evEs, mbind_ap, mret_ap, bind_ok, varM, envOf, h1 d S hd]
  · cases d <;> simp only [someB, Bool.false_eq_true] at t
    simp [evE, evEs, mbind_ap, mret_ap, bind_ok, varM, envOf, bltM, lenM, seqOf, cmpM]
    omega
def fRow (iTup iInt : Nat) : Fn' := ⟨4, [(.ret (.and (.call iTup [(.var 2), (.blt .len [(.var 1)]), (.blt .len [(.var 1)])]) (.blt .all [(.lc false (.call iInt [(.var 3), (.cst (.int 0)), (.bin .Sub (.var 0) (.cst (.int 1)))]) (.nm 3) (.seq (.var 2)) [] [3])])))]⟩
def IsRow (F : Nat → List D → M D) (i : Nat) : Prop := ∀ (v : Nat) (ss : List D) (d : D) (S : Sto), fit d = true → F i [.int v, .tup ss, d] S = .ok (.bl (rowB v ss.length d)) S
theorem isRow_of {fs : List Fn'} {i iTup iInt k : Nat} (h : fs[i]? = some (fRow iTup iInt)) (h1 : IsTup (runF fs k) iTup) (h2 : IsInt (runF fs k) iInt) : IsRow (runF fs (k + 1)) i := fun v ss d S hd => by
  simp only [runF, h]
  have e : rowB v ss.length d = (tupB d ss.length ss.length && (match d with | .tup xs => xs.all (isInt · 0 ((v : Int) - 1)) | _ => false)) := by
    cases d <;> simp only [rowB, tupB, Bool.false_and]
    congr 1
    rw [Bool.eq_iff_iff]; simp; omega
  rw [e]
  refine run_ret (ev_and ?_ (fun t => ?_))
  · simp [evE, evEs, mbind_ap, mret_ap, bind_ok, varM, envOf, bltM, lenM, seqOf, h1 d _ _ S hd]
  · cases d <;> simp only [tupB, Bool.false_eq_true] at t
    obtain ⟨hl, hx⟩ := fit_tup.mp hd
    refine ev_allIn (fun d => isInt d 0 ((v : Int) - 1)) rfl hl (fun d hd => ?_)
    simp [evE, evEs, mbind_ap, mret_ap, bind_ok, varM, wipeE, envOf, binM, h2 d _ _ S (hx d hd)]
def fAscR (iAsc : Nat) : Fn' := ⟨2, [(.ret (.call iAsc [(.lc false (.idx (.var 1) (.cst (.int 0))) (.nm 1) (.seq (.var 0)) [] [1])]))]⟩
/-- items that begin with rows -/
def Rowed (xs : List D) : Prop := ∀ d ∈ xs, ∃ ns r, d = .tup (dI ns :: r)
def IsAscR (F : Nat → List D → M D) (i : Nat) : Prop := ∀ (xs : List D) (S : Sto), xs.length ≤ line → Rowed xs → F i [.tup xs] S = .ok (.bl (ascB HT.lexLt (xs.map fst0))) S
theorem isAscR_of {fs : List Fn'} {i iAsc k : Nat} (h : fs[i]? = some (fAscR iAsc)) (h1 : IsAsc (runF fs k) iAsc) : IsAscR (runF fs (k + 1)) i := fun xs S hl hx => by
  simp only [runF, h]
  refine run_ret ?_
  have h2 : evE (runF fs k) (.lc false (.idx (.var 1) (.cst (.int 0))) (.nm 1) (.seq (.var 0)) [] [1]) (envOf 2 [.tup xs]) S = .ok (.fz (xs.map fun d => dI (fst0 d))) S := by
    refine lc_map (fun d => dI (fst0 d)) (src := ⟨xs.length, fun i _ => some xs[i]?⟩) (xs := xs) ?_ (fun i => rfl) (Nat.le_refl _) hl (fun d hd => ⟨_, rfl, ?_⟩)
    · simp [evI, evE, varM, mbind_ap, bind_ok, srcOf, envOf]
    · obtain ⟨ns, r, rfl⟩ := hx d hd
      simp [evE, mbind_ap, varM, bind_ok, mret_ap, envOf, wipeE, idxM, seqOf, atI_0, fst0, dI, asInts_map]
  have h3 := h1.2 (xs.map fst0) S (by simpa using hl)
  rw [List.map_map] at h3
  show mbind (evEs (runF fs k) [_] (envOf 2 [.tup xs])) _ S = _
  simp only [evEs, mbind_ap, h2, bind_ok, mret_ap]
  exact h3
theorem tup2B {d : D} : tupB d 2 2 = true → ∃ r c, d = .tup [r, c] := fun h => by
  cases d <;> simp only [tupB, Bool.false_eq_true, Bool.and_eq_true, decide_eq_true_eq] at h
  rename_i xs
  match xs, h with
  | [r, c], _ => exact ⟨r, c, rfl⟩
  | [], h => simp at h
  | [_], h => simp at h
  | _ :: _ :: _ :: _, h => simp at h; omega
theorem tup3B {d : D} : tupB d 3 3 = true → ∃ r c l, d = .tup [r, c, l] := fun h => by
  cases d <;> simp only [tupB, Bool.false_eq_true, Bool.and_eq_true, decide_eq_true_eq] at h
  rename_i xs
  match xs, h with
  | [r, c, l], _ => exact ⟨r, c, l, rfl⟩
  | [], h => simp at h
  | [_], h => simp at h
  | [_, _], h => simp at h
  | _ :: _ :: _ :: _ :: _, h => simp at h; omega
def fPriced (iTup iRow iInt : Nat) : Fn' := ⟨3, [(.ret (.and (.call iTup [(.var 2), (.cst (.int 2)), (.cst (.int 2))]) (.and (.call iRow [(.var 0), (.var 1), (.idx (.var 2) (.cst (.int 0)))]) (.call iInt [(.idx (.var 2) (.cst (.int 1))), (.cst (.int 0)), (.cst (.int 100))]))))]⟩
def IsPriced (F : Nat → List D → M D) (i : Nat) : Prop := ∀ (v : Nat) (ss : List D) (d : D) (S : Sto), fit d = true → F i [.int v, .tup ss, d] S = .ok (.bl (pricedB v ss.length d)) S
theorem isPriced_of {fs : List Fn'} {i iTup iRow iInt k : Nat} (h : fs[i]? = some (fPriced iTup iRow iInt)) (h1 : IsTup (runF fs k) iTup) (h2 : IsRow (runF fs k) iRow) (h3 : IsInt (runF fs k) iInt) : IsPriced (runF fs (k + 1)) i := fun v ss d S hd => by
  simp only [runF, h]
  have e : pricedB v ss.length d = (tupB d 2 2 && pricedB v ss.length d) := by
    cases hb : tupB d 2 2 with
    | true => simp
    | false =>
      unfold pricedB
      split
      · simp [tupB] at hb
      · rfl
  rw [e]
  refine run_ret (ev_and ?_ (fun t => ?_))
  · simp [evE, evEs, mbind_ap, mret_ap, bind_ok, varM, envOf, h1 d _ _ S hd]
  · obtain ⟨r, c, rfl⟩ := tup2B t
    have hx := (fit_tup.mp hd).2
    refine ev_and ?_ (fun _ => ?_)
    · simp [evE, evEs, mbind_ap, mret_ap, bind_ok, varM, envOf, idxM, seqOf, atI_0, h2 v ss r S (hx r (by simp))]
    · simp [evE, evEs, mbind_ap, mret_ap, bind_ok, varM, envOf, idxM, seqOf, atI_1, h3 c _ _ S (hx c (by simp))]
def fTold (iTup iRow iInt : Nat) : Fn' := ⟨6, [(.ife (.not (.val (.call iTup [(.var 2), (.cst (.int 3)), (.cst (.int 3))]))) [(.ret (.cst (.bl false)))] []), (.asg (.tp [(.nm 3), (.nm 4), (.nm 5)]) (.var 2)), (.ret (.and (.call iRow [(.var 0), (.var 1), (.var 3)]) (.and (.call iInt [(.var 4), (.cst (.int 1)), (.cst (.int 1000000))]) (.call iInt [(.var 5), (.cst (.int 0)), (.cst (.int 10000))]))))]⟩
def IsTold (F : Nat → List D → M D) (i : Nat) : Prop := ∀ (v : Nat) (ss : List D) (d : D) (S : Sto), fit d = true → F i [.int v, .tup ss, d] S = .ok (.bl (toldB v ss.length d)) S
theorem isTold_of {fs : List Fn'} {i iTup iRow iInt k : Nat} (h : fs[i]? = some (fTold iTup iRow iInt)) (h1 : IsTup (runF fs k) iTup) (h2 : IsRow (runF fs k) iRow) (h3 : IsInt (runF fs k) iInt) : IsTold (runF fs (k + 1)) i := fun v ss d S hd => by
  simp only [runF, h]
  cases hb : tupB d 3 3 with
  | false =>
    have e : toldB v ss.length d = false := by
      unfold toldB
      split
      · simp [tupB] at hb
      · rfl
    simp [runB, fTold, evSs, evS, evT, evE, evEs, mbind_ap, mret_ap, bind_ok, varM, envOf, h1 d _ _ S hd, hb, truM, e]
  | true =>
    obtain ⟨r, c, l, rfl⟩ := tup3B hb
    have hx := (fit_tup.mp hd).2
    have h4 : evE (runF fs k) (.and (.call iRow [(.var 0), (.var 1), (.var 3)]) (.and (.call iInt [(.var 4), (.cst (.int 1)), (.cst (.int 1000000))]) (.call iInt [(.var 5), (.cst (.int 0)), (.cst (.int 10000))]))) [some (.int v), some (.tup ss), some (.tup [r, c, l]), some r, some c, some l] S = .ok (.bl (toldB v ss.length (.tup [r, c, l]))) S := by
      refine ev_and ?_ (fun _ => ev_and ?_ (fun _ => ?_))
      · simp [evE, evEs, mbind_ap, mret_ap, bind_ok, varM, h2 v ss r S (hx r (by simp))]
      · simp [evE, evEs, mbind_ap, mret_ap, bind_ok, varM, h3 c _ _ S (hx c (by simp))]
      · simp [evE, evEs, mbind_ap, mret_ap, bind_ok, varM, h3 l _ _ S (hx l (by simp))]
    have h5 : evE (runF fs k) (.call iTup [(.var 2), (.cst (.int 3)), (.cst (.int 3))]) (envOf 6 [.int v, .tup ss, .tup [r, c, l]]) S = .ok (.bl true) S := by
      simp [evE, evEs, mbind_ap, mret_ap, bind_ok, varM, envOf, h1 _ _ _ S hd, hb]
    simp only [runB, fTold, evSs, evS, evT, mbind_ap, h5, bind_ok, truM, mret_ap, Bool.not_true, Bool.false_eq_true, if_false]
    have h6 : evE (runF fs k) (.var 2) (envOf 6 [.int v, .tup ss, .tup [r, c, l]]) S = .ok (.tup [r, c, l]) S := by simp [evE, varM, envOf]
    rw [h6]
    simp only [bind_ok, tgSet, tgSets, Option.bind_some, envOf, mret_ap]
    show R.bind (R.bind (R.bind (evE (runF fs k) _ [some (.int v), some (.tup ss), some (.tup [r, c, l]), some r, some c, some l] S) _) _) _ = _
    rw [h4]
    rfl
def fTable (iItem iAscR : Nat) : Fn' := ⟨4, [(.ife (.not (.val (.isi (.var 2) .tuple))) [(.ret (.cst (.bl false)))] []), (.ret (.and (.blt .all [(.lc false (.call iItem [(.var 0), (.var 1), (.var 3)]) (.nm 3) (.seq (.var 2)) [] [3])]) (.call iAscR [(.var 2)])))]⟩
theorem fst_row {v n : Nat} {d : D} (h : pricedB v n d = true ∨ toldB v n d = true) : ∃ ns r, d = .tup (dI ns :: r) := by
  rcases h with h | h
  · unfold pricedB at h
    split at h
    · simp only [Bool.and_eq_true] at h
      obtain ⟨ns, rfl, _⟩ := rowB_dI h.1
      exact ⟨ns, _, rfl⟩
    · cases h
  · unfold toldB at h
    split at h
    · simp only [Bool.and_eq_true] at h
      obtain ⟨ns, rfl, _⟩ := rowB_dI h.1
      exact ⟨ns, _, rfl⟩
    · cases h
def IsTable (F : Nat → List D → M D) (i : Nat) : Prop := ∀ (v : Nat) (ss : List D) (d : D) (S : Sto), fit d = true → F i [.int v, .tup ss, d] S = .ok (.bl (tableB v ss.length d)) S
theorem isTable_of {fs : List Fn'} {i iItem iAscR k : Nat} (h : fs[i]? = some (fTable iItem iAscR)) (h1 : IsPriced (runF fs k) iItem) (h2 : IsAscR (runF fs k) iAscR) : IsTable (runF fs (k + 1)) i := fun v ss d S hd => by
  simp only [runF, h]
  refine run_guard (n := 4) (ds := [.int v, .tup ss, d]) (d := d) (r := .bl (tableB v ss.length d)) (i := 2) rfl (fit_ref hd) (fun q => by cases d <;> first | rfl | exact absurd rfl (q _)) ?_
  rintro xs rfl
  obtain ⟨hl, hx⟩ := fit_tup.mp hd
  simp only [tableB]
  refine ev_and (ev_allIn (pricedB v ss.length) rfl hl (fun d hd => ?_)) (fun t => ?_)
  · simp [evE, evEs, mbind_ap, mret_ap, bind_ok, varM, wipeE, envOf, h1 v ss d S (hx d hd)]
  · have := h2 xs S hl (fun d hd => fst_row (.inl (List.all_eq_true.mp t d hd)))
    simp [evE, evEs, mbind_ap, mret_ap, bind_ok, varM, envOf, this]
def IsMess (F : Nat → List D → M D) (i : Nat) : Prop := ∀ (v : Nat) (ss : List D) (d : D) (S : Sto), fit d = true → F i [.int v, .tup ss, d] S = .ok (.bl (messB v ss.length d)) S
theorem isMess_of {fs : List Fn'} {i iItem iAscR k : Nat} (h : fs[i]? = some (fTable iItem iAscR)) (h1 : IsTold (runF fs k) iItem) (h2 : IsAscR (runF fs k) iAscR) : IsMess (runF fs (k + 1)) i := fun v ss d S hd => by
  simp only [runF, h]
  refine run_guard (n := 4) (ds := [.int v, .tup ss, d]) (d := d) (r := .bl (messB v ss.length d)) (i := 2) rfl (fit_ref hd) (fun q => by cases d <;> first | rfl | exact absurd rfl (q _)) ?_
  rintro xs rfl
  obtain ⟨hl, hx⟩ := fit_tup.mp hd
  simp only [messB]
  refine ev_and (ev_allIn (toldB v ss.length) rfl hl (fun d hd => ?_)) (fun t => ?_)
  · simp [evE, evEs, mbind_ap, mret_ap, bind_ok, varM, wipeE, envOf, h1 v ss d S (hx d hd)]
  · have := h2 xs S hl (fun d hd => fst_row (.inr (List.all_eq_true.mp t d hd)))
    simp [evE, evEs, mbind_ap, mret_ap, bind_ok, varM, envOf, this]
end
end Pu

namespace Pu
open PySem PySem.Spec PyProof.Rows L2
section
variable {F : Nat → List D → M D}
theorem evSs_cons {s : S'} {r : List S'} {ρ ρ' : Env'} {S S' : Sto} (h : evS F s ρ S = .ok (.nx ρ') S') : evSs F (s :: r) ρ S = evSs F r ρ' S' := by
  simp only [evSs, mbind_ap, h, bind_ok]
theorem evSs_nil {ρ : Env'} {S : Sto} : evSs F [] ρ S = .ok (.nx ρ) S := rfl
theorem evS_set {i : Nat} {e : X'} {ρ : Env'} {S S' : Sto} {x : D} (h : evE F e ρ S = .ok x S') : evS F (.set i e) ρ S = .ok (.nx (ρ.set i (some x))) S' := by
  simp only [evS, mbind_ap, h, bind_ok, mret_ap]
theorem evS_expr {e : X'} {ρ : Env'} {S S' : Sto} {x : D} (h : evE F e ρ S = .ok x S') : evS F (.expr e) ρ S = .ok (.nx ρ) S' := by
  simp only [evS, mbind_ap, h, bind_ok, mret_ap]
theorem evSs_ret {e : X'} {r : List S'} {ρ : Env'} {S S' : Sto} {x : D} (h : evE F e ρ S = .ok x S') : evSs F (.ret e :: r) ρ S = .ok (.rt x) S' := by
  simp only [evSs, evS, mbind_ap, h, bind_ok, mret_ap]
theorem evS_frr {t : Tg} {it : I'} {b : List S'} {ρ : Env'} {S S1 S2 : Sto} {src : Src} {fl : Fl} (h1 : evI F it ρ S = .ok src S1) (h2 : forLoop (evSs F b) t src src.n 0 ρ S1 = .ok fl S2) : evS F (.frr t it b) ρ S = .ok fl S2 := by
  simp only [evS, mbind_ap, h1, bind_ok, h2]
theorem runB_of {n : Nat} {b : List S'} {ds : List D} {S S' : Sto} {d : D} (h : evSs F b (envOf n ds) S = .ok (.rt d) S') : runB F ⟨n, b⟩ ds S = .ok d S' := by
  simp only [runB, mbind_ap, h, bind_ok, mret_ap]
theorem ev_var {i : Nat} {ρ : Env'} {S : Sto} {d : D} (h : ρ[i]? = some (some d)) : evE F (.var i) ρ S = .ok d S := by
  simp only [evE, varM, h]
theorem evI_rng {e : X'} {ρ : Env'} {S S' : Sto} {m : Nat} (h : evE F e ρ S = .ok (.int m) S') (hm : m < 1000000) : evI F (.rng e) ρ S = .ok (rngOf 0 m) S' := by
  have hb : (-4611686018427387904 : Int) ≤ (m : Int) ∧ (m : Int) < 4611686018427387904 := by omega
  simp only [evI, mbind_ap, h, bind_ok, chk_pos hb, mret_ap, Int.toNat_natCast]
theorem evI_seq {e : X'} {ρ : Env'} {S S' : Sto} {d : D} {src : Src} (h : evE F e ρ S = .ok d S') (hs : srcOf d S' = some src) : evI F (.seq e) ρ S = .ok src S' := by
  simp only [evI, mbind_ap, h, bind_ok, hs]
end
theorem get_last {α : Type} (S : List α) (a : α) : (S ++ [a])[S.length]? = some a := by simp
theorem set_last {α : Type} (S : List α) (a b : α) : (S ++ [a]).set S.length b = S ++ [b] := by simp
def longR (v : Nat) (row : List Int) : List (List Int) := (List.range v).map fun (o : Nat) => row ++ [(o : Int)]
theorem longR_len (v : Nat) (row : List Int) : (longR v row).length = v := by simp [longR]
theorem flat_len (v : Nat) (l : List (List Int)) : (l.flatMap (longR v)).length = l.length * v := by
  induction l with
  | nil => simp
  | cons a l ih => simp [List.flatMap_cons, ih, longR_len, Nat.add_mul]; omega
def IsRows (F : Nat → List D → M D) (i : Nat) : Prop := ∀ (v m : Nat) (S : Sto), v ≤ 3 → m ≤ 6 → ∃ d G, F i [.int v, .int m] S = .ok d (S ++ G) ∧ LstQ S.length d (S ++ G) ((rowsL v m).map dI)
theorem LstQ.app {n : Nat} {d : D} {S : Sto} {xs : List D} (h : LstQ n d S xs) (G : Sto) : LstQ n d (S ++ G) xs := by
  rcases h with rfl | ⟨id, rfl, h1, h⟩
  · exact .inl rfl
  · exact .inr ⟨id, rfl, h1, by rw [List.getElem?_append_left (List.getElem?_eq_some_iff.mp h).1]; exact h⟩
theorem LstQ.srcA {n : Nat} {d : D} {S : Sto} {xs : List D} (h : LstQ n d S xs) (G : Sto) : ∃ src, srcOf d (S ++ G) = some src ∧ src.n = xs.length ∧ ∀ i G', src.nxt i (S ++ G') = some xs[i]? := by
  rcases h with rfl | ⟨id, rfl, h1, h⟩
  · exact ⟨_, rfl, rfl, fun i G' => rfl⟩
  · have hl := (List.getElem?_eq_some_iff.mp h).1
    have hg : ∀ G' : Sto, (S ++ G')[id]? = some (.lst xs) := fun G' => by rw [List.getElem?_append_left hl]; exact h
    refine ⟨⟨xs.length, fun i S' => match S'[id]? with | some (.lst ys) => some ys[i]? | _ => none⟩, by simp only [srcOf, hg] <;> rfl, rfl, fun i G' => ?_⟩
    simp only [hg]
theorem rng_nxt (n i : Nat) (S : Sto) : (rngOf 0 n).nxt i S = some ((List.range n).map fun (o : Nat) => D.int (0 + (o : Int)))[i]? := by
  simp only [rngOf, List.getElem?_map]
  by_cases h : i < n
  · rw [if_pos h, List.getElem?_range h]; rfl
  · rw [if_neg h, List.getElem?_eq_none (by simp; omega)]; rfl
theorem run_rows_inner {F : Nat → List D → M D} {S : Sto} {v m i : Nat} {d : D} {a : Option D} {c : Option D} (hv : v ≤ 3) (hi : i < 6) (hd : LstQ 0 d S ((rowsL v i).map dI)) (id : Nat) (hid : id = S.length) :
    ∃ c', evS F (.frr (.nm 5) (.seq (.var 2)) [(.expr (.mth .extend (.var 4) [(.lc false (.cat false (.var 5) (.tup [(.var 6)])) (.nm 6) (.rng (.var 0)) [] [6])]))]) [some (.int v), some (.int m), some d, a, some (.ref id), c, none] (S ++ [.lst []])
      = .ok (.nx [some (.int v), some (.int m), some d, a, some (.ref id), c', none]) (S ++ [.lst ((rowsL v (i + 1)).map dI)]) := by
  subst hid
  obtain ⟨src, h1, h2, h3⟩ := hd.srcA [.lst []]
  have hlen : (rowsL v i).length ≤ 729 := by rw [rowsL_len]; exact pow_le_729 hv (by omega)
  have he : evI F (.seq (.var 2)) [some (.int v), some (.int m), some d, a, some (.ref S.length), c, none] (S ++ [.lst []]) = .ok src (S ++ [.lst []]) := by
    simp [evI, evE, varM, mbind_ap, bind_ok, h1]
  obtain ⟨ρ', S', hf, ⟨c', hρ, hS⟩⟩ := for_inv (body := evSs F [(.expr (.mth .extend (.var 4) [(.lc false (.cat false (.var 5) (.tup [(.var 6)])) (.nm 6) (.rng (.var 0)) [] [6])]))]) (tg := .nm 5) (items := (rowsL v i).map dI) (src := src)
    (fun j ρ S' => ∃ c, ρ = [some (.int v), some (.int m), some d, a, some (.ref S.length), c, none] ∧ S' = S ++ [.lst ((((rowsL v i).take j).flatMap (longR v)).map dI)])
    (fun j ρ S' h => by obtain ⟨c, _, rfl⟩ := h; exact h3 j _)
    (fun j ρ S' x hx h => by
      obtain ⟨c, rfl, rfl⟩ := h
      rw [List.getElem?_map] at hx
      obtain ⟨row, hr, rfl⟩ := Option.map_eq_some_iff.mp hx
      have hrm := List.mem_of_getElem? hr
      have hrl := (rowsL_mem.mp hrm).1
      refine ⟨_, rfl, [some (.int v), some (.int m), some d, a, some (.ref S.length), some (dI row), none], S ++ [.lst ((((rowsL v i).take (j + 1)).flatMap (longR v)).map dI)], .inl ?_, ⟨_, rfl, rfl⟩⟩
      have hl := ev_longer (F := F) (m := 0) (S := S ++ [.lst ((((rowsL v i).take j).flatMap (longR v)).map dI)]) (v := v) (a := some (.int m)) (b := some d) (c := a) (id := S.length) (row := row) hv (by omega)
      have hb : ((((rowsL v i).take j).flatMap (longR v)).map dI).length + ((longR v row).map dI).length ≤ line := by
        have : ((rowsL v i).take j).length ≤ (rowsL v i).length := by simp; omega
        have h6 : ((rowsL v i).take j).length * v ≤ 729 * 3 := Nat.mul_le_mul (by omega) hv
        rw [List.length_map, List.length_map, flat_len, longR_len, line_val]; omega
      have ht : (rowsL v i).take (j + 1) = (rowsL v i).take j ++ [row] := by rw [List.take_add_one, hr]; rfl
      rw [ht, List.flatMap_append, List.map_append]
      simp only [List.flatMap_cons, List.flatMap_nil, List.append_nil]
      have hm : evE F (.mth .extend (.var 4) [(.lc false (.cat false (.var 5) (.tup [(.var 6)])) (.nm 6) (.rng (.var 0)) [] [6])]) [some (.int v), some (.int m), some d, a, some (.ref S.length), some (dI row), none] (S ++ [.lst ((((rowsL v i).take j).flatMap (longR v)).map dI)])
          = .ok .non (S ++ [.lst ((((rowsL v i).take j).flatMap (longR v)).map dI ++ (longR v row).map dI)]) := by
        rw [evE]
        simp only [mbind_ap, evE, varM, List.getElem?_cons_succ, List.getElem?_cons_zero, bind_ok, get_last]
        simp only [evEs, mbind_ap]
        rw [show evE F (.lc false (.cat false (.var 5) (.tup [(.var 6)])) (.nm 6) (.rng (.var 0)) [] [6]) [some (.int v), some (.int m), some d, a, some (.ref S.length), some (dI row), none] (S ++ [.lst ((((rowsL v i).take j).flatMap (longR v)).map dI)]) = _ from hl]
        simp only [mbind_ap, bind_ok, mret_ap, mthM, extendM, get_last, tlsOf]
        rw [show (List.range v).map (fun (o : Nat) => row ++ [(o : Int)]) = longR v row from rfl, if_pos hb, set_last]
      exact (evSs_cons (evS_expr hm)).trans rfl)
    src.n 0 [some (.int v), some (.int m), some d, a, some (.ref S.length), c, none] (S ++ [.lst []]) ⟨c, rfl, by simp⟩ (by rw [h2]; omega) (by omega)
  refine ⟨c', ?_⟩
  refine evS_frr he ?_
  rw [hf, hρ, hS, List.length_map, List.take_of_length_le (Nat.le_refl _)]
  rfl
theorem isRows_of {fs : List Fn'} {i k : Nat} (h : fs[i]? = some fRows) : IsRows (runF fs (k + 1)) i := fun v m S hv hm => by
  simp only [runF, h]
  have hb : (-4611686018427387904 : Int) ≤ (m : Int) ∧ (m : Int) < 4611686018427387904 := by omega
  obtain ⟨ρ', S', hf, ⟨G, d, a, b, c, hS, hρ, hq⟩⟩ := for_inv (body := evSs (runF fs k) [(.set 4 (.lst true [])), (.frr (.nm 5) (.seq (.var 2)) [(.expr (.mth .extend (.var 4) [(.lc false (.cat false (.var 5) (.tup [(.var 6)])) (.nm 6) (.rng (.var 0)) [] [6])]))]), (.set 2 (.var 4))]) (tg := .nm 3) (items := (List.range m).map fun (o : Nat) => D.int (0 + (o : Int))) (src := rngOf 0 m)
    (fun j ρ S' => ∃ G d a b c, S' = S ++ G ∧ ρ = [some (.int v), some (.int m), some d, a, b, c, none] ∧ LstQ S.length d S' ((rowsL v j).map dI))
    (fun j ρ S' _ => rng_nxt m j S')
    (fun j ρ S' x hx hp => by
      obtain ⟨G, d, a, b, c, rfl, rfl, hq⟩ := hp
      have hj : j < m := by
        have := (List.getElem?_eq_some_iff.mp hx).1
        simpa using this
      have hq0 : LstQ 0 d (S ++ G) ((rowsL v j).map dI) := by
        rcases hq with q | ⟨id, e, _, q⟩
        · exact .inl q
        · exact .inr ⟨id, e, Nat.zero_le _, q⟩
      obtain ⟨c', hin⟩ := run_rows_inner (F := runF fs k) (m := m) (a := some x) (c := c) hv (by omega) hq0 _ rfl
      refine ⟨_, rfl, _, S ++ (G ++ [.lst ((rowsL v (j + 1)).map dI)]), .inl ?_, G ++ [.lst ((rowsL v (j + 1)).map dI)], .ref (S ++ G).length, some x, some (.ref (S ++ G).length), c', rfl, rfl, ?_⟩
      · refine (evSs_cons (evS_set (x := .ref (S ++ G).length) (S' := S ++ G ++ [.lst []]) (by simp only [evE, evEs, mbind_ap, mret_ap, bind_ok]; exact newL_own (by simp)))).trans ?_
        refine (evSs_cons hin).trans ?_
        refine (evSs_cons (evS_set (ev_var rfl))).trans ?_
        rw [evSs_nil, List.append_assoc]
        rfl
      · exact .inr ⟨_, rfl, by simp, by rw [← List.append_assoc]; exact get_last _ _⟩)
    m 0 [some (.int v), some (.int m), some (.fz [.tup []]), none, none, none, none] S ⟨[], _, none, none, none, by simp, rfl, .inl rfl⟩ (by simp) (by omega)
  refine ⟨d, G, ?_, ?_⟩
  · rw [hS, hρ] at hf
    refine runB_of ?_
    refine (evSs_cons (evS_set (x := .fz [.tup []]) (S' := S) rfl)).trans ?_
    refine (evSs_cons (evS_frr (evI_rng (m := m) (ev_var rfl) (by omega)) hf)).trans ?_
    exact evSs_ret (ev_var rfl)
  · subst hS
    simpa using hq
end Pu

namespace Pu
open PySem PySem.Spec PyProof.Rows L2
/-! ## drawn variables, tables, messages -/
theorem ev_lcA {F : Nat → List D → M D} {elt : X'} {tg : Tg} {it : I'} {ifs : List T'} {ws : List Nat} {ρ : Env'} {S S1 : Sto} {src : Src} {items : List D} {r : Nat} (Q : Nat → List D → Prop) (hi : evI F it ρ S = .ok src S1) (hsrc : ∀ i S', Adv r S1 S' → src.nxt i S' = some items[i]?)
    (hn : src.n = items.length) (hl : items.length ≤ line) (hstr : StrAt S1 r) (h0 : Q 0 [])
    (hstep : ∀ j acc S' d, items[j]? = some d → Adv r S1 S' → Q j acc → ∃ o S'', stepM (evE F elt) (evTs F ifs) tg (wipeE ρ ws) d S' = .ok o S'' ∧ Adv r S' S'' ∧ Q (j + 1) (acc ++ o.toList)) :
    ∃ acc S2, evE F (.lc false elt tg it ifs ws) ρ S = .ok (.fz acc) S2 ∧ Adv r S1 S2 ∧ Q items.length acc ∧ acc.length ≤ items.length := by
  obtain ⟨acc, S2, h1, ⟨h2, h3⟩, h4⟩ := lc_inv (elt := evE F elt) (ifs := evTs F ifs) (tg := tg) (ρ := wipeE ρ ws) (src := src) (items := items) (fun j acc S' => Adv r S1 S' ∧ Q j acc) hl (fun i acc S' h => hsrc i S' h.1)
    (fun j acc S' d hd h => by
      obtain ⟨o, S'', g1, g2, g3⟩ := hstep j acc S' d hd h.1 h.2
      exact ⟨o, S'', g1, h.1.trans hstr.lt g2, g3⟩) src.n 0 [] S1 ⟨.refl hstr, h0⟩ (by omega) (by omega) (Nat.le_refl _)
  exact ⟨acc, S2, by rw [ev_lc hi h1, newL_fz (by omega)], h2, h3, h4⟩
theorem Adv.len_set {r : Nat} {S S' : Sto} (a : Adv r S S') (h : S'.length = S.length) : ∃ o, S' = S.set r o ∧ StrAt (S.set r o) r := by
  obtain ⟨h1, o, G, rfl⟩ := a
  have : G = [] := by
    have := h
    simp at this
    exact this
  subst this
  rw [List.append_nil] at h1
  exact ⟨o, List.append_nil _, h1⟩
theorem eraseIdx_map' {α β : Type} (f : α → β) : ∀ (l : List α) (i : Nat), (l.map f).eraseIdx i = (l.eraseIdx i).map f
  | [], _ => rfl
  | _ :: _, 0 => rfl
  | a :: l, i + 1 => by simp [eraseIdx_map' f l i]
theorem erase_perm {α : Type} : ∀ (l : List α) (i : Nat) (h : i < l.length), (l[i] :: l.eraseIdx i).Perm l
  | [], _, h => by simp at h
  | a :: l, 0, h => .refl _
  | a :: l, i + 1, h => by
    have := erase_perm l i (by simpa using h)
    exact (List.Perm.swap _ _ _).trans (this.cons a)
/-- distinct numbers, in order -/
theorem sort_asc {ns : List Int} (h : ns.Nodup) : (sortI ns).Pairwise (fun a b => ltI a b = true) := by
  have h1 : (sortI ns).Pairwise (fun a b => decide (a ≤ b) = true) := List.pairwise_mergeSort (le := fun (a b : Int) => decide (a ≤ b)) (fun a b c => by simp; omega) (fun a b => by simp; omega) ns
  have h2 : (sortI ns).Nodup := (List.mergeSort_perm ns _).nodup_iff.mpr h
  unfold List.Nodup at h2
  refine (h1.and h2).imp ?_
  rintro a b ⟨h3, h4⟩
  have h3 := of_decide_eq_true h3
  simp only [ltI, decide_eq_true_eq]
  omega
def fSomeL (iNext : Nat) : Fn' := ⟨4, [(.set 2 (.lrng true (.cst (.int 6)))), (.ret (.blt .tuple [(.blt (.sorted false) [(.lc false (.mth .popAt (.var 2) [(.call iNext [(.var 0), (.blt .len [(.var 2)])])]) (.nm 3) (.rng (.call iNext [(.var 0), (.cat false (.var 1) (.cst (.int 1)))])) [] [3])])]))]⟩
/-- drawn variables -/
def Vars (ns : List Int) : Prop := ns.Pairwise (fun a b => ltI a b = true) ∧ ∀ n ∈ ns, 0 ≤ n ∧ n ≤ 5
def IsSomeL (F : Nat → List D → M D) (i : Nat) : Prop := ∀ (S : Sto) (r m : Nat), StrAt S r → m ≤ 4 → ∃ ns S', F i [.ref r, .int m] S = .ok (dI ns) S' ∧ Vars ns ∧ ns.length ≤ m ∧ Adv r S S'
theorem lrng6 {F : Nat → List D → M D} (ρ : Env') (S : Sto) : evE F (.lrng true (.cst (.int 6))) ρ S = .ok (.ref S.length) (S ++ [.lst ([0, 1, 2, 3, 4, 5].map D.int)]) := by
  simp only [evE, mbind_ap, mret_ap, bind_ok]
  rw [chk_pos (by omega), newL_own (by simp [line_val])]
  rfl
theorem isSomeL_of {fs : List Fn'} {i iNext k : Nat} (h : fs[i]? = some (fSomeL iNext)) (hN : IsNext (runF fs k) iNext) : IsSomeL (runF fs (k + 1)) i := fun S r m hs hm => by
  simp only [runF, h]
  have hr := hs.lt
  -- how many
  obtain ⟨n, S2, e2, n0, nm, a2, l2⟩ := hN (S ++ [.lst ([0, 1, 2, 3, 4, 5].map D.int)]) r (m + 1) (hs.app _) (by omega) (by omega)
  obtain ⟨o2, rfl, st2⟩ := a2.len_set l2
  obtain ⟨n, rfl⟩ := Int.eq_ofNat_of_zero_le n0
  have hset : ∀ (o o' : Ob) (l : List D), (S.set r o ++ [Ob.lst l]).set r o' = S.set r o' ++ [Ob.lst l] := fun o o' l => by
    rw [List.set_append_left _ _ (by simpa using hr), List.set_set]
  have hset0 : ∀ (o' : Ob) (l : List D), (S ++ [Ob.lst l]).set r o' = S.set r o' ++ [Ob.lst l] := fun o' l => by
    rw [List.set_append_left _ _ hr]
  rw [hset0] at st2 e2
  have hlast : ∀ (o : Ob) (l : List D), (S.set r o ++ [Ob.lst l])[S.length]? = some (.lst l) := fun o l => by
    have := get_last (S.set r o) (.lst l); rw [List.length_set] at this; exact this
  have hlset : ∀ (o : Ob) (l l' : List D), (S.set r o ++ [Ob.lst l]).set S.length (.lst l') = S.set r o ++ [.lst l'] := fun o l l' => by
    have := set_last (S.set r o) (.lst l) (.lst l'); rw [List.length_set] at this; exact this
  obtain ⟨acc, S3, h1, ⟨o, ls, as, rfl, st, rfl, hp, hal⟩, _⟩ := lc_inv (elt := evE (runF fs k) (.mth .popAt (.var 2) [(.call iNext [(.var 0), (.blt .len [(.var 2)])])])) (ifs := evTs (runF fs k) []) (tg := .nm 3) (ρ := [some (.ref r), some (.int m), some (.ref S.length), none]) (src := rngOf 0 n) (items := (List.range n).map fun (o : Nat) => D.int (0 + (o : Int)))
    (fun j acc S' => ∃ o ls as, S' = S.set r o ++ [.lst (ls.map D.int)] ∧ StrAt S' r ∧ acc = as.map D.int ∧ (as ++ ls).Perm [0, 1, 2, 3, 4, 5] ∧ as.length = j) (by simp [line_val]; omega) (fun j acc S' _ => rng_nxt n j S')
    (fun j acc S' d hd hp => by
      obtain ⟨o, ls, as, rfl, st, rfl, hp, hj⟩ := hp
      have hjn : j < n := by
        have := (List.getElem?_eq_some_iff.mp hd).1
        simpa using this
      have hlen := hp.length_eq
      simp at hlen
      obtain ⟨c, S4, e4, c0, cm, a4, l4⟩ := hN _ r ls.length st (by omega) (by omega)
      obtain ⟨o4, rfl, st4⟩ := a4.len_set l4
      rw [hset] at e4 st4
      obtain ⟨c, rfl⟩ := Int.eq_ofNat_of_zero_le c0
      have hc : c < ls.length := by omega
      refine ⟨some (.int ls[c]), S.set r o4 ++ [.lst ((ls.eraseIdx c).map D.int)], ?_, o4, ls.eraseIdx c, as ++ [ls[c]], rfl, ?_, by simp, ?_, by simp [hj]⟩
      · simp only [stepM, tgSet, evTs, mret_ap, bind_ok, if_true, mbind_ap, evE, varM, List.set_cons_succ, List.set_cons_zero, List.getElem?_cons_succ, List.getElem?_cons_zero, hlast, evEs, bltM, lenM, seqOf, lstOf, List.length_map, e4, mthM, popAtM, ixN_nat (n := ls.length) (i := (c : Int)) (by omega) (by omega), Int.toNat_natCast, List.getElem?_map, List.getElem?_eq_getElem hc, Option.map_some, hlset]
        rw [eraseIdx_map']
      · obtain ⟨ns, c', k', h5, h6⟩ := st4
        refine ⟨ns, c', k', ?_, h6⟩
        rw [List.getElem?_append_left (by simpa using hr)] at h5 ⊢
        exact h5
      · refine List.Perm.trans ?_ hp
        rw [List.append_assoc]
        exact List.Perm.append_left _ (erase_perm ls c hc))
    n 0 [] (S.set r o2 ++ [.lst ([0, 1, 2, 3, 4, 5].map D.int)]) ⟨o2, [0, 1, 2, 3, 4, 5], [], rfl, st2, rfl, List.Perm.refl _, rfl⟩ (by simp) (by omega) (by simp)
  have hal : as.length = n := by simpa using hal
  have hnd : (as ++ ls).Nodup := hp.nodup_iff.mpr (by decide)
  have hmem : ∀ x ∈ as, 0 ≤ x ∧ x ≤ 5 := fun x hx => by
    have := hp.mem_iff.mp (List.mem_append_left ls hx)
    simp at this
    omega
  refine ⟨sortI as, _, ?_, ⟨sort_asc (List.nodup_append.mp hnd).1, fun x hx => hmem x ((List.mergeSort_perm as _).mem_iff.mp hx)⟩, ?_, ⟨st, o, [_], rfl⟩⟩
  · refine runB_of ?_
    refine (evSs_cons (evS_set (lrng6 _ S))).trans ?_
    refine evSs_ret ?_
    have hI : evI (runF fs k) (.rng (.call iNext [(.var 0), (.cat false (.var 1) (.cst (.int 1)))])) [some (.ref r), some (.int m), some (.ref S.length), none] (S ++ [.lst ([0, 1, 2, 3, 4, 5].map D.int)]) = .ok (rngOf 0 n) (S.set r o2 ++ [.lst ([0, 1, 2, 3, 4, 5].map D.int)]) := by
      refine evI_rng ?_ (by omega)
      simp only [evE, evEs, mbind_ap, varM, List.getElem?_cons_succ, List.getElem?_cons_zero, bind_ok, mret_ap, catM, e2]
    have hL := (ev_lc (own := false) (ws := [3]) hI h1).trans (newL_fz (by simp [line_val]; omega))
    have hS : bltM (.sorted false) [.fz (as.map D.int)] (S.set r o ++ [.lst (ls.map D.int)]) = .ok (.fz ((sortI as).map D.int)) (S.set r o ++ [.lst (ls.map D.int)]) := by
      simp only [bltM, sortedM, seqOf, lstOf, Option.bind_some, asInts_map]
      exact newL_fz (by simp [sortI, line_val]; omega)
    exact ev_blt1 ((ev_blt1 hL).trans hS)
  · simp [sortI]; omega
end Pu

namespace Pu
open PySem PySem.Spec PyProof.Rows L2
def tabD (its : List (List Int × Int)) : List D := its.map fun p => D.tup [dI p.1, .int p.2]
def mesD (its : List (List Int × Int × Int)) : List D := its.map fun p => D.tup [dI p.1, .int p.2.1, .int p.2.2]
/-- rows of a table: chosen ones of all rows, with costs -/
def TabOf (v n : Nat) (its : List (List Int × Int)) : Prop := (its.map Prod.fst).Sublist (rowsL v n) ∧ ∀ p ∈ its, 0 ≤ p.2 ∧ p.2 ≤ 100
def MesOf (v n : Nat) (its : List (List Int × Int × Int)) : Prop := (its.map Prod.fst).Sublist (rowsL v n) ∧ ∀ p ∈ its, (1 ≤ p.2.1 ∧ p.2.1 ≤ 1000000) ∧ 0 ≤ p.2.2 ∧ p.2.2 ≤ 10000
theorem fst0_dI (ns : List Int) (r : List D) : fst0 (.tup (dI ns :: r)) = ns := by simp [fst0, dI, asInts_map]
theorem rows_le {v n : Nat} (hv : v ≤ 3) (hn : n ≤ 6) : (rowsL v n).length ≤ 729 := by rw [rowsL_len]; exact pow_le_729 hv hn
theorem tab_true {v n : Nat} {its : List (List Int × Int)} (h : TabOf v n its) : tableB v n (.tup (tabD its)) = true := by
  obtain ⟨h1, h2⟩ := h
  simp only [tableB, Bool.and_eq_true, tabD]
  refine ⟨?_, ?_⟩
  · rw [List.all_map, List.all_eq_true]
    intro p hp
    have hm := rowsL_mem.mp (h1.subset (List.mem_map_of_mem hp))
    simp only [Function.comp, pricedB, Bool.and_eq_true]
    exact ⟨rowB_of hm.1 hm.2, by simp [isInt, h2 p hp]⟩
  · rw [List.map_map]
    refine ascB_of ?_
    have e : (fst0 ∘ fun p : List Int × Int => D.tup [dI p.1, .int p.2]) = Prod.fst := by funext p; simp only [Function.comp, fst0_dI]
    rw [e]
    exact (rowsL_asc v n).sublist h1
theorem mes_true {v n : Nat} {its : List (List Int × Int × Int)} (h : MesOf v n its) : messB v n (.tup (mesD its)) = true := by
  obtain ⟨h1, h2⟩ := h
  simp only [messB, Bool.and_eq_true, mesD]
  refine ⟨?_, ?_⟩
  · rw [List.all_map, List.all_eq_true]
    intro p hp
    have hm := rowsL_mem.mp (h1.subset (List.mem_map_of_mem hp))
    simp only [Function.comp, toldB, Bool.and_eq_true]
    exact ⟨rowB_of hm.1 hm.2, by simp [isInt, h2 p hp], by simp [isInt, h2 p hp]⟩
  · rw [List.map_map]
    refine ascB_of ?_
    have e : (fst0 ∘ fun p : List Int × Int × Int => D.tup [dI p.1, .int p.2.1, .int p.2.2]) = Prod.fst := by funext p; simp only [Function.comp, fst0_dI]
    rw [e]
    exact (rowsL_asc v n).sublist h1
theorem fit_tab {its : List (List Int × Int)} (h : its.length ≤ line) (h2 : ∀ p ∈ its, p.1.length ≤ line) : fit (.tup (tabD its)) = true := by
  rw [fit_tup]
  refine ⟨by simpa [tabD] using h, fun d hd => ?_⟩
  obtain ⟨p, hp, rfl⟩ := List.mem_map.mp hd
  rw [fit_tup]
  refine ⟨by simp [line_val], ?_⟩
  simp [fit_dI (h2 p hp), fit_int]
theorem fit_mes {its : List (List Int × Int × Int)} (h : its.length ≤ line) (h2 : ∀ p ∈ its, p.1.length ≤ line) : fit (.tup (mesD its)) = true := by
  rw [fit_tup]
  refine ⟨by simpa [mesD] using h, fun d hd => ?_⟩
  obtain ⟨p, hp, rfl⟩ := List.mem_map.mp hd
  rw [fit_tup]
  refine ⟨by simp [line_val], ?_⟩
  simp [fit_dI (h2 p hp), fit_int]
theorem TabOf.fit {v n : Nat} {its : List (List Int × Int)} (h : TabOf v n its) (hv : v ≤ 3) (hn : n ≤ 6) : fit (.tup (tabD its)) = true := by
  have h1 := h.1.length_le
  have h2 := rows_le hv hn
  rw [List.length_map] at h1
  refine fit_tab (by rw [line_val]; omega) (fun p hp => ?_)
  have hm := rowsL_mem.mp (h.1.subset (List.mem_map_of_mem hp))
  rw [hm.1, line_val]; omega
theorem MesOf.fit {v n : Nat} {its : List (List Int × Int × Int)} (h : MesOf v n its) (hv : v ≤ 3) (hn : n ≤ 6) : fit (.tup (mesD its)) = true := by
  have h1 := h.1.length_le
  have h2 := rows_le hv hn
  rw [List.length_map] at h1
  refine fit_mes (by rw [line_val]; omega) (fun p hp => ?_)
  have hm := rowsL_mem.mp (h.1.subset (List.mem_map_of_mem hp))
  rw [hm.1, line_val]; omega
/-- a list that is written in the text -/
theorem pick_fz {F : Nat → List D → M D} {i : Nat} (h : IsPick F i) {S : Sto} {r : Nat} (xs : List D) (hs : StrAt S r) (hne : xs ≠ []) (hl : xs.length < 1073741824) : ∃ x S', F i [.ref r, .fz xs] S = .ok x S' ∧ x ∈ xs ∧ Adv r S S' ∧ S'.length = S.length :=
  h S r (.fz xs) xs hs rfl (fun _ _ => rfl) hne hl
def fTableL (iPick iNext iRows : Nat) : Fn' := ⟨5, [(.set 3 (.call iPick [(.var 0), (.lst false [(.cst (.int 1)), (.cst (.int 2)), (.cst (.int 2)), (.cst (.int 3))])])), (.ret (.blt .tuple [(.lc false (.tup [(.var 4), (.call iNext [(.var 0), (.call iPick [(.var 0), (.lst false [(.cst (.int 3)), (.cst (.int 101))])])])]) (.nm 4) (.seq (.call iRows [(.var 1), (.blt .len [(.var 2)])])) [(.bv (.cmp .Lt (.call iNext [(.var 0), (.cst (.int 3))]) (.var 3)))] [4])]))]⟩
def IsTableL (F : Nat → List D → M D) (i : Nat) : Prop := ∀ (S : Sto) (r v : Nat) (ss : List D), StrAt S r → v ≤ 3 → ss.length ≤ 6 → ∃ its S', F i [.ref r, .int v, .tup ss] S = .ok (.tup (tabD its)) S' ∧ TabOf v ss.length its ∧ Adv r S S'
theorem isTableL_of {fs : List Fn'} {i iPick iNext iRows k : Nat} (h : fs[i]? = some (fTableL iPick iNext iRows)) (hP : IsPick (runF fs k) iPick) (hN : IsNext (runF fs k) iNext) (hR : IsRows (runF fs k) iRows) : IsTableL (runF fs (k + 1)) i := fun S r v ss hs hv hn => by
  simp only [runF, h]
  have hr := hs.lt
  obtain ⟨sh, S1, e1, m1, a1, l1⟩ := pick_fz hP [.int 1, .int 2, .int 2, .int 3] hs (by simp) (by simp)
  have hsh : ∃ s : Int, sh = .int s := by simp at m1; rcases m1 with rfl | rfl | rfl <;> exact ⟨_, rfl⟩
  obtain ⟨s, rfl⟩ := hsh
  obtain ⟨d, G, eR, qR⟩ := hR v ss.length S1 hv hn
  have a1' : Adv r S1 (S1 ++ G) := .app a1.1 G
  obtain ⟨src, hs1, hs2, hs3⟩ := qR.src a1.1.lt
  have hlen : ((rowsL v ss.length).map dI).length ≤ 729 := by rw [List.length_map]; exact rows_le hv hn
  obtain ⟨acc, S2, hL, a2, ⟨its, rfl, hq1, hq2⟩, hl2⟩ := ev_lcA (F := runF fs k) (elt := .tup [(.var 4), (.call iNext [(.var 0), (.call iPick [(.var 0), (.lst false [(.cst (.int 3)), (.cst (.int 101))])])])]) (tg := .nm 4) (it := .seq (.call iRows [(.var 1), (.blt .len [(.var 2)])])) (ifs := [(.bv (.cmp .Lt (.call iNext [(.var 0), (.cst (.int 3))]) (.var 3)))]) (ws := [4])
    (ρ := [some (.ref r), some (.int v), some (.tup ss), some (.int s), none]) (S := S1) (S1 := S1 ++ G) (src := src) (items := (rowsL v ss.length).map dI) (r := r)
    (fun j acc => ∃ its, acc = tabD its ∧ (its.map Prod.fst).Sublist ((rowsL v ss.length).take j) ∧ ∀ p ∈ its, 0 ≤ p.2 ∧ p.2 ≤ 100)
    (by refine evI_seq (d := d) ?_ hs1
        simp only [evE, evEs, mbind_ap, varM, List.getElem?_cons_succ, List.getElem?_cons_zero, bind_ok, mret_ap, bltM, lenM, seqOf, eR])
    hs3 hs2 (by rw [line_val]; omega) a1'.1 ⟨[], rfl, by simp, by simp⟩
    (fun j acc S' x hx a ⟨its, e, hq1, hq2⟩ => by
      subst e
      rw [List.getElem?_map] at hx
      obtain ⟨row, hrow, rfl⟩ := Option.map_eq_some_iff.mp hx
      have ht : (rowsL v ss.length).take (j + 1) = (rowsL v ss.length).take j ++ [row] := by rw [List.take_add_one, hrow]; rfl
      obtain ⟨c, S3, e3, c0, c1, a3, _⟩ := hN S' r 3 a.1 (by omega) (by omega)
      by_cases hc : c < s
      · obtain ⟨y, S4, e4, m4, a4, _⟩ := pick_fz hP [.int 3, .int 101] a3.1 (by simp) (by simp)
        have hy : ∃ t : Int, y = .int t ∧ 0 < t ∧ t ≤ 101 := by simp at m4; rcases m4 with rfl | rfl <;> exact ⟨_, rfl, by omega, by omega⟩
        obtain ⟨t, rfl, t0, t1⟩ := hy
        obtain ⟨z, S5, e5, z0, z1, a5, _⟩ := hN S4 r t a4.1 t0 (by omega)
        refine ⟨some (.tup [dI row, .int z]), S5, ?_, (a3.trans a.1.lt a4).trans a.1.lt a5, its ++ [(row, z)], by simp [tabD], ?_, ?_⟩
        · simp [stepM, tgSet, wipeE, evTs, evT, evE, evEs, mbind_ap, mret_ap, bind_ok, varM, e3, e4, e5, cmpM, ltM, blM, hc, newL, newT, line_val]
        · rw [ht]; simp only [List.map_append, List.map_cons, List.map_nil]
          exact hq1.append (List.Sublist.refl _)
        · intro p hp
          rcases List.mem_append.mp hp with hp | hp
          · exact hq2 p hp
          · rw [List.mem_singleton.mp hp]; exact ⟨z0, by simp only; omega⟩
      · refine ⟨none, S3, ?_, a3, its, by simp, ?_, hq2⟩
        · simp [stepM, tgSet, wipeE, evTs, evT, evE, evEs, mbind_ap, mret_ap, bind_ok, varM, e3, cmpM, ltM, blM, hc]
        · rw [ht]; exact hq1.trans (List.sublist_append_left _ _))
  refine ⟨its, S2, ?_, ⟨by rw [List.length_map, List.take_of_length_le (Nat.le_refl _)] at hq1; exact hq1, hq2⟩, (a1.trans hr a1').trans hr a2⟩
  refine runB_of ?_
  refine (evSs_cons (evS_set (x := .int s) (S' := S1) ?_)).trans ?_
  · simp [evE, evEs, mbind_ap, mret_ap, bind_ok, varM, envOf, newL, line_val, e1]
  · exact evSs_ret (ev_blt1 hL)
def fMessL (iPick iNext iRows : Nat) : Fn' := ⟨7, [(.set 3 (.call iPick [(.var 0), (.lst false [(.cst (.int 1)), (.cst (.int 2)), (.cst (.int 2)), (.cst (.int 3))])])), (.set 4 (.call iPick [(.var 0), (.lst false [(.cst (.int 3)), (.cst (.int 100))])])), (.set 5 (.lc false (.var 6) (.nm 6) (.seq (.call iRows [(.var 1), (.blt .len [(.var 2)])])) [(.bv (.cmp .Lt (.call iNext [(.var 0), (.cst (.int 3))]) (.var 3)))] [6])), (.ret (.blt .tuple [(.lc false (.tup [(.var 6), (.cat false (.cst (.int 1)) (.call iNext [(.var 0), (.var 4)])), (.call iNext [(.var 0), (.var 4)])]) (.nm 6) (.seq (.var 5)) [] [6])]))]⟩
def IsMessL (F : Nat → List D → M D) (i : Nat) : Prop := ∀ (S : Sto) (r v : Nat) (ss : List D), StrAt S r → v ≤ 3 → ss.length ≤ 6 → ∃ its S', F i [.ref r, .int v, .tup ss] S = .ok (.tup (mesD its)) S' ∧ MesOf v ss.length its ∧ Adv r S S'
theorem isMessL_of {fs : List Fn'} {i iPick iNext iRows k : Nat} (h : fs[i]? = some (fMessL iPick iNext iRows)) (hP : IsPick (runF fs k) iPick) (hN : IsNext (runF fs k) iNext) (hR : IsRows (runF fs k) iRows) : IsMessL (runF fs (k + 1)) i := fun S r v ss hs hv hn => by
  simp only [runF, h]
  have hr := hs.lt
  obtain ⟨sh, S0, e1, m1, a1, l1⟩ := pick_fz hP [.int 1, .int 2, .int 2, .int 3] hs (by simp) (by simp)
  have hsh : ∃ s : Int, sh = .int s := by simp at m1; rcases m1 with rfl | rfl | rfl <;> exact ⟨_, rfl⟩
  obtain ⟨s, rfl⟩ := hsh
  obtain ⟨fa, S1, e0, m0, a0, l0⟩ := pick_fz hP [.int 3, .int 100] a1.1 (by simp) (by simp)
  have hfa : ∃ t : Int, fa = .int t ∧ 0 < t ∧ t ≤ 100 := by simp at m0; rcases m0 with rfl | rfl <;> exact ⟨_, rfl, by omega, by omega⟩
  obtain ⟨t, rfl, t0, t1⟩ := hfa
  obtain ⟨d, G, eR, qR⟩ := hR v ss.length S1 hv hn
  have a1' : Adv r S1 (S1 ++ G) := .app a0.1 G
  obtain ⟨src, hs1, hs2, hs3⟩ := qR.src a0.1.lt
  have hlen : ((rowsL v ss.length).map dI).length ≤ 729 := by rw [List.length_map]; exact rows_le hv hn
  obtain ⟨acc, S2, hL, a2, ⟨rows, rfl, hq1⟩, hl2⟩ := ev_lcA (F := runF fs k) (elt := .var 6) (tg := .nm 6) (it := .seq (.call iRows [(.var 1), (.blt .len [(.var 2)])])) (ifs := [(.bv (.cmp .Lt (.call iNext [(.var 0), (.cst (.int 3))]) (.var 3)))]) (ws := [6])
    (ρ := [some (.ref r), some (.int v), some (.tup ss), some (.int s), some (.int t), none, none]) (S := S1) (S1 := S1 ++ G) (src := src) (items := (rowsL v ss.length).map dI) (r := r)
    (fun j acc => ∃ rows, acc = rows.map dI ∧ rows.Sublist ((rowsL v ss.length).take j))
    (by refine evI_seq (d := d) ?_ hs1
        simp only [evE, evEs, mbind_ap, varM, List.getElem?_cons_succ, List.getElem?_cons_zero, bind_ok, mret_ap, bltM, lenM, seqOf, eR])
    hs3 hs2 (by rw [line_val]; omega) a1'.1 ⟨[], rfl, by simp⟩
    (fun j acc S' x hx a ⟨its, e, hq1⟩ => by
      subst e
      rw [List.getElem?_map] at hx
      obtain ⟨row, hrow, rfl⟩ := Option.map_eq_some_iff.mp hx
      have ht : (rowsL v ss.length).take (j + 1) = (rowsL v ss.length).take j ++ [row] := by rw [List.take_add_one, hrow]; rfl
      obtain ⟨c, S3, e3, c0, c1, a3, _⟩ := hN S' r 3 a.1 (by omega) (by omega)
      by_cases hc : c < s
      · refine ⟨some (dI row), S3, ?_, a3, its ++ [row], by simp, ?_⟩
        · simp [stepM, tgSet, wipeE, evTs, evT, evE, evEs, mbind_ap, mret_ap, bind_ok, varM, e3, cmpM, ltM, blM, hc]
        · rw [ht]
          exact hq1.append (List.Sublist.refl _)
      · refine ⟨none, S3, ?_, a3, its, by simp, ?_⟩
        · simp [stepM, tgSet, wipeE, evTs, evT, evE, evEs, mbind_ap, mret_ap, bind_ok, varM, e3, cmpM, ltM, blM, hc]
        · rw [ht]; exact hq1.trans (List.sublist_append_left _ _))
  rw [List.length_map, List.take_of_length_le (Nat.le_refl _)] at hq1
  have hrl : rows.length ≤ 729 := by simp at hl2 hlen; omega
  obtain ⟨acc, S3, hL2, a3, ⟨its, rfl, hi1, hi2⟩, hl3⟩ := ev_lcA (F := runF fs k) (elt := .tup [(.var 6), (.cat false (.cst (.int 1)) (.call iNext [(.var 0), (.var 4)])), (.call iNext [(.var 0), (.var 4)])]) (tg := .nm 6) (it := .seq (.var 5)) (ifs := []) (ws := [6])
    (ρ := [some (.ref r), some (.int v), some (.tup ss), some (.int s), some (.int t), some (.fz (rows.map dI)), none]) (S := S2) (S1 := S2) (src := ⟨(rows.map dI).length, fun i _ => some (rows.map dI)[i]?⟩) (items := rows.map dI) (r := r)
    (fun j acc => ∃ its : List (List Int × Int × Int), acc = mesD its ∧ its.map Prod.fst = rows.take j ∧ ∀ p ∈ its, (1 ≤ p.2.1 ∧ p.2.1 ≤ 1000000) ∧ 0 ≤ p.2.2 ∧ p.2.2 ≤ 10000)
    (evI_seq (ev_var rfl) rfl) (fun _ _ _ => rfl) rfl (by rw [List.length_map, line_val]; omega) a2.1 ⟨[], rfl, by simp, by simp⟩
    (fun j acc S' x hx a ⟨its, e, hq1, hq2⟩ => by
      subst e
      rw [List.getElem?_map] at hx
      obtain ⟨row, hrow, rfl⟩ := Option.map_eq_some_iff.mp hx
      have ht : rows.take (j + 1) = rows.take j ++ [row] := by rw [List.take_add_one, hrow]; rfl
      obtain ⟨c, S4, e4, c0, c1, a4, _⟩ := hN S' r t a.1 t0 (by omega)
      obtain ⟨z, S5, e5, z0, z1, a5, _⟩ := hN S4 r t a4.1 t0 (by omega)
      refine ⟨some (.tup [dI row, .int (1 + c), .int z]), S5, ?_, a4.trans a.1.lt a5, its ++ [(row, 1 + c, z)], by simp [mesD], ?_, ?_⟩
      · simp [stepM, tgSet, wipeE, evTs, evT, evE, evEs, mbind_ap, mret_ap, bind_ok, varM, e4, e5, catM, newT, line_val]
      · rw [ht]; simp [hq1]
      · intro p hp
        rcases List.mem_append.mp hp with hp | hp
        · exact hq2 p hp
        · rw [List.mem_singleton.mp hp]; simp only; omega)
  rw [List.length_map, List.take_of_length_le (Nat.le_refl _)] at hi1
  refine ⟨its, S3, ?_, ⟨by rw [hi1]; exact hq1, hi2⟩, (((a1.trans hr a0).trans hr a1').trans hr a2).trans hr a3⟩
  refine runB_of ?_
  refine (evSs_cons (evS_set (x := .int s) (S' := S0) ?_)).trans ?_
  · simp [evE, evEs, mbind_ap, mret_ap, bind_ok, varM, envOf, newL, line_val, e1]
  refine (evSs_cons (evS_set (x := .int t) (S' := S1) ?_)).trans ?_
  · simp [evE, evEs, mbind_ap, mret_ap, bind_ok, varM, envOf, newL, line_val, e0]
  refine (evSs_cons (evS_set hL)).trans ?_
  exact evSs_ret (ev_blt1 hL2)
end Pu

namespace Pu
open PySem PySem.Spec PyProof.Rows L2
/-! ## one thing changed -/
theorem cut_to {xs : List D} {n : Nat} (h : n ≤ xs.length) : cutD xs none (some (n : Int)) = xs.take n := by
  unfold cutD HT.sIx
  simp only [List.drop_zero, Nat.sub_zero]
  rw [if_neg (by omega), Int.toNat_natCast, Nat.min_eq_left h]
theorem cut_from {xs : List D} {n : Nat} (h : n ≤ xs.length) : cutD xs (some (n : Int)) none = xs.drop n := by
  unfold cutD HT.sIx
  simp only
  rw [if_neg (by omega), Int.toNat_natCast, Nat.min_eq_left h]
  rw [List.take_of_length_le (by simp)]
theorem cut_toLast (xs : List D) : cutD xs none (some (-1)) = xs.dropLast := by
  unfold cutD HT.sIx
  simp only [List.drop_zero, Nat.sub_zero]
  rw [if_pos (by omega), List.dropLast_eq_take]
  congr 1
  omega
theorem cut_last (xs : List D) : cutD xs (some (-1)) none = xs.drop (xs.length - 1) := by
  unfold cutD HT.sIx
  simp only
  rw [if_pos (by omega), show (-1 + (xs.length : Int)).toNat = xs.length - 1 by omega]
  rw [List.take_of_length_le (by simp)]
theorem ev_cat {F : Nat → List D → M D} {own : Bool} {a b : X'} {ρ : Env'} {S S1 S2 S3 : Sto} {x y z : D} (h1 : evE F a ρ S = .ok x S1) (h2 : evE F b ρ S1 = .ok y S2) (h3 : catM own x y S2 = .ok z S3) : evE F (.cat own a b) ρ S = .ok z S3 := by
  simp only [evE, mbind_ap, h1, bind_ok, h2, h3]
def putD (xs : List D) (n : Nat) (d : D) : D := .tup (xs.take n ++ [d] ++ xs.drop (n + 1))
def fPut : Fn' := ⟨3, [(.ret (.cat false (.cat false (.slc false (.var 0) .no (.ex (.var 1))) (.tup [(.var 2)])) (.slc false (.var 0) (.ex (.cat false (.var 1) (.cst (.int 1)))) .no)))]⟩
def IsPut (F : Nat → List D → M D) (i : Nat) : Prop := ∀ (xs : List D) (n : Nat) (d : D) (S : Sto), n < xs.length → xs.length ≤ 1000 → F i [.tup xs, .int n, d] S = .ok (putD xs n d) S
theorem isPut_of {fs : List Fn'} {i k : Nat} (h : fs[i]? = some fPut) : IsPut (runF fs (k + 1)) i := fun xs n d S hn hl => by
  simp only [runF, h]
  refine run_ret ?_
  have h1 := cut_to (xs := xs) (n := n) (by omega)
  have h2 := cut_from (xs := xs) (n := n + 1) (by omega)
  simp only [Int.natCast_add, Int.cast_ofNat_Int] at h2
  have b1 : (xs.take n ++ [d]).length ≤ line := by simp [line_val]; omega
  have b2 : (xs.take n ++ [d] ++ xs.drop (n + 1)).length ≤ line := by simp [line_val]; omega
  have s1 : evE (runF fs k) (.slc false (.var 0) .no (.ex (.var 1))) (envOf 3 [.tup xs, .int n, d]) S = .ok (.tup (xs.take n)) S := by
    simp [evE, evP, mbind_ap, varM, envOf, bind_ok, mret_ap, slcP, intO, h1]
  have s2 : evE (runF fs k) (.slc false (.var 0) (.ex (.cat false (.var 1) (.cst (.int 1)))) .no) (envOf 3 [.tup xs, .int n, d]) S = .ok (.tup (xs.drop (n + 1))) S := by
    simp [evE, evP, mbind_ap, varM, envOf, bind_ok, mret_ap, slcP, intO, catM]
    exact h2
  have s3 : evE (runF fs k) (.tup [(.var 2)]) (envOf 3 [.tup xs, .int n, d]) S = .ok (.tup [d]) S := by
    simp [evE, evEs, mbind_ap, varM, envOf, bind_ok, mret_ap, newT, line_val]
  refine ev_cat (ev_cat s1 s3 (x := .tup (xs.take n)) (y := .tup [d]) (z := .tup (xs.take n ++ [d])) ?_) s2 ?_
  · simp only [catM, newT]; rw [if_pos b1]
  · simp only [catM, newT]; rw [if_pos b2]; rfl
theorem fit_app {xs ys : List D} (h1 : ∀ d ∈ xs, fit d = true) (h2 : ∀ d ∈ ys, fit d = true) : ∀ d ∈ xs ++ ys, fit d = true := fun d hd => by
  rcases List.mem_append.mp hd with h | h
  · exact h1 d h
  · exact h2 d h
theorem fit_put {xs : List D} {n : Nat} {d : D} (hl : xs.length ≤ 1000) (h : ∀ d ∈ xs, fit d = true) (hd : fit d = true) : fit (putD xs n d) = true := by
  unfold putD
  rw [fit_tup]
  refine ⟨by simp [line_val]; omega, fit_app (fit_app (fun d hd => h d (List.mem_of_mem_take hd)) (by simpa using hd)) (fun d hd => h d (List.mem_of_mem_drop hd))⟩
/-- no row -/
def BadR (v n : Nat) (d : D) : Prop := fit d = true ∧ rowB v n d = false
theorem badR_put {v n : Nat} {xs : List D} {m : Nat} {d : D} (hl : xs.length ≤ 1000) (h : ∀ d ∈ xs, fit d = true) (hd : fit d = true) (ho : isInt d 0 ((v : Int) - 1) = false) : BadR v n (putD xs m d) := by
  refine ⟨fit_put hl h hd, ?_⟩
  simp only [putD, rowB]
  rw [Bool.and_eq_false_iff]
  right
  simp [ho]
def fBadRow (iNext iPut iPick : Nat) : Fn' := ⟨6, [(.set 3 (.lst false [(.cst .non), (.blt (.list false) [(.var 2)]), (.cat false (.var 2) (.tup [(.cst (.int 0))])), (.cst (.int 0)), (.cst (.str ""))])), (.ife (.val (.var 2)) [(.set 4 (.call iNext [(.var 0), (.blt .len [(.var 2)])])), (.set 3 (.cat false (.cat false (.var 3) (.lst false [(.slc false (.var 2) (.ex (.cst (.int 1))) .no)])) (.lc false (.call iPut [(.var 2), (.var 4), (.var 5)]) (.nm 5) (.seq (.lst false [(.var 1), (.neg (.cst (.int 1))), (.cst .non), (.cst (.bl true)), (.cst (.str "0"))])) [] [5])))] []), (.ret (.call iPick [(.var 0), (.var 3)]))]⟩
def IsBadRow (F : Nat → List D → M D) (i : Nat) : Prop := ∀ (S : Sto) (r v n : Nat) (ns : List Int), StrAt S r → ns.length = n → n ≤ 6 → ∃ x S', F i [.ref r, .int v, dI ns] S = .ok x S' ∧ BadR v n x ∧ Adv r S S'
theorem isBadRow_of {fs : List Fn'} {i iNext iPut iPick k : Nat} (h : fs[i]? = some (fBadRow iNext iPut iPick)) (hN : IsNext (runF fs k) iNext) (hQ : IsPut (runF fs k) iPut) (hP : IsPick (runF fs k) iPick) : IsBadRow (runF fs (k + 1)) i := fun S r v n ns hs hn hn6 => by
  simp only [runF, h]
  have hr := hs.lt
  have hfit : ∀ d ∈ ns.map D.int, fit d = true := fun d hd => by obtain ⟨m, _, rfl⟩ := List.mem_map.mp hd; exact fit_int m
  -- the first five
  have hw : ∀ x ∈ [D.non, .fz (ns.map D.int), .tup (ns.map D.int ++ [.int 0]), .int 0, .str ""], BadR v n x := by
    intro x hx
    simp only [List.mem_cons, List.not_mem_nil, or_false] at hx
    rcases hx with rfl | rfl | rfl | rfl | rfl
    · exact ⟨rfl, rfl⟩
    · exact ⟨by simp only [fit]; exact fits_all.mpr hfit, rfl⟩
    · refine ⟨fit_tup.mpr ⟨by simp [line_val]; omega, fit_app hfit (by simp [fit_int])⟩, ?_⟩
      simp [rowB]; omega
    · exact ⟨rfl, rfl⟩
    · exact ⟨rfl, rfl⟩
  have hb : ns.length + 1 ≤ 16777216 := by omega
  have e3 : evE (runF fs k) (.lst false [(.cst .non), (.blt (.list false) [(.var 2)]), (.cat false (.var 2) (.tup [(.cst (.int 0))])), (.cst (.int 0)), (.cst (.str ""))]) (envOf 6 [.ref r, .int v, dI ns]) S = .ok (.fz [D.non, .fz (ns.map D.int), .tup (ns.map D.int ++ [.int 0]), .int 0, .str ""]) S := by
    have hb' : ns.length ≤ 16777216 := by omega
    simp [evE, evEs, mbind_ap, mret_ap, bind_ok, varM, envOf, newL, newT, line_val, bltM, listM, dI, seqOf, catM, hb, hb']
  by_cases hz : ns = []
  · subst hz
    obtain ⟨x, S', e, m, a, _⟩ := pick_fz hP hs (r := r) (S := S) (by simp) (by simp) (xs := [D.non, .fz (([] : List Int).map D.int), .tup (([] : List Int).map D.int ++ [.int 0]), .int 0, .str ""])
    refine ⟨x, S', ?_, hw x m, a⟩
    refine runB_of ?_
    refine (evSs_cons (evS_set e3)).trans ?_
    refine (evSs_cons (ρ' := _) (S' := S) (by simp [evS, evSs, evT, evE, mbind_ap, mret_ap, bind_ok, varM, envOf, truM, dI, seqOf]; rfl)).trans ?_
    refine evSs_ret ?_
    simp only [evE, evEs, mbind_ap, mret_ap, bind_ok, varM, envOf, List.map, List.length_cons, List.length_nil, List.cons_append, List.nil_append, List.getElem?_cons_succ, List.getElem?_cons_zero, List.set_cons_succ, List.set_cons_zero]
    exact e
  · have hpos : 0 < ns.length := List.length_pos_iff.mpr hz
    obtain ⟨c, S1, e1, c0, c1, a1, _⟩ := hN S r ns.length hs (by omega) (by omega)
    obtain ⟨c, rfl⟩ := Int.eq_ofNat_of_zero_le c0
    have hput : ∀ o : D, runF fs k iPut [.tup (ns.map D.int), .int (c : Int), o] S1 = .ok (putD (ns.map D.int) c o) S1 := fun o => hQ _ c o S1 (by simp; omega) (by simp; omega)
    have eL : evE (runF fs k) (.lc false (.call iPut [(.var 2), (.var 4), (.var 5)]) (.nm 5) (.seq (.lst false [(.var 1), (.neg (.cst (.int 1))), (.cst .non), (.cst (.bl true)), (.cst (.str "0"))])) [] [5]) [some (.ref r), some (.int v), some (dI ns), some (.fz [D.non, .fz (ns.map D.int), .tup (ns.map D.int ++ [.int 0]), .int 0, .str ""]), some (.int c), none] S1
        = .ok (.fz ([D.int v, .int (-1), .non, .bl true, .str "0"].map (putD (ns.map D.int) c))) S1 := by
      refine lc_map (putD (ns.map D.int) c) (xs := [D.int v, .int (-1), .non, .bl true, .str "0"]) (src := ⟨5, fun i _ => some [D.int v, .int (-1), .non, .bl true, .str "0"][i]?⟩) ?_ (fun i => rfl) (by simp) (by simp [line_val]) (fun d _ => ⟨_, rfl, ?_⟩)
      · refine evI_seq (d := .fz [D.int v, .int (-1), .non, .bl true, .str "0"]) ?_ rfl
        simp [evE, evEs, mbind_ap, mret_ap, bind_ok, varM, newL, line_val, negM]
      · simp [evE, evEs, mbind_ap, mret_ap, bind_ok, varM, wipeE, dI, hput]
    have hw2 : ∀ x ∈ [D.non, .fz (ns.map D.int), .tup (ns.map D.int ++ [.int 0]), .int 0, .str ""] ++ [.tup ((ns.map D.int).drop 1)] ++ [D.int v, .int (-1), .non, .bl true, .str "0"].map (putD (ns.map D.int) c), BadR v n x := by
      intro x hx
      rcases List.mem_append.mp hx with hx | hx
      · rcases List.mem_append.mp hx with hx | hx
        · exact hw x hx
        · rw [List.mem_singleton.mp hx]
          refine ⟨fit_tup.mpr ⟨by simp [line_val]; omega, fun d hd => hfit d (List.mem_of_mem_drop hd)⟩, ?_⟩
          simp [rowB]; omega
      · obtain ⟨o, ho, rfl⟩ := List.mem_map.mp hx
        simp only [List.mem_cons, List.not_mem_nil, or_false] at ho
        refine badR_put (by simp; omega) hfit ?_ ?_
        · rcases ho with rfl | rfl | rfl | rfl | rfl <;> rfl
        · rcases ho with rfl | rfl | rfl | rfl | rfl <;> simp [isInt] <;> omega
    obtain ⟨x, S', e, m, a, _⟩ := pick_fz hP a1.1 (r := r) (S := S1) (by simp) (by simp) (xs := [D.non, .fz (ns.map D.int), .tup (ns.map D.int ++ [.int 0]), .int 0, .str ""] ++ [.tup ((ns.map D.int).drop 1)] ++ [D.int v, .int (-1), .non, .bl true, .str "0"].map (putD (ns.map D.int) c))
    refine ⟨x, S', ?_, hw2 x m, a1.trans hr a⟩
    refine runB_of ?_
    refine (evSs_cons (evS_set e3)).trans ?_
    have eI : evS (runF fs k) (.ife (.val (.var 2)) [(.set 4 (.call iNext [(.var 0), (.blt .len [(.var 2)])])), (.set 3 (.cat false (.cat false (.var 3) (.lst false [(.slc false (.var 2) (.ex (.cst (.int 1))) .no)])) (.lc false (.call iPut [(.var 2), (.var 4), (.var 5)]) (.nm 5) (.seq (.lst false [(.var 1), (.neg (.cst (.int 1))), (.cst .non), (.cst (.bl true)), (.cst (.str "0"))])) [] [5])))] []) [some (.ref r), some (.int v), some (dI ns), some (.fz [D.non, .fz (ns.map D.int), .tup (ns.map D.int ++ [.int 0]), .int 0, .str ""]), none, none] S
        = .ok (.nx [some (.ref r), some (.int v), some (dI ns), some (.fz ([D.non, .fz (ns.map D.int), .tup (ns.map D.int ++ [.int 0]), .int 0, .str ""] ++ [.tup ((ns.map D.int).drop 1)] ++ [D.int v, .int (-1), .non, .bl true, .str "0"].map (putD (ns.map D.int) c))), some (.int c), none]) S1 := by
      have t : evT (runF fs k) (.val (.var 2)) [some (.ref r), some (.int v), some (dI ns), some (.fz [D.non, .fz (ns.map D.int), .tup (ns.map D.int ++ [.int 0]), .int 0, .str ""]), none, none] S = .ok true S := by
        simp [evT, evE, mbind_ap, varM, bind_ok, truM, dI, seqOf, hz]
      simp only [evS, mbind_ap, t, bind_ok, if_true]
      refine (evSs_cons (evS_set (x := .int c) (S' := S1) ?_)).trans ?_
      · simp [evE, evEs, mbind_ap, mret_ap, bind_ok, varM, bltM, lenM, dI, seqOf]; exact e1
      refine (evSs_cons (evS_set (x := .fz ([D.non, .fz (ns.map D.int), .tup (ns.map D.int ++ [.int 0]), .int 0, .str ""] ++ [.tup ((ns.map D.int).drop 1)] ++ [D.int v, .int (-1), .non, .bl true, .str "0"].map (putD (ns.map D.int) c))) (S' := S1) ?_)).trans rfl
      have s1 : evE (runF fs k) (.cat false (.var 3) (.lst false [(.slc false (.var 2) (.ex (.cst (.int 1))) .no)])) [some (.ref r), some (.int v), some (dI ns), some (.fz [D.non, .fz (ns.map D.int), .tup (ns.map D.int ++ [.int 0]), .int 0, .str ""]), some (.int c), none] S1 = .ok (.fz ([D.non, .fz (ns.map D.int), .tup (ns.map D.int ++ [.int 0]), .int 0, .str ""] ++ [.tup ((ns.map D.int).drop 1)])) S1 := by
        simp [evE, evEs, evP, mbind_ap, mret_ap, bind_ok, varM, newL, line_val, dI, slcP, intO, cut_from1, catM, tlsOf]
      refine ev_cat s1 eL ?_
      simp [catM, tlsOf, newL, line_val]
    refine (evSs_cons eI).trans ?_
    refine evSs_ret ?_
    simp only [evE, evEs, mbind_ap, mret_ap, bind_ok, varM, List.getElem?_cons_succ, List.getElem?_cons_zero]
    exact e
end Pu

namespace Pu
open PySem PySem.Spec PyProof.Rows L2
theorem mem_dl {α : Type} {xs : List α} {d : α} (h : d ∈ xs.dropLast) : d ∈ xs := by
  rw [List.dropLast_eq_take] at h
  exact List.mem_of_mem_take h
theorem twice_last {α : Type} {xs : List α} (h : xs ≠ []) : ∃ p a, xs ++ xs.drop (xs.length - 1) = p ++ a :: a :: [] ∧ ∀ d ∈ p ++ a :: a :: [], d ∈ xs := by
  rcases List.eq_nil_or_concat xs with e | ⟨p, a, e⟩
  · exact absurd e h
  · rw [List.concat_eq_append] at e
    subst e
    refine ⟨p, a, by simp, fun d hd => ?_⟩
    simpa using hd
theorem twice_at {α : Type} {xs : List α} {c : Nat} (h : c < xs.length) : xs.take (c + 1) ++ xs.drop c = xs.take c ++ xs[c] :: xs[c] :: xs.drop (c + 1) := by
  have h1 : xs.take (c + 1) = xs.take c ++ [xs[c]] := by rw [List.take_add_one, List.getElem?_eq_getElem h]; rfl
  have h2 : xs.drop c = xs[c] :: xs.drop (c + 1) := List.drop_eq_getElem_cons h
  rw [h1, List.append_assoc]
  conv => lhs; rw [h2]
  rfl
def last2 (rest : List D) (g : D → List D) : List D := match rest with
  | [_, y] => g y
  | _ => []
/-- what no change of an item may be -/
structure BadIt (v n : Nat) (high : Int) (P : D → Bool) (row : D) (rest : List D) : Prop where
  fit' : ∀ d ∈ row :: rest, fit d = true
  rowI : ∃ ns, row = dI ns ∧ ns.length = n
  few : rest.length = 1 ∨ rest.length = 2
  lst : P (.fz (row :: rest)) = false
  cut : P (.tup (row :: rest).dropLast) = false
  more : P (.tup (row :: rest ++ [.int 0])) = false
  row' : ∀ o, rowB v n o = false → P (.tup (o :: rest)) = false
  last : ∀ o, (∀ i, o = .int i → i < 0 ∨ high ≤ i) → P (.tup ((row :: rest).dropLast ++ [o])) = false
  mid : ∀ a b o, rest = [a, b] → (∀ i, o = .int i → i < 1 ∨ 1000000 < i) → P (.tup [row, o, b]) = false
theorem badIt_tab {v n : Nat} {ns : List Int} {c : Int} (h : ns.length = n) (hn : n ≤ 6) : BadIt v n 101 (pricedB v n) (dI ns) [.int c] where
  fit' := by
    intro d hd
    simp only [List.mem_cons, List.not_mem_nil, or_false] at hd
    rcases hd with rfl | rfl
    · exact fit_dI (by rw [line_val]; omega)
    · rfl
  rowI := ⟨ns, rfl, h⟩
  few := .inl rfl
  lst := rfl
  cut := rfl
  more := rfl
  row' := fun o ho => by simp [pricedB, ho]
  last := fun o ho => by
    simp only [List.dropLast, List.cons_append, List.nil_append, pricedB]
    rw [Bool.and_eq_false_iff]; right
    cases o <;> simp only [isInt]
    rename_i i
    have := ho i rfl
    simp; omega
  mid := fun a b o h => by simp at h
theorem badIt_mes {v n : Nat} {ns : List Int} {c l : Int} (h : ns.length = n) (hn : n ≤ 6) : BadIt v n 10001 (toldB v n) (dI ns) [.int c, .int l] where
  fit' := by
    intro d hd
    simp only [List.mem_cons, List.not_mem_nil, or_false] at hd
    rcases hd with rfl | rfl | rfl
    · exact fit_dI (by rw [line_val]; omega)
    · rfl
    · rfl
  rowI := ⟨ns, rfl, h⟩
  few := .inr rfl
  lst := rfl
  cut := rfl
  more := rfl
  row' := fun o ho => by simp [toldB, ho]
  last := fun o ho => by
    simp only [List.dropLast, List.cons_append, List.nil_append, toldB]
    rw [Bool.and_eq_false_iff]; right
    rw [Bool.and_eq_false_iff]; right
    cases o <;> simp only [isInt]
    rename_i i
    have := ho i rfl
    simp; omega
  mid := fun a b o h ho => by
    simp only [toldB]
    rw [Bool.and_eq_false_iff]; right
    rw [Bool.and_eq_false_iff]; left
    cases o <;> simp only [isInt]
    rename_i i
    have := ho i rfl
    simp; omega
structure BadOf (v n : Nat) (high : Int) (P B : D → Bool) (its : List D) : Prop where
  ne : its ≠ []
  len : its.length ≤ 729
  item : ∀ d ∈ its, ∃ row rest, d = .tup (row :: rest) ∧ BadIt v n high P row rest
  asc : (its.map fst0).Pairwise fun a b => HT.lexLt a b = true
  b : ∀ x, B x = true → ∃ xs, x = .tup xs ∧ (∀ d ∈ xs, P d = true) ∧ ascB HT.lexLt (xs.map fst0) = true
  pt : ∀ x, P x = true → ∃ xs, x = .tup xs ∧ xs ≠ []
section
variable {v n : Nat} {high : Int} {P B : D → Bool} {its : List D}
/-- fit, and refused -/
def BadD (B : D → Bool) (x : D) : Prop := fit x = true ∧ B x = false
theorem BadOf.its_fit (h : BadOf v n high P B its) : ∀ d ∈ its, fit d = true := fun d hd => by
  obtain ⟨row, rest, rfl, hb⟩ := h.item d hd
  refine fit_tup.mpr ⟨?_, hb.fit'⟩
  have := hb.few
  simp only [List.length_cons]
  rw [line_val]; omega
theorem BadOf.put (h : BadOf v n high P B its) {m : Nat} {o : D} (hf : fit o = true) (ho : P o = false) : BadD B (putD its m o) := by
  refine ⟨fit_put (by have := h.len; omega) h.its_fit hf, ?_⟩
  cases hb : B (putD its m o) with
  | false => rfl
  | true =>
    obtain ⟨xs, e, h1, _⟩ := h.b _ hb
    unfold putD at e
    cases e
    rw [h1 o (by simp)] at ho
    cases ho
theorem BadOf.ntup (h : BadOf v n high P B its) {x : D} (hf : fit x = true) (hx : ∀ xs, x ≠ .tup xs) : BadD B x := by
  refine ⟨hf, ?_⟩
  cases hb : B x with
  | false => rfl
  | true =>
    obtain ⟨xs, e, _⟩ := h.b _ hb
    exact absurd e (hx xs)
theorem BadOf.twice (h : BadOf v n high P B its) {p q : List D} {a b : D} (hf : ∀ d ∈ p ++ a :: b :: q, d ∈ its) (hl : (p ++ a :: b :: q).length ≤ line) (hab : HT.lexLt (fst0 a) (fst0 b) = false) : BadD B (.tup (p ++ a :: b :: q)) := by
  refine ⟨fit_tup.mpr ⟨hl, fun d hd => h.its_fit d (hf d hd)⟩, ?_⟩
  cases hb : B (.tup (p ++ a :: b :: q)) with
  | false => rfl
  | true =>
    obtain ⟨xs, e, _, h2⟩ := h.b _ hb
    cases e
    rw [List.map_append, List.map_cons, List.map_cons, ascB_app _ hab] at h2
    cases h2
end
theorem lc_loopMap {F : Nat → List D → M D} {elt : X'} {tg : Tg} {it : I'} {ws : List Nat} {ρ : Env'} {S S1 : Sto} {src : Src} {xs : List D} (g : D → D) (hi : evI F it ρ S = .ok src S1) (hsrc : ∀ i, src.nxt i S1 = some xs[i]?) (hn : xs.length ≤ src.n) (hl : xs.length ≤ line)
    (hstep : ∀ d ∈ xs, ∃ ρ', tgSet tg d (wipeE ρ ws) = some ρ' ∧ evE F elt ρ' S1 = .ok (g d) S1) : evE F (.lc true elt tg it [] ws) ρ S = .ok (.ref S1.length) (S1 ++ [.lst (xs.map g)]) := by
  have key := lc_pure (elt := evE F elt) (ifs := evTs F []) (tg := tg) (ρ := wipeE ρ ws) (items := xs) (src := src) (S := S1) (fun d => some (g d)) hl hsrc hn (fun d hd => by
    obtain ⟨ρ', h1, h2⟩ := hstep d hd
    simp [stepM, h1, evTs, mret_ap, bind_ok, mbind_ap, h2])
  rw [ev_lc hi key, newL_own (by simpa using hl)]
  simp
theorem ev_extend {F : Nat → List D → M D} {a e : X'} {ρ : Env'} {S2 : Sto} {l1 l2 : List D} (h0 : evE F a ρ (S2 ++ [.lst l1]) = .ok (.ref S2.length) (S2 ++ [.lst l1])) (h1 : evE F e ρ (S2 ++ [.lst l1]) = .ok (.fz l2) (S2 ++ [.lst l1])) (hl : l1.length + l2.length ≤ line) :
    evE F (.mth .extend a [e]) ρ (S2 ++ [.lst l1]) = .ok .non (S2 ++ [.lst (l1 ++ l2)]) := by
  rw [evE]
  simp only [mbind_ap, h0, bind_ok, get_last, evEs, h1, mret_ap, mthM, extendM, tlsOf]
  rw [if_pos hl, set_last]
theorem ev_append {F : Nat → List D → M D} {a e : X'} {ρ : Env'} {S2 : Sto} {l1 : List D} {x : D} (h0 : evE F a ρ (S2 ++ [.lst l1]) = .ok (.ref S2.length) (S2 ++ [.lst l1])) (h1 : evE F e ρ (S2 ++ [.lst l1]) = .ok x (S2 ++ [.lst l1])) (hl : l1.length < line) :
    evE F (.mth .append a [e]) ρ (S2 ++ [.lst l1]) = .ok .non (S2 ++ [.lst (l1 ++ [x])]) := by
  rw [evE]
  simp only [mbind_ap, h0, bind_ok, get_last, evEs, h1, mret_ap, mthM, appendM]
  rw [if_pos hl, set_last]
/-- a list that is written, walked -/
theorem evI_lit {F : Nat → List D → M D} {es : List X'} {ρ : Env'} {S S1 : Sto} {xs : List D} (h : evEs F es ρ S = .ok xs S1) (hl : xs.length ≤ line) : evI F (.seq (.lst false es)) ρ S = .ok ⟨xs.length, fun i _ => some xs[i]?⟩ S1 := by
  refine evI_seq (d := .fz xs) ?_ rfl
  simp only [evE, mbind_ap, h, bind_ok]
  exact newL_fz hl
def fBad (iNext iPut iBadRow iPick : Nat) : Fn' := ⟨8, [(.set 4 (.call iNext [(.var 0), (.blt .len [(.var 2)])])), (.set 5 (.idx (.var 2) (.var 4))), (.set 6 (.lc true (.call iPut [(.var 2), (.var 4), (.var 7)]) (.nm 7) (.seq (.lst false [(.cst .non), (.blt (.list false) [(.var 5)]), (.slc false (.var 5) .no (.ex (.neg (.cst (.int 1))))), (.cat false (.var 5) (.tup [(.cst (.int 0))])), (.tup []), (.cat false (.tup [(.call iBadRow [(.var 0), (.var 1), (.idx (.var 5) (.cst (.int 0)))])]) (.slc false (.var 5) (.ex (.cst (.int 1))) .no))])) [] [7])), (.expr (.mth .extend (.var 6) [(.lc false (.call iPut [(.var 2), (.var 4), (.cat false (.slc false (.var 5) .no (.ex (.neg (.cst (.int 1))))) (.tup [(.var 7)]))]) (.nm 7) (.seq (.lst false [(.neg (.cst (.int 1))), (.var 3), (.cst .non), (.cst (.bl true)), (.cst (.str "1"))])) [] [7])])), (.expr (.mth .extend (.var 6) [(.lst false [(.cat false (.var 2) (.slc false (.var 2) (.ex (.neg (.cst (.int 1)))) .no)), (.cat false (.slc false (.var 2) .no (.ex (.cat false (.var 4) (.cst (.int 1))))) (.slc false (.var 2) (.ex (.var 4)) .no)), (.blt (.list false) [(.var 2)]), (.cst .non), (.cst (.int 0))])])), (.ife (.bv (.cmp .Gt (.blt .len [(.var 2)]) (.cst (.int 1)))) [(.expr (.mth .append (.var 6) [(.rev false (.var 2))]))] []), (.ife (.bv (.cmp .Eq (.blt .len [(.var 5)]) (.cst (.int 3)))) [(.expr (.mth .extend (.var 6) [(.lc false (.call iPut [(.var 2), (.var 4), (.tup [(.idx (.var 5) (.cst (.int 0))), (.var 7), (.idx (.var 5) (.cst (.int 2)))])]) (.nm 7) (.seq (.lst false [(.cst (.int 0)), (.neg (.cst (.int 1))), (.cst (.int 1000001)), (.cst .non), (.cst (.bl true)), (.cst (.str "1"))])) [] [7])]))] []), (.ret (.call iPick [(.var 0), (.var 6)]))]⟩
def IsBad (F : Nat → List D → M D) (i : Nat) : Prop := ∀ (S : Sto) (r v n : Nat) (high : Int) (P B : D → Bool) (its : List D), StrAt S r → n ≤ 6 → BadOf v n high P B its → ∃ x S', F i [.ref r, .int v, .tup its, .int high] S = .ok x S' ∧ BadD B x ∧ Adv r S S'
theorem isBad_of {fs : List Fn'} {i iNext iPut iBadRow iPick k : Nat} (h : fs[i]? = some (fBad iNext iPut iBadRow iPick)) (hN : IsNext (runF fs k) iNext) (hQ : IsPut (runF fs k) iPut) (hR : IsBadRow (runF fs k) iBadRow) (hP : IsPick (runF fs k) iPick) : IsBad (runF fs (k + 1)) i := fun S r v n high P B its hs hn hb => by
  simp only [runF, h]
  have hr := hs.lt
  have hlen := hb.len
  have hpos : 0 < its.length := List.length_pos_iff.mpr hb.ne
  -- the place
  obtain ⟨c, S1, e1, c0, c1, a1, l1⟩ := hN S r its.length hs (by omega) (by omega)
  obtain ⟨c, rfl⟩ := Int.eq_ofNat_of_zero_le c0
  have hc : c < its.length := by omega
  obtain ⟨row, rest, hit, hbi⟩ := hb.item its[c] (List.getElem_mem hc)
  obtain ⟨ns, rfl, hns⟩ := hbi.rowI
  have hfew := hbi.few
  have hrl : rest.length ≤ 2 := by omega
  -- the bad row
  obtain ⟨br, S2, e2, ⟨bf, bb⟩, a2⟩ := hR S1 r v n ns a1.1 hns hn
  have hput : ∀ (o : D) (S : Sto), runF fs k iPut [.tup its, .int (c : Int), o] S = .ok (putD its c o) S := fun o S => hQ _ c o S hc (by omega)
  -- the texts' values
  have hat : atI its (c : Int) = some (.tup (dI ns :: rest)) := by
    have := atI_nat (xs := its) (j := c) (v := its[c]) (List.getElem?_eq_getElem hc)
    rw [hit] at this
    exact this
  have o1 : ∀ S : Sto, cutD (dI ns :: rest) none (some (-1)) = (dI ns :: rest).dropLast := fun _ => cut_toLast _
  generalize hO1 : [D.non, .fz (dI ns :: rest), .tup (dI ns :: rest).dropLast, .tup (dI ns :: rest ++ [.int 0]), .tup [], .tup (br :: rest)] = O1
  generalize hO2 : [D.int (-1), .int high, .non, .bl true, .str "1"] = O2
  generalize hO3 : [D.tup (its ++ its.drop (its.length - 1)), .tup (its.take (c + 1) ++ its.drop c), .fz its, .non, .int 0] = O3
  generalize hO4 : [D.int 0, .int (-1), .int 1000001, .non, .bl true, .str "1"] = O4
  have hcs : rest.length + 1 + 1 ≤ 16777216 := by omega
  have hcs' : rest.length + 1 ≤ 16777216 := by omega
  have hits : its.length ≤ 16777216 := by omega
  let ρ (w : Option D) : Env' := [some (.ref r), some (.int v), some (.tup its), some (.int high), some (.int c), some (.tup (dI ns :: rest)), w, none]
  have eO1 : evEs (runF fs k) [(.cst .non), (.blt (.list false) [(.var 5)]), (.slc false (.var 5) .no (.ex (.neg (.cst (.int 1))))), (.cat false (.var 5) (.tup [(.cst (.int 0))])), (.tup []), (.cat false (.tup [(.call iBadRow [(.var 0), (.var 1), (.idx (.var 5) (.cst (.int 0)))])]) (.slc false (.var 5) (.ex (.cst (.int 1))) .no))] (ρ none) S1 = .ok O1 S2 := by
    subst hO1
    simp [ρ, evE, evEs, evP, mbind_ap, mret_ap, bind_ok, varM, newL, newT, line_val, bltM, listM, seqOf, catM, hcs, hcs', slcP, intO, negM, cut_toLast, cut_from1, idxM, atI_0, e2]
  have eW1 : evE (runF fs k) (.lc true (.call iPut [(.var 2), (.var 4), (.var 7)]) (.nm 7) (.seq (.lst false [(.cst .non), (.blt (.list false) [(.var 5)]), (.slc false (.var 5) .no (.ex (.neg (.cst (.int 1))))), (.cat false (.var 5) (.tup [(.cst (.int 0))])), (.tup []), (.cat false (.tup [(.call iBadRow [(.var 0), (.var 1), (.idx (.var 5) (.cst (.int 0)))])]) (.slc false (.var 5) (.ex (.cst (.int 1))) .no))])) [] [7]) (ρ none) S1
      = .ok (.ref S2.length) (S2 ++ [.lst (O1.map (putD its c))]) := by
    refine lc_loopMap (putD its c) (xs := O1) (evI_lit eO1 (by subst hO1; simp [line_val])) (fun i => rfl) (Nat.le_refl _) (by subst hO1; simp [line_val]) (fun d _ => ⟨_, rfl, ?_⟩)
    simp [ρ, evE, evEs, mbind_ap, mret_ap, bind_ok, varM, wipeE, hput]
  generalize hT1 : S2.length = id
  let ρ' : Env' := ρ (some (.ref id))
  have eW2 : ∀ S : Sto, evE (runF fs k) (.lc false (.call iPut [(.var 2), (.var 4), (.cat false (.slc false (.var 5) .no (.ex (.neg (.cst (.int 1))))) (.tup [(.var 7)]))]) (.nm 7) (.seq (.lst false [(.neg (.cst (.int 1))), (.var 3), (.cst .non), (.cst (.bl true)), (.cst (.str "1"))])) [] [7]) ρ' S
      = .ok (.fz (O2.map fun o => putD its c (.tup ((dI ns :: rest).dropLast ++ [o])))) S := fun S => by
    refine lc_map (fun o => putD its c (.tup ((dI ns :: rest).dropLast ++ [o]))) (xs := O2) (evI_lit (by subst hO2; simp [ρ', ρ, evE, evEs, mbind_ap, mret_ap, bind_ok, varM, negM]) (by subst hO2; simp [line_val])) (fun i => rfl) (Nat.le_refl _) (by subst hO2; simp [line_val]) (fun d _ => ⟨_, rfl, ?_⟩)
    simp [ρ', ρ, evE, evEs, evP, mbind_ap, mret_ap, bind_ok, varM, wipeE, slcP, intO, negM, cut_toLast, newT, line_val, catM, hcs', hput]
  have hci : (0 : Int) ≤ c := by omega
  have cu1 := cut_to (xs := its) (n := c + 1) (by omega)
  have cu2 := cut_from (xs := its) (n := c) (by omega)
  simp only [Int.natCast_add, Int.cast_ofNat_Int] at cu1
  have b1 : its.length + (its.length - (its.length - 1)) ≤ 16777216 := by omega
  have b2 : min (c + 1) its.length + (its.length - c) ≤ 16777216 := by omega
  have eW3 : ∀ S : Sto, evE (runF fs k) (.lst false [(.cat false (.var 2) (.slc false (.var 2) (.ex (.neg (.cst (.int 1)))) .no)), (.cat false (.slc false (.var 2) .no (.ex (.cat false (.var 4) (.cst (.int 1))))) (.slc false (.var 2) (.ex (.var 4)) .no)), (.blt (.list false) [(.var 2)]), (.cst .non), (.cst (.int 0))]) ρ' S = .ok (.fz O3) S := fun S => by
    subst hO3
    simp [ρ', ρ, evE, evEs, evP, mbind_ap, mret_ap, bind_ok, varM, slcP, intO, negM, cut_last, catM, cu1, cu2, newT, newL, line_val, b1, b2, bltM, listM, seqOf, hits]
  have eW4 : ∀ S : Sto, evE (runF fs k) (.rev false (.var 2)) ρ' S = .ok (.tup its.reverse) S := fun S => by
    simp [ρ', ρ, evE, mbind_ap, bind_ok, varM, revM]
  have eW5 : ∀ (x y : D) (S : Sto), rest = [x, y] → evE (runF fs k) (.lc false (.call iPut [(.var 2), (.var 4), (.tup [(.idx (.var 5) (.cst (.int 0))), (.var 7), (.idx (.var 5) (.cst (.int 2)))])]) (.nm 7) (.seq (.lst false [(.cst (.int 0)), (.neg (.cst (.int 1))), (.cst (.int 1000001)), (.cst .non), (.cst (.bl true)), (.cst (.str "1"))])) [] [7]) ρ' S
      = .ok (.fz (O4.map fun o => putD its c (.tup [dI ns, o, y]))) S := fun x y S hxy => by
    refine lc_map (fun o => putD its c (.tup [dI ns, o, y])) (xs := O4) (evI_lit (by subst hO4; simp [ρ', ρ, evE, evEs, mbind_ap, mret_ap, bind_ok, varM, negM]) (by subst hO4; simp [line_val])) (fun i => rfl) (Nat.le_refl _) (by subst hO4; simp [line_val]) (fun d _ => ⟨_, rfl, ?_⟩)
    simp [ρ', ρ, evE, evEs, evP, mbind_ap, mret_ap, bind_ok, varM, wipeE, idxM, seqOf, atI_0, hxy, atI_2, newT, line_val, hput]
  -- all that may be picked
  let W4 : List D := if 1 < its.length then [.tup its.reverse] else []
  let W5 : List D := last2 rest fun y => O4.map fun o => putD its c (.tup [dI ns, o, y])
  generalize hW : O1.map (putD its c) ++ O2.map (fun o => putD its c (.tup ((dI ns :: rest).dropLast ++ [o]))) ++ O3 ++ W4 ++ W5 = W
  have hbad : ∀ x ∈ W, BadD B x := by
    subst hW
    have hrf : ∀ d ∈ rest, fit d = true := fun d hd => hbi.fit' d (by simp [hd])
    have hdf : fit (dI ns) = true := hbi.fit' _ (by simp)
    have tf : ∀ cs : List D, cs.length ≤ 10 → (∀ d ∈ cs, fit d = true) → fit (.tup cs) = true := fun cs h1 h2 => fit_tup.mpr ⟨by rw [line_val]; omega, h2⟩
    have hdl : (dI ns :: rest).dropLast.length ≤ 3 := by simp; omega
    intro x hx
    simp only [List.mem_append] at hx
    rcases hx with (((hx | hx) | hx) | hx) | hx
    · obtain ⟨o, ho, rfl⟩ := List.mem_map.mp hx
      subst hO1
      simp only [List.mem_cons, List.not_mem_nil, or_false] at ho
      have pN : ∀ x, (∀ xs, x ≠ .tup xs) → P x = false := fun x hx => by
        cases hp : P x with
        | false => rfl
        | true => obtain ⟨xs, e, _⟩ := hb.pt _ hp; exact absurd e (hx xs)
      rcases ho with rfl | rfl | rfl | rfl | rfl | rfl
      · exact hb.put rfl (pN _ (by simp))
      · exact hb.put (by simp only [fit]; exact fits_all.mpr hbi.fit') hbi.lst
      · exact hb.put (tf _ (by omega) (fun d hd => hbi.fit' d (mem_dl hd))) hbi.cut
      · exact hb.put (tf _ (by simp; omega) (fit_app hbi.fit' (by simp [fit_int]))) hbi.more
      · refine hb.put (tf _ (by simp) (by simp)) ?_
        cases hp : P (.tup []) with
        | false => rfl
        | true => obtain ⟨xs, e, ne⟩ := hb.pt _ hp; cases e; exact absurd rfl ne
      · refine hb.put (tf _ (by simp; omega) ?_) (hbi.row' _ bb)
        intro d hd
        rcases List.mem_cons.mp hd with rfl | hd
        · exact bf
        · exact hrf d hd
    · obtain ⟨o, ho, rfl⟩ := List.mem_map.mp hx
      subst hO2
      simp only [List.mem_cons, List.not_mem_nil, or_false] at ho
      refine hb.put (tf _ (by simp; omega) (fit_app (fun d hd => hbi.fit' d (mem_dl hd)) ?_)) (hbi.last o ?_)
      · rcases ho with rfl | rfl | rfl | rfl | rfl <;> simp [fit]
      · intro i hi
        subst hi
        rcases ho with ho | ho | ho | ho | ho <;> cases ho
        · left; omega
        · right; omega
    · subst hO3
      simp only [List.mem_cons, List.not_mem_nil, or_false] at hx
      have irr : HT.lexLt (fst0 its[c]) (fst0 its[c]) = false := lexLt_irrefl _
      rcases hx with rfl | rfl | rfl | rfl | rfl
      · obtain ⟨p, a, e, hm⟩ := twice_last hb.ne
        have hl2 := congrArg List.length e
        rw [e]
        exact hb.twice hm (by rw [← hl2, line_val]; simp; omega) (lexLt_irrefl _)
      · have e := twice_at hc
        rw [e]
        refine hb.twice (fun d hd => ?_) (by simp [line_val]; omega) (lexLt_irrefl _)
        simp only [List.mem_append, List.mem_cons] at hd
        rcases hd with hd | rfl | rfl | hd
        · exact List.mem_of_mem_take hd
        · exact List.getElem_mem hc
        · exact List.getElem_mem hc
        · exact List.mem_of_mem_drop hd
      · exact hb.ntup (by simp only [fit]; exact fits_all.mpr hb.its_fit) (by simp)
      · exact hb.ntup rfl (by simp)
      · exact hb.ntup rfl (by simp)
    · by_cases h1 : 1 < its.length
      · have hx : x ∈ [D.tup its.reverse] := by simpa [W4, h1] using hx
        rw [List.mem_singleton.mp hx]
        have hasc := hb.asc
        have hfit := hb.its_fit
        obtain ⟨a, b, l, rfl⟩ : ∃ a b l, its = a :: b :: l := by
          match its, h1 with
          | a :: b :: l, _ => exact ⟨a, b, l, rfl⟩
          | [], h => simp at h
          | [_], h => simp at h
        have e : (a :: b :: l).reverse = l.reverse ++ b :: a :: [] := by simp
        rw [e]
        refine hb.twice (fun d hd => ?_) (by simp [line_val] at hlen ⊢; omega) ?_
        · rw [← e] at hd; exact List.mem_reverse.mp hd
        · simp only [List.map_cons, List.pairwise_cons] at hasc
          have := hasc.1 (fst0 b) (by simp)
          cases hq : HT.lexLt (fst0 b) (fst0 a) with
          | false => rfl
          | true =>
            have := lexLt_trans this hq
            rw [lexLt_irrefl] at this
            cases this
      · have hx : x ∈ ([] : List D) := by simpa [W4, h1] using hx
        simp at hx
    · have hx : x ∈ last2 rest fun y => O4.map fun o => putD its c (.tup [dI ns, o, y]) := hx
      unfold last2 at hx
      split at hx
      · obtain ⟨o, ho, rfl⟩ := List.mem_map.mp hx
        subst hO4
        simp only [List.mem_cons, List.not_mem_nil, or_false] at ho
        refine hb.put (tf _ (by simp) ?_) (hbi.mid _ _ o rfl ?_)
        · intro d hd
          simp only [List.mem_cons, List.not_mem_nil, or_false] at hd
          rcases hd with rfl | rfl | rfl
          · exact hdf
          · rcases ho with rfl | rfl | rfl | rfl | rfl | rfl <;> rfl
          · exact hrf _ (by simp)
        · intro i hi
          subst hi
          rcases ho with ho | ho | ho | ho | ho | ho <;> cases ho <;> omega
      · simp at hx
  have hWne : W ≠ [] := by subst hW; subst hO1; simp
  have hWl : W.length ≤ 100 := by
    subst hW; subst hO1; subst hO2; subst hO3
    have h4 : W4.length ≤ 1 := by simp only [W4]; split <;> simp
    have h5 : W5.length ≤ 6 := by
      show (last2 rest fun y => O4.map fun o => putD its c (.tup [dI ns, o, y])).length ≤ 6
      unfold last2
      split
      · subst hO4; simp
      · simp
    simp; omega
  -- the run
  have hid : r ≠ id := by
    have := a2.1.lt
    omega
  have aT : Adv r S1 (S2 ++ [.lst W]) := a2.trans a1.1.lt (.app a2.1 _)
  have hseq : (S2 ++ [.lst W])[id]? = some (.lst W) := by subst hT1; exact get_last _ _
  obtain ⟨x, S3, e3, m3, a3, _⟩ := hP (S2 ++ [.lst W]) r (.ref id) W aT.1 (by simp only [seqOf, lstOf, hseq]) (fun S' a => by simp only [seqOf, lstOf, a.keep (fun e => hid e.symm) hseq]) hWne (by omega)
  refine ⟨x, S3, ?_, hbad x m3, (a1.trans hr aT).trans hr a3⟩
  refine runB_of ?_
  refine (evSs_cons (evS_set (x := .int c) (S' := S1) ?_)).trans ?_
  · simp [evE, evEs, mbind_ap, mret_ap, bind_ok, varM, envOf, bltM, lenM, seqOf]; exact e1
  refine (evSs_cons (evS_set (x := .tup (dI ns :: rest)) (S' := S1) ?_)).trans ?_
  · simp [evE, evEs, mbind_ap, mret_ap, bind_ok, varM, envOf, idxM, seqOf, hat]
  refine (evSs_cons (evS_set eW1)).trans ?_
  subst hT1
  have v6 : ∀ S : Sto, evE (runF fs k) (.var 6) ρ' S = .ok (.ref S2.length) S := fun S => by simp [ρ', ρ, evE, varM]
  refine (evSs_cons (ρ' := ρ') (evS_expr (ev_extend (v6 _) (eW2 _) (by subst hO1; subst hO2; simp [line_val])))).trans ?_
  refine (evSs_cons (ρ' := ρ') (evS_expr (ev_extend (v6 _) (eW3 _) (by subst hO1; subst hO2; subst hO3; simp [line_val])))).trans ?_
  refine (evSs_cons (ρ' := ρ') (S' := S2 ++ [.lst (O1.map (putD its c) ++ O2.map (fun o => putD its c (.tup ((dI ns :: rest).dropLast ++ [o]))) ++ O3 ++ W4)]) ?_).trans ?_
  · have t : ∀ S : Sto, evT (runF fs k) (.bv (.cmp .Gt (.blt .len [(.var 2)]) (.cst (.int 1)))) ρ' S = .ok (decide (1 < its.length)) S := fun S => by
      simp [ρ', ρ, evT, evE, evEs, mbind_ap, mret_ap, bind_ok, varM, bltM, lenM, seqOf, cmpM, blM]
      omega
    simp only [evS, mbind_ap, t, bind_ok]
    by_cases h1 : 1 < its.length
    · simp only [W4, h1, decide_true, if_true]
      exact (evSs_cons (evS_expr (ev_append (v6 _) (eW4 _) (by subst hO1; subst hO2; subst hO3; simp [line_val])))).trans rfl
    · simp only [W4, h1, decide_false, Bool.false_eq_true, if_false, List.append_nil]
      rfl
  refine (evSs_cons (ρ' := ρ') (S' := S2 ++ [.lst W]) ?_).trans ?_
  · have t : ∀ S : Sto, evT (runF fs k) (.bv (.cmp .Eq (.blt .len [(.var 5)]) (.cst (.int 3)))) ρ' S = .ok (decide (rest.length = 2)) S := fun S => by
      simp [ρ', ρ, evT, evE, evEs, mbind_ap, mret_ap, bind_ok, varM, bltM, lenM, seqOf, cmpM, blM]
      omega
    simp only [evS, mbind_ap, t, bind_ok]
    by_cases h2 : rest.length = 2
    · obtain ⟨a, y, rfl⟩ : ∃ a y, rest = [a, y] := by
        match rest, h2 with
        | [a, y], _ => exact ⟨a, y, rfl⟩
      simp only [h2, decide_true, if_true]
      refine (evSs_cons (evS_expr (ev_extend (v6 _) (eW5 a y _ rfl) ?_))).trans ?_
      · have h4 : W4.length ≤ 1 := by simp only [W4]; split <;> simp
        subst hO1; subst hO2; subst hO3; subst hO4; simp [line_val]; omega
      · subst hW; rfl
    · simp only [h2, decide_false, Bool.false_eq_true, if_false]
      have e : W5 = [] := by
        show (last2 rest fun y => O4.map fun o => putD its c (.tup [dI ns, o, y])) = []
        unfold last2
        split
        · simp at h2
        · rfl
      rw [← hW, e, List.append_nil]
      rfl
  refine evSs_ret ?_
  simp only [evE, evEs, mbind_ap, mret_ap, bind_ok, varM, ρ', ρ, List.getElem?_cons_succ, List.getElem?_cons_zero]
  exact e3
end Pu

namespace Pu
open PySem PySem.Spec PyProof.Rows L2
/-! ## lists of truth values compared; the stream's beginning -/
def fEqual (iEqual iInt : Nat) : Fn' := ⟨3, [(.ife (.bv (.cmp .Is (.var 1) (.cst .non))) [(.ret (.cmp .Is (.var 0) (.cst .non)))] []), (.ife (.val (.isi (.var 1) .bool)) [(.ret (.and (.isi (.var 0) .bool) (.cmp .Eq (.var 0) (.var 1))))] []), (.ife (.val (.isi (.var 1) .int)) [(.ret (.and (.call iInt [(.var 0)]) (.cmp .Eq (.var 0) (.var 1))))] []), (.ife (.val (.isi (.var 1) .str)) [(.ret (.and (.isi (.var 0) .str) (.cmp .Eq (.var 0) (.var 1))))] []), (.ife (.and (.val (.isi (.var 1) .tuple)) (.not (.val (.isi (.var 0) .tuple)))) [(.ret (.cst (.bl false)))] []), (.ife (.and (.val (.isi (.var 1) .list)) (.not (.val (.isi (.var 0) .list)))) [(.ret (.cst (.bl false)))] []), (.ife (.bv (.cmp .NotEq (.blt .len [(.var 0)]) (.blt .len [(.var 1)]))) [(.ret (.cst (.bl false)))] []), (.ret (.blt .all [(.lc false (.call iEqual [(.idx (.var 0) (.var 2)), (.idx (.var 1) (.var 2))]) (.nm 2) (.rng (.blt .len [(.var 1)])) [] [2])]))]⟩
theorem run_eqB (F : Nat → List D → M D) (iE iI : Nat) (b : Bool) (S : Sto) : runB F (fEqual iE iI) [.bl b, .bl b] S = .ok (.bl true) S := by
  have h1 : ∀ b, SeqAt.shaped (.bool b) = true := fun b => by cases b <;> rfl
  have e : eqM false (.bl b) (.bl b) S = .ok (.bl true) S := by
    simp only [eqM, toPy, toPyG, h1, Bool.and_self, if_true, Bool.false_eq_true, if_false]
    cases b <;> rfl
  refine runB_of ?_
  refine (evSs_cons (ρ' := [some (.bl b), some (.bl b), none]) (S' := S) (by simp [evS, evSs, evT, evE, mbind_ap, mret_ap, bind_ok, varM, envOf, cmpM, isM, blM])).trans ?_
  simp [evSs, evS, evT, evE, mbind_ap, mret_ap, bind_ok, varM, isK, truM, blM, cmpM, e]
def IsEqBs (F : Nat → List D → M D) (i : Nat) : Prop := ∀ (bs : List Bool) (S : Sto), bs.length ≤ 1000 → F i [.fz (bs.map D.bl), .fz (bs.map D.bl)] S = .ok (.bl true) S
theorem isEqBs_of {fs : List Fn'} {i iI k : Nat} (h : fs[i]? = some (fEqual i iI)) : IsEqBs (runF fs (k + 2)) i := fun bs S hl => by
  have hb : ∀ (b : Bool) (S : Sto), runF fs (k + 1) i [.bl b, .bl b] S = .ok (.bl true) S := fun b S => by
    simp only [runF, h]
    exact run_eqB _ _ _ b S
  rw [show k + 2 = (k + 1) + 1 from rfl]
  generalize hF : k + 1 = k1 at hb ⊢
  simp only [runF, h]
  have eL : evE (runF fs k1) (.lc false (.call i [(.idx (.var 0) (.var 2)), (.idx (.var 1) (.var 2))]) (.nm 2) (.rng (.blt .len [(.var 1)])) [] [2]) [some (.fz (bs.map D.bl)), some (.fz (bs.map D.bl)), none] S = .ok (.fz (((List.range bs.length).map fun (o : Nat) => D.int (0 + (o : Int))).map fun _ => D.bl true)) S := by
    refine lc_map (fun _ => D.bl true) (src := rngOf 0 bs.length) ?_ (fun i => rng_nxt _ i S) (by simp [rngOf]) (by simp [line_val]; omega) (fun d hd => ⟨_, rfl, ?_⟩)
    · refine evI_rng ?_ (by omega)
      simp [evE, evEs, mbind_ap, mret_ap, bind_ok, varM, bltM, lenM, seqOf, lstOf]
    · obtain ⟨o, ho, rfl⟩ := List.mem_map.mp hd
      have ho := List.mem_range.mp ho
      have hat := atI_nat (xs := bs.map D.bl) (j := o) (v := .bl bs[o]) (by rw [List.getElem?_map, List.getElem?_eq_getElem ho]; rfl)
      simp [evE, evEs, mbind_ap, mret_ap, bind_ok, varM, wipeE, idxM, seqOf, lstOf, hat, hb]
  have eA := (ev_blt1 (b := .all) eL).trans (all_map (fun _ => true) _ S)
  have e1 : (((List.range bs.length).map fun (o : Nat) => D.int (0 + (o : Int))).all fun _ => true) = true := by simp
  rw [e1] at eA
  refine runB_of ?_
  refine (evSs_cons (ρ' := [some (.fz (bs.map D.bl)), some (.fz (bs.map D.bl)), none]) (S' := S) (by simp [evS, evSs, evT, evE, mbind_ap, mret_ap, bind_ok, varM, envOf, cmpM, isM, blM])).trans ?_
  refine (evSs_cons (ρ' := [some (.fz (bs.map D.bl)), some (.fz (bs.map D.bl)), none]) (S' := S) (by simp [evS, evSs, evT, evE, mbind_ap, mret_ap, bind_ok, varM, isK, truM])).trans ?_
  refine (evSs_cons (ρ' := [some (.fz (bs.map D.bl)), some (.fz (bs.map D.bl)), none]) (S' := S) (by simp [evS, evSs, evT, evE, mbind_ap, mret_ap, bind_ok, varM, isK, truM])).trans ?_
  refine (evSs_cons (ρ' := [some (.fz (bs.map D.bl)), some (.fz (bs.map D.bl)), none]) (S' := S) (by simp [evS, evSs, evT, evE, mbind_ap, mret_ap, bind_ok, varM, isK, truM])).trans ?_
  refine (evSs_cons (ρ' := [some (.fz (bs.map D.bl)), some (.fz (bs.map D.bl)), none]) (S' := S) (by simp [evS, evSs, evT, evE, mbind_ap, mret_ap, bind_ok, varM, isK, truM])).trans ?_
  refine (evSs_cons (ρ' := [some (.fz (bs.map D.bl)), some (.fz (bs.map D.bl)), none]) (S' := S) (by simp [evS, evSs, evT, evE, mbind_ap, mret_ap, bind_ok, varM, isK, truM])).trans ?_
  refine (evSs_cons (ρ' := [some (.fz (bs.map D.bl)), some (.fz (bs.map D.bl)), none]) (S' := S) (by simp [evS, evSs, evT, evE, evEs, mbind_ap, mret_ap, bind_ok, varM, bltM, lenM, seqOf, lstOf, cmpM, blM])).trans ?_
  exact evSs_ret eA
def fStream : Fn' := ⟨1, [(.ret (.lst true [(.blt (.list false) [(.var 0)]), (.cst (.int 0)), (.cst (.int 0))]))]⟩
theorem run_stream {fs : List Fn'} {i k : Nat} (h : fs[i]? = some fStream) (ns : List Int) (S : Sto) (hl : ns.length ≤ 63) : runF fs (k + 1) i [.fr (ns.map D.int)] S = .ok (.ref S.length) (S ++ [.lst [.fz (ns.map D.int), .int 0, .int 0]]) := by
  simp only [runF, h]
  refine run_ret ?_
  have hb : ns.length ≤ 16777216 := by omega
  simp [evE, evEs, mbind_ap, mret_ap, bind_ok, varM, envOf, bltM, listM, seqOf, lstOf, newL, line_val, hb]
theorem str_begin (ns : List Int) (hl : ns.length ≤ 63) (S : Sto) : StrAt (S ++ [.lst [.fz (ns.map D.int), .int 0, .int 0]]) S.length := ⟨ns, 0, 0, get_last _ _, by omega, by omega, hl⟩
/-- tuple([... for row in rows(values, len(variables))]) -/
theorem ev_tupRows {F : Nat → List D → M D} {iR a b j v : Nat} {elt : X'} {ρ : Env'} {S : Sto} {ss : List D} (g : List Int → D) (hR : IsRows F iR) (hv : v ≤ 3) (hn : ss.length ≤ 6) (ha : ρ[a]? = some (some (.int v))) (hb : ρ[b]? = some (some (.tup ss)))
    (hstep : ∀ row S, evE F elt ((wipeE ρ [j]).set j (some (dI row))) S = .ok (g row) S) :
    ∃ G, evE F (.blt .tuple [(.lc false elt (.nm j) (.seq (.call iR [(.var a), (.blt .len [(.var b)])])) [] [j])]) ρ S = .ok (.tup ((rowsL v ss.length).map g)) (S ++ G) := by
  obtain ⟨d, G, e, q⟩ := hR v ss.length S hv hn
  obtain ⟨src, h1, h2, h3⟩ := (show LstQ 0 d (S ++ G) ((rowsL v ss.length).map dI) by
    rcases q with q | ⟨id, e, _, q⟩
    · exact .inl q
    · exact .inr ⟨id, e, Nat.zero_le _, q⟩).srcA []
  have hlen := rows_le (v := v) (n := ss.length) hv hn
  rw [List.append_nil] at h1
  have h3' : ∀ i, src.nxt i (S ++ G) = some ((rowsL v ss.length).map dI)[i]? := fun i => by
    have := h3 i []
    rwa [List.append_nil] at this
  have eL : evE F (.lc false elt (.nm j) (.seq (.call iR [(.var a), (.blt .len [(.var b)])])) [] [j]) ρ S = .ok (.fz (((rowsL v ss.length).map dI).map fun d => match d with | .tup xs => g ((asInts xs).getD []) | _ => .non)) (S ++ G) := by
    refine lc_map _ (src := src) ?_ h3' (by rw [h2]; exact Nat.le_refl _) (by rw [List.length_map, line_val]; omega) (fun d hd => ⟨_, rfl, ?_⟩)
    · refine evI_seq (d := d) ?_ h1
      simp only [evE, evEs, mbind_ap, mret_ap, bind_ok, varM, ha, hb, bltM, lenM, seqOf, e]
    · obtain ⟨row, _, rfl⟩ := List.mem_map.mp hd
      rw [hstep row]
      simp only [dI, asInts_map, Option.getD_some]
  refine ⟨G, (ev_blt1 eL).trans ?_⟩
  simp only [bltM, tupleM, seqOf, lstOf, List.map_map]
  congr 2
  apply List.map_congr_left
  intro row _
  simp only [Function.comp, dI, asInts_map, Option.getD_some]
theorem rowsL_ne {v n : Nat} (hv : 0 < v) : rowsL v n ≠ [] := fun e => by
  have := rowsL_len v n
  rw [e] at this
  have h2 : 0 < v ^ n := Nat.pow_pos hv
  simp at this
  omega
def fullT (v n : Nat) : List (List Int × Int) := (rowsL v n).map fun row => (row, 100)
def highM (v n : Nat) : List (List Int × Int × Int) := (rowsL v n).map fun row => (row, 1000000, 10000)
theorem full_of (v n : Nat) : TabOf v n (fullT v n) := by
  refine ⟨by simp [fullT, List.map_map, Function.comp_def], fun p hp => ?_⟩
  obtain ⟨row, _, rfl⟩ := List.mem_map.mp hp
  simp
theorem high_of (v n : Nat) : MesOf v n (highM v n) := by
  refine ⟨by simp [highM, List.map_map, Function.comp_def], fun p hp => ?_⟩
  obtain ⟨row, _, rfl⟩ := List.mem_map.mp hp
  simp
theorem tabD_full (v n : Nat) : tabD (fullT v n) = (rowsL v n).map fun row => .tup [dI row, .int 100] := by simp [tabD, fullT, Function.comp_def]
theorem mesD_high (v n : Nat) : mesD (highM v n) = (rowsL v n).map fun row => .tup [dI row, .int 1000000, .int 10000] := by simp [mesD, highM, Function.comp_def]
theorem bad_full {v n : Nat} (h0 : 0 < v) (hv : v ≤ 3) (hn : n ≤ 6) : BadOf v n 101 (pricedB v n) (tableB v n) (tabD (fullT v n)) where
  ne := by rw [tabD_full]; simpa using rowsL_ne h0
  len := by rw [tabD_full]; simpa using rows_le hv hn
  item := fun d hd => by
    rw [tabD_full] at hd
    obtain ⟨row, hr, rfl⟩ := List.mem_map.mp hd
    exact ⟨dI row, [.int 100], rfl, badIt_tab (rowsL_mem.mp hr).1 hn⟩
  asc := by
    rw [tabD_full, List.map_map]
    have e : (fst0 ∘ fun row : List Int => D.tup [dI row, .int 100]) = id := by funext p; simp only [Function.comp, fst0_dI, id]
    rw [e, List.map_id]
    exact rowsL_asc v n
  b := fun x hx => by
    cases x <;> simp only [tableB, Bool.false_eq_true, Bool.and_eq_true] at hx
    exact ⟨_, rfl, List.all_eq_true.mp hx.1, hx.2⟩
  pt := fun x hx => by
    obtain ⟨ns, r, rfl⟩ := fst_row (.inl hx)
    exact ⟨_, rfl, by simp⟩
theorem bad_high {v n : Nat} (h0 : 0 < v) (hv : v ≤ 3) (hn : n ≤ 6) : BadOf v n 10001 (toldB v n) (messB v n) (mesD (highM v n)) where
  ne := by rw [mesD_high]; simpa using rowsL_ne h0
  len := by rw [mesD_high]; simpa using rows_le hv hn
  item := fun d hd => by
    rw [mesD_high] at hd
    obtain ⟨row, hr, rfl⟩ := List.mem_map.mp hd
    exact ⟨dI row, [.int 1000000, .int 10000], rfl, badIt_mes (rowsL_mem.mp hr).1 hn⟩
  asc := by
    rw [mesD_high, List.map_map]
    have e : (fst0 ∘ fun row : List Int => D.tup [dI row, .int 1000000, .int 10000]) = id := by funext p; simp only [Function.comp, fst0_dI, id]
    rw [e, List.map_id]
    exact rowsL_asc v n
  b := fun x hx => by
    cases x <;> simp only [messB, Bool.false_eq_true, Bool.and_eq_true] at hx
    exact ⟨_, rfl, List.all_eq_true.mp hx.1, hx.2⟩
  pt := fun x hx => by
    obtain ⟨ns, r, rfl⟩ := fst_row (.inr hx)
    exact ⟨_, rfl, by simp⟩
end Pu

namespace Tk01
open PySem L2 Pu
def topS (i : Nat) : Stmt := PySem.Challenge.pw_tabletalk_k01_forms_of_tables.main.body.getD i (.Pass ⟨0, 0, 0, 0⟩)
def d0 : FnD := ⟨"is_integer", topS 1, ["value", "low", "high"], ["value", "low", "high"]⟩
def d1 : FnD := ⟨"is_tuple", topS 2, ["value", "low", "high"], ["value", "low", "high"]⟩
def d2 : FnD := ⟨"is_ascending", topS 3, ["items"], ["items", "one", "other"]⟩
def d3 : FnD := ⟨"is_some", topS 10, ["value"], ["value", "item"]⟩
def d4 : FnD := ⟨"is_scope", topS 11, ["value"], ["value"]⟩
def d5 : FnD := ⟨"is_row", topS 12, ["values", "some", "value"], ["values", "some", "value", "item"]⟩
def d6 : FnD := ⟨"has_ascending_rows", topS 13, ["items"], ["items", "item"]⟩
def d7 : FnD := ⟨"is_priced_row", topS 14, ["values", "scope", "value"], ["values", "scope", "value"]⟩
def d8 : FnD := ⟨"is_table", topS 15, ["values", "scope", "value"], ["values", "scope", "value", "item"]⟩
def d9 : FnD := ⟨"is_told_row", topS 16, ["values", "some", "value"], ["values", "some", "value", "row", "count", "least"]⟩
def d10 : FnD := ⟨"is_message", topS 17, ["values", "some", "value"], ["values", "some", "value", "item"]⟩
def d11 : FnD := ⟨"_law_stream", topS 19, ["script"], ["script"]⟩
def d12 : FnD := ⟨"_law_next", topS 20, ["stream", "many"], ["stream", "many", "k", "cell", "digit"]⟩
def d13 : FnD := ⟨"_law_is_integer", topS 21, ["actual"], ["actual"]⟩
def d14 : FnD := ⟨"_law_equal", topS 22, ["actual", "due"], ["actual", "due", "at"]⟩
def d15 : FnD := ⟨"_law_pick", topS 23, ["stream", "rows"], ["stream", "rows"]⟩
def d16 : FnD := ⟨"_law_some", topS 24, ["stream", "most"], ["stream", "most", "left", "k"]⟩
def d17 : FnD := ⟨"_law_rows", topS 25, ["values", "many"], ["values", "many", "rows", "k", "longer", "row", "one"]⟩
def d18 : FnD := ⟨"_law_table", topS 26, ["stream", "values", "scope"], ["stream", "values", "scope", "share", "row"]⟩
def d19 : FnD := ⟨"_law_message", topS 27, ["stream", "values", "some"], ["stream", "values", "some", "share", "far", "rows", "row"]⟩
def d20 : FnD := ⟨"_law_put", topS 28, ["row", "at", "value"], ["row", "at", "value"]⟩
def d21 : FnD := ⟨"_law_bad_row", topS 29, ["stream", "values", "row"], ["stream", "values", "row", "wrong", "at", "odd"]⟩
def d22 : FnD := ⟨"_law_bad", topS 30, ["stream", "values", "items", "high"], ["stream", "values", "items", "high", "at", "item", "wrong", "odd"]⟩
def d23 : FnD := ⟨"law", topS 31, ["script"], ["script", "stream", "values", "scope", "some", "table", "message", "high", "row", "full", "told", "three", "one", "wrong", "odd", "turn"]⟩
def tab : List FnD := [d0, d1, d2, d3, d4, d5, d6, d7, d8, d9, d10, d11, d12, d13, d14, d15, d16, d17, d18, d19, d20, d21, d22, d23]
def G : Gi := ⟨[("is_integer", 0), ("is_tuple", 1), ("is_ascending", 2), ("is_some", 3), ("is_scope", 4), ("is_row", 5), ("has_ascending_rows", 6), ("is_priced_row", 7), ("is_table", 8), ("is_told_row", 9), ("is_message", 10), ("_law_stream", 11), ("_law_next", 12), ("_law_is_integer", 13), ("_law_equal", 14), ("_law_pick", 15), ("_law_some", 16), ("_law_rows", 17), ("_law_table", 18), ("_law_message", 19), ("_law_put", 20), ("_law_bad_row", 21), ("_law_bad", 22), ("law", 23)], [3, 3, 1, 1, 1, 3, 1, 3, 3, 3, 3, 1, 2, 1, 2, 2, 2, 2, 3, 3, 3, 3, 4, 1], [("MOST_VARIABLE", (.int 5)), ("MOST_IN_SCOPE", (.int 3)), ("MOST_TABLE_COST", (.int 100)), ("MOST_COUNT", (.int 1000000)), ("MOST_LEAST", (.int 10000))], [(43, 11), (79, 11), (84, 17), (108, 12)]⟩
/-- is_integer(value, low, high) -/
def f0 : Fn' := ⟨3, [(.ife (.or (.val (.isi (.var 0) .bool)) (.not (.val (.isi (.var 0) .int)))) [(.ret (.cst (.bl false)))] []), (.ret (.chn .LtE .LtE (.var 1) (.var 0) (.var 2)))]⟩
theorem b0 : bodyOf G d0 = some f0.body := by kernel_rfl
/-- is_tuple(value, low, high) -/
def f1 : Fn' := ⟨3, [(.ret (.and (.isi (.var 0) .tuple) (.chn .LtE .LtE (.var 1) (.blt .len [(.var 0)]) (.var 2))))]⟩
theorem b1 : bodyOf G d1 = some f1.body := by kernel_rfl
/-- is_ascending(items) -/
def f2 : Fn' := ⟨3, [(.ret (.blt .all [(.lc false (.cmp .Lt (.var 1) (.var 2)) (.tp [(.nm 1), (.nm 2)]) (.zip (.var 0) (.slc false (.var 0) (.ex (.cst (.int 1))) .no)) [] [1, 2])]))]⟩
theorem b2 : bodyOf G d2 = some f2.body := by kernel_rfl
/-- is_some(value) -/
def f3 : Fn' := ⟨2, [(.ife (.not (.val (.isi (.var 0) .tuple))) [(.ret (.cst (.bl false)))] []), (.ret (.and (.blt .all [(.lc false (.call 0 [(.var 1), (.cst (.int 0)), (.cst (.int 5))]) (.nm 1) (.seq (.var 0)) [] [1])]) (.call 2 [(.var 0)])))]⟩
theorem b3 : bodyOf G d3 = some f3.body := by kernel_rfl
/-- is_scope(value) -/
def f4 : Fn' := ⟨1, [(.ret (.and (.call 3 [(.var 0)]) (.cmp .LtE (.blt .len [(.var 0)]) (.cst (.int 3)))))]⟩
theorem b4 : bodyOf G d4 = some f4.body := by kernel_rfl
/-- is_row(values, some, value) -/
def f5 : Fn' := ⟨4, [(.ret (.and (.call 1 [(.var 2), (.blt .len [(.var 1)]), (.blt .len [(.var 1)])]) (.blt .all [(.lc false (.call 0 [(.var 3), (.cst (.int 0)), (.bin .Sub (.var 0) (.cst (.int 1)))]) (.nm 3) (.seq (.var 2)) [] [3])])))]⟩
theorem b5 : bodyOf G d5 = some f5.body := by kernel_rfl
/-- has_ascending_rows(items) -/
def f6 : Fn' := ⟨2, [(.ret (.call 2 [(.lc false (.idx (.var 1) (.cst (.int 0))) (.nm 1) (.seq (.var 0)) [] [1])]))]⟩
theorem b6 : bodyOf G d6 = some f6.body := by kernel_rfl
/-- is_priced_row(values, scope, value) -/
def f7 : Fn' := ⟨3, [(.ret (.and (.call 1 [(.var 2), (.cst (.int 2)), (.cst (.int 2))]) (.and (.call 5 [(.var 0), (.var 1), (.idx (.var 2) (.cst (.int 0)))]) (.call 0 [(.idx (.var 2) (.cst (.int 1))), (.cst (.int 0)), (.cst (.int 100))]))))]⟩
theorem b7 : bodyOf G d7 = some f7.body := by kernel_rfl
/-- is_table(values, scope, value) -/
def f8 : Fn' := ⟨4, [(.ife (.not (.val (.isi (.var 2) .tuple))) [(.ret (.cst (.bl false)))] []), (.ret (.and (.blt .all [(.lc false (.call 7 [(.var 0), (.var 1), (.var 3)]) (.nm 3) (.seq (.var 2)) [] [3])]) (.call 6 [(.var 2)])))]⟩
theorem b8 : bodyOf G d8 = some f8.body := by kernel_rfl
/-- is_told_row(values, some, value) -/
def f9 : Fn' := ⟨6, [(.ife (.not (.val (.call 1 [(.var 2), (.cst (.int 3)), (.cst (.int 3))]))) [(.ret (.cst (.bl false)))] []), (.asg (.tp [(.nm 3), (.nm 4), (.nm 5)]) (.var 2)), (.ret (.and (.call 5 [(.var 0), (.var 1), (.var 3)]) (.and (.call 0 [(.var 4), (.cst (.int 1)), (.cst (.int 1000000))]) (.call 0 [(.var 5), (.cst (.int 0)), (.cst (.int 10000))]))))]⟩
theorem b9 : bodyOf G d9 = some f9.body := by kernel_rfl
/-- is_message(values, some, value) -/
def f10 : Fn' := ⟨4, [(.ife (.not (.val (.isi (.var 2) .tuple))) [(.ret (.cst (.bl false)))] []), (.ret (.and (.blt .all [(.lc false (.call 9 [(.var 0), (.var 1), (.var 3)]) (.nm 3) (.seq (.var 2)) [] [3])]) (.call 6 [(.var 2)])))]⟩
theorem b10 : bodyOf G d10 = some f10.body := by kernel_rfl
/-- _law_stream(script) -/
def f11 : Fn' := ⟨1, [(.ret (.lst true [(.blt (.list false) [(.var 0)]), (.cst (.int 0)), (.cst (.int 0))]))]⟩
theorem b11 : bodyOf G d11 = some f11.body := by kernel_rfl
/-- _law_next(stream, many) -/
def f12 : Fn' := ⟨5, [(.ife (.bv (.cmp .Eq (.idx (.var 0) (.cst (.int 1))) (.cst (.int 0)))) [(.set 2 (.idx (.var 0) (.cst (.int 2)))), (.set 3 (.cat false (.cst (.int 7)) (.var 2))), (.ife (.bv (.cmp .Lt (.var 2) (.blt .len [(.idx (.var 0) (.cst (.int 0)))]))) [(.set 3 (.blt .abs [(.idx (.idx (.var 0) (.cst (.int 0))) (.var 2))]))] []), (.ife (.bv (.cmp .Lt (.var 3) (.bin .Pow (.cst (.int 10)) (.cst (.int 18))))) [(.set 3 (.bin .Mod (.blt .int [(.cat false (.cat false (.rep false (.var 3) (.cst (.int 48271))) (.rep false (.var 2) (.cst (.int 69621)))) (.cst (.int 11)))]) (.cst (.int 2147483647)))), (.set 3 (.cat false (.rep false (.bin .Mod (.blt .int [(.cat false (.rep false (.var 3) (.cst (.int 16807))) (.cst (.int 13)))]) (.cst (.int 2147483647))) (.cst (.int 65537))) (.var 3)))] []), (.sto (.var 0) (.cst (.int 1)) (.var 3)), (.sto (.var 0) (.cst (.int 2)) (.cat false (.var 2) (.cst (.int 1))))] []), (.set 4 (.bin .Mod (.blt .int [(.idx (.var 0) (.cst (.int 1)))]) (.var 1))), (.sto (.var 0) (.cst (.int 1)) (.bin .FloorDiv (.idx (.var 0) (.cst (.int 1))) (.var 1))), (.ret (.var 4))]⟩
theorem b12 : bodyOf G d12 = some f12.body := by kernel_rfl
/-- _law_is_integer(actual) -/
def f13 : Fn' := ⟨1, [(.ret (.and (.isi (.var 0) .int) (.not (.isi (.var 0) .bool))))]⟩
theorem b13 : bodyOf G d13 = some f13.body := by kernel_rfl
/-- _law_equal(actual, due) -/
def f14 : Fn' := ⟨3, [(.ife (.bv (.cmp .Is (.var 1) (.cst .non))) [(.ret (.cmp .Is (.var 0) (.cst .non)))] []), (.ife (.val (.isi (.var 1) .bool)) [(.ret (.and (.isi (.var 0) .bool) (.cmp .Eq (.var 0) (.var 1))))] []), (.ife (.val (.isi (.var 1) .int)) [(.ret (.and (.call 13 [(.var 0)]) (.cmp .Eq (.var 0) (.var 1))))] []), (.ife (.val (.isi (.var 1) .str)) [(.ret (.and (.isi (.var 0) .str) (.cmp .Eq (.var 0) (.var 1))))] []), (.ife (.and (.val (.isi (.var 1) .tuple)) (.not (.val (.isi (.var 0) .tuple)))) [(.ret (.cst (.bl false)))] []), (.ife (.and (.val (.isi (.var 1) .list)) (.not (.val (.isi (.var 0) .list)))) [(.ret (.cst (.bl false)))] []), (.ife (.bv (.cmp .NotEq (.blt .len [(.var 0)]) (.blt .len [(.var 1)]))) [(.ret (.cst (.bl false)))] []), (.ret (.blt .all [(.lc false (.call 14 [(.idx (.var 0) (.var 2)), (.idx (.var 1) (.var 2))]) (.nm 2) (.rng (.blt .len [(.var 1)])) [] [2])]))]⟩
theorem b14 : bodyOf G d14 = some f14.body := by kernel_rfl
/-- _law_pick(stream, rows) -/
def f15 : Fn' := ⟨2, [(.ret (.idx (.var 1) (.call 12 [(.var 0), (.blt .len [(.var 1)])])))]⟩
theorem b15 : bodyOf G d15 = some f15.body := by kernel_rfl
/-- _law_some(stream, most) -/
def f16 : Fn' := ⟨4, [(.set 2 (.lrng true (.cst (.int 6)))), (.ret (.blt .tuple [(.blt (.sorted false) [(.lc false (.mth .popAt (.var 2) [(.call 12 [(.var 0), (.blt .len [(.var 2)])])]) (.nm 3) (.rng (.call 12 [(.var 0), (.cat false (.var 1) (.cst (.int 1)))])) [] [3])])]))]⟩
theorem b16 : bodyOf G d16 = some f16.body := by kernel_rfl
/-- _law_rows(values, many) -/
def f17 : Fn' := ⟨7, [(.set 2 (.lst false [(.tup [])])), (.frr (.nm 3) (.rng (.var 1)) [(.set 4 (.lst true [])), (.frr (.nm 5) (.seq (.var 2)) [(.expr (.mth .extend (.var 4) [(.lc false (.cat false (.var 5) (.tup [(.var 6)])) (.nm 6) (.rng (.var 0)) [] [6])]))]), (.set 2 (.var 4))]), (.ret (.var 2))]⟩
theorem b17 : bodyOf G d17 = some f17.body := by kernel_rfl
/-- _law_table(stream, values, scope) -/
def f18 : Fn' := ⟨5, [(.set 3 (.call 15 [(.var 0), (.lst false [(.cst (.int 1)), (.cst (.int 2)), (.cst (.int 2)), (.cst (.int 3))])])), (.ret (.blt .tuple [(.lc false (.tup [(.var 4), (.call 12 [(.var 0), (.call 15 [(.var 0), (.lst false [(.cst (.int 3)), (.cst (.int 101))])])])]) (.nm 4) (.seq (.call 17 [(.var 1), (.blt .len [(.var 2)])])) [(.bv (.cmp .Lt (.call 12 [(.var 0), (.cst (.int 3))]) (.var 3)))] [4])]))]⟩
theorem b18 : bodyOf G d18 = some f18.body := by kernel_rfl
/-- _law_message(stream, values, some) -/
def f19 : Fn' := ⟨7, [(.set 3 (.call 15 [(.var 0), (.lst false [(.cst (.int 1)), (.cst (.int 2)), (.cst (.int 2)), (.cst (.int 3))])])), (.set 4 (.call 15 [(.var 0), (.lst false [(.cst (.int 3)), (.cst (.int 100))])])), (.set 5 (.lc false (.var 6) (.nm 6) (.seq (.call 17 [(.var 1), (.blt .len [(.var 2)])])) [(.bv (.cmp .Lt (.call 12 [(.var 0), (.cst (.int 3))]) (.var 3)))] [6])), (.ret (.blt .tuple [(.lc false (.tup [(.var 6), (.cat false (.cst (.int 1)) (.call 12 [(.var 0), (.var 4)])), (.call 12 [(.var 0), (.var 4)])]) (.nm 6) (.seq (.var 5)) [] [6])]))]⟩
theorem b19 : bodyOf G d19 = some f19.body := by kernel_rfl
/-- _law_put(row, at, value) -/
def f20 : Fn' := ⟨3, [(.ret (.cat false (.cat false (.slc false (.var 0) .no (.ex (.var 1))) (.tup [(.var 2)])) (.slc false (.var 0) (.ex (.cat false (.var 1) (.cst (.int 1)))) .no)))]⟩
theorem b20 : bodyOf G d20 = some f20.body := by kernel_rfl
/-- _law_bad_row(stream, values, row) -/
def f21 : Fn' := ⟨6, [(.set 3 (.lst false [(.cst .non), (.blt (.list false) [(.var 2)]), (.cat false (.var 2) (.tup [(.cst (.int 0))])), (.cst (.int 0)), (.cst (.str ""))])), (.ife (.val (.var 2)) [(.set 4 (.call 12 [(.var 0), (.blt .len [(.var 2)])])), (.set 3 (.cat false (.cat false (.var 3) (.lst false [(.slc false (.var 2) (.ex (.cst (.int 1))) .no)])) (.lc false (.call 20 [(.var 2), (.var 4), (.var 5)]) (.nm 5) (.seq (.lst false [(.var 1), (.neg (.cst (.int 1))), (.cst .non), (.cst (.bl true)), (.cst (.str "0"))])) [] [5])))] []), (.ret (.call 15 [(.var 0), (.var 3)]))]⟩
theorem b21 : bodyOf G d21 = some f21.body := by kernel_rfl
/-- _law_bad(stream, values, items, high) -/
def f22 : Fn' := ⟨8, [(.set 4 (.call 12 [(.var 0), (.blt .len [(.var 2)])])), (.set 5 (.idx (.var 2) (.var 4))), (.set 6 (.lc true (.call 20 [(.var 2), (.var 4), (.var 7)]) (.nm 7) (.seq (.lst false [(.cst .non), (.blt (.list false) [(.var 5)]), (.slc false (.var 5) .no (.ex (.neg (.cst (.int 1))))), (.cat false (.var 5) (.tup [(.cst (.int 0))])), (.tup []), (.cat false (.tup [(.call 21 [(.var 0), (.var 1), (.idx (.var 5) (.cst (.int 0)))])]) (.slc false (.var 5) (.ex (.cst (.int 1))) .no))])) [] [7])), (.expr (.mth .extend (.var 6) [(.lc false (.call 20 [(.var 2), (.var 4), (.cat false (.slc false (.var 5) .no (.ex (.neg (.cst (.int 1))))) (.tup [(.var 7)]))]) (.nm 7) (.seq (.lst false [(.neg (.cst (.int 1))), (.var 3), (.cst .non), (.cst (.bl true)), (.cst (.str "1"))])) [] [7])])), (.expr (.mth .extend (.var 6) [(.lst false [(.cat false (.var 2) (.slc false (.var 2) (.ex (.neg (.cst (.int 1)))) .no)), (.cat false (.slc false (.var 2) .no (.ex (.cat false (.var 4) (.cst (.int 1))))) (.slc false (.var 2) (.ex (.var 4)) .no)), (.blt (.list false) [(.var 2)]), (.cst .non), (.cst (.int 0))])])), (.ife (.bv (.cmp .Gt (.blt .len [(.var 2)]) (.cst (.int 1)))) [(.expr (.mth .append (.var 6) [(.rev false (.var 2))]))] []), (.ife (.bv (.cmp .Eq (.blt .len [(.var 5)]) (.cst (.int 3)))) [(.expr (.mth .extend (.var 6) [(.lc false (.call 20 [(.var 2), (.var 4), (.tup [(.idx (.var 5) (.cst (.int 0))), (.var 7), (.idx (.var 5) (.cst (.int 2)))])]) (.nm 7) (.seq (.lst false [(.cst (.int 0)), (.neg (.cst (.int 1))), (.cst (.int 1000001)), (.cst .non), (.cst (.bl true)), (.cst (.str "1"))])) [] [7])]))] []), (.ret (.call 15 [(.var 0), (.var 6)]))]⟩
theorem b22 : bodyOf G d22 = some f22.body := by kernel_rfl
/-- law(script) -/
def f23 : Fn' := ⟨16, [(.set 1 (.call 11 [(.var 0)])), (.set 2 (.cat false (.cst (.int 2)) (.call 12 [(.var 1), (.cst (.int 2))]))), (.set 3 (.call 16 [(.var 1), (.cst (.int 3))])), (.set 4 (.call 16 [(.var 1), (.cst (.int 4))])), (.set 5 (.call 18 [(.var 1), (.var 2), (.var 3)])), (.set 6 (.call 19 [(.var 1), (.var 2), (.var 4)])), (.set 7 (.blt .tuple [(.lc false (.tup [(.var 8), (.cst (.int 1000000)), (.cst (.int 10000))]) (.nm 8) (.seq (.call 17 [(.var 2), (.blt .len [(.var 4)])])) [] [8])])), (.set 9 (.blt .tuple [(.lc false (.tup [(.var 8), (.cst (.int 100))]) (.nm 8) (.seq (.call 17 [(.var 2), (.blt .len [(.var 3)])])) [] [8])])), (.set 10 (.lst false [(.call 4 [(.var 3)]), (.call 8 [(.var 2), (.var 3), (.var 5)]), (.call 8 [(.var 2), (.var 3), (.var 9)]), (.call 10 [(.var 2), (.var 4), (.var 6)]), (.call 10 [(.var 2), (.var 4), (.var 7)]), (.call 8 [(.var 2), (.var 3), (.tup [])])])), (.ife (.not (.val (.call 14 [(.var 10), (.rep false (.lst false [(.cst (.bl true))]) (.cst (.int 6)))]))) [(.ret (.cst (.bl false)))] []), (.set 11 (.slc false (.cat false (.var 3) (.blt .tuple [(.lc false (.var 12) (.nm 12) (.rng (.cst (.int 6))) [(.bv (.cmp .NotIn (.var 12) (.var 3)))] [12])])) .no (.ex (.cst (.int 3))))), (.set 13 (.cat false (.cat false (.lst false [(.cst .non), (.blt (.list false) [(.var 3)]), (.tup [(.cst (.int 0)), (.cst (.int 1)), (.cst (.int 2)), (.cst (.int 3))]), (.tup [(.cst (.int 1)), (.cst (.int 0))]), (.tup [(.cst (.int 2)), (.cst (.int 2))]), (.cst (.int 0)), (.cst (.str ""))]) (.lc false (.tup [(.var 14)]) (.nm 14) (.seq (.lst false [(.cst (.int 6)), (.neg (.cst (.int 1))), (.cst .non), (.cst (.bl true)), (.cst (.str "0"))])) [] [14])) (.lc false (.tup [(.cst (.int 0)), (.var 14)]) (.nm 14) (.seq (.lst false [(.cst (.int 6)), (.neg (.cst (.int 1))), (.cst .non), (.cst (.bl true)), (.cst (.str "1")), (.cst (.int 0))])) [] [14]))), (.set 10 (.lst false [(.call 4 [(.blt .tuple [(.blt (.sorted false) [(.var 11)])])]), (.call 4 [(.call 15 [(.var 1), (.var 13)])]), (.call 4 [(.call 15 [(.var 1), (.var 13)])])])), (.set 10 (.cat false (.var 10) (.lc false (.call 8 [(.var 2), (.var 3), (.call 22 [(.var 1), (.var 2), (.var 9), (.cst (.int 101))])]) (.nm 15) (.rng (.cst (.int 2))) [] [15]))), (.set 10 (.cat false (.var 10) (.lc false (.call 10 [(.var 2), (.var 4), (.call 22 [(.var 1), (.var 2), (.var 7), (.cst (.int 10001))])]) (.nm 15) (.rng (.cst (.int 2))) [] [15]))), (.ret (.call 14 [(.var 10), (.lst false [(.cst (.bl true)), (.cst (.bl false)), (.cst (.bl false)), (.cst (.bl false)), (.cst (.bl false)), (.cst (.bl false)), (.cst (.bl false))])]))]⟩
theorem b23 : bodyOf G d23 = some f23.body := by kernel_rfl
theorem okT : okTab G tab = true := by decide +kernel
def fs : List Fn' := [f0, f1, f2, f3, f4, f5, f6, f7, f8, f9, f10, f11, f12, f13, f14, f15, f16, f17, f18, f19, f20, f21, f22, f23]
theorem fs_eq : tab.map (mkFn G) = fs := by
  simp only [tab, List.map, mkFn, fs, b0, b1, b2, b3, b4, b5, b6, b7, b8, b9, b10, b11, b12, b13, b14, b15, b16, b17, b18, b19, b20, b21, b22, b23, Option.getD_some]
  rfl
end Tk01

namespace Tk01
open PySem L2 Pu
def depth : Nat := 40
section
variable (k : Nat)
theorem i0 : IsInt (runF fs (k + 1)) 0 := isInt_of rfl
theorem i1 : IsTup (runF fs (k + 1)) 1 := isTup_of rfl
theorem i2 : IsAsc (runF fs (k + 1)) 2 := isAsc_of rfl
theorem i3 : IsSome (runF fs (k + 2)) 3 := isSome_of (iInt := 0) (iAsc := 2) rfl (i0 k) (i2 k)
theorem i4 : IsScope (runF fs (k + 3)) 4 := isScope_of (iSome := 3) rfl (i3 k)
theorem i5 : IsRow (runF fs (k + 2)) 5 := isRow_of (iTup := 1) (iInt := 0) rfl (i1 k) (i0 k)
theorem i6 : IsAscR (runF fs (k + 2)) 6 := isAscR_of (iAsc := 2) rfl (i2 k)
theorem i7 : IsPriced (runF fs (k + 3)) 7 := isPriced_of (iTup := 1) (iRow := 5) (iInt := 0) rfl (i1 (k + 1)) (i5 k) (i0 (k + 1))
theorem i8 : IsTable (runF fs (k + 4)) 8 := isTable_of (iItem := 7) (iAscR := 6) rfl (i7 k) (i6 (k + 1))
theorem i9 : IsTold (runF fs (k + 3)) 9 := isTold_of (iTup := 1) (iRow := 5) (iInt := 0) rfl (i1 (k + 1)) (i5 k) (i0 (k + 1))
theorem i10 : IsMess (runF fs (k + 4)) 10 := isMess_of (iItem := 9) (iAscR := 6) rfl (i9 k) (i6 (k + 1))
theorem i12 : IsNext (runF fs (k + 1)) 12 := isNext_of rfl
theorem i14 : IsEqBs (runF fs (k + 2)) 14 := isEqBs_of (iI := 13) rfl
theorem i15 : IsPick (runF fs (k + 2)) 15 := isPick_of (iN := 12) rfl (i12 k)
theorem i16 : IsSomeL (runF fs (k + 2)) 16 := isSomeL_of (iNext := 12) rfl (i12 k)
theorem i17 : IsRows (runF fs (k + 1)) 17 := isRows_of rfl
theorem i18 : IsTableL (runF fs (k + 3)) 18 := isTableL_of (iPick := 15) (iNext := 12) (iRows := 17) rfl (i15 k) (i12 (k + 1)) (i17 (k + 1))
theorem i19 : IsMessL (runF fs (k + 3)) 19 := isMessL_of (iPick := 15) (iNext := 12) (iRows := 17) rfl (i15 k) (i12 (k + 1)) (i17 (k + 1))
theorem i20 : IsPut (runF fs (k + 1)) 20 := isPut_of rfl
theorem i21 : IsBadRow (runF fs (k + 3)) 21 := isBadRow_of (iNext := 12) (iPut := 20) (iPick := 15) rfl (i12 (k + 1)) (i20 (k + 1)) (i15 k)
theorem i22 : IsBad (runF fs (k + 4)) 22 := isBad_of (iNext := 12) (iPut := 20) (iBadRow := 21) (iPick := 15) rfl (i12 (k + 2)) (i20 (k + 2)) (i21 k) (i15 (k + 1))
end
/-- drawn variables are a scope when they are few -/
theorem some_vars {ns : List Int} (h : Vars ns) : someB (dI ns) = true := by
  simp only [someB, dI, Bool.and_eq_true, asInts_map, Option.getD_some]
  exact ⟨ints_all h.2, ascB_of h.1⟩
theorem scope_vars {ns : List Int} (h : Vars ns) (hl : ns.length ≤ 3) : scopeB (dI ns) = true := by
  simp only [scopeB, some_vars h, Bool.true_and]
  simp [dI, hl]
theorem nodup_vars {ns : List Int} (h : Vars ns) : ns.Nodup := by
  refine h.1.imp ?_
  intro a b hab e
  subst e
  simp [ltI] at hab
/-- three drawn variables of all -/
theorem three_vars {sc : List Int} (h : Vars sc) : Vars (sortI ((sc ++ ((List.range 6).map fun (o : Nat) => ((o : Int))).filter fun o => !sc.any (fun y => y == o)).take 3)) := by
  have hn : (sc ++ ((List.range 6).map fun (o : Nat) => ((o : Int))).filter fun o => !sc.any (fun y => y == o)).Nodup := by
    rw [List.nodup_append]
    refine ⟨nodup_vars h, List.Pairwise.filter _ (by decide), ?_⟩
    intro a ha b hb e
    subst e
    have := (List.mem_filter.mp hb).2
    have h2 : ∀ x ∈ sc, ¬ x = a := by simpa using this
    exact h2 a ha rfl
  refine ⟨sort_asc (hn.sublist (List.take_sublist _ _)), fun n hm => ?_⟩
  have hm := List.mem_of_mem_take ((List.mergeSort_perm _ _).mem_iff.mp hm)
  rcases List.mem_append.mp hm with hm | hm
  · exact h.2 n hm
  · have := (List.mem_filter.mp hm).1
    obtain ⟨o, ho, rfl⟩ := List.mem_map.mp this
    have := List.mem_range.mp ho
    omega
theorem fm_if {α β : Type} (p : α → Bool) (f : α → β) (l : List α) : (l.filterMap fun o => if p o then some (f o) else none) = (l.filter p).map f := by
  induction l with
  | nil => rfl
  | cons a l ih =>
    rw [List.filterMap_cons, List.filter_cons]
    cases h : p a <;> simp [ih]
theorem ev_rest {F : Nat → List D → M D} {ρ : Env'} {S : Sto} {sc : List Int} (h : ρ[3]? = some (some (dI sc))) (h12 : ρ.length = 16) :
    evE F (.blt .tuple [(.lc false (.var 12) (.nm 12) (.rng (.cst (.int 6))) [(.bv (.cmp .NotIn (.var 12) (.var 3)))] [12])]) ρ S = .ok (dI (((List.range 6).map fun (o : Nat) => ((o : Int))).filter fun o => !sc.any (fun y => y == o))) S := by
  have hw3 : ∀ x, ((wipeE ρ [12]).set 12 x)[3]? = some (some (dI sc)) := fun x => by
    simp [wipeE, List.getElem?_set, h]
  have hw12 : ∀ x, ((wipeE ρ [12]).set 12 (some x))[12]? = some (some x) := fun x => by
    simp [wipeE, List.getElem?_set, h12]
  have key := lc_pure (elt := evE F (.var 12)) (ifs := evTs F [(.bv (.cmp .NotIn (.var 12) (.var 3)))]) (tg := .nm 12) (ρ := wipeE ρ [12]) (items := (List.range 6).map fun (o : Nat) => D.int (0 + (o : Int))) (src := rngOf 0 6) (S := S)
    (fun d => match d with | .int o => if !sc.any (fun y => y == o) then some (.int o) else none | _ => none) (by simp [line_val]) (fun i => rng_nxt 6 i S) (by simp [rngOf]) (fun d hd => by
      obtain ⟨o, ho, rfl⟩ := List.mem_map.mp hd
      have e : ∀ l : List Int, (l.map D.int).all flatD = true := fun l => by
        rw [List.all_map, List.all_eq_true]; intro x _; rfl
      have e2 : ∀ l : List Int, ((l.map D.int).any fun y => eqF y (.int (0 + (o : Int)))) = l.any (fun y => y == (0 + (o : Int))) := fun l => by
        rw [List.any_map]; rfl
      have em : inM true (.int (0 + (o : Int))) (dI sc) S = .ok (.bl (!sc.any (fun y => y == (0 + (o : Int))))) S := by
        unfold dI inM
        simp only [e, Bool.and_true, if_true, e2]
        rfl
      have et : evTs F [(.bv (.cmp .NotIn (.var 12) (.var 3)))] ((wipeE ρ [12]).set 12 (some (.int (0 + (o : Int))))) S = .ok (!sc.any (fun y => y == (0 + (o : Int)))) S := by
        simp only [evTs, evT, evE, mbind_ap, varM, hw3, hw12, bind_ok, cmpM, em, blM, mret_ap]
        cases (!sc.any (fun y => y == (0 + (o : Int)))) <;> rfl
      simp only [stepM, tgSet, et, bind_ok]
      cases hc : (!sc.any (fun y => y == (0 + (o : Int)))) with
      | false => simp [mret_ap]
      | true => simp only [if_true, mbind_ap, evE, varM, hw12, bind_ok, mret_ap])
  have hi : evI F (.rng (.cst (.int 6))) ρ S = .ok (rngOf 0 6) S := evI_rng (m := 6) rfl (by omega)
  have eL := ev_lc (own := false) hi key
  rw [newL_fz (by
    refine Nat.le_trans (List.length_filterMap_le _ _) ?_
    simp [line_val])] at eL
  refine (ev_blt1 eL).trans ?_
  simp only [bltM, tupleM, seqOf, lstOf, dI]
  congr 2
  rw [List.filterMap_map, List.filter_map, List.map_map]
  rw [show (D.int ∘ fun (o : Nat) => ((o : Int))) = fun (o : Nat) => D.int (o : Int) from rfl]
  rw [← fm_if]
  congr 1
  funext o
  simp only [Function.comp, Int.zero_add]
/-- what is no scope -/
theorem wrong_scopes (sc : List Int) : ∀ x ∈ ([D.non, .fz (sc.map D.int), .tup [.int 0, .int 1, .int 2, .int 3], .tup [.int 1, .int 0], .tup [.int 2, .int 2], .int 0, .str ""] ++ [D.int 6, .int (-1), .non, .bl true, .str "0"].map (fun o => D.tup [o]) ++ [D.int 6, .int (-1), .non, .bl true, .str "1", .int 0].map (fun o => D.tup [.int 0, o]) : List D),
    fit x = true ∧ scopeB x = false := by
  intro x hx
  have hf : fit (.fz (sc.map D.int)) = true := by
    simp only [fit]
    exact fits_all.mpr (fun d hd => by obtain ⟨m, _, rfl⟩ := List.mem_map.mp hd; exact fit_int m)
  simp only [List.map_cons, List.map_nil, List.cons_append, List.nil_append, List.mem_cons, List.not_mem_nil, or_false] at hx
  rcases hx with rfl | rfl | rfl | rfl | rfl | rfl | rfl | rfl | rfl | rfl | rfl | rfl | rfl | rfl | rfl | rfl | rfl | rfl
  all_goals first | exact ⟨hf, rfl⟩ | exact ⟨by decide +kernel, by decide +kernel⟩

theorem runF_at {fs : List Fn'} {i k : Nat} {fn : Fn'} (h : fs[i]? = some fn) (ds : List D) : runF fs (k + 1) i ds = runB (runF fs k) fn ds := by
  simp only [runF, h]
theorem chk_true {α : Type} {m : M α} : chk True m = m := chk_pos trivial
theorem ev_slcTo {F : Nat → List D → M D} {own : Bool} {a : X'} {ρ : Env'} {S S1 : Sto} {x z : D} {n : Int} (h1 : evE F a ρ S = .ok x S1) (h3 : slcP own x none (some n) S1 = .ok z S1) : evE F (.slc own a .no (.ex (.cst (.int n)))) ρ S = .ok z S1 := by
  simp only [evE, mbind_ap, h1, bind_ok, evP, mret_ap, intO, h3]
theorem hrun : ∀ ns : List Int, ns.length ≤ 63 → ∃ S', runF fs depth 23 [.fr (ns.map D.int)] [] = .ok (.bl true) S' := fun ns hns => by
  have h4 : IsScope (runF fs 39) 4 := i4 36
  have h8 : IsTable (runF fs 39) 8 := i8 35
  have h10 : IsMess (runF fs 39) 10 := i10 35
  have h12 : IsNext (runF fs 39) 12 := i12 38
  have h14 : IsEqBs (runF fs 39) 14 := i14 37
  have h15 : IsPick (runF fs 39) 15 := i15 37
  have h16 : IsSomeL (runF fs 39) 16 := i16 37
  have h17 : IsRows (runF fs 39) 17 := i17 38
  have h18 : IsTableL (runF fs 39) 18 := i18 36
  have h19 : IsMessL (runF fs 39) 19 := i19 36
  have h22 : IsBad (runF fs 39) 22 := i22 35
  have h11 := run_stream (fs := fs) (i := 11) (k := 38) rfl ns [] hns
  generalize hF : runF fs 39 = F at h4 h8 h10 h12 h14 h15 h16 h17 h18 h19 h22
  have h11 : F 11 [.fr (ns.map D.int)] [] = .ok (.ref 0) [.lst [.fz (ns.map D.int), .int 0, .int 0]] := by rw [← hF]; exact h11
  have st0 : StrAt [.lst [.fz (ns.map D.int), .int 0, .int 0]] 0 := str_begin ns hns []
  generalize hS0 : [Ob.lst [.fz (ns.map D.int), .int 0, .int 0]] = S0 at h11 st0
  -- two or three values
  obtain ⟨c, S1, e1, c0, c1, a1, _⟩ := h12 S0 0 2 st0 (by omega) (by omega)
  obtain ⟨v, hv, v2, v3⟩ : ∃ v : Nat, 2 + c = (v : Int) ∧ 2 ≤ v ∧ v ≤ 3 := ⟨(2 + c).toNat, by omega, by omega, by omega⟩
  obtain ⟨sc, S2, e2, vs2, l2, a2⟩ := h16 S1 0 3 a1.1 (by omega)
  obtain ⟨so, S3, e3, vs3, l3, a3⟩ := h16 S2 0 4 a2.1 (by omega)
  obtain ⟨tb, S4, e4, t4, a4⟩ := h18 S3 0 v (sc.map D.int) a3.1 v3 (by simp; omega)
  obtain ⟨ms, S5, e5, m5, a5⟩ := h19 S4 0 v (so.map D.int) a4.1 v3 (by simp; omega)
  rw [List.length_map] at t4 m5
  let ρ (p9 p10 p11 p13 : Option D) : Env' := [some (.fr (ns.map D.int)), some (.ref 0), some (.int v), some (dI sc), some (dI so), some (.tup (tabD tb)), some (.tup (mesD ms)), some (.tup (mesD (highM v so.length))), none, p9, p10, p11, none, p13, none, none]
  obtain ⟨G6, e6⟩ := ev_tupRows (F := F) (iR := 17) (a := 2) (b := 4) (j := 8) (v := v) (elt := .tup [(.var 8), (.cst (.int 1000000)), (.cst (.int 10000))]) (ρ := [some (.fr (ns.map D.int)), some (.ref 0), some (.int v), some (dI sc), some (dI so), some (.tup (tabD tb)), some (.tup (mesD ms)), none, none, none, none, none, none, none, none, none]) (S := S5) (ss := so.map D.int) (fun row => .tup [dI row, .int 1000000, .int 10000]) h17 v3 (by simp; omega) rfl rfl
    (fun row S => by simp [evE, evEs, mbind_ap, mret_ap, bind_ok, varM, wipeE, newT, line_val])
  obtain ⟨G7, e7⟩ := ev_tupRows (F := F) (iR := 17) (a := 2) (b := 3) (j := 8) (v := v) (elt := .tup [(.var 8), (.cst (.int 100))]) (ρ := ρ none none none none) (S := S5 ++ G6) (ss := sc.map D.int) (fun row => .tup [dI row, .int 100]) h17 v3 (by simp; omega) rfl rfl
    (fun row S => by simp [ρ, evE, evEs, mbind_ap, mret_ap, bind_ok, varM, wipeE, newT, line_val])
  rw [List.length_map, ← mesD_high] at e6
  rw [List.length_map, ← tabD_full] at e7
  have a6 : Adv 0 S5 (S5 ++ G6) := .app a5.1 G6
  have a7 : Adv 0 (S5 ++ G6) (S5 ++ G6 ++ G7) := .app a6.1 G7
  generalize hS7 : S5 ++ G6 ++ G7 = S7 at e7 a7
  let P9 : Option D := some (.tup (tabD (fullT v sc.length)))
  -- they are scopes, tables, messages
  have fsc : fit (dI sc) = true := fit_dI (by rw [line_val]; omega)
  have k1 : ∀ S, F 4 [dI sc] S = .ok (.bl true) S := fun S => by rw [h4 _ S fsc, scope_vars vs2 l2]
  have k2 : ∀ S, F 8 [.int v, dI sc, .tup (tabD tb)] S = .ok (.bl true) S := fun S => by
    rw [show dI sc = .tup (sc.map D.int) from rfl, h8 v _ _ S (t4.fit v3 (by omega)), List.length_map, tab_true t4]
  have k3 : ∀ S, F 8 [.int v, dI sc, .tup (tabD (fullT v sc.length))] S = .ok (.bl true) S := fun S => by
    rw [show dI sc = .tup (sc.map D.int) from rfl, h8 v _ _ S ((full_of v sc.length).fit v3 (by omega)), List.length_map, tab_true (full_of v sc.length)]
  have k4 : ∀ S, F 10 [.int v, dI so, .tup (mesD ms)] S = .ok (.bl true) S := fun S => by
    rw [show dI so = .tup (so.map D.int) from rfl, h10 v _ _ S (m5.fit v3 (by omega)), List.length_map, mes_true m5]
  have k5 : ∀ S, F 10 [.int v, dI so, .tup (mesD (highM v so.length))] S = .ok (.bl true) S := fun S => by
    rw [show dI so = .tup (so.map D.int) from rfl, h10 v _ _ S ((high_of v so.length).fit v3 (by omega)), List.length_map, mes_true (high_of v so.length)]
  have k6 : ∀ S, F 8 [.int v, dI sc, .tup []] S = .ok (.bl true) S := fun S => by
    rw [show dI sc = .tup (sc.map D.int) from rfl, h8 v _ _ S (by simp [fit, fits])]
    rfl
  -- the wrong scopes
  have ft := three_vars vs2
  have l3t : (sortI ((sc ++ ((List.range 6).map fun (o : Nat) => ((o : Int))).filter fun o => !sc.any (fun y => y == o)).take 3)).length ≤ 3 := by
    simp [sortI]; omega
  generalize hth : (sc ++ ((List.range 6).map fun (o : Nat) => ((o : Int))).filter fun o => !sc.any (fun y => y == o)).take 3 = th at ft l3t
  have hthl : th.length ≤ 3 := by simpa [sortI] using l3t
  let W : List D := [D.non, .fz (sc.map D.int), .tup [.int 0, .int 1, .int 2, .int 3], .tup [.int 1, .int 0], .tup [.int 2, .int 2], .int 0, .str ""] ++ [D.int 6, .int (-1), .non, .bl true, .str "0"].map (fun o => D.tup [o]) ++ [D.int 6, .int (-1), .non, .bl true, .str "1", .int 0].map (fun o => D.tup [.int 0, o])
  have hW : ∀ x ∈ W, fit x = true ∧ scopeB x = false := wrong_scopes sc
  obtain ⟨w1, S8, e8, m8, a8, _⟩ := pick_fz h15 W a7.1 (by simp [W]) (by simp [W])
  obtain ⟨w2, S9, e9, m9, a9, _⟩ := pick_fz h15 W a8.1 (by simp [W]) (by simp [W])
  have k7 : ∀ S, F 4 [dI (sortI th)] S = .ok (.bl true) S := fun S => by
    rw [h4 _ S (fit_dI (by simp [sortI, line_val]; omega)), scope_vars ft l3t]
  have k8 : ∀ S, F 4 [w1] S = .ok (.bl false) S := fun S => by rw [h4 _ S (hW w1 m8).1, (hW w1 m8).2]
  have k9 : ∀ S, F 4 [w2] S = .ok (.bl false) S := fun S => by rw [h4 _ S (hW w2 m9).1, (hW w2 m9).2]
  -- the run
  let b1 : List Bool := [true, true, true, true, true, true]
  have E1 : evE F (.lst false [(.call 4 [(.var 3)]), (.call 8 [(.var 2), (.var 3), (.var 5)]), (.call 8 [(.var 2), (.var 3), (.var 9)]), (.call 10 [(.var 2), (.var 4), (.var 6)]), (.call 10 [(.var 2), (.var 4), (.var 7)]), (.call 8 [(.var 2), (.var 3), (.tup [])])]) (ρ P9 none none none) S7 = .ok (.fz (b1.map D.bl)) S7 := by
    simp [ρ, P9, b1, evE, evEs, mbind_ap, mret_ap, bind_ok, varM, newL, newT, line_val, k1, k2, k3, k4, k5, k6]
  have E2 : evT F (.not (.val (.call 14 [(.var 10), (.rep false (.lst false [(.cst (.bl true))]) (.cst (.int 6)))]))) (ρ P9 (some (.fz (b1.map D.bl))) none none) S7 = .ok false S7 := by
    have hrep : evE F (.rep false (.lst false [(.cst (.bl true))]) (.cst (.int 6))) (ρ P9 (some (.fz (b1.map D.bl))) none none) S7 = .ok (.fz (b1.map D.bl)) S7 := by
      have hq : (0 : Int) ≤ 6 ∧ (6 : Int) < 9223372036854775808 := by omega
      simp [evE, evEs, mbind_ap, mret_ap, bind_ok, newL, line_val, repM, tlsOf, chk_true, b1, List.replicate]
    have hv10 : evE F (.var 10) (ρ P9 (some (.fz (b1.map D.bl))) none none) S7 = .ok (.fz (b1.map D.bl)) S7 := rfl
    have hc : evE F (.call 14 [(.var 10), (.rep false (.lst false [(.cst (.bl true))]) (.cst (.int 6)))]) (ρ P9 (some (.fz (b1.map D.bl))) none none) S7 = .ok (.bl true) S7 := by
      rw [evE]
      simp only [evEs, mbind_ap, hv10, bind_ok, hrep, mret_ap]
      exact h14 b1 S7 (by simp [b1])
    simp only [evT, mbind_ap, hc, bind_ok, truM, mret_ap]
    rfl
  let P10 : Option D := some (.fz (b1.map D.bl))
  have E3 : evE F (.slc false (.cat false (.var 3) (.blt .tuple [(.lc false (.var 12) (.nm 12) (.rng (.cst (.int 6))) [(.bv (.cmp .NotIn (.var 12) (.var 3)))] [12])])) .no (.ex (.cst (.int 3)))) (ρ P9 P10 none none) S7 = .ok (dI th) S7 := by
    have hr := ev_rest (F := F) (ρ := ρ P9 P10 none none) (S := S7) (sc := sc) rfl rfl
    have hcat := ev_cat (own := false) (z := dI (sc ++ ((List.range 6).map fun (o : Nat) => ((o : Int))).filter fun o => !sc.any (fun y => y == o))) (show evE F (.var 3) (ρ P9 P10 none none) S7 = .ok (dI sc) S7 from rfl) hr (by
      have hb : (sc.map D.int ++ (((List.range 6).map fun (o : Nat) => ((o : Int))).filter fun o => !sc.any (fun y => y == o)).map D.int).length ≤ line := by
        have := List.length_filter_le (fun o => !sc.any (fun y => y == o)) ((List.range 6).map fun (o : Nat) => ((o : Int)))
        rw [List.length_append, List.length_map, List.length_map, line_val]
        simp only [List.length_map, List.length_range] at this
        omega
      simp only [dI, catM, newT, List.map_append]
      rw [if_pos hb])
    refine ev_slcTo hcat ?_
    simp only [dI, slcP]
    rw [← hth]
    congr 2
    have h3 : 3 ≤ ((sc ++ ((List.range 6).map fun (o : Nat) => ((o : Int))).filter fun o => !sc.any (fun y => y == o)).map D.int).length ∨ ((sc ++ ((List.range 6).map fun (o : Nat) => ((o : Int))).filter fun o => !sc.any (fun y => y == o)).map D.int).length < 3 := by omega
    rcases h3 with h3 | h3
    · rw [show (3 : Int) = ((3 : Nat) : Int) from rfl, cut_to h3, List.map_take]
    · unfold cutD HT.sIx
      simp only [List.drop_zero, Nat.sub_zero]
      rw [if_neg (by omega), List.map_take]
      rw [List.take_of_length_le (by omega), List.take_of_length_le (by simp at h3 ⊢; omega)]
  have E4 : evE F (.cat false (.cat false (.lst false [(.cst .non), (.blt (.list false) [(.var 3)]), (.tup [(.cst (.int 0)), (.cst (.int 1)), (.cst (.int 2)), (.cst (.int 3))]), (.tup [(.cst (.int 1)), (.cst (.int 0))]), (.tup [(.cst (.int 2)), (.cst (.int 2))]), (.cst (.int 0)), (.cst (.str ""))]) (.lc false (.tup [(.var 14)]) (.nm 14) (.seq (.lst false [(.cst (.int 6)), (.neg (.cst (.int 1))), (.cst .non), (.cst (.bl true)), (.cst (.str "0"))])) [] [14])) (.lc false (.tup [(.cst (.int 0)), (.var 14)]) (.nm 14) (.seq (.lst false [(.cst (.int 6)), (.neg (.cst (.int 1))), (.cst .non), (.cst (.bl true)), (.cst (.str "1")), (.cst (.int 0))])) [] [14])) (ρ P9 P10 (some (dI th)) none) S7 = .ok (.fz W) S7 := by
    have hsl : sc.length ≤ 16777216 := by omega
    have x1 : evE F (.lst false [(.cst .non), (.blt (.list false) [(.var 3)]), (.tup [(.cst (.int 0)), (.cst (.int 1)), (.cst (.int 2)), (.cst (.int 3))]), (.tup [(.cst (.int 1)), (.cst (.int 0))]), (.tup [(.cst (.int 2)), (.cst (.int 2))]), (.cst (.int 0)), (.cst (.str ""))]) (ρ P9 P10 (some (dI th)) none) S7 = .ok (.fz [D.non, .fz (sc.map D.int), .tup [.int 0, .int 1, .int 2, .int 3], .tup [.int 1, .int 0], .tup [.int 2, .int 2], .int 0, .str ""]) S7 := by
      simp [ρ, evE, evEs, mbind_ap, mret_ap, bind_ok, varM, newL, newT, line_val, bltM, listM, seqOf, dI, hsl]
    have x2 : evE F (.lc false (.tup [(.var 14)]) (.nm 14) (.seq (.lst false [(.cst (.int 6)), (.neg (.cst (.int 1))), (.cst .non), (.cst (.bl true)), (.cst (.str "0"))])) [] [14]) (ρ P9 P10 (some (dI th)) none) S7 = .ok (.fz ([D.int 6, .int (-1), .non, .bl true, .str "0"].map (fun o => D.tup [o]))) S7 := by
      refine lc_map (fun o => D.tup [o]) (xs := [D.int 6, .int (-1), .non, .bl true, .str "0"]) (evI_lit (by simp [evE, evEs, mbind_ap, mret_ap, bind_ok, negM]) (by simp [line_val])) (fun i => rfl) (Nat.le_refl _) (by simp [line_val]) (fun d _ => ⟨_, rfl, ?_⟩)
      simp [ρ, evE, evEs, mbind_ap, mret_ap, bind_ok, varM, wipeE, newT, line_val]
    have x3 : evE F (.lc false (.tup [(.cst (.int 0)), (.var 14)]) (.nm 14) (.seq (.lst false [(.cst (.int 6)), (.neg (.cst (.int 1))), (.cst .non), (.cst (.bl true)), (.cst (.str "1")), (.cst (.int 0))])) [] [14]) (ρ P9 P10 (some (dI th)) none) S7 = .ok (.fz ([D.int 6, .int (-1), .non, .bl true, .str "1", .int 0].map (fun o => D.tup [.int 0, o]))) S7 := by
      refine lc_map (fun o => D.tup [.int 0, o]) (xs := [D.int 6, .int (-1), .non, .bl true, .str "1", .int 0]) (evI_lit (by simp [evE, evEs, mbind_ap, mret_ap, bind_ok, negM]) (by simp [line_val])) (fun i => rfl) (Nat.le_refl _) (by simp [line_val]) (fun d _ => ⟨_, rfl, ?_⟩)
      simp [ρ, evE, evEs, mbind_ap, mret_ap, bind_ok, varM, wipeE, newT, line_val]
    exact ev_cat (ev_cat x1 x2 (by simp only [catM, tlsOf]; exact newL_fz (by simp [line_val]))) x3 (by simp only [catM, tlsOf]; exact newL_fz (by simp [line_val]))
  let ρ2 (p10 : List Bool) : Env' := ρ P9 (some (.fz (p10.map D.bl))) (some (dI th)) (some (.fz W))
  have E5 : evE F (.lst false [(.call 4 [(.blt .tuple [(.blt (.sorted false) [(.var 11)])])]), (.call 4 [(.call 15 [(.var 1), (.var 13)])]), (.call 4 [(.call 15 [(.var 1), (.var 13)])])]) (ρ2 b1) S7 = .ok (.fz ([true, false, false].map D.bl)) S9 := by
    have hs : evE F (.blt .tuple [(.blt (.sorted false) [(.var 11)])]) (ρ2 b1) S7 = .ok (dI (sortI th)) S7 := by
      have hS : bltM (.sorted false) [.tup (th.map D.int)] S7 = .ok (.fz ((sortI th).map D.int)) S7 := by
        simp only [bltM, sortedM, seqOf, Option.bind_some, asInts_map]
        exact newL_fz (by simp [sortI, line_val]; omega)
      exact ev_blt1 ((ev_blt1 (show evE F (.var 11) (ρ2 b1) S7 = .ok (.tup (th.map D.int)) S7 from rfl)).trans hS)
    rw [evE]
    simp only [mbind_ap]
    have hx : evEs F [(.call 4 [(.blt .tuple [(.blt (.sorted false) [(.var 11)])])]), (.call 4 [(.call 15 [(.var 1), (.var 13)])]), (.call 4 [(.call 15 [(.var 1), (.var 13)])])] (ρ2 b1) S7 = .ok [.bl true, .bl false, .bl false] S9 := by
      have y1 : evE F (.call 4 [(.blt .tuple [(.blt (.sorted false) [(.var 11)])])]) (ρ2 b1) S7 = .ok (.bl true) S7 := by
        rw [evE]
        simp only [evEs, mbind_ap, hs, bind_ok, mret_ap, k7]
      have y2 : evE F (.call 4 [(.call 15 [(.var 1), (.var 13)])]) (ρ2 b1) S7 = .ok (.bl false) S8 := by
        simp [ρ2, ρ, evE, evEs, mbind_ap, mret_ap, bind_ok, varM, e8, k8]
      have y3 : evE F (.call 4 [(.call 15 [(.var 1), (.var 13)])]) (ρ2 b1) S8 = .ok (.bl false) S9 := by
        simp [ρ2, ρ, evE, evEs, mbind_ap, mret_ap, bind_ok, varM, e9, k9]
      simp only [evEs, mbind_ap, y1, y2, y3, bind_ok, mret_ap]
    rw [hx]
    exact newL_fz (by simp [line_val])
  -- the changed tables, the changed messages
  obtain ⟨acc, S10, e10, a10, q10, _⟩ := ev_lcA (F := F) (elt := .call 8 [(.var 2), (.var 3), (.call 22 [(.var 1), (.var 2), (.var 9), (.cst (.int 101))])]) (tg := .nm 15) (it := .rng (.cst (.int 2))) (ifs := []) (ws := [15]) (ρ := ρ2 [true, false, false]) (S := S9) (S1 := S9) (src := rngOf 0 2) (items := (List.range 2).map fun (o : Nat) => D.int (0 + (o : Int))) (r := 0)
    (fun j acc => acc = List.replicate j (.bl false)) (evI_rng (m := 2) rfl (by omega)) (fun i S' _ => rng_nxt 2 i S') rfl (by simp [line_val]) a9.1 rfl (fun j acc S' d _ a hq => by
      obtain ⟨x, S'', ex, ⟨xf, xb⟩, ax⟩ := h22 S' 0 v sc.length 101 (pricedB v sc.length) (tableB v sc.length) _ a.1 (by omega) (bad_full (by omega) v3 (by omega))
      have kx : F 8 [.int v, dI sc, x] S'' = .ok (.bl false) S'' := by
        rw [show dI sc = .tup (sc.map D.int) from rfl, h8 v _ _ S'' xf, List.length_map, xb]
      refine ⟨some (.bl false), S'', ?_, ax, by rw [hq, List.replicate_succ']; rfl⟩
      simp [stepM, tgSet, ρ2, ρ, P9, wipeE, evTs, evE, evEs, mbind_ap, mret_ap, bind_ok, varM, ex, kx])
  obtain ⟨acc', S11, e11, a11, q11, _⟩ := ev_lcA (F := F) (elt := .call 10 [(.var 2), (.var 4), (.call 22 [(.var 1), (.var 2), (.var 7), (.cst (.int 10001))])]) (tg := .nm 15) (it := .rng (.cst (.int 2))) (ifs := []) (ws := [15]) (ρ := ρ2 [true, false, false, false, false]) (S := S10) (S1 := S10) (src := rngOf 0 2) (items := (List.range 2).map fun (o : Nat) => D.int (0 + (o : Int))) (r := 0)
    (fun j acc => acc = List.replicate j (.bl false)) (evI_rng (m := 2) rfl (by omega)) (fun i S' _ => rng_nxt 2 i S') rfl (by simp [line_val]) a10.1 rfl (fun j acc S' d _ a hq => by
      obtain ⟨x, S'', ex, ⟨xf, xb⟩, ax⟩ := h22 S' 0 v so.length 10001 (toldB v so.length) (messB v so.length) _ a.1 (by omega) (bad_high (by omega) v3 (by omega))
      have kx : F 10 [.int v, dI so, x] S'' = .ok (.bl false) S'' := by
        rw [show dI so = .tup (so.map D.int) from rfl, h10 v _ _ S'' xf, List.length_map, xb]
      refine ⟨some (.bl false), S'', ?_, ax, by rw [hq, List.replicate_succ']; rfl⟩
      simp [stepM, tgSet, ρ2, ρ, P9, wipeE, evTs, evE, evEs, mbind_ap, mret_ap, bind_ok, varM, ex, kx])
  have q10 : acc = [false, false].map D.bl := by rw [q10]; rfl
  have q11 : acc' = [false, false].map D.bl := by rw [q11]; rfl
  rw [q10] at e10
  rw [q11] at e11
  refine ⟨S11, ?_⟩
  show runF fs (39 + 1) 23 _ _ = _
  have hb23 : fs[23]? = some f23 := rfl
  rw [runF_at hb23, hF]
  have E0 : evE F (.cat false (.cst (.int 2)) (.call 12 [(.var 1), (.cst (.int 2))])) [some (.fr (ns.map D.int)), some (.ref 0), none, none, none, none, none, none, none, none, none, none, none, none, none, none] S0 = .ok (.int v) S1 := by
    simp [evE, evEs, mbind_ap, mret_ap, bind_ok, varM, e1, catM, hv]
  refine runB_of ?_
  refine (evSs_cons (evS_set (x := .ref 0) (S' := S0) ?_)).trans ?_
  · simp only [evE, evEs, mbind_ap, mret_ap]
    exact h11
  refine (evSs_cons (evS_set E0)).trans ?_
  refine (evSs_cons (evS_set (x := dI sc) (S' := S2) ?_)).trans ?_
  · simp only [evE, evEs, mbind_ap, mret_ap]
    exact e2
  refine (evSs_cons (evS_set (x := dI so) (S' := S3) ?_)).trans ?_
  · simp only [evE, evEs, mbind_ap, mret_ap]
    exact e3
  refine (evSs_cons (evS_set (x := .tup (tabD tb)) (S' := S4) ?_)).trans ?_
  · simp only [evE, evEs, mbind_ap, mret_ap]
    exact e4
  refine (evSs_cons (evS_set (x := .tup (mesD ms)) (S' := S5) ?_)).trans ?_
  · simp only [evE, evEs, mbind_ap, mret_ap]
    exact e5
  refine (evSs_cons (evS_set e6)).trans ?_
  refine (evSs_cons (evS_set e7)).trans ?_
  refine (evSs_cons (evS_set E1)).trans ?_
  refine (evSs_cons (ρ' := ρ P9 P10 none none) (S' := S7) ?_).trans ?_
  · simp only [evS, mbind_ap]
    refine (congrArg (fun q => R.bind q _) E2).trans ?_
    rfl
  refine (evSs_cons (evS_set E3)).trans ?_
  refine (evSs_cons (evS_set E4)).trans ?_
  refine (evSs_cons (evS_set E5)).trans ?_
  refine (evSs_cons (evS_set (ev_cat (show evE F (.var 10) (ρ2 [true, false, false]) S9 = .ok (.fz ([true, false, false].map D.bl)) S9 from rfl) e10 (z := .fz ([true, false, false, false, false].map D.bl)) rfl))).trans ?_
  refine (evSs_cons (evS_set (ev_cat (show evE F (.var 10) (ρ2 [true, false, false, false, false]) S10 = .ok (.fz ([true, false, false, false, false].map D.bl)) S10 from rfl) e11 (z := .fz ([true, false, false, false, false, false, false].map D.bl)) rfl))).trans ?_
  refine evSs_ret ?_
  exact h14 [true, false, false, false, false, false, false] S11 (by simp)
end Tk01

namespace Tk01
open PySem PySem.Spec PyProof.Rows L2 Pu
theorem head_mk {K : PySem.W.Frag} {h : Heap} {mg : Str → Option Value} {p0 p1 p2 p3 p4 p5 p6 p7 p8 p9 p10 p11 p12 p13 p14 p15 p16 p17 p18 p19 p20 p21 p22 p23 : Addr} {od0 an0 od1 an1 od2 an2 od3 an3 od4 an4 od5 an5 od6 an6 od7 an7 od8 an8 od9 an9 od10 an10 od11 an11 od12 an12 od13 an13 od14 an14 od15 an15 od16 an16 od17 an17 od18 an18 od19 an19 od20 an20 od21 an21 od22 an22 od23 an23 : Option Addr} {sl0 sl1 sl2 sl3 sl4 sl5 sl6 sl7 sl8 sl9 sl10 sl11 sl12 sl13 sl14 sl15 sl16 sl17 sl18 sl19 sl20 sl21 sl22 sl23 : Array (Option Value)} {oc0 kv0 dc0 pm0 cd0 ct0 oc1 kv1 dc1 pm1 cd1 ct1 oc2 kv2 dc2 pm2 cd2 ct2 oc3 kv3 dc3 pm3 cd3 ct3 oc4 kv4 dc4 pm4 cd4 ct4 oc5 kv5 dc5 pm5 cd5 ct5 oc6 kv6 dc6 pm6 cd6 ct6 oc7 kv7 dc7 pm7 cd7 ct7 oc8 kv8 dc8 pm8 cd8 ct8 oc9 kv9 dc9 pm9 cd9 ct9 oc10 kv10 dc10 pm10 cd10 ct10 oc11 kv11 dc11 pm11 cd11 ct11 oc12 kv12 dc12 pm12 cd12 ct12 oc13 kv13 dc13 pm13 cd13 ct13 oc14 kv14 dc14 pm14 cd14 ct14 oc15 kv15 dc15 pm15 cd15 ct15 oc16 kv16 dc16 pm16 cd16 ct16 oc17 kv17 dc17 pm17 cd17 ct17 oc18 kv18 dc18 pm18 cd18 ct18 oc19 kv19 dc19 pm19 cd19 ct19 oc20 kv20 dc20 pm20 cd20 ct20 oc21 kv21 dc21 pm21 cd21 ct21 oc22 kv22 dc22 pm22 cd22 ct22 oc23 kv23 dc23 pm23 cd23 ct23 : Value} (X : K.In h) (Gm : h.Ns mainGlobals mg)
    (a0 : PySem.W.nsIn K mainGlobals "is_integer" = some (some (.ref p0))) (l0 : K.lookup p0 = some ⟨oc0, od0, .func (PySem.W.fnOf "is_integer" "is_integer" (defArgs (topS 1)) (defBody (topS 1)) (defScope (topS 1)) .none kv0 dc0 pm0 an0 cd0 ct0), sl0⟩) (c0 : PySem.W.codeIn K cd0 "is_integer" = true) (k0 : PySem.W.keepIn K (.ref p0) = true)
    (a1 : PySem.W.nsIn K mainGlobals "is_tuple" = some (some (.ref p1))) (l1 : K.lookup p1 = some ⟨oc1, od1, .func (PySem.W.fnOf "is_tuple" "is_tuple" (defArgs (topS 2)) (defBody (topS 2)) (defScope (topS 2)) .none kv1 dc1 pm1 an1 cd1 ct1), sl1⟩) (c1 : PySem.W.codeIn K cd1 "is_tuple" = true) (k1 : PySem.W.keepIn K (.ref p1) = true)
    (a2 : PySem.W.nsIn K mainGlobals "is_ascending" = some (some (.ref p2))) (l2 : K.lookup p2 = some ⟨oc2, od2, .func (PySem.W.fnOf "is_ascending" "is_ascending" (defArgs (topS 3)) (defBody (topS 3)) (defScope (topS 3)) .none kv2 dc2 pm2 an2 cd2 ct2), sl2⟩) (c2 : PySem.W.codeIn K cd2 "is_ascending" = true) (k2 : PySem.W.keepIn K (.ref p2) = true)
    (a3 : PySem.W.nsIn K mainGlobals "is_some" = some (some (.ref p3))) (l3 : K.lookup p3 = some ⟨oc3, od3, .func (PySem.W.fnOf "is_some" "is_some" (defArgs (topS 10)) (defBody (topS 10)) (defScope (topS 10)) .none kv3 dc3 pm3 an3 cd3 ct3), sl3⟩) (c3 : PySem.W.codeIn K cd3 "is_some" = true) (k3 : PySem.W.keepIn K (.ref p3) = true)
    (a4 : PySem.W.nsIn K mainGlobals "is_scope" = some (some (.ref p4))) (l4 : K.lookup p4 = some ⟨oc4, od4, .func (PySem.W.fnOf "is_scope" "is_scope" (defArgs (topS 11)) (defBody (topS 11)) (defScope (topS 11)) .none kv4 dc4 pm4 an4 cd4 ct4), sl4⟩) (c4 : PySem.W.codeIn K cd4 "is_scope" = true) (k4 : PySem.W.keepIn K (.ref p4) = true)
    (a5 : PySem.W.nsIn K mainGlobals "is_row" = some (some (.ref p5))) (l5 : K.lookup p5 = some ⟨oc5, od5, .func (PySem.W.fnOf "is_row" "is_row" (defArgs (topS 12)) (defBody (topS 12)) (defScope (topS 12)) .none kv5 dc5 pm5 an5 cd5 ct5), sl5⟩) (c5 : PySem.W.codeIn K cd5 "is_row" = true) (k5 : PySem.W.keepIn K (.ref p5) = true)
    (a6 : PySem.W.nsIn K mainGlobals "has_ascending_rows" = some (some (.ref p6))) (l6 : K.lookup p6 = some ⟨oc6, od6, .func (PySem.W.fnOf "has_ascending_rows" "has_ascending_rows" (defArgs (topS 13)) (defBody (topS 13)) (defScope (topS 13)) .none kv6 dc6 pm6 an6 cd6 ct6), sl6⟩) (c6 : PySem.W.codeIn K cd6 "has_ascending_rows" = true) (k6 : PySem.W.keepIn K (.ref p6) = true)
    (a7 : PySem.W.nsIn K mainGlobals "is_priced_row" = some (some (.ref p7))) (l7 : K.lookup p7 = some ⟨oc7, od7, .func (PySem.W.fnOf "is_priced_row" "is_priced_row" (defArgs (topS 14)) (defBody (topS 14)) (defScope (topS 14)) .none kv7 dc7 pm7 an7 cd7 ct7), sl7⟩) (c7 : PySem.W.codeIn K cd7 "is_priced_row" = true) (k7 : PySem.W.keepIn K (.ref p7) = true)
    (a8 : PySem.W.nsIn K mainGlobals "is_table" = some (some (.ref p8))) (l8 : K.lookup p8 = some ⟨oc8, od8, .func (PySem.W.fnOf "is_table" "is_table" (defArgs (topS 15)) (defBody (topS 15)) (defScope (topS 15)) .none kv8 dc8 pm8 an8 cd8 ct8), sl8⟩) (c8 : PySem.W.codeIn K cd8 "is_table" = true) (k8 : PySem.W.keepIn K (.ref p8) = true)
    (a9 : PySem.W.nsIn K mainGlobals "is_told_row" = some (some (.ref p9))) (l9 : K.lookup p9 = some ⟨oc9, od9, .func (PySem.W.fnOf "is_told_row" "is_told_row" (defArgs (topS 16)) (defBody (topS 16)) (defScope (topS 16)) .none kv9 dc9 pm9 an9 cd9 ct9), sl9⟩) (c9 : PySem.W.codeIn K cd9 "is_told_row" = true) (k9 : PySem.W.keepIn K (.ref p9) = true)
    (a10 : PySem.W.nsIn K mainGlobals "is_message" = some (some (.ref p10))) (l10 : K.lookup p10 = some ⟨oc10, od10, .func (PySem.W.fnOf "is_message" "is_message" (defArgs (topS 17)) (defBody (topS 17)) (defScope (topS 17)) .none kv10 dc10 pm10 an10 cd10 ct10), sl10⟩) (c10 : PySem.W.codeIn K cd10 "is_message" = true) (k10 : PySem.W.keepIn K (.ref p10) = true)
    (a11 : PySem.W.nsIn K mainGlobals "_law_stream" = some (some (.ref p11))) (l11 : K.lookup p11 = some ⟨oc11, od11, .func (PySem.W.fnOf "_law_stream" "_law_stream" (defArgs (topS 19)) (defBody (topS 19)) (defScope (topS 19)) .none kv11 dc11 pm11 an11 cd11 ct11), sl11⟩) (c11 : PySem.W.codeIn K cd11 "_law_stream" = true) (k11 : PySem.W.keepIn K (.ref p11) = true)
    (a12 : PySem.W.nsIn K mainGlobals "_law_next" = some (some (.ref p12))) (l12 : K.lookup p12 = some ⟨oc12, od12, .func (PySem.W.fnOf "_law_next" "_law_next" (defArgs (topS 20)) (defBody (topS 20)) (defScope (topS 20)) .none kv12 dc12 pm12 an12 cd12 ct12), sl12⟩) (c12 : PySem.W.codeIn K cd12 "_law_next" = true) (k12 : PySem.W.keepIn K (.ref p12) = true)
    (a13 : PySem.W.nsIn K mainGlobals "_law_is_integer" = some (some (.ref p13))) (l13 : K.lookup p13 = some ⟨oc13, od13, .func (PySem.W.fnOf "_law_is_integer" "_law_is_integer" (defArgs (topS 21)) (defBody (topS 21)) (defScope (topS 21)) .none kv13 dc13 pm13 an13 cd13 ct13), sl13⟩) (c13 : PySem.W.codeIn K cd13 "_law_is_integer" = true) (k13 : PySem.W.keepIn K (.ref p13) = true)
    (a14 : PySem.W.nsIn K mainGlobals "_law_equal" = some (some (.ref p14))) (l14 : K.lookup p14 = some ⟨oc14, od14, .func (PySem.W.fnOf "_law_equal" "_law_equal" (defArgs (topS 22)) (defBody (topS 22)) (defScope (topS 22)) .none kv14 dc14 pm14 an14 cd14 ct14), sl14⟩) (c14 : PySem.W.codeIn K cd14 "_law_equal" = true) (k14 : PySem.W.keepIn K (.ref p14) = true)
    (a15 : PySem.W.nsIn K mainGlobals "_law_pick" = some (some (.ref p15))) (l15 : K.lookup p15 = some ⟨oc15, od15, .func (PySem.W.fnOf "_law_pick" "_law_pick" (defArgs (topS 23)) (defBody (topS 23)) (defScope (topS 23)) .none kv15 dc15 pm15 an15 cd15 ct15), sl15⟩) (c15 : PySem.W.codeIn K cd15 "_law_pick" = true) (k15 : PySem.W.keepIn K (.ref p15) = true)
    (a16 : PySem.W.nsIn K mainGlobals "_law_some" = some (some (.ref p16))) (l16 : K.lookup p16 = some ⟨oc16, od16, .func (PySem.W.fnOf "_law_some" "_law_some" (defArgs (topS 24)) (defBody (topS 24)) (defScope (topS 24)) .none kv16 dc16 pm16 an16 cd16 ct16), sl16⟩) (c16 : PySem.W.codeIn K cd16 "_law_some" = true) (k16 : PySem.W.keepIn K (.ref p16) = true)
    (a17 : PySem.W.nsIn K mainGlobals "_law_rows" = some (some (.ref p17))) (l17 : K.lookup p17 = some ⟨oc17, od17, .func (PySem.W.fnOf "_law_rows" "_law_rows" (defArgs (topS 25)) (defBody (topS 25)) (defScope (topS 25)) .none kv17 dc17 pm17 an17 cd17 ct17), sl17⟩) (c17 : PySem.W.codeIn K cd17 "_law_rows" = true) (k17 : PySem.W.keepIn K (.ref p17) = true)
    (a18 : PySem.W.nsIn K mainGlobals "_law_table" = some (some (.ref p18))) (l18 : K.lookup p18 = some ⟨oc18, od18, .func (PySem.W.fnOf "_law_table" "_law_table" (defArgs (topS 26)) (defBody (topS 26)) (defScope (topS 26)) .none kv18 dc18 pm18 an18 cd18 ct18), sl18⟩) (c18 : PySem.W.codeIn K cd18 "_law_table" = true) (k18 : PySem.W.keepIn K (.ref p18) = true)
    (a19 : PySem.W.nsIn K mainGlobals "_law_message" = some (some (.ref p19))) (l19 : K.lookup p19 = some ⟨oc19, od19, .func (PySem.W.fnOf "_law_message" "_law_message" (defArgs (topS 27)) (defBody (topS 27)) (defScope (topS 27)) .none kv19 dc19 pm19 an19 cd19 ct19), sl19⟩) (c19 : PySem.W.codeIn K cd19 "_law_message" = true) (k19 : PySem.W.keepIn K (.ref p19) = true)
    (a20 : PySem.W.nsIn K mainGlobals "_law_put" = some (some (.ref p20))) (l20 : K.lookup p20 = some ⟨oc20, od20, .func (PySem.W.fnOf "_law_put" "_law_put" (defArgs (topS 28)) (defBody (topS 28)) (defScope (topS 28)) .none kv20 dc20 pm20 an20 cd20 ct20), sl20⟩) (c20 : PySem.W.codeIn K cd20 "_law_put" = true) (k20 : PySem.W.keepIn K (.ref p20) = true)
    (a21 : PySem.W.nsIn K mainGlobals "_law_bad_row" = some (some (.ref p21))) (l21 : K.lookup p21 = some ⟨oc21, od21, .func (PySem.W.fnOf "_law_bad_row" "_law_bad_row" (defArgs (topS 29)) (defBody (topS 29)) (defScope (topS 29)) .none kv21 dc21 pm21 an21 cd21 ct21), sl21⟩) (c21 : PySem.W.codeIn K cd21 "_law_bad_row" = true) (k21 : PySem.W.keepIn K (.ref p21) = true)
    (a22 : PySem.W.nsIn K mainGlobals "_law_bad" = some (some (.ref p22))) (l22 : K.lookup p22 = some ⟨oc22, od22, .func (PySem.W.fnOf "_law_bad" "_law_bad" (defArgs (topS 30)) (defBody (topS 30)) (defScope (topS 30)) .none kv22 dc22 pm22 an22 cd22 ct22), sl22⟩) (c22 : PySem.W.codeIn K cd22 "_law_bad" = true) (k22 : PySem.W.keepIn K (.ref p22) = true)
    (a23 : PySem.W.nsIn K mainGlobals "law" = some (some (.ref p23))) (l23 : K.lookup p23 = some ⟨oc23, od23, .func (PySem.W.fnOf "law" "law" (defArgs (topS 31)) (defBody (topS 31)) (defScope (topS 31)) .none kv23 dc23 pm23 an23 cd23 ct23), sl23⟩) (c23 : PySem.W.codeIn K cd23 "law" = true) (k23 : PySem.W.keepIn K (.ref p23) = true)
    (z_len : PySem.W.nsIn K mainGlobals "len" = some none)
    (z_all : PySem.W.nsIn K mainGlobals "all" = some none)
    (z_any : PySem.W.nsIn K mainGlobals "any" = some none)
    (z_abs : PySem.W.nsIn K mainGlobals "abs" = some none)
    (z_int : PySem.W.nsIn K mainGlobals "int" = some none)
    (z_list : PySem.W.nsIn K mainGlobals "list" = some none)
    (z_tuple : PySem.W.nsIn K mainGlobals "tuple" = some none)
    (z_sorted : PySem.W.nsIn K mainGlobals "sorted" = some none)
    (z_sum : PySem.W.nsIn K mainGlobals "sum" = some none)
    (z_min : PySem.W.nsIn K mainGlobals "min" = some none)
    (z_max : PySem.W.nsIn K mainGlobals "max" = some none)
    (z_isinstance : PySem.W.nsIn K mainGlobals "isinstance" = some none)
    (z_bool : PySem.W.nsIn K mainGlobals "bool" = some none)
    (z_str : PySem.W.nsIn K mainGlobals "str" = some none)
    (z_dict : PySem.W.nsIn K mainGlobals "dict" = some none)
    (z_range : PySem.W.nsIn K mainGlobals "range" = some none)
    (z_zip : PySem.W.nsIn K mainGlobals "zip" = some none)
    {t0 : Tok} (y0 : PySem.W.nsIn K mainGlobals "MOST_VARIABLE" = some (some (.int 5 t0)))
    {t1 : Tok} (y1 : PySem.W.nsIn K mainGlobals "MOST_IN_SCOPE" = some (some (.int 3 t1)))
    {t2 : Tok} (y2 : PySem.W.nsIn K mainGlobals "MOST_TABLE_COST" = some (some (.int 100 t2)))
    {t3 : Tok} (y3 : PySem.W.nsIn K mainGlobals "MOST_COUNT" = some (some (.int 1000000 t3)))
    {t4 : Tok} (y4 : PySem.W.nsIn K mainGlobals "MOST_LEAST" = some (some (.int 10000 t4)))
    : HeadOk K mg G tab ∧ (mg "law" = some (.ref p23) ∧ Fun K "law" "law" (topS 31) p23 (PySem.W.fnOf "law" "law" (defArgs (topS 31)) (defBody (topS 31)) (defScope (topS 31)) .none kv23 dc23 pm23 an23 cd23 ct23) ∧ Binds K (PySem.W.fnOf "law" "law" (defArgs (topS 31)) (defBody (topS 31)) (defScope (topS 31)) .none kv23 dc23 pm23 an23 cd23 ct23) ["script"] [] ∧ ∀ (s : Shared) (u : Value), BindsTo s (PySem.W.fnOf "law" "law" (defArgs (topS 31)) (defBody (topS 31)) (defScope (topS 31)) .none kv23 dc23 pm23 an23 cd23 ct23) ⟨[u], []⟩ [("script", u)]) := by
  have F0 := fun_mk (st := topS 1) l0 c0 k0
  have B0 := F0.binds (ps := ["value", "low", "high"]) fun _ _ _ _ _ _ us hl => match us, hl with | [_, _, _], _ => rfl
  have F1 := fun_mk (st := topS 2) l1 c1 k1
  have B1 := F1.binds (ps := ["value", "low", "high"]) fun _ _ _ _ _ _ us hl => match us, hl with | [_, _, _], _ => rfl
  have F2 := fun_mk (st := topS 3) l2 c2 k2
  have B2 := F2.binds (ps := ["items"]) fun _ _ _ _ _ _ us hl => match us, hl with | [_], _ => rfl
  have F3 := fun_mk (st := topS 10) l3 c3 k3
  have B3 := F3.binds (ps := ["value"]) fun _ _ _ _ _ _ us hl => match us, hl with | [_], _ => rfl
  have F4 := fun_mk (st := topS 11) l4 c4 k4
  have B4 := F4.binds (ps := ["value"]) fun _ _ _ _ _ _ us hl => match us, hl with | [_], _ => rfl
  have F5 := fun_mk (st := topS 12) l5 c5 k5
  have B5 := F5.binds (ps := ["values", "some", "value"]) fun _ _ _ _ _ _ us hl => match us, hl with | [_, _, _], _ => rfl
  have F6 := fun_mk (st := topS 13) l6 c6 k6
  have B6 := F6.binds (ps := ["items"]) fun _ _ _ _ _ _ us hl => match us, hl with | [_], _ => rfl
  have F7 := fun_mk (st := topS 14) l7 c7 k7
  have B7 := F7.binds (ps := ["values", "scope", "value"]) fun _ _ _ _ _ _ us hl => match us, hl with | [_, _, _], _ => rfl
  have F8 := fun_mk (st := topS 15) l8 c8 k8
  have B8 := F8.binds (ps := ["values", "scope", "value"]) fun _ _ _ _ _ _ us hl => match us, hl with | [_, _, _], _ => rfl
  have F9 := fun_mk (st := topS 16) l9 c9 k9
  have B9 := F9.binds (ps := ["values", "some", "value"]) fun _ _ _ _ _ _ us hl => match us, hl with | [_, _, _], _ => rfl
  have F10 := fun_mk (st := topS 17) l10 c10 k10
  have B10 := F10.binds (ps := ["values", "some", "value"]) fun _ _ _ _ _ _ us hl => match us, hl with | [_, _, _], _ => rfl
  have F11 := fun_mk (st := topS 19) l11 c11 k11
  have B11 := F11.binds (ps := ["script"]) fun _ _ _ _ _ _ us hl => match us, hl with | [_], _ => rfl
  have F12 := fun_mk (st := topS 20) l12 c12 k12
  have B12 := F12.binds (ps := ["stream", "many"]) fun _ _ _ _ _ _ us hl => match us, hl with | [_, _], _ => rfl
  have F13 := fun_mk (st := topS 21) l13 c13 k13
  have B13 := F13.binds (ps := ["actual"]) fun _ _ _ _ _ _ us hl => match us, hl with | [_], _ => rfl
  have F14 := fun_mk (st := topS 22) l14 c14 k14
  have B14 := F14.binds (ps := ["actual", "due"]) fun _ _ _ _ _ _ us hl => match us, hl with | [_, _], _ => rfl
  have F15 := fun_mk (st := topS 23) l15 c15 k15
  have B15 := F15.binds (ps := ["stream", "rows"]) fun _ _ _ _ _ _ us hl => match us, hl with | [_, _], _ => rfl
  have F16 := fun_mk (st := topS 24) l16 c16 k16
  have B16 := F16.binds (ps := ["stream", "most"]) fun _ _ _ _ _ _ us hl => match us, hl with | [_, _], _ => rfl
  have F17 := fun_mk (st := topS 25) l17 c17 k17
  have B17 := F17.binds (ps := ["values", "many"]) fun _ _ _ _ _ _ us hl => match us, hl with | [_, _], _ => rfl
  have F18 := fun_mk (st := topS 26) l18 c18 k18
  have B18 := F18.binds (ps := ["stream", "values", "scope"]) fun _ _ _ _ _ _ us hl => match us, hl with | [_, _, _], _ => rfl
  have F19 := fun_mk (st := topS 27) l19 c19 k19
  have B19 := F19.binds (ps := ["stream", "values", "some"]) fun _ _ _ _ _ _ us hl => match us, hl with | [_, _, _], _ => rfl
  have F20 := fun_mk (st := topS 28) l20 c20 k20
  have B20 := F20.binds (ps := ["row", "at", "value"]) fun _ _ _ _ _ _ us hl => match us, hl with | [_, _, _], _ => rfl
  have F21 := fun_mk (st := topS 29) l21 c21 k21
  have B21 := F21.binds (ps := ["stream", "values", "row"]) fun _ _ _ _ _ _ us hl => match us, hl with | [_, _, _], _ => rfl
  have F22 := fun_mk (st := topS 30) l22 c22 k22
  have B22 := F22.binds (ps := ["stream", "values", "items", "high"]) fun _ _ _ _ _ _ us hl => match us, hl with | [_, _, _, _], _ => rfl
  have F23 := fun_mk (st := topS 31) l23 c23 k23
  have B23 := F23.binds (ps := ["script"]) fun _ _ _ _ _ _ us hl => match us, hl with | [_], _ => rfl
  refine ⟨⟨fun i d hi => ?_, fun x hx hn => ?_, fun x d hx => ?_⟩, PySem.W.mg_of X Gm a23, F23, B23, fun s u => .of_eq rfl⟩
  · match i, hi with
    | 0, hi => cases hi; exact ⟨_, _, PySem.W.mg_of X Gm a0, F0, B0⟩
    | 1, hi => cases hi; exact ⟨_, _, PySem.W.mg_of X Gm a1, F1, B1⟩
    | 2, hi => cases hi; exact ⟨_, _, PySem.W.mg_of X Gm a2, F2, B2⟩
    | 3, hi => cases hi; exact ⟨_, _, PySem.W.mg_of X Gm a3, F3, B3⟩
    | 4, hi => cases hi; exact ⟨_, _, PySem.W.mg_of X Gm a4, F4, B4⟩
    | 5, hi => cases hi; exact ⟨_, _, PySem.W.mg_of X Gm a5, F5, B5⟩
    | 6, hi => cases hi; exact ⟨_, _, PySem.W.mg_of X Gm a6, F6, B6⟩
    | 7, hi => cases hi; exact ⟨_, _, PySem.W.mg_of X Gm a7, F7, B7⟩
    | 8, hi => cases hi; exact ⟨_, _, PySem.W.mg_of X Gm a8, F8, B8⟩
    | 9, hi => cases hi; exact ⟨_, _, PySem.W.mg_of X Gm a9, F9, B9⟩
    | 10, hi => cases hi; exact ⟨_, _, PySem.W.mg_of X Gm a10, F10, B10⟩
    | 11, hi => cases hi; exact ⟨_, _, PySem.W.mg_of X Gm a11, F11, B11⟩
    | 12, hi => cases hi; exact ⟨_, _, PySem.W.mg_of X Gm a12, F12, B12⟩
    | 13, hi => cases hi; exact ⟨_, _, PySem.W.mg_of X Gm a13, F13, B13⟩
    | 14, hi => cases hi; exact ⟨_, _, PySem.W.mg_of X Gm a14, F14, B14⟩
    | 15, hi => cases hi; exact ⟨_, _, PySem.W.mg_of X Gm a15, F15, B15⟩
    | 16, hi => cases hi; exact ⟨_, _, PySem.W.mg_of X Gm a16, F16, B16⟩
    | 17, hi => cases hi; exact ⟨_, _, PySem.W.mg_of X Gm a17, F17, B17⟩
    | 18, hi => cases hi; exact ⟨_, _, PySem.W.mg_of X Gm a18, F18, B18⟩
    | 19, hi => cases hi; exact ⟨_, _, PySem.W.mg_of X Gm a19, F19, B19⟩
    | 20, hi => cases hi; exact ⟨_, _, PySem.W.mg_of X Gm a20, F20, B20⟩
    | 21, hi => cases hi; exact ⟨_, _, PySem.W.mg_of X Gm a21, F21, B21⟩
    | 22, hi => cases hi; exact ⟨_, _, PySem.W.mg_of X Gm a22, F22, B22⟩
    | 23, hi => cases hi; exact ⟨_, _, PySem.W.mg_of X Gm a23, F23, B23⟩
    | _ + 24, hi => simp [tab] at hi
  · simp only [bltNames, List.mem_cons, List.not_mem_nil, or_false] at hx
    rcases hx with rfl | rfl | rfl | rfl | rfl | rfl | rfl | rfl | rfl | rfl | rfl | rfl | rfl | rfl | rfl | rfl | rfl
    · exact PySem.W.mg_none_of X Gm z_len
    · exact PySem.W.mg_none_of X Gm z_all
    · exact PySem.W.mg_none_of X Gm z_any
    · exact PySem.W.mg_none_of X Gm z_abs
    · exact PySem.W.mg_none_of X Gm z_int
    · exact PySem.W.mg_none_of X Gm z_list
    · exact PySem.W.mg_none_of X Gm z_tuple
    · exact PySem.W.mg_none_of X Gm z_sorted
    · exact PySem.W.mg_none_of X Gm z_sum
    · exact PySem.W.mg_none_of X Gm z_min
    · exact PySem.W.mg_none_of X Gm z_max
    · exact PySem.W.mg_none_of X Gm z_isinstance
    · exact PySem.W.mg_none_of X Gm z_bool
    · exact PySem.W.mg_none_of X Gm z_str
    · exact PySem.W.mg_none_of X Gm z_dict
    · exact PySem.W.mg_none_of X Gm z_range
    · exact PySem.W.mg_none_of X Gm z_zip
  · have hm := lookup_mem hx
    simp only [G, List.mem_cons, List.not_mem_nil, or_false, Prod.mk.injEq] at hm
    rcases hm with ⟨rfl, rfl⟩ | ⟨rfl, rfl⟩ | ⟨rfl, rfl⟩ | ⟨rfl, rfl⟩ | ⟨rfl, rfl⟩
    · exact ⟨.int (5), _, PySem.W.mg_of X Gm y0, ⟨_, rfl⟩, fun _ _ => rfl⟩
    · exact ⟨.int (3), _, PySem.W.mg_of X Gm y1, ⟨_, rfl⟩, fun _ _ => rfl⟩
    · exact ⟨.int (100), _, PySem.W.mg_of X Gm y2, ⟨_, rfl⟩, fun _ _ => rfl⟩
    · exact ⟨.int (1000000), _, PySem.W.mg_of X Gm y3, ⟨_, rfl⟩, fun _ _ => rfl⟩
    · exact ⟨.int (10000), _, PySem.W.mg_of X Gm y4, ⟨_, rfl⟩, fun _ _ => rfl⟩
theorem fin_mk {P : Program} {w : World} {K : PySem.W.Frag} {mg : Str → Option Value} {fa p : Addr} {fd : FuncData} (hfa : mg "law" = some (.ref fa)) (HH : HeadOk K mg G tab ∧ (mg "law" = some (.ref p) ∧ Fun K "law" "law" (topS 31) p fd ∧ Binds K fd ["script"] [] ∧ ∀ (s : Shared) (u : Value), BindsTo s fd ⟨[u], []⟩ [("script", u)])) :
    ∃ fd : FuncData, (∀ (s : Shared) (u : Value), BindsTo s fd ⟨[u], []⟩ [("script", u)]) ∧ ∀ base : Heap, K.In base → base.Ns mainGlobals mg → FnOk P w K mg base CX0 depth fa fd ["script"] (spLaw K) := by
  obtain ⟨hd, hm, hF, hB, hb⟩ := HH
  have e := hfa.symm.trans hm
  cases e
  exact ⟨fd, hb, fun base _ _ => law_ok (d := d23) (i := 23) hd okT rfl hm hF hB rfl (by rw [fs_eq]; exact hrun)⟩
end Tk01
open PySem PySem.W PyProof.Rows
set_option maxHeartbeats 0 in
theorem PySem.Challenge.cw_tabletalk_k01_forms_of_tables_holds : PySem.Challenge.rw_tabletalk_k01_forms_of_tables.Holds := by
  w_on; o_law; k_head; (case hw => w_witness2)
  k_fill
  refine L2.walk_of (l := PySem.Challenge.rw_tabletalk_k01_forms_of_tables) (n := 63) (k := Tk01.depth) (x := "script") (CX := fun _ => L2.CX0) (sp := fun w => Pu.spLaw _) rfl (by decide) rfl ⟨rfl, by decide, by decide⟩ (fun w h Y => PySem.W.kIn_of Y) ?F (fun _ _ a ns hl hO hS => ⟨a, ns, rfl, Pu.frl_of hO hS, hl, fun _ => rfl⟩) (fun _ _ _ _ _ h => h)
  case F =>
    intro w mg fa h KX Gm hmg
    refine' Tk01.fin_mk hmg (Tk01.head_mk KX Gm ?a0 ?l0 ?c0 ?k0 ?a1 ?l1 ?c1 ?k1 ?a2 ?l2 ?c2 ?k2 ?a3 ?l3 ?c3 ?k3 ?a4 ?l4 ?c4 ?k4 ?a5 ?l5 ?c5 ?k5 ?a6 ?l6 ?c6 ?k6 ?a7 ?l7 ?c7 ?k7 ?a8 ?l8 ?c8 ?k8 ?a9 ?l9 ?c9 ?k9 ?a10 ?l10 ?c10 ?k10 ?a11 ?l11 ?c11 ?k11 ?a12 ?l12 ?c12 ?k12 ?a13 ?l13 ?c13 ?k13 ?a14 ?l14 ?c14 ?k14 ?a15 ?l15 ?c15 ?k15 ?a16 ?l16 ?c16 ?k16 ?a17 ?l17 ?c17 ?k17 ?a18 ?l18 ?c18 ?k18 ?a19 ?l19 ?c19 ?k19 ?a20 ?l20 ?c20 ?k20 ?a21 ?l21 ?c21 ?k21 ?a22 ?l22 ?c22 ?k22 ?a23 ?l23 ?c23 ?k23 ?z_len ?z_all ?z_any ?z_abs ?z_int ?z_list ?z_tuple ?z_sorted ?z_sum ?z_min ?z_max ?z_isinstance ?z_bool ?z_str ?z_dict ?z_range ?z_zip ?y0 ?y1 ?y2 ?y3 ?y4)
    (case a0 => k_is); (case l0 => k_is); (case c0 => k_is); (case k0 => k_is); (case a1 => k_is); (case l1 => k_is); (case c1 => k_is); (case k1 => k_is); (case a2 => k_is); (case l2 => k_is); (case c2 => k_is); (case k2 => k_is); (case a3 => k_is); (case l3 => k_is); (case c3 => k_is); (case k3 => k_is); (case a4 => k_is); (case l4 => k_is); (case c4 => k_is); (case k4 => k_is); (case a5 => k_is); (case l5 => k_is); (case c5 => k_is); (case k5 => k_is); (case a6 => k_is); (case l6 => k_is); (case c6 => k_is); (case k6 => k_is); (case a7 => k_is); (case l7 => k_is); (case c7 => k_is); (case k7 => k_is); (case a8 => k_is); (case l8 => k_is); (case c8 => k_is); (case k8 => k_is); (case a9 => k_is); (case l9 => k_is); (case c9 => k_is); (case k9 => k_is); (case a10 => k_is); (case l10 => k_is); (case c10 => k_is); (case k10 => k_is); (case a11 => k_is); (case l11 => k_is); (case c11 => k_is); (case k11 => k_is); (case a12 => k_is); (case l12 => k_is); (case c12 => k_is); (case k12 => k_is); (case a13 => k_is); (case l13 => k_is); (case c13 => k_is); (case k13 => k_is); (case a14 => k_is); (case l14 => k_is); (case c14 => k_is); (case k14 => k_is); (case a15 => k_is); (case l15 => k_is); (case c15 => k_is); (case k15 => k_is); (case a16 => k_is); (case l16 => k_is); (case c16 => k_is); (case k16 => k_is); (case a17 => k_is); (case l17 => k_is); (case c17 => k_is); (case k17 => k_is); (case a18 => k_is); (case l18 => k_is); (case c18 => k_is); (case k18 => k_is); (case a19 => k_is); (case l19 => k_is); (case c19 => k_is); (case k19 => k_is); (case a20 => k_is); (case l20 => k_is); (case c20 => k_is); (case k20 => k_is); (case a21 => k_is); (case l21 => k_is); (case c21 => k_is); (case k21 => k_is); (case a22 => k_is); (case l22 => k_is); (case c22 => k_is); (case k22 => k_is); (case a23 => k_is); (case l23 => k_is); (case c23 => k_is); (case k23 => k_is); (case z_len => k_is); (case z_all => k_is); (case z_any => k_is); (case z_abs => k_is); (case z_int => k_is); (case z_list => k_is); (case z_tuple => k_is); (case z_sorted => k_is); (case z_sum => k_is); (case z_min => k_is); (case z_max => k_is); (case z_isinstance => k_is); (case z_bool => k_is); (case z_str => k_is); (case z_dict => k_is); (case z_range => k_is); (case z_zip => k_is); (case y0 => k_is); (case y1 => k_is); (case y2 => k_is); (case y3 => k_is); (case y4 => k_is)

